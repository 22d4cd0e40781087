package field

import (
	"testing"

	"peloton/api"
)

// P3.2: Put, where it is known.
func TestPut(t *testing.T) {
	for _, c := range []struct {
		f, want api.Field
		p       api.Point
		e       api.Errno
	}{
		{New(), of(pt(5, 6, 7)), pt(5, 6, 7), api.OK},
		{New(), of(pt(0, -coord, coord)), pt(0, -coord, coord), api.OK},
		{example(), of(pt(0, 9, 9), pt(1, 0, 2), pt(2, 6, -1), pt(5, 0, 0)), pt(0, 9, 9), api.OK},
		{example(), of(pt(1, 0, 2), pt(2, 6, -1), pt(3, 9, 9), pt(5, 0, 0)), pt(3, 9, 9), api.OK},
		{example(), of(pt(1, 0, 2), pt(2, 6, -1), pt(4, 0, 0), pt(5, 0, 0)), pt(4, 0, 0), api.OK},
		{example(), of(pt(1, 0, 2), pt(2, 6, -1), pt(5, 0, 0), pt(65535, 6, -1)), pt(65535, 6, -1), api.OK},
		{example(), api.Field{}, pt(1, 0, 2), api.ErrTwice},
		{example(), api.Field{}, pt(2, 9, 9), api.ErrTwice},
		{example(), api.Field{}, pt(5, -coord, -coord), api.ErrTwice},
		{example(), api.Field{}, pt(-1, 0, 0), api.ErrBad},
		{example(), api.Field{}, pt(65536, 0, 0), api.ErrBad},
		{example(), api.Field{}, pt(2, coord+1, 0), api.ErrBad},
	} {
		if g, e := Put(c.f, c.p); !same(g, c.want) || e != c.e {
			t.Error(c.f, c.p, g, e)
		}
	}
}

// P3.2: Put, at MaxPoints points and one less: ErrTwice comes before ErrFull, and ErrBad before both.
func TestPutFull(t *testing.T) {
	full := many(64, 10, func(i int64) (a, b int64) { return i, -i })
	for _, p := range []api.Point{pt(0, 0, 0), pt(9, 0, 0), pt(74, 0, 0), pt(api.MaxID, 0, 0)} {
		if g, e := Put(full, p); len(g.Points) != 0 || e != api.ErrFull {
			t.Error(p, g, e)
		}
	}
	for _, p := range full.Points {
		if g, e := Put(full, p); len(g.Points) != 0 || e != api.ErrTwice {
			t.Error(p, g, e)
		}
		p.A = most
		if g, e := Put(full, p); len(g.Points) != 0 || e != api.ErrBad {
			t.Error(p, g, e)
		}
	}
	for i, p := range full.Points {
		less := of(append(append([]api.Point{}, full.Points[:i]...), full.Points[i+1:]...)...)
		if g, e := Put(less, p); !same(g, full) || e != api.OK {
			t.Error(p, g, e)
		}
	}
}

// with is the field of all points of f before an ID, then of some others, and then of all points of f behind the ID.
func with(f api.Field, id int, others ...api.Point) api.Field {
	var g api.Field
	for _, p := range f.Points {
		if p.ID < id {
			g.Points = append(g.Points, p)
		}
	}
	g.Points = append(g.Points, others...)
	for _, p := range f.Points {
		if p.ID > id {
			g.Points = append(g.Points, p)
		}
	}
	return g
}

// P3.2: Put, of each field and many points.
func TestPutAnywhere(t *testing.T) {
	for _, f := range fields() {
		for _, id := range strangers(f) {
			p, g, want := pt(id, 3, -4), api.Field{}, api.ErrBad
			if id >= 0 && id <= api.MaxID {
				want = api.ErrFull
				if len(f.Points) < 64 {
					want, g = api.OK, with(f, id, p)
				}
			}
			if h, e := Put(f, p); !same(h, g) || e != want {
				t.Error(f, p, h, e)
			}
		}
		for _, p := range f.Points {
			for _, q := range []api.Point{p, pt(p.ID, 3, -4)} {
				if h, e := Put(f, q); len(h.Points) != 0 || e != api.ErrTwice {
					t.Error(f, q, h, e)
				}
			}
		}
	}
}

// P3.2: Take, of each point, and of IDs that are not there.
func TestTake(t *testing.T) {
	for _, f := range fields() {
		for _, p := range f.Points {
			if g, e := Take(f, p.ID); !same(g, with(f, p.ID)) || e != api.OK {
				t.Error(f, p, g, e)
			}
		}
		for _, id := range strangers(f) {
			if g, e := Take(f, id); len(g.Points) != 0 || e != api.ErrNone {
				t.Error(f, id, g, e)
			}
		}
	}
	if g, e := Take(example(), 2); !same(g, of(pt(1, 0, 2), pt(5, 0, 0))) || e != api.OK {
		t.Error(g, e)
	}
}

// P3.2: Change, of each point, and of IDs that are not there; ErrBad comes before ErrNone.
func TestChange(t *testing.T) {
	for _, f := range fields() {
		for i, p := range f.Points {
			for _, q := range []api.Point{p, pt(p.ID, 3, -4), pt(p.ID, coord, coord), pt(p.ID, -coord, -coord)} {
				g, e := Change(f, q)
				if !same(g, with(f, p.ID, q)) || e != api.OK || g.Points[i] != q {
					t.Error(f, q, g, e)
				}
			}
			if g, e := Change(f, pt(p.ID, 0, coord+1)); len(g.Points) != 0 || e != api.ErrBad {
				t.Error(f, p, g, e)
			}
		}
		for _, id := range strangers(f) {
			want := api.ErrNone
			if id < 0 || id > api.MaxID {
				want = api.ErrBad
			}
			if g, e := Change(f, pt(id, 3, -4)); len(g.Points) != 0 || e != want {
				t.Error(f, id, g, e)
			}
		}
	}
	if g, e := Change(example(), pt(2, 1, 1)); !same(g, of(pt(1, 0, 2), pt(2, 1, 1), pt(5, 0, 0))) || e != api.OK {
		t.Error(g, e)
	}
}
