package field

import (
	"testing"

	"peloton/api"
)

// P3.1: New.
func TestNew(t *testing.T) {
	f := New()
	if len(f.Points) != 0 || Check(f) != api.OK {
		t.Error(f)
	}
	f.Points = append(f.Points, pt(1, 2, 3))
	if g := New(); len(g.Points) != 0 {
		t.Error(g)
	}
}

// P3.1: Check, of fields that are valid.
func TestCheckValid(t *testing.T) {
	for i, f := range fields() {
		if e := Check(f); e != api.OK {
			t.Error(i, e)
		}
	}
}

// P3.1: Check, ErrMany: one point more than there may be, whatever the points are.
func TestCheckMany(t *testing.T) {
	for i, f := range []api.Field{
		many(65, 0, func(i int64) (a, b int64) { return i, -i }),
		many(65, api.MaxID-64, func(int64) (a, b int64) { return coord, coord }),
		many(65, api.MaxID-10, func(int64) (a, b int64) { return 0, 0 }),
		many(65, -1, func(i int64) (a, b int64) { return most - i, 0 }),
		many(66, 0, func(i int64) (a, b int64) { return 0, i }),
		many(100000, 0, func(i int64) (a, b int64) { return 0, 0 }),
		{Points: make([]api.Point, 65)},
		{Points: make([]api.Point, 128)},
	} {
		if e := Check(f); e != api.ErrMany {
			t.Error(i, e)
		}
	}
	if e := Check(many(64, 0, func(i int64) (a, b int64) { return i, -i })); e != api.OK {
		t.Error(e)
	}
}

// badPoints are points that are not valid, each one for another reason.
func badPoints() []api.Point {
	return []api.Point{
		pt(-1, 0, 0), pt(api.MaxID+1, 0, 0), pt(least, 0, 0), pt(most, 0, 0),
		pt(4, coord+1, 0), pt(4, -coord-1, 0), pt(4, 0, coord+1), pt(4, 0, -coord-1),
		pt(4, most, 0), pt(4, least, 0), pt(4, 0, most), pt(4, 0, least), pt(-5, least, most),
	}
}

// P3.1: Check, ErrBad: one point is not valid, wherever it is, and whether the IDs increase or not.
func TestCheckBad(t *testing.T) {
	for _, bad := range badPoints() {
		for _, f := range []api.Field{
			of(bad), of(bad, bad), of(bad, pt(5, 0, 0)), of(pt(3, 0, 0), bad), of(pt(3, 0, 0), bad, pt(5, 0, 0)),
			of(pt(5, 0, 0), bad, pt(3, 0, 0)), of(pt(5, 0, 0), pt(3, 0, 0), bad), of(bad, pt(5, 0, 0), pt(3, 0, 0)),
			of(pt(5, 0, 0), pt(5, 0, 0), bad), of(bad, pt(5, 0, 0), pt(5, 0, 0)),
		} {
			if e := Check(f); e != api.ErrBad {
				t.Error(f, e)
			}
		}
		for i := range 64 {
			f := many(64, 0, func(i int64) (a, b int64) { return i, -i })
			f.Points[i] = bad
			if e := Check(f); e != api.ErrBad {
				t.Error(i, f, e)
			}
		}
	}
}

// P3.1: Check, ErrOrder: IDs that do not increase, or are there twice, wherever they are.
func TestCheckOrder(t *testing.T) {
	for _, f := range []api.Field{
		of(pt(1, 0, 0), pt(1, 0, 0)), of(pt(1, 0, 0), pt(1, 5, 5)), of(pt(0, 0, 0), pt(0, 0, 0)), of(pt(2, 0, 0), pt(1, 0, 0)),
		of(pt(api.MaxID, 0, 0), pt(0, 0, 0)), of(pt(api.MaxID, 0, 0), pt(api.MaxID, 1, 0)),
		of(pt(1, 0, 0), pt(2, 0, 0), pt(1, 0, 0)), of(pt(1, 0, 0), pt(3, 0, 0), pt(2, 0, 0)), of(pt(3, 0, 0), pt(1, 0, 0), pt(2, 0, 0)),
		of(pt(3, 0, 0), pt(2, 0, 0), pt(1, 0, 0)),
	} {
		if e := Check(f); e != api.ErrOrder {
			t.Error(f, e)
		}
	}
	for i := range 63 {
		f := many(64, 7, func(i int64) (a, b int64) { return i, -i })
		f.Points[i].ID = f.Points[i+1].ID
		if e := Check(f); e != api.ErrOrder {
			t.Error(i, e)
		}
		f = many(64, 7, func(i int64) (a, b int64) { return i, -i })
		f.Points[i], f.Points[i+1] = f.Points[i+1], f.Points[i]
		if e := Check(f); e != api.ErrOrder {
			t.Error(i, e)
		}
	}
}

// P3.1: Find has each point, and no other one.
func TestFind(t *testing.T) {
	for _, f := range fields() {
		for _, p := range f.Points {
			if q, e := Find(f, p.ID); q != p || e != api.OK {
				t.Error(p, q, e)
			}
		}
		for _, id := range strangers(f) {
			if q, e := Find(f, id); q != pt(0, 0, 0) || e != api.ErrNone {
				t.Error(id, q, e)
			}
		}
	}
}
