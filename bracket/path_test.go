package bracket_test

import (
	"slices"
	"testing"

	"peloton/api"
	"peloton/bracket"
)

func wantWinner(t *testing.T, b api.Bracket, id int, e api.Errno) {
	t.Helper()
	if n, g := bracket.Winner(b); n != id || g != e {
		t.Fatal("winner", b, n, g, id, e)
	}
}

func wantPath(t *testing.T, b api.Bracket, place int, want []int, e api.Errno) {
	t.Helper()
	if list, g := bracket.Path(b, place); !slices.Equal(list, want) || g != e {
		t.Fatal("path", b, place, list, g, want, e)
	}
}

// P10.2: Winner is the ID of the root, whether it is right or not, and that of the only place.
func TestWinner(t *testing.T) {
	for _, x := range []struct {
		b  api.Bracket
		id int
	}{
		{example(), 2}, {of(ids(1, 2, -1, 5), 1, 1, 5), 1}, {of(ids(1, 2, -1, 5), 5, 1, 5), 5}, {of(ids(7)), 7}, {of(ids(0)), 0}, {of(ids(top)), top}, {of(ids(0, top), 0), 0}, {of(ids(0, top), top), top}, {of(ids(-1, 0), 0), 0},
		{of(ids(4, 1, 2), 4, 2), 4}, {of(ids(4, 1, 2), 2, 2), 2}, {rightOne(level(64), whole(0), upTo(64)), 63}, {rightOne(level(64), whole(1), upTo(64)), 0},
	} {
		wantWinner(t, x.b, x.id, api.OK)
	}
}

// P10.2: Winner of a bracket that is empty is ErrEmpty, and so is no other one.
func TestWinnerEmpty(t *testing.T) {
	for n := 1; n <= 64; n++ {
		wantWinner(t, of(empties(n), empties(n-1)...), 0, api.ErrEmpty)
		for place := range n {
			places := empties(n)
			places[place] = 5
			wantWinner(t, rightOne(moving(), whole(0), places), 5, api.OK)
		}
	}
}

// P10.2: Winner, against the promise.
func TestWinnerByPromise(t *testing.T) {
	m := mixer(103)
	some, empty := 0, 0
	for i := range 20000 {
		b := m.stage(1 + i%6).b
		id, e := root(b)
		wantWinner(t, b, id, e)
		if e == api.OK {
			some++
		} else {
			empty++
		}
	}
	enough(t, some)
	enough(t, empty)
}

// P10.2: Path of the first place, of the last one, of one in between, and of the only one.
func TestPath(t *testing.T) {
	for _, x := range []struct {
		places, place int
		path          []int
	}{
		{1, 0, nil}, {2, 0, ids(0)}, {2, 1, ids(0)}, {3, 0, ids(0)}, {3, 1, ids(1, 0)}, {3, 2, ids(1, 0)}, {4, 0, ids(1, 0)}, {4, 1, ids(1, 0)}, {4, 2, ids(2, 0)}, {4, 3, ids(2, 0)},
		{5, 0, ids(1, 0)}, {5, 1, ids(2, 0)}, {5, 2, ids(2, 0)}, {5, 3, ids(3, 1, 0)}, {5, 4, ids(3, 1, 0)}, {6, 0, ids(2, 0)}, {6, 1, ids(2, 0)}, {6, 2, ids(3, 1, 0)}, {6, 5, ids(4, 1, 0)}, {7, 0, ids(2, 0)}, {7, 6, ids(5, 2, 0)},
		{8, 0, ids(3, 1, 0)}, {8, 3, ids(4, 1, 0)}, {8, 7, ids(6, 2, 0)}, {33, 0, ids(15, 7, 3, 1, 0)}, {33, 30, ids(30, 14, 6, 2, 0)}, {33, 31, ids(31, 15, 7, 3, 1, 0)}, {33, 32, ids(31, 15, 7, 3, 1, 0)},
		{63, 0, ids(30, 14, 6, 2, 0)}, {63, 1, ids(31, 15, 7, 3, 1, 0)}, {64, 0, ids(31, 15, 7, 3, 1, 0)}, {64, 21, ids(41, 20, 9, 4, 1, 0)}, {64, 42, ids(52, 25, 12, 5, 2, 0)}, {64, 63, ids(62, 30, 14, 6, 2, 0)},
	} {
		wantPath(t, of(empties(x.places), empties(x.places-1)...), x.place, x.path, api.OK)
		wantPath(t, rightOne(level(64), whole(1), upTo(x.places)), x.place, x.path, api.OK)
	}
}

// P10.2: Path of all places of all sizes, against the definition: whatever IDs there are, a path is the same.
func TestPathByDefinition(t *testing.T) {
	m := mixer(104)
	for n := 1; n <= 64; n++ {
		for range 2 {
			b := m.bracket(m.places(level(64), n, m.pick(0, 3, 10)))
			for place := range n {
				wantPath(t, b, place, pathOf(n, place), api.OK)
			}
		}
	}
}

// farPlaces are numbers that no bracket of n places has as a place.
func farPlaces(n int) []int {
	return ids(-1, -2, -n, -n-1, n, n+1, 2*n-1, 2*n, 64, 65, 1<<32, 1<<32-1, -1<<32, most, most-1, least, least+1)
}

// P10.2: Path of places that are not there.
func TestPathOfNone(t *testing.T) {
	for n := 1; n <= 64; n++ {
		b := of(empties(n), empties(n-1)...)
		for _, place := range farPlaces(n) {
			wantPath(t, b, place, nil, api.ErrArg)
		}
		wantPath(t, b, n-1, pathOf(n, n-1), api.OK)
	}
}

// P10.2: Winner and Path of brackets that are not valid.
func TestWinnerAndPathOfBad(t *testing.T) {
	for _, b := range allBadBrackets() {
		wantWinner(t, b, 0, api.ErrBad)
		for _, place := range ids(-1, 0, 1, len(b.Places)-1, len(b.Places), most, least) {
			wantPath(t, b, place, nil, api.ErrBad)
		}
	}
}
