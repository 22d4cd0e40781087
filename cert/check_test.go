package cert_test

import (
	"testing"

	"peloton/api"
	"peloton/cert"
)

// P8.1: New has no certificates, its Next is 0, and it is valid.
func TestNew(t *testing.T) {
	c := cert.New()
	if len(c.List) != 0 || c.Next != 0 || cert.Check(c) != api.OK {
		t.Error(c)
	}
	for _, n := range []int{-1, 0, 1, limit} {
		wantGet(t, c, n, api.Cert{}, api.ErrNone)
		wantRemove(t, c, n, api.Certs{}, api.Cert{}, api.ErrNone)
		wantOf(t, c, n, nil, api.OK)
	}
	wantAdd(t, c, over(2, 1), of(1, held(0, 2, 1)), 0, api.OK)
}

// P8.1: Check of stores that are valid.
func TestCheckValid(t *testing.T) {
	for _, c := range goodStores() {
		if e := cert.Check(c); e != api.OK || !isValid(c) {
			t.Error(c, e)
		}
	}
}

// P8.1: Check of stores that are not valid, in each way.
func TestCheckBad(t *testing.T) {
	for reason, list := range badStores() {
		for _, c := range list {
			if e := cert.Check(c); e != api.ErrBad || isValid(c) {
				t.Error(reason, c, e)
			}
		}
	}
}

// wantChecked fails unless Check says of a store what the definition says, and returns this.
func wantChecked(t *testing.T, c api.Certs) bool {
	t.Helper()
	good, want := isValid(c), api.ErrBad
	if good {
		want = api.OK
	}
	if e := cert.Check(c); e != want {
		t.Fatal(c, e, want)
	}
	return good
}

// P8.1: Check, against the definition.
func TestCheckByDefinition(t *testing.T) {
	m := mixer(81)
	good, bad := 0, 0
	for range 30000 {
		if wantChecked(t, m.spoiled(1+m.below(7))) {
			good++
		} else {
			bad++
		}
	}
	enough(t, good)
	enough(t, bad)
}

// P8.1: a valid certificate is that of each two different IDs from 0 to MaxID, whichever is Low.
func TestCheckIDs(t *testing.T) {
	ids := numbers(least, -1<<32, -top, -2, -1, 0, 1, 2, 32767, 32768, top-1, top, top+1, top+2, 1<<32, 1<<32+1, most)
	good := 0
	for _, high := range ids {
		for _, low := range ids {
			if wantChecked(t, of(1, held(0, high, low))) {
				good++
			}
		}
	}
	// 7 of them are IDs of points.
	if good != 7*6 {
		t.Error(good)
	}
}

// P8.1: each one of many small stores, with all pairs of numbers, of certificates, and Next, is valid or not as the definition says.
func TestCheckSmallStores(t *testing.T) {
	certs := []api.Cert{over(1, 2), over(2, 1), over(1, 1), over(1, 3)}
	good := 0
	for next := -1; next <= 3; next++ {
		if wantChecked(t, of(next)) {
			good++
		}
		for i := -1; i <= 3; i++ {
			for _, x := range certs {
				one := api.Held{Number: i, Cert: x}
				if wantChecked(t, of(next, one)) {
					good++
				}
				for k := -1; k <= 3; k++ {
					for _, y := range certs {
						if wantChecked(t, of(next, one, api.Held{Number: k, Cert: y})) {
							good++
						}
					}
				}
			}
		}
	}
	// For Next from 0 to 3 there are 0, 1, 2 and 3 numbers, and 0, 0, 1 and 3 pairs of them, with 3 certificates, or 6 pairs of them.
	if good != 4+(0+1+2+3)*3+(0+0+1+3)*6 {
		t.Error(good)
	}
}

// P8.1: Check at each count of certificates, up to MaxCerts and beyond.
func TestCheckCounts(t *testing.T) {
	for n := range 260 {
		if good := wantChecked(t, chain(n)); good != (n <= 200) {
			t.Error(n, good)
		}
	}
}
