package course

import (
	"math"
	"testing"

	"peloton/api"
)

// P2.1: Check, at all ends.
func TestCheck(t *testing.T) {
	for _, c := range []struct {
		p    api.Point
		want api.Errno
	}{
		{pt(0, 0, 0), api.OK},
		{pt(1, 0, 2), api.OK},
		{pt(api.MaxID, 0, 0), api.OK},
		{pt(65535, 1048576, 1048576), api.OK},
		{pt(0, -1048576, -1048576), api.OK},
		{pt(5, 1048576, -1048576), api.OK},
		{pt(5, -1048576, 1048576), api.OK},
		{pt(-1, 0, 0), api.ErrBad},
		{pt(65536, 0, 0), api.ErrBad},
		{pt(math.MaxInt, 0, 0), api.ErrBad},
		{pt(math.MinInt, 0, 0), api.ErrBad},
		{pt(5, 1048577, 0), api.ErrBad},
		{pt(5, -1048577, 0), api.ErrBad},
		{pt(5, 0, 1048577), api.ErrBad},
		{pt(5, 0, -1048577), api.ErrBad},
		{pt(5, most, 0), api.ErrBad},
		{pt(5, least, 0), api.ErrBad},
		{pt(5, 0, most), api.ErrBad},
		{pt(5, 0, least), api.ErrBad},
		{pt(5, 1<<32, 0), api.ErrBad},
		{pt(5, 0, -1<<32), api.ErrBad},
		{pt(-1, least, most), api.ErrBad},
	} {
		if e := Check(c.p); e != c.want {
			t.Error(c.p, e)
		}
	}
	for _, p := range points() {
		if e := Check(p); e != api.OK {
			t.Error(p, e)
		}
	}
}
