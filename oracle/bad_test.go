package oracle_test

import (
	"slices"

	"peloton/api"
)

// noTimes are fractions that are not valid, each one for another reason, and some that would not be asked for, either.
func noTimes() []api.Ratio {
	return []api.Ratio{
		frac(0, 0), frac(1, 0), frac(0, 2), frac(0, -1), frac(2, 2), frac(6, 4), frac(-6, 4), frac(3, -2), frac(-3, -2),
		frac(least, 1), frac(least, 3), frac(1, least), frac(least, least), frac(most, most), frac(2*far, 2), frac(4, 2*fine), frac(far, fine), frac(far+2, 2), frac(0, fine+1),
	}
}

// notAsked are valid fractions that are no times that are asked for: the numerator is too great, below 0 or above it, or the denominator, or both.
func notAsked() []api.Ratio {
	return []api.Ratio{
		whole(far + 1), whole(-far - 1), frac(far+1, fine), frac(-far-1, fine), whole(most), whole(-most), whole(1 << 31), whole(1 << 32), whole(-1 << 32), whole(1 << 62),
		frac(1, fine+1), frac(-1, fine+1), frac(far, fine+1), frac(-far, fine+1), frac(1, most), frac(-1, most), frac(3, 1<<32), frac(7, 1<<31), frac(1, 1<<32+1),
		frac(far+1, fine+2), frac(-far-1, fine+2), frac(most-1, most), frac(-most, most-1),
	}
}

// asked are times that are asked for, both ends among them.
func asked() []api.Ratio {
	return []api.Ratio{
		whole(0), whole(1), whole(-1), whole(2), whole(6), frac(1, 2), frac(-7, 3), frac(999, 1000), whole(far), whole(-far), frac(1, fine), frac(-1, fine),
		frac(far-1, fine), frac(1-far, fine), frac(far, fine-1), frac(-far, fine-1), whole(far - 1), whole(1 - far), frac(far-3, fine-2),
	}
}

// noPoints are points that are not valid, each one for another reason, and some for several; all but four have the ID 2.
func noPoints() []api.Point {
	return []api.Point{
		pt(-1, 0, 0), pt(top+1, 0, 0), pt(least, 0, 0), pt(most, 0, 0),
		pt(2, coord+1, 0), pt(2, -coord-1, 0), pt(2, 0, coord+1), pt(2, 0, -coord-1),
		pt(2, most, 0), pt(2, least, 0), pt(2, 0, most), pt(2, 0, least), pt(2, least, most), pt(2, 1<<32, 0), pt(2, 0, 1<<32),
	}
}

// noFields are fields that are not valid, with the error of each one: too many points, a point that is not valid, IDs that do not increase strictly, and several of these.
func noFields() map[api.Errno][]api.Field {
	list := map[api.Errno][]api.Field{
		api.ErrMany: {level(65), spaced(65, top-64), together(66, 9), points(make([]api.Point, 65)...), points(make([]api.Point, 3000)...), points(slices.Repeat(noPoints(), 5)...)},
		api.ErrBad:  {points(pt(5, 0, 0), pt(5, 0, 0), pt(-1, 0, 0)), points(slices.Repeat(noPoints(), 4)...), spaced(64, top-62), spaced(3, -1)},
		api.ErrOrder: {
			points(pt(1, 0, 0), pt(1, 0, 0)), points(pt(1, 0, 0), pt(1, 0, 1)), points(pt(2, 0, 0), pt(1, 0, 1)), points(pt(1, 0, 2), pt(5, 6, -1), pt(3, 3, 3)),
			points(pt(top, 0, 0), pt(0, 0, 0)), points(make([]api.Point, 64)...), points(append(level(63).Points, pt(62, 1, 1))...), points(append(level(63).Points, pt(0, 1, 1))...),
		},
	}
	for _, p := range noPoints() {
		list[api.ErrBad] = append(list[api.ErrBad], points(p), points(pt(0, 0, 2), p), points(p, pt(5, 0, 0)), points(pt(5, 0, 0), p, pt(3, 0, 0)))
		full := level(64)
		full.Points[2] = p
		list[api.ErrBad] = append(list[api.ErrBad], full)
	}
	return list
}

// fields are valid ones: with no point and with the most there may be, with both ends of all that is limited, and with points that are at one place, or as far from each other.
func fields() []api.Field {
	return []api.Field{
		{}, points(pt(0, 0, 0)), points(pt(top, coord, -coord)), moving(), points(pt(1, 0, 2), pt(2, 0, 2)), points(pt(0, coord, coord), pt(top, -coord, -coord)),
		points(pt(0, coord, coord), pt(1, coord, coord), pt(2, -coord, -coord), pt(65533, coord, -coord), pt(65534, -coord, coord), pt(65535, coord, coord)),
		points(pt(3, coord, coord), pt(4, coord-1, coord), pt(5, coord, coord-1), pt(6, 1-coord, -coord), pt(7, -coord, 1-coord)),
		level(7), together(5, 3), spaced(9, 100), crowd(12), level(63), crowd(64), together(64, top-63), spaced(64, 0),
		many(64, 1000, func(i int64) (a, b int64) { return coord - i*i*255, i*16644 - coord }),
	}
}

// goodModels are all fields at a few times each.
func goodModels() []api.Model {
	var list []api.Model
	for i, f := range fields() {
		for k, now := range asked() {
			if len(f.Points) < 4 || (i+k)%5 == 0 {
				list = append(list, at(now, f))
			}
		}
	}
	return list
}

// badModels are models that are not valid: by their time, by their field, and by both.
func badModels() []api.Model {
	list := []api.Model{{}}
	for i, now := range append(noTimes(), notAsked()...) {
		list = append(list, at(now, moving()), at(now, api.Field{}), at(now, fields()[i%len(fields())]))
	}
	for _, bad := range noFields() {
		for i, f := range bad {
			list = append(list, at(whole(0), f), at(asked()[i%len(asked())], f), at(noTimes()[i%len(noTimes())], f), at(notAsked()[i%len(notAsked())], f))
		}
	}
	return list
}

// strangers are IDs that a field does not have: not valid ones, both ends, and those beside its own ones.
func strangers(f api.Field) []int {
	list := []int{-1, top + 1, least, most, 1 << 32, -1 << 32, 0, 1, top / 2, top}
	for _, p := range f.Points {
		list = append(list, p.ID-1, p.ID+1, p.ID+1<<16, p.ID+1<<32, -p.ID)
	}
	return slices.DeleteFunc(list, func(id int) bool { return has(f, id) })
}

// formed are well-formed asks of a model, of each kind, with an error and without one.
func formed(m api.Model) []api.Ask {
	list := []api.Ask{askLead(), askClose(), take(0), put(pt(0, 0, 0)), change(pt(0, 0, 0)), put(pt(9, -3, 2)), put(pt(40000, 5, 0)), put(pt(top, coord, coord)), change(pt(9, 1, 1))}
	for i, p := range append(noPoints(), m.Field.Points...) {
		if i%(1+len(m.Field.Points)/9) == 0 {
			list = append(list, put(p), change(p), take(p.ID), put(pt(p.ID, 5, 4)), change(pt(p.ID, 5, 4)))
		}
	}
	for _, to := range slices.Concat(noTimes(), notAsked(), asked()) {
		list = append(list, move(to))
	}
	return list
}

// kinds are numbers that are no kind of an ask.
func kinds() []uint8 {
	return []uint8{0, 7, 8, 9, 10, 64, 127, 128, 129, 130, 131, 132, 133, 134, 200, 254, 255}
}

// parts are asks of which just one number is not 0, and no kind is told.
func parts() []api.Ask {
	var list []api.Ask
	for _, n := range []int64{1, -1, 2, 5, 1 << 32, most, least} {
		list = append(list,
			api.Ask{Point: pt(int(n), 0, 0)}, api.Ask{Point: pt(0, n, 0)}, api.Ask{Point: pt(0, 0, n)}, api.Ask{ID: int(n)}, api.Ask{At: frac(n, 0)}, api.Ask{At: frac(0, n)},
		)
	}
	return list
}

// plus is an ask with a part of another one more.
func plus(a, part api.Ask) api.Ask {
	a.ID += part.ID
	a.Point = pt(a.Point.ID+part.Point.ID, a.Point.A+part.Point.A, a.Point.B+part.Point.B)
	a.At = frac(a.At.Num+part.At.Num, a.At.Den+part.At.Den)
	return a
}

// malformed are asks of a model that are not well-formed: with a kind that is none, or with something that the kind does not use.
func malformed(m api.Model) []api.Ask {
	var list []api.Ask
	good := formed(m)
	for i, k := range kinds() {
		a := good[i*7%len(good)]
		a.Kind = k
		list = append(list, a, api.Ask{Kind: k}, api.Ask{Kind: k, Point: pt(9, 1, 1)}, api.Ask{Kind: k, At: whole(far)}, api.Ask{Kind: k, ID: 1})
	}
	for i, a := range good {
		for k, p := range parts() {
			b := plus(a, p)
			if (i+k)%9 == 0 && slices.Contains(unused(b), false) {
				list = append(list, b)
			}
		}
	}
	return list
}
