package ratio

import (
	"math"
	"math/big"
	"testing"

	"peloton/api"
)

const (
	most  = math.MaxInt64
	least = math.MinInt64
)

// frac is a fraction as it is written, valid or not.
func frac(num, den int64) api.Ratio {
	return api.Ratio{Num: num, Den: den}
}

// truth is the number for which a valid fraction stands, told by another program than this one.
func truth(r api.Ratio) *big.Rat {
	return big.NewRat(r.Num, r.Den)
}

// expected is the result of an operation: the valid fraction that stands for x, or ErrRange.
func expected(x *big.Rat) (api.Ratio, api.Errno) {
	num, den := x.Num(), x.Denom()
	if !num.IsInt64() || !den.IsInt64() || num.Int64() == least {
		return api.Ratio{}, api.ErrRange
	}
	return frac(num.Int64(), den.Int64()), api.OK
}

// isValid follows the definition word by word.
func isValid(r api.Ratio) bool {
	if r.Den < 1 || r.Num == least {
		return false
	}
	common := new(big.Int).GCD(nil, nil, new(big.Int).Abs(big.NewInt(r.Num)), big.NewInt(r.Den))
	return common.Cmp(big.NewInt(1)) == 0
}

// edges are numbers at which something changes: both ends of 64 bits, halves of it, and limits of times.
func edges() []int64 {
	list := []int64{0, least}
	for _, n := range []int64{
		1, 2, 3, 6, 7, 49, 1023, 1024, 1025, 1 << 22,
		1<<30 - 1, 1 << 30, 1<<30 + 1, 1 << 31, 1<<32 - 1, 1 << 32,
		1<<61 + 1, 1 << 62, 1<<62 + 1, most / 49, most / 2, most - 2, most - 1, most,
	} {
		list = append(list, n, -n)
	}
	return list
}

// allEdges are all fractions of two edges, valid or not.
func allEdges() []api.Ratio {
	var list []api.Ratio
	for _, num := range edges() {
		for _, den := range edges() {
			list = append(list, frac(num, den))
		}
	}
	return list
}

func onlyValid(all []api.Ratio) []api.Ratio {
	var list []api.Ratio
	for _, r := range all {
		if isValid(r) {
			list = append(list, r)
		}
	}
	return list
}

// mixed are n valid fractions with numerators and denominators of all lengths, the same ones in each run.
func mixed(n int) []api.Ratio {
	state := uint64(2026)
	next := func() uint64 {
		state = state*6364136223846793005 + 1442695040888963407
		return state ^ state>>29
	}
	var list []api.Ratio
	for len(list) < n {
		num := int64(next()>>1>>(next()%63)) - int64(next()>>1>>(next()%63))
		den := int64(next()>>1>>(next()%63)) + 1
		if r := frac(num, den); isValid(r) {
			list = append(list, r)
		}
	}
	return list
}

// forPairs calls f with all pairs of valid edges, and with many mixed ones.
func forPairs(t *testing.T, f func(a, b api.Ratio)) {
	t.Helper()
	valid := onlyValid(allEdges())
	if len(valid) < 300 {
		t.Fatal("too few edges:", len(valid))
	}
	for _, a := range valid {
		for _, b := range valid {
			f(a, b)
		}
	}
	list := mixed(40000)
	for i, a := range list[1:] {
		f(list[i], a)
		f(a, a)
	}
}
