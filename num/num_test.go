package num_test

import (
	"math"
	"math/big"
	"testing"

	"countermand/num"
)

var edges = []int64{
	0, 1, -1, 2, -2, 3, -3, 7, 10, -10, 1000, 46341, -46341,
	1 << 31, -1 << 31, 1<<31 - 1, 1 << 32, -1 << 32, 3037000499, 3037000500, -3037000500,
	1 << 61, -1 << 61, 1 << 62, -1 << 62, 1<<62 - 1,
	math.MaxInt64 - 1, math.MaxInt64, math.MinInt64, math.MinInt64 + 1,
	math.MaxInt64 / 2, math.MinInt64 / 2, math.MaxInt64/2 + 1, math.MinInt64/2 - 1,
}

func checkPair(t *testing.T, name string, a, b, got int64, ok bool, exact *big.Int) {
	t.Helper()
	want, fits := int64(0), exact.IsInt64()
	if fits {
		want = exact.Int64()
	}
	if got != want || ok != fits {
		t.Errorf("P1.1: %s(%d, %d) = %d, %v; want %d, %v", name, a, b, got, ok, want, fits)
	}
}

// P1.1: all pairs of edges, compared with exact arithmetic.
func TestArithmetic(t *testing.T) {
	for _, a := range edges {
		for _, b := range edges {
			x, y := big.NewInt(a), big.NewInt(b)
			n, ok := num.Add(a, b)
			checkPair(t, "Add", a, b, n, ok, new(big.Int).Add(x, y))
			n, ok = num.Sub(a, b)
			checkPair(t, "Sub", a, b, n, ok, new(big.Int).Sub(x, y))
			n, ok = num.Mul(a, b)
			checkPair(t, "Mul", a, b, n, ok, new(big.Int).Mul(x, y))
		}
	}
}

// P1.1: a product that fits only as an unsigned number, and one that wraps to a plausible value.
func TestMulWraps(t *testing.T) {
	for a := int64(1); a < 2000; a += 37 {
		for s := 40; s < 63; s++ {
			b := int64(1)<<s + a
			n, ok := num.Mul(a, b)
			checkPair(t, "Mul", a, b, n, ok, new(big.Int).Mul(big.NewInt(a), big.NewInt(b)))
			n, ok = num.Mul(-b, a)
			checkPair(t, "Mul", -b, a, n, ok, new(big.Int).Mul(big.NewInt(-b), big.NewInt(a)))
		}
	}
}

// P1.1: Sum stops at the first partial sum that does not fit, even if the whole would fit.
func TestSum(t *testing.T) {
	const most, least = math.MaxInt64, math.MinInt64
	cases := []struct {
		l  []int64
		n  int64
		ok bool
	}{
		{nil, 0, true},
		{[]int64{5}, 5, true},
		{[]int64{1, 2, 3, -10}, -4, true},
		{[]int64{most, 1, -1}, 0, false},
		{[]int64{most, -1, 1}, most, true},
		{[]int64{-1, most, 1}, most, true},
		{[]int64{least, -1, 1}, 0, false},
		{[]int64{1, least, -1}, least, true},
		{[]int64{most, most, least, least}, 0, false},
		{[]int64{most, least, most, least}, -2, true},
		{[]int64{least, most}, -1, true},
		{[]int64{most}, most, true},
		{[]int64{least}, least, true},
	}
	for _, c := range cases {
		if n, ok := num.Sum(c.l...); n != c.n || ok != c.ok {
			t.Errorf("P1.1: Sum(%v) = %d, %v; want %d, %v", c.l, n, ok, c.n, c.ok)
		}
	}
	l := []int64{4, 5, 6}
	num.Sum(l...)
	if l[0] != 4 || l[1] != 5 || l[2] != 6 {
		t.Error("P2: Sum changed its arguments")
	}
}

// P1.1: Clamp examines lo first, also if lo is greater than hi.
func TestClamp(t *testing.T) {
	cases := [][4]int{
		{-3, 0, 9, 0}, {0, 0, 9, 0}, {5, 0, 9, 5}, {9, 0, 9, 9}, {10, 0, 9, 9}, {-1, 0, 9, 0},
		{5, 7, 3, 7}, {7, 7, 3, 3}, {9, 7, 3, 3}, {3, 7, 3, 7}, {4, 4, 4, 4},
		{math.MaxInt, -1, 1, 1}, {math.MinInt, -1, 1, -1}, {-5, -9, -7, -7}, {-10, -9, -7, -9},
	}
	for _, c := range cases {
		if got := num.Clamp(c[0], c[1], c[2]); got != c[3] {
			t.Errorf("P1.1: Clamp(%d, %d, %d) = %d; want %d", c[0], c[1], c[2], got, c[3])
		}
	}
}

// P1.1: both bounds of In belong to the range.
func TestIn(t *testing.T) {
	cases := []struct {
		n, lo, hi int64
		want      bool
	}{
		{0, 0, 9, true}, {9, 0, 9, true}, {-1, 0, 9, false}, {10, 0, 9, false}, {5, 0, 9, true},
		{5, 9, 0, false}, {3, 3, 3, true}, {2, 3, 3, false}, {4, 3, 3, false},
		{math.MinInt64, math.MinInt64, math.MaxInt64, true}, {math.MaxInt64, math.MinInt64, math.MaxInt64, true},
		{-4, -5, -3, true}, {-6, -5, -3, false}, {-2, -5, -3, false},
	}
	for _, c := range cases {
		if got := num.In(c.n, c.lo, c.hi); got != c.want {
			t.Errorf("P1.1: In(%d, %d, %d) = %v", c.n, c.lo, c.hi, got)
		}
	}
}
