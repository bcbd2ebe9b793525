package delay_test

import (
	"math"
	"testing"

	"countermand/api"
	"countermand/delay"
)

// P5.1: waits, with every limit.
func TestWait(t *testing.T) {
	cases := [][4]int{
		{3, 10, 1, 3}, {3, 10, 2, 6}, {3, 10, 3, 10}, {3, 10, 4, 10}, {3, 10, 0, 0}, {3, 10, -4, 0},
		{3, 12, 3, 12}, {3, 13, 3, 12}, {1, 64, 6, 32}, {1, 64, 7, 64}, {1, 64, 8, 64},
		{10, 3, 1, 3}, {10, 3, 5, 3}, {10, 3, 0, 0},
		{0, 10, 1, 1}, {-7, 10, 2, 2}, {100, 100, 1, 64}, {65, 65, 1, 64}, {5, 0, 1, 1}, {5, -1, 3, 1}, {5, 1000, 5, 64},
		{1, 64, 64, 64}, {1, 64, 65, 64}, {64, 64, 64, 64}, {1, 1, 64, 1},
		{math.MaxInt, math.MaxInt, math.MaxInt, 64}, {math.MinInt, math.MinInt, math.MinInt, 0}, {math.MinInt, math.MinInt, 1, 1},
	}
	for _, c := range cases {
		if got := delay.Wait(c[0], c[1], c[2]); got != c[3] {
			t.Errorf("P5.1: Wait(%d, %d, %d) = %d; want %d", c[0], c[1], c[2], got, c[3])
		}
	}
}

// P5.1: Due limits last to [0, MaxTime].
func TestDue(t *testing.T) {
	cases := [][5]int{
		{3, 10, 1, 5, 8}, {3, 10, 2, 5, 11}, {3, 10, 9, 5, 15}, {3, 10, 0, 5, 5}, {3, 10, -1, 5, 5},
		{3, 10, 1, -5, 3}, {3, 10, 0, -5, 0}, {3, 10, 1, 0, 3},
		{3, 10, 1, api.MaxTime, api.MaxTime + 3}, {3, 10, 1, api.MaxTime + 1, api.MaxTime + 3}, {3, 10, 0, math.MaxInt, api.MaxTime},
		{math.MaxInt, math.MaxInt, math.MaxInt, math.MaxInt, api.MaxTime + 64}, {0, 0, 1, math.MinInt, 1},
	}
	for _, c := range cases {
		if got := delay.Due(c[0], c[1], c[2], c[3]); got != c[4] {
			t.Errorf("P5.1: Due(%d, %d, %d, %d) = %d; want %d", c[0], c[1], c[2], c[3], got, c[4])
		}
	}
}

// P5.1: without an attempt all is ready; otherwise from Due on.
func TestReady(t *testing.T) {
	cases := []struct {
		base, most, n, last, now int
		want                     bool
	}{
		{3, 10, 1, 5, 7, false}, {3, 10, 1, 5, 8, true}, {3, 10, 1, 5, 9, true},
		{3, 10, 2, 5, 10, false}, {3, 10, 2, 5, 11, true}, {3, 10, 7, 5, 14, false}, {3, 10, 7, 5, 15, true},
		{3, 10, 0, 5, 0, true}, {3, 10, 0, 100, -9, true}, {3, 10, -1, 100, 0, true}, {3, 10, math.MinInt, 100, math.MinInt, true},
		{3, 10, 1, -50, 2, false}, {3, 10, 1, -50, 3, true}, {3, 10, 1, 0, math.MinInt, false}, {3, 10, 1, 0, math.MaxInt, true},
		{3, 10, 1, math.MaxInt, api.MaxTime + 2, false}, {3, 10, 1, math.MaxInt, api.MaxTime + 3, true},
	}
	for _, c := range cases {
		if got := delay.Ready(c.base, c.most, c.n, c.last, c.now); got != c.want {
			t.Errorf("P5.1: Ready(%d, %d, %d, %d, %d) = %v", c.base, c.most, c.n, c.last, c.now, got)
		}
	}
}

// P5.1: Total is the sum of the waits.
func TestTotal(t *testing.T) {
	cases := [][4]int{
		{3, 10, 0, 0}, {3, 10, 1, 3}, {3, 10, 2, 9}, {3, 10, 3, 19}, {3, 10, 4, 29}, {3, 10, -3, 0},
		{64, 64, 64, 4096}, {64, 64, 65, 4096}, {64, 64, math.MaxInt, 4096}, {math.MaxInt, math.MaxInt, 2, 128},
		{10, 3, 3, 9}, {0, 0, 5, 5}, {1, 64, 7, 127}, {1, 64, 8, 191}, {math.MinInt, math.MinInt, math.MinInt, 0},
	}
	for _, c := range cases {
		if got := delay.Total(c[0], c[1], c[2]); got != c[3] {
			t.Errorf("P5.1: Total(%d, %d, %d) = %d; want %d", c[0], c[1], c[2], got, c[3])
		}
	}
}

// P5.2: waits never decrease and never exceed most.
func TestMonotonic(t *testing.T) {
	for base := 1; base <= 64; base += 3 {
		for most := 1; most <= 64; most++ {
			sum, before := 0, 0
			for n := 0; n <= 64; n++ {
				w := delay.Wait(base, most, n)
				if w < before || w > most {
					t.Fatalf("P5.2: Wait(%d, %d, %d) = %d after %d", base, most, n, w, before)
				}
				before, sum = w, sum+w
				if delay.Total(base, most, n) != sum {
					t.Fatalf("P5.1: Total(%d, %d, %d) is not the sum of the waits", base, most, n)
				}
			}
		}
	}
}
