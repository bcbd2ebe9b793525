package stamp_test

import (
	"math"
	"slices"
	"testing"

	"countermand/api"
	"countermand/stamp"
)

func at(time, replica, seq int) api.Change {
	return api.Change{Id: api.Id{Replica: replica, Seq: seq}, Time: time}
}

// tagged changes with equal stamps can be told apart.
func tagged(c api.Change, tag int) api.Change {
	c.A = tag
	return c
}

// P7.1: Time, then Replica, then Seq.
func TestLess(t *testing.T) {
	l := []api.Change{at(math.MinInt, 9, 9), at(-1, 3, 3), at(0, -1, 9), at(0, 0, -1), at(0, 0, 0), at(3, 0, 7), at(3, 0, 8), at(3, 2, 1), at(3, 2, 2), at(3, 3, 1), at(4, 0, 1), at(4, 0, 2), at(4, 1, 1), at(math.MaxInt, 0, 0)}
	for i, a := range l {
		for j, b := range l {
			if stamp.Less(a, b) != (i < j) {
				t.Errorf("P7.1: Less(%v, %v) = %v", a, b, i >= j)
			}
		}
	}
	a, b := tagged(at(1, 1, 1), 1), tagged(at(1, 1, 1), 2)
	a.Kind, a.N, a.B, a.Ref = 1, -5, 3, api.Id{Replica: 1, Seq: 1}
	if stamp.Less(a, b) || stamp.Less(b, a) {
		t.Error("P7.1: Less looks at other fields")
	}
}

// P7.1: Sorted is stable and leaves its arguments alone.
func TestSorted(t *testing.T) {
	l := []api.Change{tagged(at(5, 1, 1), 1), tagged(at(3, 2, 2), 2), tagged(at(5, 1, 1), 3), tagged(at(3, 2, 1), 4), tagged(at(5, 0, 9), 5), tagged(at(3, 2, 2), 6), tagged(at(5, 1, 1), 7), tagged(at(-2, 3, 1), 8)}
	saved := slices.Clone(l)
	got := stamp.Sorted(l...)
	want := []int{8, 4, 2, 6, 5, 1, 3, 7}
	if len(got) != len(want) {
		t.Fatal("P7.1: Sorted has another length", len(got))
	}
	for i, x := range want {
		if got[i] != saved[x-1] {
			t.Errorf("P7.1: Sorted at %d: %v", i, got[i])
		}
	}
	got[0] = api.Change{}
	if !slices.Equal(l, saved) {
		t.Error("P2: Sorted changed or keeps its arguments")
	}
	if len(stamp.Sorted()) != 0 {
		t.Error("P7.1: Sorted of nothing")
	}
	one := []api.Change{at(1, 1, 1)}
	stamp.Sorted(one...)[0].A = 9
	if one[0].A != 0 {
		t.Error("P2: Sorted of one change shares memory")
	}
}

// P7.1: Sorted of many equal stamps.
func TestSortedStable(t *testing.T) {
	var l []api.Change
	for i := range 100 {
		l = append(l, tagged(at(i%3, 0, 0), i))
	}
	got := stamp.Sorted(l...)
	for i := 1; i < len(got); i++ {
		if got[i].Time < got[i-1].Time || got[i].Time == got[i-1].Time && got[i].A < got[i-1].A {
			t.Fatal("P7.1: Sorted is not stable")
		}
	}
}

// P7.1: Put inserts behind the last element that is not greater, also into unsorted lists.
func TestPut(t *testing.T) {
	cases := []struct {
		times []int
		time  int
		at    int
	}{
		{nil, 4, 0}, {[]int{5}, 4, 0}, {[]int{4}, 4, 1}, {[]int{3}, 4, 1}, {[]int{1, 4, 4, 7}, 4, 3}, {[]int{1, 3, 5}, 0, 0}, {[]int{1, 3, 5}, 9, 3},
		{[]int{9, 1, 9, 2, 9}, 4, 4}, {[]int{1, 9, 9}, 4, 1}, {[]int{9, 8, 7}, 4, 0}, {[]int{9, 9, 4}, 4, 3},
	}
	for _, c := range cases {
		l := make([]api.Change, 0, 20)
		for i, time := range c.times {
			l = append(l, tagged(at(time, 1, 1), i+1))
		}
		saved := slices.Clone(l[:20])
		got := stamp.Put(l, tagged(at(c.time, 1, 1), 99))
		if len(got) != len(l)+1 || stamp.Find(got[c.at:], api.Id{Replica: 1, Seq: 1}) != 0 || got[c.at].A != 99 || !slices.Equal(slices.Delete(slices.Clone(got), c.at, c.at+1), l) {
			t.Errorf("P7.1: Put of %d into %v: %v", c.time, c.times, got)
		}
		got[0].A = 77
		if !slices.Equal(l[:20], saved) {
			t.Error("P2: Put changed or keeps its argument")
		}
	}
}

// P7.1: Find returns the first one.
func TestFind(t *testing.T) {
	l := []api.Change{at(9, 0, 1), at(8, 1, 1), at(7, 1, 1), at(6, 0, 2)}
	cases := map[api.Id]int{{Replica: 0, Seq: 1}: 0, {Replica: 1, Seq: 1}: 1, {Replica: 0, Seq: 2}: 3, {Replica: 1, Seq: 2}: -1, {}: -1}
	for a, want := range cases {
		if got := stamp.Find(l, a); got != want {
			t.Errorf("P7.1: Find(%v) = %d; want %d", a, got, want)
		}
	}
	if stamp.Find(nil, api.Id{}) != -1 || stamp.Find([]api.Change{{}}, api.Id{}) != 0 {
		t.Error("P7.1: Find of the zero Id")
	}
}

// P7.1: Without leaves one element out, or none.
func TestWithout(t *testing.T) {
	l := []api.Change{at(1, 0, 1), at(2, 0, 2), at(3, 0, 3)}
	saved := slices.Clone(l)
	want := map[int][]api.Change{0: {l[1], l[2]}, 1: {l[0], l[2]}, 2: {l[0], l[1]}, 3: l, -1: l, math.MaxInt: l, math.MinInt: l}
	for i, w := range want {
		got := stamp.Without(l, i)
		if !slices.Equal(got, w) {
			t.Errorf("P7.1: Without(%d) = %v", i, got)
		}
		got[0].A = 5
		_ = append(got, at(9, 9, 9))
		if !slices.Equal(l, saved) {
			t.Fatalf("P2: Without(%d) changed or keeps its argument", i)
		}
	}
	if len(stamp.Without(nil, 0)) != 0 {
		t.Error("P7.1: Without of nothing")
	}
}

// P7.1: the greatest Time, at least 0.
func TestLast(t *testing.T) {
	cases := []struct {
		times []int
		want  int
	}{{nil, 0}, {[]int{-5}, 0}, {[]int{-5, -1}, 0}, {[]int{3, 9, 4}, 9}, {[]int{9, 3}, 9}, {[]int{3, 9}, 9}, {[]int{0}, 0}, {[]int{-3, 2}, 2}, {[]int{math.MaxInt, math.MinInt}, math.MaxInt}}
	for _, c := range cases {
		var l []api.Change
		for _, time := range c.times {
			l = append(l, at(time, 0, 1))
		}
		if got := stamp.Last(l...); got != c.want {
			t.Errorf("P7.1: Last of %v = %d", c.times, got)
		}
	}
}

// P7.2: putting all changes one by one is the same as sorting them.
func TestPutSorts(t *testing.T) {
	seed := uint32(1)
	for range 50 {
		var all, list []api.Change
		for i := range 20 {
			seed = seed*1664525 + 1013904223
			c := tagged(at(int(seed>>8)%4, int(seed>>16)%3, int(seed>>24)%3), i)
			all, list = append(all, c), stamp.Put(list, c)
		}
		if !slices.Equal(list, stamp.Sorted(all...)) {
			t.Fatal("P7.2: Put one by one differs from Sorted")
		}
	}
}
