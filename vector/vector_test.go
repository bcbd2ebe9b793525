package vector_test

import (
	"math"
	"slices"
	"testing"

	"countermand/api"
	"countermand/vector"
)

func id(replica, seq int) api.Id { return api.Id{Replica: replica, Seq: seq} }

func change(r, s int) api.Change {
	return api.Change{Id: api.Id{Replica: r, Seq: s}, Time: 5}
}

// P8.1: the greatest Seq of each replica; others are ignored.
func TestOf(t *testing.T) {
	cases := []struct {
		l    []api.Change
		want [4]int
	}{
		{nil, [4]int{}},
		{[]api.Change{change(0, 3), change(2, 9), change(0, 2), change(3, 1)}, [4]int{3, 0, 9, 1}},
		{[]api.Change{change(1, 2), change(1, 7), change(1, 4)}, [4]int{0, 7, 0, 0}},
		{[]api.Change{change(-1, 5), change(4, 6), change(math.MaxInt, 7), change(math.MinInt, 8)}, [4]int{}},
		{[]api.Change{change(2, -5), change(3, math.MinInt)}, [4]int{}},
		{[]api.Change{change(2, 100000), change(3, 0)}, [4]int{0, 0, 100000, 0}},
	}
	for _, c := range cases {
		if got := vector.Of(c.l...); got != c.want {
			t.Errorf("P8.1: Of(%v) = %v", c.l, got)
		}
	}
}

var vectors = [][4]int{{}, {1, 0, 0, 0}, {0, 0, 0, 1}, {1, 2, 3, 4}, {4, 3, 2, 1}, {0, 5, 0, 5}, {-1, -2, 7, 65535}, {9, 9, 9, 9}, {math.MinInt, 0, math.MaxInt, 1}}

// P8.1, P8.2: Join and Covers, element by element.
func TestJoinCovers(t *testing.T) {
	for _, a := range vectors {
		for _, b := range vectors {
			j := vector.Join(a, b)
			covers := true
			for i := range a {
				if j[i] != max(a[i], b[i]) {
					t.Errorf("P8.1: Join(%v, %v) = %v", a, b, j)
				}
				covers = covers && a[i] >= b[i]
			}
			if vector.Covers(a, b) != covers {
				t.Errorf("P8.1: Covers(%v, %v) = %v", a, b, !covers)
			}
			if !vector.Covers(j, a) || !vector.Covers(j, b) {
				t.Errorf("P8.2: Join(%v, %v) covers not both", a, b)
			}
			for _, c := range vectors {
				if vector.Covers(c, a) && vector.Covers(c, b) && !vector.Covers(c, j) {
					t.Errorf("P8.2: Join(%v, %v) is not the smallest", a, b)
				}
			}
		}
	}
}

// P8.1: Has examines the replica and both bounds of Seq.
func TestHas(t *testing.T) {
	v := [4]int{3, 0, -2, 70000}
	has := []api.Id{id(0, 1), id(0, 2), id(0, 3), id(3, 1), id(3, 70000)}
	lacks := []api.Id{id(0, 0), id(0, -1), id(0, 4), id(1, 0), id(1, 1), id(2, -2), id(2, 1), id(3, 70001), id(-1, 1), id(4, 1), id(math.MaxInt, 1), id(math.MinInt, 1), id(0, math.MinInt)}
	for _, a := range has {
		if !vector.Has(v, a) {
			t.Errorf("P8.1: Has(%v, %v) = false", v, a)
		}
	}
	for _, a := range lacks {
		if vector.Has(v, a) {
			t.Errorf("P8.1: Has(%v, %v) = true", v, a)
		}
	}
}

// P8.1: Lacking keeps the order, and changes of no replica.
func TestLacking(t *testing.T) {
	l := []api.Change{change(0, 3), change(0, 1), change(1, 1), change(0, 2), change(7, 1), change(-1, 1), change(2, 0), change(0, 3)}
	saved := slices.Clone(l)
	got := vector.Lacking([4]int{2, 0, 5, 0}, l)
	if want := []api.Change{l[0], l[2], l[4], l[5], l[6], l[7]}; !slices.Equal(got, want) {
		t.Errorf("P8.1: Lacking = %v; want %v", got, want)
	}
	all := vector.Lacking([4]int{}, l)
	if !slices.Equal(all, l) {
		t.Errorf("P8.1: Lacking of everything = %v", all)
	}
	all[0].A, got[0].A = 9, 9
	if !slices.Equal(l, saved) {
		t.Error("P2: Lacking shares memory with its argument")
	}
	if len(vector.Lacking([4]int{1, 1, 1, 1}, nil)) != 0 || len(vector.Lacking([4]int{9, 9, 9, 9}, []api.Change{change(1, 9), change(3, 1)})) != 0 {
		t.Error("P8.1: Lacking of nothing")
	}
	if v := vector.Of(change(7, 1), change(-1, 1)); len(vector.Lacking(v, []api.Change{change(7, 1), change(-1, 1)})) != 2 {
		t.Error("P8.1: a vector has changes of no replica")
	}
}

// P8.1: Next, up to the last Seq.
func TestNext(t *testing.T) {
	v := [4]int{0, 5, 65534, 65535}
	want := map[int]api.Id{0: id(0, 1), 1: id(1, 6), 2: id(2, 65535), 3: {}, -1: {}, 4: {}, math.MaxInt: {}, math.MinInt: {}}
	for r, a := range want {
		if got := vector.Next(v, r); got != a {
			t.Errorf("P8.1: Next(%v, %d) = %v; want %v", v, r, got, a)
		}
	}
	if got := vector.Next([4]int{math.MaxInt, 65536, 0, 0}, 0); got != (api.Id{}) {
		t.Errorf("P8.1: Next after the greatest number = %v", got)
	}
	if got := vector.Next([4]int{math.MaxInt, 65536, 0, 0}, 1); got != (api.Id{}) {
		t.Errorf("P8.1: Next after 65536 = %v", got)
	}
}
