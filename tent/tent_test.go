package tent_test

import (
	"math"
	"slices"
	"testing"

	"countermand/api"
	"countermand/stamp"
	"countermand/tent"
)

func id(replica, seq int) api.Id { return api.Id{Replica: replica, Seq: seq} }

func change(replica, seq, time int) api.Change {
	return api.Change{Id: id(replica, seq), Time: time, Kind: 1, N: int64(100*replica + seq)}
}

func of(l ...api.Change) *tent.Tent {
	t := new(tent.Tent)
	for _, c := range l {
		t.Put(c)
	}
	return t
}

func check(t *testing.T, name string, x *tent.Tent, want ...api.Change) {
	t.Helper()
	if !slices.Equal(x.All(), want) || x.Len() != len(want) {
		t.Errorf("P18.1: %s: %v; want %v", name, x.All(), want)
	}
	c, ok := x.First()
	if ok != (len(want) > 0) || ok && c != want[0] || !ok && c != (api.Change{}) {
		t.Errorf("P18.1: %s: First = %v, %v", name, c, ok)
	}
}

// P18.1: Put sorts, and refuses a known Id.
func TestPut(t *testing.T) {
	l := []api.Change{change(0, 1, 5), change(1, 1, 3), change(2, 1, 5), change(1, 2, 9), change(0, 2, 6), change(3, 7, 1)}
	x := new(tent.Tent)
	check(t, "zero value", x)
	for i, c := range l {
		if !x.Put(c) {
			t.Errorf("P18.1: Put of %v", c)
		}
		check(t, "Put", x, stamp.Sorted(l[:i+1]...)...)
	}
	for _, c := range l {
		c.Time, c.N = 4, 77
		if x.Put(c) {
			t.Errorf("P18.1: Put of %v again", c.Id)
		}
	}
	check(t, "Put again", x, stamp.Sorted(l...)...)
}

// P18.1: equal stamps stay in the order of Put; Put accepts whatever has a new Id.
func TestPutAny(t *testing.T) {
	x := of(change(9, -1, -5), change(0, 0, 0))
	check(t, "odd changes", x, change(9, -1, -5), change(0, 0, 0))
}

// P18.1: Free looks at smaller Seqs of the same replica only.
func TestFree(t *testing.T) {
	x := of(change(0, 2, 5), change(0, 1, 9), change(1, 3, 1), change(0, 7, 2), change(2, 5, 4))
	want := map[api.Id]bool{id(0, 1): true, id(0, 2): false, id(0, 7): false, id(1, 3): true, id(2, 5): true, id(1, 1): false, id(1, 4): false, id(3, 1): false, id(0, 0): false, {}: false}
	for a, w := range want {
		if x.Free(a) != w {
			t.Errorf("P18.1: Free(%v) = %v", a, !w)
		}
	}
	if y := of(change(0, 1, 1), change(0, 2, 2)); !y.Free(id(0, 1)) || y.Free(id(0, 2)) {
		t.Error("P18.1: the example")
	}
}

// P18.1: Take removes a free change, and only that.
func TestTake(t *testing.T) {
	a, b, c, d := change(0, 1, 4), change(0, 2, 6), change(1, 1, 5), change(2, 9, 1)
	x := of(a, b, c, d)
	for _, i := range []api.Id{id(0, 2), id(0, 3), id(3, 1), {}} {
		if got, ok := x.Take(i); ok || got != (api.Change{}) {
			t.Errorf("P18.1: Take(%v) = %v, %v", i, got, ok)
		}
	}
	check(t, "Take of none", x, d, a, c, b)
	for _, step := range []struct {
		take api.Change
		rest []api.Change
	}{{c, []api.Change{d, a, b}}, {a, []api.Change{d, b}}, {b, []api.Change{d}}, {d, nil}} {
		if got, ok := x.Take(step.take.Id); !ok || got != step.take {
			t.Errorf("P18.1: Take(%v) = %v, %v", step.take.Id, got, ok)
		}
		check(t, "Take", x, step.rest...)
		if _, ok := x.Take(step.take.Id); ok {
			t.Errorf("P18.1: Take(%v) twice", step.take.Id)
		}
	}
	if !x.Put(c) {
		t.Error("P18.1: Put after Take")
	}
}

// P18.1, P2: clones and lists are independent.
func TestClone(t *testing.T) {
	a, b, c := change(0, 1, 4), change(0, 2, 6), change(1, 1, 5)
	x := of(a, b)
	y := x.Clone()
	check(t, "Clone", y, a, b)
	y.Put(c)
	check(t, "Put into a clone", x, a, b)
	x.Take(a.Id)
	check(t, "Take from the original", y, a, c, b)
	l := y.All()
	l[0].N = -1
	_ = append(l, c)
	check(t, "changed list", y, a, c, b)
	if z := new(tent.Tent).Clone(); z == nil || z.Len() != 0 || !z.Put(a) {
		t.Error("P18.1: Clone of the zero value")
	}
}

// P18.1, P1: a nil Tent.
func TestNil(t *testing.T) {
	var x *tent.Tent
	if x.Put(change(0, 1, 1)) || x.Free(id(0, 1)) || x.Len() != 0 || len(x.All()) != 0 || x.Clone() != nil {
		t.Error("P18.1: a nil Tent does something")
	}
	if c, ok := x.Take(id(0, 1)); ok || c != (api.Change{}) {
		t.Error("P18.1: Take from nil")
	}
	if c, ok := x.First(); ok || c != (api.Change{}) {
		t.Error("P18.1: First of nil")
	}
}

// P18.1: Fits examines Id, Seq and Time.
func TestFits(t *testing.T) {
	known, times := [4]int{0, 5, 65534, 65535}, [4]int{0, 10, api.MaxTime, -7}
	cases := []struct {
		c    api.Change
		want bool
	}{
		{change(0, 1, 1), true}, {change(0, 1, api.MaxTime), true}, {change(0, 1, 0), false}, {change(0, 1, -1), false}, {change(0, 1, api.MaxTime+1), false}, {change(0, 2, 1), false}, {change(0, 0, 1), false},
		{change(1, 6, 11), true}, {change(1, 6, 10), false}, {change(1, 6, 9), false}, {change(1, 5, 11), false}, {change(1, 7, 11), false}, {change(1, 1, 11), false},
		{change(2, 65535, api.MaxTime), false}, {change(2, 65535, api.MaxTime+1), false}, {change(3, 65536, 1), false}, {change(3, 0, 1), false},
		{change(-1, 1, 1), false}, {change(4, 1, 1), false}, {change(math.MaxInt, 1, 1), false}, {change(math.MinInt, 1, 1), false}, {api.Change{}, false},
	}
	for _, c := range cases {
		if tent.Fits(known, times, c.c) != c.want {
			t.Errorf("P18.1: Fits(%v) = %v", c.c, !c.want)
		}
	}
	if !tent.Fits([4]int{}, [4]int{-7, 0, 0, 0}, change(0, 1, 1)) || tent.Fits([4]int{}, [4]int{-7, 0, 0, 0}, change(0, 1, 0)) {
		t.Error("P18.1: Fits with a negative last Time")
	}
	if tent.Fits([4]int{-1, 0, 0, 0}, [4]int{}, change(0, 0, 1)) {
		t.Error("P18.1: Fits with an Id that is not valid")
	}
	c := change(0, 1, 1)
	c.Kind, c.A, c.Ref.Seq = -1, 999, -5
	if !tent.Fits([4]int{}, [4]int{}, c) {
		t.Error("P18.1: Fits examines other fields")
	}
}
