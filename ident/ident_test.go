package ident_test

import (
	"math"
	"testing"

	"countermand/api"
	"countermand/ident"
)

func id(replica, seq int) api.Id { return api.Id{Replica: replica, Seq: seq} }

// P6.1: the bounds of valid Ids and Keys.
func TestMay(t *testing.T) {
	for _, r := range []int{math.MinInt, -1, 0, 1, 3, 4, 9, math.MaxInt} {
		for _, s := range []int{math.MinInt, -1, 0, 1, 2, 65535, 65536, math.MaxInt} {
			a := api.Id{Replica: r, Seq: s}
			want := r >= 0 && r <= 3 && s >= 1 && s <= 65535
			if ident.May(a) != want {
				t.Errorf("P6.1: May(%v) = %v", a, !want)
			}
			for _, o := range []int{math.MinInt, -1, 0, 1, 255, 256, math.MaxInt} {
				for _, undo := range []bool{false, true} {
					k := api.Key{Id: a, Ord: o, Undo: undo}
					wantKey := want && o >= 1 && o <= 255
					if ident.MayKey(k) != wantKey {
						t.Errorf("P6.1: MayKey(%v) = %v", k, !wantKey)
					}
				}
			}
		}
	}
}

// P6.1, P6.2: a list in ascending order; every two different Ids are ordered as their places are.
func TestLess(t *testing.T) {
	l := []api.Id{id(0, math.MinInt), id(5, -2), id(-1, 0), id(0, 0), id(3, 0), id(0, 1), id(1, 1), id(2, 1), id(3, 1), id(math.MaxInt, 1), id(0, 2), id(3, 2), id(0, 10), id(2, 10), id(1, 65535), id(math.MinInt, math.MaxInt), id(0, math.MaxInt)}
	for i, a := range l {
		for j, b := range l {
			if ident.Less(a, b) != (i < j) {
				t.Errorf("P6.1: Less(%v, %v) = %v", a, b, i >= j)
			}
		}
	}
}

// P6.1, P6.2: the same for Keys.
func TestLessKey(t *testing.T) {
	var l []api.Key
	for _, a := range []api.Id{id(0, 1), id(2, 1), id(0, 2), id(1, 2)} {
		for _, o := range []int{-3, 0, 1, 2, 255} {
			l = append(l, api.Key{Id: a, Ord: o}, api.Key{Id: a, Ord: o, Undo: true})
		}
	}
	for i, a := range l {
		for j, b := range l {
			if ident.LessKey(a, b) != (i < j) {
				t.Errorf("P6.1: LessKey(%v, %v) = %v", a, b, i >= j)
			}
		}
	}
}

// P6.1: texts.
func TestText(t *testing.T) {
	for want, a := range map[string]api.Id{"0.0": id(0, 0), "2.17": id(2, 17), "-1.-5": id(-1, -5), "3.65535": id(3, 65535), "10.100": id(10, 100)} {
		if got := ident.Text(a); got != want {
			t.Errorf("P6.1: Text(%v) = %q", a, got)
		}
		if got := ident.TextKey(api.Key{Id: a, Ord: 12}); got != want+"/12" {
			t.Errorf("P6.1: TextKey = %q", got)
		}
		if got := ident.TextKey(api.Key{Id: a, Ord: -12, Undo: true}); got != want+"/-12-" {
			t.Errorf("P6.1: TextKey with Undo = %q", got)
		}
	}
}

// P6.1, P6.2: texts of valid Ids are parsed unchanged.
func TestParse(t *testing.T) {
	for r := range 4 {
		for _, s := range []int{1, 2, 9, 10, 11, 99, 100, 255, 256, 9999, 10000, 65534, 65535} {
			a := api.Id{Replica: r, Seq: s}
			if got, ok := ident.Parse(ident.Text(a)); got != a || !ok {
				t.Errorf("P6.2: Parse(%q) = %v, %v", ident.Text(a), got, ok)
			}
		}
	}
}

// P6.1, P5: everything else is rejected.
func TestParseRejects(t *testing.T) {
	wrong := []string{"", ".", "0", "1", "0.", ".1", "0.0", "4.1", "-1.1", "0.-1", "0.65536", "0.65537", "00.1", "01.1", "0.01", "+1.1", "1.+1", " 1.1", "1.1 ", "1 .1", "1. 1",
		"1.1.", "1.1.1", "..", "1..1", "1,1", "a.b", "1.1\n", "1.1\x00", "0x1.1", "1.0x1", "1_0.1", "1.1_0", "0.99999999999999999999", "0.18446744073709551617", "-0.1", "1.1/1", "\u0661.1", "1.1e1", "99999999999999999999.1"}
	for _, s := range wrong {
		if got, ok := ident.Parse(s); ok || got != (api.Id{}) {
			t.Errorf("P6.1: Parse(%q) = %v, %v", s, got, ok)
		}
	}
}

// P6.1: Other changes Undo only, and twice is not at all.
func TestOther(t *testing.T) {
	k := api.Key{Id: api.Id{Replica: 3, Seq: 8}, Ord: 4}
	if got := ident.Other(k); got != (api.Key{Id: k.Id, Ord: 4, Undo: true}) || ident.Other(got) != k {
		t.Error("P6.1: Other", got)
	}
}
