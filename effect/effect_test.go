package effect_test

import (
	"bytes"
	"math"
	"slices"
	"testing"

	"countermand/api"
	"countermand/effect"
)

var whole = api.Effect{Kind: 7, A: 8, N: 0x0a0b0c0d0e0f1011, Ref: api.Id{Replica: 0x12, Seq: 0x1314}}

// P10.1: the Kinds of deferred effects.
func TestLater(t *testing.T) {
	for _, k := range []int{math.MinInt, -7, -1, 0, 1, 2, 3, 4, 5, 6, 7, 8, 9, 10, 11, 12, 18, math.MaxInt} {
		if want := k >= 7 && k <= 11; effect.Later(api.Effect{Kind: k}) != want {
			t.Errorf("P10.1: Later of Kind %d = %v", k, !want)
		}
	}
}

func checkOne(t *testing.T, e api.Effect, want api.Errno) {
	t.Helper()
	if got := effect.Check(e); got != want {
		t.Errorf("P10.1: Check(%v) = %d; want %d", e, got, want)
	}
	b, err := effect.Put(e)
	if err != want || (want == api.OK) != (len(b) == 13) || want != api.OK && len(b) != 0 {
		t.Errorf("P10.1: Put(%v): %d bytes, %d; want %d", e, len(b), err, want)
	}
	if want == api.OK {
		if got, err := effect.Get(b); got != e || err != api.OK {
			t.Errorf("P10.1: %v is decoded as %v, %d", e, got, err)
		}
	}
}

// P10.1: the bounds of every field; ErrKind comes first.
func TestCheck(t *testing.T) {
	for k := 1; k <= 11; k++ {
		checkOne(t, api.Effect{Kind: k}, api.OK)
	}
	for _, k := range []int{0, -1, 12, 255, 256 + 3, math.MaxInt, math.MinInt} {
		e := whole
		e.Kind = k
		checkOne(t, e, api.ErrKind)
		e.A = 256
		checkOne(t, e, api.ErrKind)
	}
	for n, want := range map[int]api.Errno{0: api.OK, 255: api.OK, -1: api.ErrRange, 256: api.ErrRange, math.MaxInt: api.ErrRange, math.MinInt: api.ErrRange} {
		e := whole
		e.A = n
		checkOne(t, e, want)
		e = whole
		e.Ref.Replica = n
		checkOne(t, e, want)
	}
	for n, want := range map[int]api.Errno{0: api.OK, 65535: api.OK, -1: api.ErrRange, 65536: api.ErrRange, math.MaxInt: api.ErrRange, math.MinInt: api.ErrRange} {
		e := whole
		e.Ref.Seq = n
		checkOne(t, e, want)
	}
	for _, n := range []int64{0, -1, math.MaxInt64, math.MinInt64} {
		e := whole
		e.N = n
		checkOne(t, e, api.OK)
	}
}

// P10.1: the encoding, byte by byte, and what Get rejects.
func TestBytes(t *testing.T) {
	want := []byte{7, 8, 10, 11, 12, 13, 14, 15, 16, 17, 0x12, 0x13, 0x14}
	got, err := effect.Put(whole)
	if err != api.OK || !bytes.Equal(got, want) {
		t.Errorf("P10.1: Put = %v, %d", got, err)
	}
	minus, _ := effect.Put(api.Effect{Kind: 1, N: -2})
	if !bytes.Equal(minus, []byte{1, 0, 255, 255, 255, 255, 255, 255, 255, 254, 0, 0, 0}) {
		t.Errorf("P10.1: Put of a negative N = %v", minus)
	}
	wrong := [][]byte{nil, append(bytes.Clone(want), 0)}
	for i := range want {
		wrong = append(wrong, want[:i])
	}
	for _, k := range []byte{0, 12, 255} {
		b := bytes.Clone(want)
		b[0] = k
		wrong = append(wrong, b)
	}
	for _, b := range wrong {
		if e, err := effect.Get(b); err != api.ErrSyntax || e != (api.Effect{}) {
			t.Errorf("P10.1: Get(%v) = %v, %d", b, e, err)
		}
	}
}

func of(kinds ...int) []api.Effect {
	var l []api.Effect
	for i, k := range kinds {
		l = append(l, api.Effect{Kind: k, A: i, N: int64(i) + 100})
	}
	return l
}

func pick(l []api.Effect, at ...int) []api.Effect {
	var out []api.Effect
	for _, i := range at {
		out = append(out, l[i])
	}
	return out
}

// P10.1, P10.2: immediate effects first, then, if final, the deferred ones.
func TestWant(t *testing.T) {
	l := of(7, 1, 12, 9, 6, 0, 11, 5, -3, 8, 4, 10, 2, 3, 7)
	saved := slices.Clone(l)
	now := pick(l, 1, 4, 7, 10, 12, 13)
	all := append(slices.Clone(now), pick(l, 0, 3, 6, 9, 11, 14)...)
	if got := effect.Want(api.Outcome{Effects: l}, false); !slices.Equal(got, now) {
		t.Errorf("P10.1: Want, not final = %v", got)
	}
	got := effect.Want(api.Outcome{Effects: l}, true)
	if !slices.Equal(got, all) {
		t.Errorf("P10.1: Want, final = %v", got)
	}
	got[0].A = 77
	if !slices.Equal(l, saved) {
		t.Error("P2: Want changed or keeps its argument")
	}
	for _, good := range []bool{false, true} {
		if got := effect.Want(api.Outcome{Code: api.ErrShort, Effects: l}, good); len(got) != 0 {
			t.Errorf("P10.1: Want of an error = %v", got)
		}
		if got := effect.Want(api.Outcome{}, good); len(got) != 0 {
			t.Errorf("P10.1: Want of nothing = %v", got)
		}
	}
	if got := effect.Want(api.Outcome{Effects: of(7, 8)}, false); len(got) != 0 {
		t.Errorf("P10.1: Want of deferred effects, not final = %v", got)
	}
	if got := effect.Want(api.Outcome{Effects: of(7, 1)}, true); len(got) != 2 || got[0].Kind != 1 || got[1].Kind != 7 {
		t.Errorf("P10.1: the example of Want = %v", got)
	}
}

// P10.2: what is wanted before is a prefix of what is wanted when final.
func TestWantPrefix(t *testing.T) {
	for a := range 14 {
		for b := range 14 {
			o := api.Outcome{Effects: of(a, b, 3, 8, a)}
			some, all := effect.Want(o, false), effect.Want(o, true)
			if len(some) > len(all) || !slices.Equal(some, all[:len(some)]) {
				t.Errorf("P10.2: %v is no prefix of %v", some, all)
			}
		}
	}
}

// P10.1: Common, with differences in every field.
func TestCommon(t *testing.T) {
	l := of(1, 2, 3)
	if effect.Common(l, l) != 3 || effect.Common(l, l[:2]) != 2 || effect.Common(l[:1], l) != 1 || effect.Common(nil, l) != 0 || effect.Common(l, nil) != 0 || effect.Common(nil, nil) != 0 {
		t.Error("P10.1: Common of prefixes")
	}
	for i := range l {
		for _, set := range []func(e *api.Effect){func(e *api.Effect) { e.Kind = 9 }, func(e *api.Effect) { e.A = 9 }, func(e *api.Effect) { e.N = 9 }, func(e *api.Effect) { e.Ref.Replica = 9 }, func(e *api.Effect) { e.Ref.Seq = 9 }} {
			other := slices.Clone(l)
			set(&other[i])
			if got := effect.Common(l, other); got != i {
				t.Errorf("P10.1: Common(%v, %v) = %d", l, other, got)
			}
		}
	}
	if got := effect.Common(of(1, 2, 3), of(1, 4, 3)); got != 1 {
		t.Errorf("P10.1: Common goes on after a difference: %d", got)
	}
}

// P10.1: texts.
func TestText(t *testing.T) {
	for i, w := range []string{"?", "reserve", "adjust", "release", "authorize", "label", "pick", "mail", "receipt", "capture", "repay", "dispatch", "?"} {
		if got := effect.Text(api.Effect{Kind: i, A: 3, N: -12}); got != w+" 3 -12" {
			t.Errorf("P10.1: Text of Kind %d = %q", i, got)
		}
		if got := effect.Text(api.Effect{Kind: i, A: -3, N: 12, Ref: api.Id{Replica: 2, Seq: 17}}); got != w+" -3 12 2.17" {
			t.Errorf("P10.1: Text of Kind %d with Ref = %q", i, got)
		}
	}
	cases := map[string]api.Effect{"? 0 0": {}, "? 0 0 0.-1": {Kind: -1, Ref: api.Id{Seq: -1}}, "mail 1 -9223372036854775808 1.0": {Kind: 7, A: 1, N: math.MinInt64, Ref: api.Id{Replica: 1}}, "? 1 2": {Kind: math.MaxInt, A: 1, N: 2}}
	for want, e := range cases {
		if got := effect.Text(e); got != want {
			t.Errorf("P10.1: Text(%v) = %q; want %q", e, got, want)
		}
	}
}
