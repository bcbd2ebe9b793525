package code_test

import (
	"bytes"
	"math"
	"slices"
	"testing"

	"countermand/api"
	"countermand/code"
)

// has are the fields of each kind: r, i, n and c.
var has = []string{1: "rc", 2: "r", 3: "ri", 4: "n", 5: "r", 6: "n", 7: "i", 8: "i", 9: "i", 10: "in", 11: "n", 12: "r", 13: "r", 14: "rn", 15: "r"}

var someC = api.Change{Kind: 4, A: 5, B: 6, N: 0x0708090a0b0c0d0e, Ref: api.Id{Replica: 15, Seq: 0x1011}}

// full is a step of a kind with all fields that it has.
func full(kind int) api.Step {
	x := api.Step{Kind: kind}
	for _, f := range has[kind] {
		switch f {
		case 'r':
			x.R = 1
		case 'i':
			x.I = 2
		case 'n':
			x.N = 0x01020304
		case 'c':
			x.C = someC
		}
	}
	return x
}

func good(t *testing.T, x api.Step) []byte {
	t.Helper()
	b, e := code.Put(x)
	if code.Check(x) != api.OK || e != api.OK || len(b) != 21 {
		t.Errorf("P31.1: Put(%v): %d bytes, %d", x, len(b), e)
	}
	if got, e := code.Read(b); e != api.OK || got != x {
		t.Errorf("P31.2: %v is decoded as %v, %d", x, got, e)
	}
	return b
}

func bad(t *testing.T, x api.Step, want api.Errno) {
	t.Helper()
	if e := code.Check(x); e != want {
		t.Errorf("P31.1: Check(%v) = %d; want %d", x, e, want)
	}
	if b, e := code.Put(x); e != want || len(b) != 0 {
		t.Errorf("P31.1: Put(%v): %d bytes, %d; want %d", x, len(b), e, want)
	}
}

// P31.1, P31.2: the encoding of every kind, byte by byte.
func TestPut(t *testing.T) {
	for kind := 1; kind <= 15; kind++ {
		x := full(kind)
		want := make([]byte, 21)
		want[0], want[1], want[2] = byte(kind), byte(x.R), byte(x.I)
		if x.N != 0 {
			copy(want[3:], []byte{1, 2, 3, 4})
		}
		if kind == 1 {
			copy(want[7:], []byte{4, 5, 6, 7, 8, 9, 10, 11, 12, 13, 14, 15, 16, 17})
		}
		if got := good(t, x); !bytes.Equal(got, want) {
			t.Errorf("P31.1: Put(%v) = %v; want %v", x, got, want)
		}
		good(t, api.Step{Kind: kind})
	}
	x := full(1)
	x.C.N = -2
	if b := good(t, x); !bytes.Equal(b[10:18], []byte{255, 255, 255, 255, 255, 255, 255, 254}) {
		t.Error("P31.1: Put of a negative number", b)
	}
	if b := good(t, api.Step{Kind: 2, R: 2}); !bytes.Equal(b, append([]byte{2, 2}, make([]byte, 19)...)) {
		t.Error("P31.1: the example", b)
	}
}

// P31.1: the fields that each kind has, and no others.
func TestFields(t *testing.T) {
	sets := map[rune]func(x *api.Step){'r': func(x *api.Step) { x.R = 7 }, 'i': func(x *api.Step) { x.I = 7 }, 'n': func(x *api.Step) { x.N = 7 }, 'c': func(x *api.Step) { x.C.Kind = 7 }}
	more := []func(x *api.Step){func(x *api.Step) { x.C.A = 1 }, func(x *api.Step) { x.C.B = 1 }, func(x *api.Step) { x.C.N = -1 }, func(x *api.Step) { x.C.Ref.Replica = 1 }, func(x *api.Step) { x.C.Ref.Seq = 1 }}
	for kind := 1; kind <= 15; kind++ {
		for f, set := range sets {
			x := full(kind)
			set(&x)
			if slices.Contains([]rune(has[kind]), f) {
				good(t, x)
			} else {
				bad(t, x, api.ErrSyntax)
			}
		}
		for _, set := range more {
			x := full(kind)
			set(&x)
			if kind == 1 {
				good(t, x)
			} else {
				bad(t, x, api.ErrSyntax)
			}
		}
		for _, set := range []func(x *api.Step){func(x *api.Step) { x.C.Id.Seq = 1 }, func(x *api.Step) { x.C.Id.Replica = -1 }, func(x *api.Step) { x.C.Time = 1 }} {
			x := full(kind)
			set(&x)
			bad(t, x, api.ErrSyntax)
		}
	}
}

// P31.1: kinds that there are not; this error comes first.
func TestKind(t *testing.T) {
	for _, k := range []int{0, 16, -1, 255, 257, math.MaxInt, math.MinInt} {
		bad(t, api.Step{Kind: k}, api.ErrKind)
		bad(t, api.Step{Kind: k, R: -1, I: 300, N: -1}, api.ErrKind)
	}
}

// P31.1: ranges; this error comes before that of another field.
func TestRange(t *testing.T) {
	sets := []struct {
		set func(x *api.Step, n int)
		hi  int
		of  string
	}{
		{func(x *api.Step, n int) { x.R = n }, 255, "r"}, {func(x *api.Step, n int) { x.I = n }, 255, "i"}, {func(x *api.Step, n int) { x.N = n }, math.MaxInt32, "n"},
		{func(x *api.Step, n int) { x.C.Kind = n }, 255, "c"}, {func(x *api.Step, n int) { x.C.A = n }, 255, "c"}, {func(x *api.Step, n int) { x.C.B = n }, 255, "c"}, {func(x *api.Step, n int) { x.C.Ref.Replica = n }, 255, "c"}, {func(x *api.Step, n int) { x.C.Ref.Seq = n }, 65535, "c"},
	}
	for kind := 1; kind <= 15; kind++ {
		for _, s := range sets {
			for _, n := range []int{-1, s.hi + 1, math.MaxInt, math.MinInt} {
				x := full(kind)
				s.set(&x, n)
				bad(t, x, api.ErrRange)
				x.C.Time = 1
				bad(t, x, api.ErrRange)
			}
			x := full(kind)
			s.set(&x, s.hi)
			if slices.Contains([]rune(has[kind]), rune(s.of[0])) {
				good(t, x)
			} else {
				bad(t, x, api.ErrSyntax)
			}
		}
	}
	for _, n := range []int64{math.MaxInt64, math.MinInt64, -1} {
		x := full(1)
		x.C.N = n
		good(t, x)
	}
}

// P31.1: what Read rejects, and with which error.
func TestReadRejects(t *testing.T) {
	b := good(t, full(1))
	edit := func(at int, x byte) []byte {
		c := bytes.Clone(b)
		c[at] = x
		return c
	}
	sync := good(t, full(2))
	other := bytes.Clone(sync)
	other[20] = 1
	cases := []struct {
		b    []byte
		want api.Errno
	}{
		{nil, api.ErrSyntax}, {b[:20], api.ErrSyntax}, {append(bytes.Clone(b), 0), api.ErrSyntax}, {[]byte{0}, api.ErrSyntax}, {make([]byte, 42), api.ErrSyntax},
		{make([]byte, 21), api.ErrKind}, {edit(0, 16), api.ErrKind}, {edit(0, 255), api.ErrKind}, {edit(3, 0x80), api.ErrRange}, {edit(2, 1), api.ErrSyntax}, {edit(6, 1), api.ErrSyntax}, {edit(0, 2), api.ErrSyntax}, {other, api.ErrSyntax},
	}
	for _, c := range cases {
		if x, e := code.Read(c.b); e != c.want || x != (api.Step{}) {
			t.Errorf("P31.1: Read(%v) = %v, %d; want %d", c.b, x, e, c.want)
		}
	}
}

// P31.2: whatever is decoded is encoded as the same bytes.
func TestBytes(t *testing.T) {
	for kind := 1; kind <= 15; kind++ {
		b := good(t, full(kind))
		for i := range b {
			for x := range 256 {
				c := bytes.Clone(b)
				c[i] = byte(x)
				if got, e := code.Read(c); e == api.OK {
					if again, _ := code.Put(got); !bytes.Equal(again, c) {
						t.Fatalf("P31.2: %v is decoded as %v", c, got)
					}
				}
			}
		}
	}
}

func list(n int) []api.Step {
	var l []api.Step
	for i := range n {
		l = append(l, full(1+i%15))
	}
	return l
}

// P31.1, P31.2: lists.
func TestLists(t *testing.T) {
	for _, n := range []int{0, 1, 2, 255, 256} {
		l := list(n)
		var want []byte
		for _, x := range l {
			want = append(want, good(t, x)...)
		}
		b, e := code.All(l)
		if e != api.OK || !bytes.Equal(b, want) {
			t.Errorf("P31.1: All of %d steps: %d", n, e)
		}
		if got, e := code.Steps(b); e != api.OK || !slices.Equal(got, l) {
			t.Errorf("P31.2: Steps of %d steps: %d", n, e)
		}
	}
}

// P31.1: the errors of lists, in order.
func TestListErrors(t *testing.T) {
	l := list(257)
	l[0] = api.Step{}
	if b, e := code.All(l); e != api.ErrCount || len(b) != 0 {
		t.Error("P31.1: All of 257 steps", e)
	}
	l = list(9)
	l[4], l[7] = api.Step{Kind: 2, R: -1}, api.Step{}
	if b, e := code.All(l); e != api.ErrRange || len(b) != 0 {
		t.Error("P31.1: All with wrong steps", e)
	}
	l[4] = api.Step{Kind: 2, I: 1}
	if _, e := code.All(l); e != api.ErrSyntax {
		t.Error("P31.1: All with another wrong step", e)
	}
	cases := map[int]api.Errno{256*21 + 1: api.ErrSyntax, 257*21 - 1: api.ErrSyntax, 257 * 21: api.ErrCount, 300*21 + 5: api.ErrSyntax, 20: api.ErrSyntax, 21: api.ErrKind}
	for n, want := range cases {
		if got, e := code.Steps(make([]byte, n)); e != want || len(got) != 0 {
			t.Errorf("P31.1: Steps of %d bytes: %d; want %d", n, e, want)
		}
	}
	b, _ := code.All(list(9))
	b[4*21+3], b[7*21] = 0x80, 0
	if got, e := code.Steps(b); e != api.ErrRange || len(got) != 0 {
		t.Error("P31.1: Steps with wrong steps", e)
	}
	b, _ = code.All(list(9))
	b[8*21] = 99
	if got, e := code.Steps(b); e != api.ErrKind || len(got) != 0 {
		t.Error("P31.1: Steps with a wrong last step", e)
	}
}

// P31.1, P31.2: answers.
func TestAnswers(t *testing.T) {
	a := api.Answer{Code: 19, N: 0x01020304, M: 5}
	if b, e := code.Tell(a); e != api.OK || !bytes.Equal(b, []byte{19, 1, 2, 3, 4, 5}) {
		t.Error("P31.1: Tell", b, e)
	}
	for _, a := range []api.Answer{{}, a, {Code: 255, N: math.MaxInt32, M: 255}} {
		b, e := code.Tell(a)
		if got, f := code.Told(b); e != api.OK || f != api.OK || got != a {
			t.Errorf("P31.2: %v is decoded as %v", a, got)
		}
	}
	for _, n := range []int{-1, math.MaxInt, math.MinInt} {
		for _, a := range []api.Answer{{Code: api.Errno(n)}, {N: n}, {M: n}} {
			if b, e := code.Tell(a); e != api.ErrRange || len(b) != 0 {
				t.Errorf("P31.1: Tell(%v): %d", a, e)
			}
		}
	}
	for _, a := range []api.Answer{{Code: 256}, {N: 1 << 31}, {M: 256}} {
		if b, e := code.Tell(a); e != api.ErrRange || len(b) != 0 {
			t.Errorf("P31.1: Tell(%v): %d", a, e)
		}
	}
	for _, b := range [][]byte{nil, {0}, make([]byte, 5), make([]byte, 7), make([]byte, 12), {0, 0x80, 0, 0, 0, 0}, {1, 255, 255, 255, 255, 1}} {
		if a, e := code.Told(b); e != api.ErrSyntax || a != (api.Answer{}) {
			t.Errorf("P31.1: Told(%v) = %v, %d", b, a, e)
		}
	}
}
