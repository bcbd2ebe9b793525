package gate_test

import (
	"math"
	"slices"
	"testing"

	"countermand/api"
	"countermand/gate"
)

func request(seq, ord int, undo bool, n int64) api.Request {
	return api.Request{Key: api.Key{Id: api.Id{Replica: 1, Seq: seq}, Ord: ord, Undo: undo}, What: api.Effect{Kind: 1, N: n}}
}

// P30.1: a new gateway.
func TestNew(t *testing.T) {
	g := new(gate.Gate)
	if g.Refusing() != 0 || len(g.Applied()) != 0 || len(g.Net()) != 0 || g.Has(api.Key{}) {
		t.Error("P30.1: the zero value")
	}
	if !g.Do(api.Request{}) || !g.Has(api.Key{}) || len(g.Applied()) != 1 {
		t.Error("P30.1: Do of the zero request")
	}
}

// P30.1, P30.2: no key is applied twice, also with another effect.
func TestDo(t *testing.T) {
	g := new(gate.Gate)
	l := []api.Request{request(1, 1, false, 5), request(1, 2, false, 6), request(2, 1, false, 7), request(1, 2, true, 6), request(1, 1, true, 9)}
	for i, q := range l {
		if g.Has(q.Key) || !g.Do(q) || !g.Has(q.Key) {
			t.Errorf("P30.1: Do of %v", q)
		}
		if !slices.Equal(g.Applied(), l[:i+1]) {
			t.Error("P30.1: Applied", g.Applied())
		}
	}
	for _, q := range l {
		q.What.N = 99
		if !g.Do(q) {
			t.Errorf("P30.1: Do of %v again", q)
		}
	}
	if !slices.Equal(g.Applied(), l) {
		t.Error("P30.2: a key is applied twice", g.Applied())
	}
}

// P30.1: refusing counts new requests only.
func TestRefuse(t *testing.T) {
	g := new(gate.Gate)
	a, b, c := request(1, 1, false, 1), request(1, 2, false, 2), request(1, 3, false, 3)
	g.Do(a)
	g.Refuse(2)
	if g.Refusing() != 2 || !g.Do(a) || g.Refusing() != 2 {
		t.Error("P30.1: a known request is refused or counts")
	}
	if g.Do(b) || g.Refusing() != 1 || g.Has(b.Key) || g.Do(c) || g.Refusing() != 0 || len(g.Applied()) != 1 {
		t.Error("P30.1: new requests are not refused")
	}
	if !g.Do(b) || !g.Do(c) || g.Refusing() != 0 {
		t.Error("P30.1: too many requests are refused")
	}
	g.Refuse(1)
	d := request(4, 1, false, 1)
	if g.Do(d) || !g.Do(d) {
		t.Error("P30.1: the example")
	}
}

// P30.1: the limits of Refuse; it sets, and does not add.
func TestRefuseLimits(t *testing.T) {
	g := new(gate.Gate)
	for _, c := range [][2]int{{5, 5}, {3, 3}, {255, 255}, {256, 255}, {math.MaxInt, 255}, {0, 0}, {7, 7}, {-1, 0}, {math.MinInt, 0}} {
		g.Refuse(c[0])
		if g.Refusing() != c[1] {
			t.Errorf("P30.1: Refuse(%d): %d", c[0], g.Refusing())
		}
	}
}

// P30.1: the net.
func TestNet(t *testing.T) {
	g := new(gate.Gate)
	a, b, c, d := request(1, 1, false, 1), request(1, 2, false, 2), request(2, 2, false, 3), request(3, 1, false, 4)
	undo := func(q api.Request) api.Request { q.Key.Undo = true; return q }
	for _, q := range []api.Request{d, a, undo(c), b, undo(b), request(1, 3, false, 5)} {
		g.Do(q)
	}
	if want := []api.Request{d, a, request(1, 3, false, 5)}; !slices.Equal(g.Net(), want) {
		t.Errorf("P30.1: Net = %v; want %v", g.Net(), want)
	}
	g.Do(c)
	if want := []api.Request{d, a, request(1, 3, false, 5)}; !slices.Equal(g.Net(), want) {
		t.Errorf("P30.1: Net with an undoing before = %v", g.Net())
	}
	if len(g.Applied()) != 7 {
		t.Error("P30.1: Net changes what is applied")
	}
}

// P30.1, P2: clones and lists are independent.
func TestMemory(t *testing.T) {
	g := new(gate.Gate)
	a, b, c := request(1, 1, false, 1), request(1, 2, false, 2), request(1, 3, false, 3)
	g.Do(a)
	g.Refuse(1)
	x := g.Clone()
	if x.Refusing() != 1 || !slices.Equal(x.Applied(), g.Applied()) || !x.Has(a.Key) {
		t.Error("P30.1: Clone")
	}
	x.Do(b)
	x.Do(b)
	if g.Has(b.Key) || g.Refusing() != 1 || len(g.Applied()) != 1 {
		t.Error("P2: Clone shares memory")
	}
	g.Do(c)
	g.Do(c)
	if x.Has(c.Key) || len(x.Applied()) != 2 || x.Applied()[1] != b {
		t.Error("P2: Clone shares memory with the original")
	}
	x.Applied()[0].What.N = 99
	x.Net()[0].What.N = 99
	_ = append(x.Applied()[:1], c)
	if !slices.Equal(x.Applied(), []api.Request{a, b}) {
		t.Error("P2: lists share memory")
	}
}

// P30.1, P1: a nil Gate.
func TestNil(t *testing.T) {
	var g *gate.Gate
	g.Refuse(3)
	if g.Do(request(1, 1, false, 1)) || g.Has(api.Key{}) || len(g.Applied()) != 0 || len(g.Net()) != 0 || g.Refusing() != 0 || g.Clone() != nil {
		t.Error("P30.1: a nil Gate does something")
	}
	if x := new(gate.Gate).Clone(); x == nil || !x.Do(request(1, 1, false, 1)) {
		t.Error("P30.1: Clone of the zero value")
	}
}
