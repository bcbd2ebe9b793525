package node_test

import (
	"math"
	"slices"
	"testing"

	"countermand/api"
	"countermand/image"
	"countermand/node"
	"countermand/record"
	"countermand/state"
)

func id(replica, seq int) api.Id { return api.Id{Replica: replica, Seq: seq} }

func config(sectors int) api.Config {
	return api.Config{Replicas: 3, Sectors: sectors, Most: 2, Base: 3, Cap: 10}
}

func wish(kind, a, b int, n int64, ref api.Id) api.Change {
	return api.Change{Kind: kind, A: a, B: b, N: n, Ref: ref}
}

func restock(n int64) api.Change { return wish(1, 3, 0, n, api.Id{}) }

func place(n int64) api.Change { return wish(3, 2, 3, n, api.Id{}) }

func submit(t *testing.T, n *node.Node, c api.Change) api.Change {
	t.Helper()
	made, e := n.Submit(c)
	if e != api.OK {
		t.Fatal("P28.1: Submit", e)
	}
	return made
}

func fine(t *testing.T, name string, e api.Errno) {
	t.Helper()
	if e != api.OK {
		t.Fatalf("P28: %s: %d", name, e)
	}
}

// is reports whether a state is that of these records.
func is(s *state.State, r int, l ...record.Record) bool {
	want, done := state.Fold(r, l...)
	return done == len(l) && s != nil && image.Same(s, want)
}

// P28.1: a new node, with every number of sectors.
func TestNew(t *testing.T) {
	for n, want := range map[int]int{1: 1, 2: 2, 64: 64, 65: 64, math.MaxInt: 64, 0: 1, -1: 1, math.MinInt: 1} {
		x := node.New(config(n), 2)
		if !x.Up() || x.Room() != 32*want || !is(x.State(), 2) || !is(x.Stored(), 2) {
			t.Errorf("P28.1: New with %d sectors: Room %d", n, x.Room())
		}
	}
	for r, want := range map[int]int{-1: 0, 0: 0, 3: 3, 9: 3} {
		x := node.New(config(1), r)
		if x.State().Replica() != want || x.Stored().Replica() != want {
			t.Errorf("P28.1: New of replica %d", r)
		}
	}
}

// P28.1: Submit writes what Make makes.
func TestSubmit(t *testing.T) {
	x := node.New(config(2), 1)
	made := submit(t, x, restock(9))
	want := restock(9)
	want.Id, want.Time = id(1, 1), 1
	if made != want || !is(x.State(), 1, record.Change(want)) || !is(x.Stored(), 1) || x.Room() != 64-30 {
		t.Errorf("P28.1: Submit = %v", made)
	}
	for c, want := range map[api.Change]api.Errno{wish(256, 0, 0, 0, api.Id{}): api.ErrRange, wish(1, -1, 0, 0, api.Id{}): api.ErrRange} {
		if got, e := x.Submit(c); e != want || got != (api.Change{}) {
			t.Errorf("P28.1: Submit(%v) = %v, %d", c, got, e)
		}
	}
	second := submit(t, x, place(4))
	if second.Id != id(1, 2) || second.Time != 2 || x.Room() != 4 {
		t.Error("P28.1: a second Submit", second)
	}
	before := x.State()
	if got, e := x.Submit(place(1)); e != api.ErrFull || got != (api.Change{}) || !image.Same(x.State(), before) || x.Room() != 4 {
		t.Error("P28.1: Submit without space", got, e)
	}
	if _, e := x.Submit(wish(256, 0, 0, 0, api.Id{})); e != api.ErrRange {
		t.Error("P28.1: Submit of a wrong change without space", e)
	}
	if is(x.Stored(), 1, record.Change(want)) {
		t.Error("P28.1: Submit syncs")
	}
}

// P28.1: Take writes up to the first error.
func TestTake(t *testing.T) {
	c := func(r, s, time int) record.Record {
		return record.Change(api.Change{Id: id(r, s), Time: time, Kind: 1, A: 1, N: 5})
	}
	l := []record.Record{c(0, 1, 1), c(2, 1, 3), record.Commit(id(2, 1)), c(0, 2, 4)}
	for n := range len(l) + 1 {
		x := node.New(config(9), 1)
		if k, e := x.Take(l[:n]...); k != n || e != api.OK || !is(x.State(), 1, l[:n]...) || !is(x.Stored(), 1) {
			t.Errorf("P28.1: Take of %d: %d, %d", n, k, e)
		}
		for bad, want := range map[record.Record]api.Errno{record.Commit(id(3, 3)): api.ErrNone, {}: api.ErrKind, record.Commit(id(9, 9)): api.ErrRange, c(0, 9, 9): api.ErrState, record.Ack(api.Key{Id: id(1, 1), Ord: 1}): api.ErrNone} {
			y := node.New(config(9), 1)
			if k, e := y.Take(slices.Insert(slices.Clone(l), n, bad)...); k != n || e != want || !is(y.State(), 1, l[:n]...) {
				t.Errorf("P28.1: Take with an error at %d: %d, %d", n, k, e)
			}
		}
	}
	x := node.New(config(2), 1)
	if k, e := x.Take(l...); k != 2 || e != api.ErrFull || !is(x.State(), 1, l[:2]...) || x.Room() != 4 {
		t.Error("P28.1: Take without space", k, e)
	}
	if k, e := x.Take(record.Commit(id(3, 3))); k != 0 || e != api.ErrNone {
		t.Error("P28.1: Take of a wrong record without space", k, e)
	}
	if k, e := x.Take(); k != 0 || e != api.OK {
		t.Error("P28.1: Take of nothing", k, e)
	}
}

// P28.1, P28.2: a crash loses what was not synced.
func TestCrash(t *testing.T) {
	x := node.New(config(9), 1)
	submit(t, x, restock(9))
	if !x.Crash() || x.Crash() || x.Up() || x.State() != nil || x.Room() != 0 || !is(x.Stored(), 1) {
		t.Error("P28.2: Crash")
	}
	down(t, x)
	if e := x.Restart(); e != api.OK || !x.Up() || !is(x.State(), 1) || x.Room() != 9*32 {
		t.Error("P28.2: Restart", e)
	}
	if e := x.Restart(); e != api.ErrState || !x.Up() {
		t.Error("P28.2: Restart of a node that is up", e)
	}
	c := submit(t, x, restock(5))
	if c.Id != id(1, 1) {
		t.Error("P28.3: a lost Seq is not used again", c)
	}
	fine(t, "Sync", x.Sync())
	submit(t, x, place(1))
	if !is(x.Stored(), 1, record.Change(c)) {
		t.Error("P28.1: Stored")
	}
	room := x.Room()
	x.Crash()
	if !is(x.Stored(), 1, record.Change(c)) {
		t.Error("P28.1: Stored while down")
	}
	fine(t, "Restart", x.Restart())
	if !is(x.State(), 1, record.Change(c)) || x.Room() != room+30 {
		t.Error("P28.3: a synced change is lost")
	}
}

func down(t *testing.T, x *node.Node) {
	t.Helper()
	if _, e := x.Submit(restock(1)); e != api.ErrDown {
		t.Error("P28.1: Submit while down", e)
	}
	if _, e := x.Submit(wish(256, 0, 0, 0, api.Id{})); e != api.ErrDown {
		t.Error("P28.1: Submit of a wrong change while down", e)
	}
	if k, e := x.Take(record.Commit(id(1, 1))); k != 0 || e != api.ErrDown {
		t.Error("P28.1: Take while down", e)
	}
	if k, e := x.Take(); k != 0 || e != api.ErrDown {
		t.Error("P28.1: Take of nothing while down", e)
	}
	if l, e := x.Pump(5); len(l) != 0 || e != api.ErrDown {
		t.Error("P28.1: Pump while down", e)
	}
	if x.Sync() != api.ErrDown || x.Pack() != api.ErrDown || x.Up() || x.State() != nil || x.Room() != 0 {
		t.Error("P28.1: a node that is down does something")
	}
}

// P28.1: Pump writes and syncs a record for each request.
func TestPump(t *testing.T) {
	x := node.New(config(20), 1)
	l := []record.Record{record.Change(submit(t, x, restock(20)))}
	for i := range 3 {
		l = append(l, record.Change(submit(t, x, place(int64(i+1)))))
	}
	request := func(seq int, n int64) api.Request {
		return api.Request{Key: api.Key{Id: id(1, seq), Ord: 1}, What: api.Effect{Kind: 1, A: 3, N: n, Ref: id(1, seq)}}
	}
	want := []api.Request{request(2, 1), request(3, 2), request(4, 3)}
	room := x.Room()
	got, e := x.Pump(4)
	for _, q := range want {
		l = append(l, record.Try(q.Key, 4))
	}
	if e != api.OK || !slices.Equal(got, want) || !is(x.State(), 1, l...) || !is(x.Stored(), 1, l...) || x.Room() != room-51 {
		t.Errorf("P28.1: Pump = %v, %d", got, e)
	}
	for _, now := range []int{0, 4, 6} {
		if got, e := x.Pump(now); len(got) != 0 || e != api.OK {
			t.Errorf("P28.1: Pump at %d = %v, %d", now, got, e)
		}
	}
	if got, e := x.Pump(7); e != api.OK || !slices.Equal(got, want) {
		t.Errorf("P28.1: Pump after the wait = %v, %d", got, e)
	}
	if got, e := x.Pump(1000); len(got) != 0 || e != api.OK {
		t.Errorf("P28.1: Pump after Most tries = %v, %d", got, e)
	}
}

// P28.1: Pump syncs, also if there is no request.
func TestPumpSyncs(t *testing.T) {
	x := node.New(config(20), 1)
	c := submit(t, x, restock(20))
	if got, e := x.Pump(4); len(got) != 0 || e != api.OK || !is(x.Stored(), 1, record.Change(c)) {
		t.Error("P28.1: Pump does not sync", e)
	}
}

// P28.1: Pump without space for all records.
func TestPumpFull(t *testing.T) {
	for sectors, fits := range map[int]int{4: 0, 5: 2, 6: 3} {
		x := node.New(config(sectors), 1)
		l := []record.Record{record.Change(submit(t, x, restock(20)))}
		for range 3 {
			l = append(l, record.Change(submit(t, x, place(1))))
		}
		want := api.OK
		if fits < 3 {
			want = api.ErrFull
		}
		got, e := x.Pump(4)
		if e != want || len(got) != fits {
			t.Errorf("P28.1: Pump with %d sectors: %d, %d", sectors, len(got), e)
		}
		for i, q := range got {
			if q.Key != (api.Key{Id: id(1, i+2), Ord: 1}) {
				t.Errorf("P28.1: Pump with %d sectors: %v", sectors, got)
			}
			l = append(l, record.Try(q.Key, 4))
		}
		if !is(x.State(), 1, l...) || !is(x.Stored(), 1, l...) {
			t.Errorf("P28.1: Pump with %d sectors writes something else, or does not sync", sectors)
		}
	}
}

// P28.1: times that there are not.
func TestPumpRange(t *testing.T) {
	for _, now := range []int{-1, api.MaxTime + 1, math.MaxInt, math.MinInt} {
		x := node.New(config(20), 1)
		if got, e := x.Pump(now); len(got) != 0 || e != api.OK {
			t.Errorf("P28.1: Pump of nothing at %d: %d", now, e)
		}
		l := []record.Record{record.Change(submit(t, x, restock(20))), record.Change(submit(t, x, place(1)))}
		if got, e := x.Pump(now); len(got) != 0 || e != api.ErrRange || !is(x.State(), 1, l...) || !is(x.Stored(), 1, l...) {
			t.Errorf("P28.1: Pump at %d: %v, %d", now, got, e)
		}
	}
	x := node.New(config(20), 1)
	submit(t, x, restock(20))
	submit(t, x, place(1))
	if got, e := x.Pump(api.MaxTime); len(got) != 1 || e != api.OK {
		t.Error("P28.1: Pump at MaxTime", e)
	}
}

// P28.1: what kills the node in Sync and Pump.
func TestSyncDies(t *testing.T) {
	for n := range 130 {
		for _, pump := range []bool{false, true} {
			x := node.New(config(9), 1)
			l := []record.Record{record.Change(submit(t, x, restock(20)))}
			fine(t, "Sync", x.Sync())
			for range 3 {
				l = append(l, record.Change(submit(t, x, place(1))))
			}
			x.Arm(n)
			var e api.Errno
			if pump {
				var got []api.Request
				got, e = x.Pump(4)
				if e != api.OK && len(got) != 0 {
					t.Fatal("P28.1: Pump returns requests with an error")
				}
				for i := range 3 {
					l = append(l, record.Try(api.Key{Id: id(1, i+2), Ord: 1}, 4))
				}
			} else {
				e = x.Sync()
			}
			if e != api.OK && e != api.ErrDown || x.Up() != (e == api.OK) {
				t.Fatalf("P28.1: armed with %d: %d, Up %v", n, e, x.Up())
			}
			checkPrefix(t, x, n, e, l, 1)
		}
	}
}

// checkPrefix checks that a node has a prefix of the records after a crash, with at least the first ones.
func checkPrefix(t *testing.T, x *node.Node, n int, e api.Errno, l []record.Record, least int) {
	t.Helper()
	stored := x.Stored()
	if e == api.OK {
		x.Crash()
		least = len(l)
	} else {
		down(t, x)
	}
	fine(t, "Restart", x.Restart())
	if !image.Same(x.State(), stored) {
		t.Fatalf("P28.1: armed with %d: Stored is not what comes up", n)
	}
	found := -1
	for k := least; k <= len(l); k++ {
		if is(x.State(), 1, l[:k]...) {
			found = k
		}
	}
	if found < 0 {
		t.Fatalf("P28.3: armed with %d: no prefix of the records", n)
	}
	x.Crash()
	fine(t, "Restart", x.Restart())
	if !is(x.State(), 1, l[:found]...) {
		t.Fatalf("P28.3: armed with %d: a second restart alters the state", n)
	}
	more, e := x.Submit(restock(1))
	if e != api.OK || x.Sync() != api.OK {
		t.Fatalf("P28.2: armed with %d: the node cannot go on, or is still armed", n)
	}
	if !is(x.Stored(), 1, append(slices.Clone(l[:found]), record.Change(more))...) {
		t.Fatalf("P28.3: armed with %d: a later record is lost", n)
	}
}

// P28.2: Arm works while up only, and a restart disarms.
func TestArm(t *testing.T) {
	x := node.New(config(9), 1)
	x.Crash()
	x.Arm(0)
	fine(t, "Restart", x.Restart())
	submit(t, x, restock(1))
	fine(t, "Sync after Arm while down", x.Sync())
	x.Arm(0)
	x.Arm(-1)
	submit(t, x, restock(1))
	fine(t, "Sync after disarming", x.Sync())
	x.Arm(0)
	x.Crash()
	fine(t, "Restart", x.Restart())
	submit(t, x, restock(1))
	fine(t, "Sync after a restart", x.Sync())
	x.Arm(31)
	submit(t, x, restock(1))
	x.Stored()
	x.State()
	if x.Sync() != api.ErrDown || x.Up() {
		t.Error("P28.2: Arm does nothing")
	}
}

// P28.2, P28.3: an image is read again, and records follow it, for every r that New is given.
func TestPackReplicas(t *testing.T) {
	for r, want := range map[int]int{math.MinInt: 0, -1: 0, 0: 0, 1: 1, 2: 2, 3: 3, 4: 3, 7: 3, math.MaxInt: 3} {
		x := node.New(config(20), r)
		other := api.Change{Id: id((want+1)%4, 1), Time: 1, Kind: 1, A: 1, N: 5}
		l := []record.Record{record.Change(submit(t, x, restock(20))), record.Change(submit(t, x, place(2))), record.Change(other)}
		if k, e := x.Take(l[2]); k != 1 || e != api.OK {
			t.Fatalf("P28.1: Take on a node of %d: %d", r, e)
		}
		for range 2 {
			fine(t, "Pack", x.Pack())
			if !is(x.State(), want, l...) || !is(x.Stored(), want, l...) {
				t.Errorf("P28.2: the state of a node of %d after Pack", r)
			}
			x.Crash()
			fine(t, "Restart after Pack", x.Restart())
			if !is(x.State(), want, l...) {
				t.Errorf("P28.3: the state of a node of %d after a restart", r)
			}
			l = append(l, record.Change(submit(t, x, place(1))))
			fine(t, "Sync after Pack", x.Sync())
			x.Crash()
			fine(t, "Restart after Sync", x.Restart())
			if !is(x.State(), want, l...) || !is(x.Stored(), want, l...) {
				t.Errorf("P28.3: the records of a node of %d after an image", r)
			}
		}
	}
}

// P28.2: Pack makes an image the only record; pending records become durable with it.
func TestPack(t *testing.T) {
	x := node.New(config(20), 1)
	l := []record.Record{record.Change(submit(t, x, restock(20))), record.Change(submit(t, x, place(2)))}
	fine(t, "Sync", x.Sync())
	l = append(l, record.Change(submit(t, x, place(3))))
	fine(t, "Pack", x.Pack())
	size := len(image.Put(x.State())) + 1 + 7
	if x.Room() != 640-size || !is(x.State(), 1, l...) || !is(x.Stored(), 1, l...) {
		t.Error("P28.2: Pack: Room", x.Room(), 640-size)
	}
	x.Pump(3)
	for seq := 2; seq <= 3; seq++ {
		l = append(l, record.Try(api.Key{Id: id(1, seq), Ord: 1}, 3))
	}
	k, e := x.Take(record.Ack(api.Key{Id: id(1, 2), Ord: 1}), record.Commit(id(1, 1)))
	if k != 2 || e != api.OK {
		t.Fatal("P28.2: Take after Pack", k, e)
	}
	l = append(l, record.Ack(api.Key{Id: id(1, 2), Ord: 1}), record.Commit(id(1, 1)))
	fine(t, "Sync after Pack", x.Sync())
	x.Crash()
	fine(t, "Restart after Pack", x.Restart())
	if !is(x.State(), 1, l...) {
		t.Error("P28.2: the records after an image are lost")
	}
	fine(t, "second Pack", x.Pack())
	x.Crash()
	fine(t, "Restart after a second Pack", x.Restart())
	if !is(x.State(), 1, l...) {
		t.Error("P28.2: a second image is lost")
	}
	empty := node.New(config(1), 2)
	fine(t, "Pack of a new node", empty.Pack())
	if empty.Room() != 32-10 || !is(empty.Stored(), 2) {
		t.Error("P28.2: Pack of a new node", empty.Room())
	}
}

// P28.2: Pack of a log that is nearly full.
func TestPackRoom(t *testing.T) {
	x := node.New(config(2), 1)
	l := []record.Record{record.Change(submit(t, x, restock(20))), record.Change(submit(t, x, place(2)))}
	if e := x.Pack(); e != api.OK || x.Room() != 64-(7+1+2+44+4) || !is(x.Stored(), 1, l...) {
		t.Error("P28.2: Pack of two changes", e, x.Room())
	}
	if _, e := x.Submit(restock(1)); e != api.ErrFull {
		t.Error("P28.2: Submit after Pack without space", e, x.Room())
	}
}

// P28.2: an image that does not fit; the node stays as it was.
func TestPackFull(t *testing.T) {
	x := node.New(config(9), 1)
	l := []record.Record{record.Change(submit(t, x, restock(20)))}
	for range 5 {
		l = append(l, record.Change(submit(t, x, place(1))))
	}
	got, e := x.Pump(4)
	if e != api.OK || len(got) != 5 {
		t.Fatal("P28.2: Pump", len(got), e)
	}
	for _, q := range got {
		l = append(l, record.Try(q.Key, 4))
	}
	room := x.Room()
	if e := x.Pack(); e != api.ErrFull || !x.Up() || x.Room() != room || !is(x.State(), 1, l...) || !is(x.Stored(), 1, l...) {
		t.Error("P28.2: Pack without space", e, room)
	}
}

// P28.2, P28.3: wherever the disk dies in Pack, the state is the old or the new one.
func TestPackDies(t *testing.T) {
	for n := range 32*9 + 160 + 40 {
		x := node.New(config(9), 1)
		l := []record.Record{record.Change(submit(t, x, restock(20))), record.Change(submit(t, x, place(2)))}
		fine(t, "Sync", x.Sync())
		l = append(l, record.Change(submit(t, x, place(3))))
		x.Arm(n)
		e := x.Pack()
		if e != api.OK && e != api.ErrDown || x.Up() != (e == api.OK) {
			t.Fatalf("P28.2: Pack armed with %d: %d", n, e)
		}
		checkPrefix(t, x, n, e, l, 2)
	}
}

// P2: states are clones.
func TestMemory(t *testing.T) {
	x := node.New(config(9), 1)
	c := submit(t, x, restock(20))
	x.State().Do(record.Commit(c.Id))
	x.Stored().Do(record.Change(c))
	if !is(x.State(), 1, record.Change(c)) || !is(x.Stored(), 1) {
		t.Error("P2: a node hands out its state")
	}
}

// P28.2, P1: a nil Node, and one that New did not create.
func TestUnmade(t *testing.T) {
	for _, x := range []*node.Node{nil, new(node.Node)} {
		down(t, x)
		x.Arm(5)
		if x.Stored() != nil || x.Crash() || x.Restart() != api.ErrDown || x.Up() {
			t.Error("P28.2: an unmade node does something")
		}
	}
}
