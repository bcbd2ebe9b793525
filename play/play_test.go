package play_test

import (
	"bytes"
	"math"
	"slices"
	"testing"

	"countermand/api"
	"countermand/code"
	"countermand/image"
	"countermand/play"
	"countermand/world"
)

var usual = api.Config{Replicas: 2, Sectors: 20, Most: 2, Base: 3, Cap: 10}

// steps is a script with errors; each change of the world matters for a later answer.
func steps() []api.Step {
	return []api.Step{
		{Kind: 1, R: 0, C: api.Change{Kind: 1, A: 3, N: 9}}, {Kind: 1, R: 0, C: api.Change{Kind: 3, A: 1, B: 3, N: 4}}, {Kind: 4, N: 1}, {Kind: 3, R: 1, I: 0}, {Kind: 7}, {Kind: 99}, {Kind: 7}, {Kind: 7},
		{Kind: 6, N: 5}, {Kind: 5, R: 0}, {Kind: 2, R: 9}, {Kind: 7}, {Kind: 6, N: 7}, {Kind: 12, R: 1}, {Kind: 12, R: 1}, {Kind: 2, R: 0, N: 1},
	}
}

func byHand(t *testing.T, l []api.Step) (*world.World, []api.Answer) {
	t.Helper()
	w, e := world.New(usual)
	if e != api.OK {
		t.Fatal("no world", e)
	}
	var answers []api.Answer
	for _, x := range l {
		answers = append(answers, w.Step(x))
	}
	return w, answers
}

// P33.1, P33.2: answers and worlds of every beginning of a script.
func TestRun(t *testing.T) {
	_, all := byHand(t, steps())
	for n := range len(steps()) + 1 {
		l := steps()[:n]
		w, answers := byHand(t, l)
		got, e := play.Run(usual, l)
		if e != api.OK || !slices.Equal(got, answers) || !slices.Equal(got, all[:n]) {
			t.Errorf("P33.1: Run of %d steps: %v, %d; want %v", n, got, e, answers)
		}
		v, e := play.World(usual, l)
		if e != api.OK || v.Now() != w.Now() || v.Submitted() != w.Submitted() || v.Wire().Len() != w.Wire().Len() || v.Config() != usual || !slices.Equal(v.Sent(), w.Sent()) {
			t.Fatalf("P33.1: World of %d steps: %d", n, e)
		}
		for r := range 2 {
			if v.Up(r) != w.Up(r) || !image.Same(v.State(r), w.State(r)) || !image.Same(v.Stored(r), w.Stored(r)) {
				t.Errorf("P33.1: World of %d steps: replica %d", n, r)
			}
			done, tent, e := play.Logs(usual, l, r)
			x := w.State(r).Logs()
			if e != api.OK || !slices.Equal(done, x.Committed()) || !slices.Equal(tent, x.Tentative()) {
				t.Errorf("P33.1: Logs of %d steps: %v, %v, %d", n, done, tent, e)
			}
		}
	}
	if got, e := play.Run(usual, nil); len(got) != 0 || e != api.OK {
		t.Error("P33.1: the example", got, e)
	}
}

// P33.1: the errors, in order.
func TestErrors(t *testing.T) {
	bad := usual
	bad.Most = 9
	long := make([]api.Step, 257)
	for i, c := range []struct {
		c    api.Config
		l    []api.Step
		want api.Errno
	}{{bad, steps(), api.ErrConfig}, {bad, long, api.ErrConfig}, {api.Config{}, nil, api.ErrConfig}, {usual, long, api.ErrCount}, {usual, make([]api.Step, 1000), api.ErrCount}} {
		if got, e := play.Run(c.c, c.l); e != c.want || len(got) != 0 {
			t.Errorf("P33.1: Run %d: %d answers, %d", i, len(got), e)
		}
		if w, e := play.World(c.c, c.l); e != c.want || w != nil {
			t.Errorf("P33.1: World %d: %d", i, e)
		}
		for _, r := range []int{0, 9} {
			if a, b, e := play.Logs(c.c, c.l, r); e != c.want || len(a) != 0 || len(b) != 0 {
				t.Errorf("P33.1: Logs %d: %d", i, e)
			}
		}
	}
	for _, r := range []int{-1, 2, 3, 4, math.MaxInt, math.MinInt} {
		if a, b, e := play.Logs(usual, steps(), r); e != api.ErrRange || len(a) != 0 || len(b) != 0 {
			t.Errorf("P33.1: Logs of replica %d: %d", r, e)
		}
	}
	if got, e := play.Run(usual, long[:256]); e != api.OK || len(got) != 256 || got[255].Code != api.ErrKind {
		t.Error("P33.1: Run of 256 steps", len(got), e)
	}
}

func encoded(l []api.Step) []byte {
	var b []byte
	for _, x := range l {
		one, e := code.Put(x)
		if e != api.OK {
			one = make([]byte, 21)
			one[0] = byte(x.Kind)
		}
		b = append(b, one...)
	}
	return b
}

// P33.1, G6: the same in bytes.
func TestFrames(t *testing.T) {
	for n := range len(steps()) + 1 {
		b := encoded(steps()[:n])
		w, _ := byHand(t, nil)
		var want []byte
		for i := 0; i < len(b); i += 21 {
			want = append(want, w.Frame(b[i:i+21])...)
		}
		got, e := play.Frames(usual, b)
		if e != api.OK || !bytes.Equal(got, want) || len(got) != 6*n {
			t.Errorf("P33.1: Frames of %d steps: %v, %d; want %v", n, got, e, want)
		}
	}
	_, answers := byHand(t, steps()[:5])
	got, _ := play.Frames(usual, encoded(steps()[:5]))
	for i, a := range answers {
		if told, e := code.Told(got[6*i : 6*i+6]); e != api.OK || told != a {
			t.Errorf("G6: answer %d is %v in bytes; want %v", i, told, a)
		}
	}
}

// P33.1: the errors of Frames, in order.
func TestFramesErrors(t *testing.T) {
	bad := usual
	bad.Base = 0
	cases := []struct {
		c    api.Config
		n    int
		want api.Errno
	}{{bad, 5, api.ErrConfig}, {bad, 21 * 257, api.ErrConfig}, {usual, 1, api.ErrSyntax}, {usual, 20, api.ErrSyntax}, {usual, 22, api.ErrSyntax}, {usual, 21*257 + 1, api.ErrSyntax}, {usual, 21 * 257, api.ErrCount}}
	for _, c := range cases {
		if got, e := play.Frames(c.c, make([]byte, c.n)); e != c.want || len(got) != 0 {
			t.Errorf("P33.1: Frames of %d bytes: %d bytes, %d; want %d", c.n, len(got), e, c.want)
		}
	}
	if got, e := play.Frames(usual, make([]byte, 21*256)); e != api.OK || len(got) != 6*256 || got[0] != byte(api.ErrKind) {
		t.Error("P33.1: Frames of 256 steps", len(got), e)
	}
	if got, e := play.Frames(usual, nil); e != api.OK || len(got) != 0 {
		t.Error("P33.1: Frames of nothing", e)
	}
}

// P2, P3: arguments stay as they are, and a run does not depend on an earlier one.
func TestMemory(t *testing.T) {
	l, b := steps(), encoded(steps())
	saved := bytes.Clone(b)
	first, _ := play.Run(usual, l)
	again, _ := play.Run(usual, l)
	x, _ := play.Frames(usual, b)
	y, _ := play.Frames(usual, b)
	if !slices.Equal(first, again) || !bytes.Equal(x, y) || !slices.Equal(l, steps()) || !bytes.Equal(b, saved) {
		t.Error("P2: a run changes its arguments, or depends on an earlier one")
	}
}
