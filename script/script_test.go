package script_test

import (
	"math"
	"slices"
	"strings"
	"testing"

	"countermand/api"
	"countermand/script"
)

func id(replica, seq int) api.Id { return api.Id{Replica: replica, Seq: seq} }

// lines are steps of every kind with their lines.
func lines() map[string]api.Step {
	return map[string]api.Step{
		"submit 0 3 2 1 5 0 0": {Kind: 1, C: api.Change{Kind: 3, A: 2, B: 1, N: 5}},
		"submit 255 255 254 253 -9223372036854775808 252 65535": {Kind: 1, R: 255, C: api.Change{Kind: 255, A: 254, B: 253, N: math.MinInt64, Ref: id(252, 65535)}},
		"submit 1 2 3 4 9223372036854775807 5 6":                {Kind: 1, R: 1, C: api.Change{Kind: 2, A: 3, B: 4, N: math.MaxInt64, Ref: id(5, 6)}},
		"submit 0 0 0 0 0 0 0":                                  {Kind: 1},
		"submit 0 0 0 0 -1 0 0":                                 {Kind: 1, C: api.Change{N: -1}},
		"sync 2":                                                {Kind: 2, R: 2},
		"ask 1 2":                                               {Kind: 3, R: 1, I: 2},
		"commit 2147483647":                                     {Kind: 4, N: math.MaxInt32},
		"pump 3":                                                {Kind: 5, R: 3},
		"tick 10":                                               {Kind: 6, N: 10},
		"deliver 100":                                           {Kind: 7, I: 100},
		"drop 0":                                                {Kind: 8},
		"copy 7":                                                {Kind: 9, I: 7},
		"flip 3 20":                                             {Kind: 10, I: 3, N: 20},
		"refuse 255":                                            {Kind: 11, N: 255},
		"crash 1":                                               {Kind: 12, R: 1},
		"restart 1":                                             {Kind: 13, R: 1},
		"arm 2 4096":                                            {Kind: 14, R: 2, N: 4096},
		"pack 0":                                                {Kind: 15},
	}
}

// P38.1, P38.2: every line is written and parsed.
func TestLines(t *testing.T) {
	for line, x := range lines() {
		if got, e := script.Line(x); got != line || e != api.OK {
			t.Errorf("P38.1: Line(%v) = %q, %d; want %q", x, got, e, line)
		}
		if got, e := script.Parse(line); got != x || e != api.OK {
			t.Errorf("P38.2: Parse(%q) = %v, %d; want %v", line, got, e, x)
		}
	}
}

// P38.1: steps without a line.
func TestLineErrors(t *testing.T) {
	cases := map[api.Step]api.Errno{{}: api.ErrKind, {Kind: 16}: api.ErrKind, {Kind: -1, R: -1}: api.ErrKind, {Kind: 2, R: 256}: api.ErrRange, {Kind: 2, R: -1}: api.ErrRange, {Kind: 4, N: 1 << 31}: api.ErrRange, {Kind: 2, N: 1}: api.ErrSyntax, {Kind: 1, C: api.Change{Time: 1}}: api.ErrSyntax, {Kind: 7, R: 1}: api.ErrSyntax}
	for x, want := range cases {
		if got, e := script.Line(x); got != "" || e != want {
			t.Errorf("P38.1: Line(%v) = %q, %d; want %d", x, got, e, want)
		}
	}
}

// P38.1, P5: lines of no step.
func TestParseRejects(t *testing.T) {
	wrong := []string{
		"", " ", "\n", "sync", "sync ", "sync  2", " sync 2", "sync 2 ", "sync 2\n", "\tsync 2", "sync\t2", "Sync 2", "SYNC 2", "syn 2", "syncs 2", "sync 02", "sync +2", "sync -1", "sync -0", "sync 256", "sync 2.0", "sync x", "sync 2x", "sync 0x2", "sync 1_0", "sync 1 2", "sync 99999999999999999999",
		"ask 1", "ask 1 2 3", "ask 1 256", "ask 256 1", "commit", "commit -1", "commit 2147483648", "flip 1", "flip 1 2 3", "flip 1 2147483648", "arm 1", "arm 256 1", "deliver 256", "0", "1 0 3 2 1 5 0 0", "2 2", "\x00", "sync \x00",
		"submit", "submit 0", "submit 0 3 2 1 5 0", "submit 0 3 2 1 5 0 0 0", "submit 0 3 2 1 5 0 65536", "submit 0 3 2 1 5 256 0", "submit 0 256 2 1 5 0 0", "submit 0 3 256 1 5 0 0", "submit 0 3 2 256 5 0 0", "submit 256 3 2 1 5 0 0", "submit 0 3 2 1 9223372036854775808 0 0", "submit 0 3 2 1 -9223372036854775809 0 0", "submit 0 3 2 1 -0 0 0", "submit 0 3 2 1 +5 0 0", "submit 0 3 2 1 05 0 0", "submit 0 -3 2 1 5 0 0", "submit 0 3 2 1 5 0 -1", "submit 0 3 2 1 18446744073709551621 0 0",
	}
	for line := range lines() {
		wrong = append(wrong, line+" 0", line+" ", " "+line, line+"\n", strings.ToUpper(line), strings.Replace(line, " ", "  ", 1), line[:strings.LastIndex(line, " ")])
	}
	for _, s := range wrong {
		if x, e := script.Parse(s); e != api.ErrSyntax || x != (api.Step{}) {
			t.Errorf("P38.1: Parse(%q) = %v, %d", s, x, e)
		}
	}
}

func list(n int) []api.Step {
	var l []api.Step
	for i := range n {
		l = append(l, api.Step{Kind: 2, R: i % 10})
	}
	return l
}

// P38.1, P38.2: scripts.
func TestScripts(t *testing.T) {
	for _, n := range []int{0, 1, 2, 255, 256} {
		l := list(n)
		var want string
		for _, x := range l {
			line, _ := script.Line(x)
			want += line + "\n"
		}
		s, e := script.All(l)
		if s != want || e != api.OK {
			t.Errorf("P38.1: All of %d steps: %d", n, e)
		}
		if got, e := script.Read(s); e != api.OK || !slices.Equal(got, l) {
			t.Errorf("P38.2: Read of %d steps: %d", n, e)
		}
	}
	var all []api.Step
	for _, x := range lines() {
		all = append(all, x)
	}
	s, _ := script.All(all)
	if got, e := script.Read(s); e != api.OK || !slices.Equal(got, all) {
		t.Error("P38.2: Read of all kinds", e)
	}
}

// P38.1: the errors of All, in order.
func TestAllErrors(t *testing.T) {
	l := list(257)
	l[3] = api.Step{}
	if s, e := script.All(l); e != api.ErrCount || s != "" {
		t.Error("P38.1: All of 257 steps", e)
	}
	l = list(10)
	l[4], l[8] = api.Step{Kind: 2, R: 300}, api.Step{}
	if s, e := script.All(l); e != api.ErrRange || s != "" {
		t.Error("P38.1: All with wrong steps", e)
	}
	l[4] = api.Step{Kind: 2, I: 3}
	if s, e := script.All(l); e != api.ErrSyntax || s != "" {
		t.Error("P38.1: All with other wrong steps", e)
	}
}

// P38.1: the errors of Read, in order.
func TestReadErrors(t *testing.T) {
	const line = "sync 1\n"
	long := strings.Repeat(line, 1<<15/7) // 32767 bytes
	cases := []struct {
		s    string
		want api.Errno
	}{
		{"sync 1", api.ErrSyntax}, {line + "sync 1", api.ErrSyntax}, {"\n", api.ErrSyntax}, {line + "\n", api.ErrSyntax}, {line + "\n" + line, api.ErrSyntax}, {"\n" + line, api.ErrSyntax}, {line + " ", api.ErrSyntax}, {"sync 1\r\n", api.ErrSyntax}, {line + "x\n" + line, api.ErrSyntax}, {"sync 1 \n", api.ErrSyntax}, {line + "sync 256\n", api.ErrSyntax},
		{strings.Repeat(line, 257), api.ErrCount}, {strings.Repeat(line, 257) + "x", api.ErrSyntax}, {strings.Repeat(line, 257) + "x\n", api.ErrSyntax}, {strings.Repeat(line, 300) + "\n", api.ErrSyntax},
		{long, api.ErrCount}, {long + "\n", api.ErrSyntax}, {long + "\n\n", api.ErrLong}, {strings.Repeat("x", 1<<15), api.ErrSyntax}, {strings.Repeat("x", 1<<15+1), api.ErrLong}, {strings.Repeat(line, 5000), api.ErrLong},
	}
	for _, c := range cases {
		if got, e := script.Read(c.s); e != c.want || len(got) != 0 {
			t.Errorf("P38.1: Read of %d bytes (%.20q): %d steps, %d; want %d", len(c.s), c.s, len(got), e, c.want)
		}
	}
	if got, e := script.Read(""); e != api.OK || len(got) != 0 {
		t.Error("P38.1: Read of nothing", e)
	}
}
