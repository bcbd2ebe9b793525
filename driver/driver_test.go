package driver_test

import (
	"strings"
	"testing"

	"countermand/api"
	"countermand/driver"
)

var usual = api.Config{Replicas: 2, Sectors: 20, Most: 2, Base: 3, Cap: 10}

func is(t *testing.T, name, s string, want driver.Report) {
	t.Helper()
	got, e := driver.Main(usual, s)
	if e != api.OK || got != want {
		t.Errorf("P40.1: %s: %+v, %d; want %+v", name, got, e, want)
	}
}

// P40.1: each number, by scripts in which all are different.
func TestMain(t *testing.T) {
	is(t, "an empty script", "", driver.Report{})
	is(t, "errors", "tick 5\ntick 0\nsync 9\ndeliver 0\n", driver.Report{Steps: 4, Fine: 1, Now: 5})
	restock := "submit 0 1 3 0 50 0 0\n"
	place := "submit 0 3 2 3 4 0 0\n"
	is(t, "changes", restock+place+place+place+"submit 0 3 2 3 99 0 0\ncommit 2\nsubmit 1 1 3 0 5 0 0\n", driver.Report{Steps: 7, Fine: 7, Committed: 2, Tentative: 3, Orders: 3})
	// Two orders are placed; their reserves are applied and answered.
	s := restock + place + place + "submit 1 1 5 0 70 0 0\nask 0 1\ndeliver 0\ndeliver 0\npump 0\ndeliver 0\ndeliver 0\ndeliver 0\ndeliver 0\n"
	is(t, "requests", s, driver.Report{Steps: 12, Fine: 12, Tentative: 4, Orders: 2, Applied: 2, Net: 2, Sent: 2})
	is(t, "requests that are lost", restock+place+place+"pump 0\ndrop 0\ndeliver 0\ntick 4\npump 0\n", driver.Report{Steps: 8, Fine: 8, Tentative: 3, Orders: 2, Applied: 1, Net: 1, Sent: 4, Now: 4})
}

// P40.1: a reserve that is undone is applied, and not in the net.
func TestNet(t *testing.T) {
	// Replica 1 reserves; then the order of replica 0 is committed and takes the stock.
	s := "submit 0 1 3 0 5 0 0\nask 1 0\ndeliver 0\ndeliver 0\n" +
		"submit 1 3 2 3 4 0 0\npump 1\ndeliver 0\ndeliver 0\n" +
		"submit 0 3 2 3 4 0 0\ncommit 2\nask 1 0\ndeliver 0\ndeliver 0\npump 1\ndeliver 0\ndeliver 0\n"
	is(t, "an undoing", s, driver.Report{Steps: 16, Fine: 16, Committed: 2, Orders: 1, Applied: 2, Sent: 2})
}

// P40.1: the state of a primary that is down is the stored one.
func TestDown(t *testing.T) {
	is(t, "a primary that is down", "submit 0 1 3 0 5 0 0\nsync 0\nsubmit 0 3 2 3 4 0 0\ncrash 0\n", driver.Report{Steps: 4, Fine: 4, Tentative: 1})
}

// P40.1: the errors, in order.
func TestErrors(t *testing.T) {
	bad := usual
	bad.Cap = 65
	cases := []struct {
		c    api.Config
		s    string
		want api.Errno
	}{{bad, "", api.ErrConfig}, {bad, "x", api.ErrConfig}, {api.Config{}, strings.Repeat("x", 1<<15+1), api.ErrConfig}, {usual, "x", api.ErrSyntax}, {usual, "sync 0", api.ErrSyntax}, {usual, strings.Repeat("x", 1<<15+1), api.ErrLong}, {usual, strings.Repeat("sync 0\n", 257), api.ErrCount}}
	for _, c := range cases {
		if got, e := driver.Main(c.c, c.s); e != c.want || got != (driver.Report{}) {
			t.Errorf("P40.1: Main of %.10q: %+v, %d; want %d", c.s, got, e, c.want)
		}
	}
	if got, e := driver.Main(usual, strings.Repeat("sync 0\n", 256)); e != api.OK || got != (driver.Report{Steps: 256, Fine: 256}) {
		t.Error("P40.1: Main of 256 steps", got, e)
	}
}

// P40.1: Line.
func TestLine(t *testing.T) {
	if got := driver.Line(driver.Report{}); got != "0 0 0 0 0 0 0 0 0" {
		t.Errorf("P40.1: the example: %q", got)
	}
	r := driver.Report{Steps: 1, Fine: 22, Committed: 3, Tentative: 44, Orders: 5, Applied: 66, Net: -7, Sent: 88, Now: 9}
	if got := driver.Line(r); got != "1 22 3 44 5 66 -7 88 9" {
		t.Errorf("P40.1: Line = %q", got)
	}
}
