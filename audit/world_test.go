package audit_test

import (
	"testing"

	"countermand/api"
	"countermand/audit"
	"countermand/world"
)

// dice yields numbers that depend on the seed only.
type dice struct{ seed uint64 }

func (d *dice) below(n int) int {
	d.seed = d.seed*6364136223846793005 + 1442695040888963407
	return int(d.seed>>33) % n
}

func (d *dice) step(c api.Config, wire int) api.Step {
	r, i := d.below(c.Replicas), d.below(max(1, wire))
	switch k := d.below(100); {
	case k < 15:
		kind := []int{1, 3, 3, 3, 3, 4, 5}[d.below(7)]
		return api.Step{Kind: 1, R: r, C: api.Change{Kind: kind, N: int64(1 + d.below(5)), Ref: api.Id{Replica: d.below(c.Replicas), Seq: 1 + d.below(5)}}}
	case k < 27:
		return api.Step{Kind: 3, R: r, I: d.below(c.Replicas)}
	case k < 32:
		return api.Step{Kind: 4, N: 1 + d.below(3)}
	case k < 45:
		return api.Step{Kind: 5, R: r}
	case k < 53:
		return api.Step{Kind: 6, N: 1 + d.below(6)}
	case k < 82:
		return api.Step{Kind: 7, I: i}
	case k < 87:
		return api.Step{Kind: 8 + d.below(2), I: i}
	case k < 89:
		return api.Step{Kind: 11, N: d.below(3)}
	case k < 90:
		return api.Step{Kind: 12, R: r}
	case k < 99:
		return api.Step{Kind: 13, R: r}
	}
	return api.Step{Kind: 14, R: r, N: d.below(150)}
}

// G1, G5: whatever happens in a world, its lists stand the audit.
func TestWorlds(t *testing.T) {
	undone, again := 0, 0
	for seed := range 60 {
		d := &dice{seed: uint64(seed) * 6151}
		c := api.Config{Replicas: 1 + d.below(3), Sectors: 64, Most: 1 + d.below(4), Base: 1 + d.below(4), Cap: 1 + d.below(9)}
		w, e := world.New(c)
		if e != api.OK {
			t.Fatal("no world", e)
		}
		for range 200 {
			w.Step(d.step(c, w.Wire().Len()))
		}
		applied, sent := w.Gate().Applied(), w.Sent()
		if !audit.Once(applied) || !audit.Sound(applied) || !audit.Stacked(applied) || !audit.Alike(applied) {
			t.Errorf("G1: seed %d: Once %v, Sound %v, Stacked %v, Alike %v", seed, audit.Once(applied), audit.Sound(applied), audit.Stacked(applied), audit.Alike(applied))
		}
		if !audit.Spaced(sent, c) || audit.Most(sent) > c.Most {
			t.Errorf("G5: seed %d: Spaced %v, Most %d of %d", seed, audit.Spaced(sent, c), audit.Most(sent), c.Most)
		}
		undone += len(applied) - len(w.Gate().Net())
		if audit.Most(sent) > 1 {
			again++
		}
	}
	if undone == 0 || again == 0 {
		t.Error("nothing was undone, or sent again", undone, again)
	}
}
