package settle

import (
	"countermand/api"
	"countermand/world"
)

// primary is the replica that determines the order of changes.
const primary = 0

const maxCommit = 16

// Kinds of steps.
const (
	stepAsk     = 3
	stepCommit  = 4
	stepPump    = 5
	stepTick    = 6
	stepDeliver = 7
	stepRefuse  = 11
	stepRestart = 13
	stepArm     = 14
	stepPack    = 15
)

// driver performs steps in a world and notes whether there was too little space for one.
type driver struct {
	*world.World
	full bool
}

// do performs steps in order.
func (d *driver) do(l ...api.Step) {
	for _, x := range l {
		a := d.Step(x)
		d.full = d.full || a.Code == api.ErrFull && x.Kind != stepPack
	}
}

// all performs the steps that are made for each replica.
func (d *driver) all(steps func(r int) []api.Step) {
	for r := range d.Config().Replicas {
		d.do(steps(r)...)
	}
}

// others does so for each replica except the primary.
func (d *driver) others(steps func(r int) []api.Step) {
	d.all(func(r int) []api.Step {
		if r == primary {
			return nil
		}
		return steps(r)
	})
}

func (d *driver) deliver() int {
	n := 0
	for d.Wire().Len() > 0 {
		d.do(api.Step{Kind: stepDeliver})
		n++
	}
	return n
}

// heal ends refusals, disarms the disks and starts all replicas.
func (d *driver) heal() {
	d.do(api.Step{Kind: stepRefuse})
	d.all(func(r int) []api.Step { return []api.Step{{Kind: stepArm, R: r}} })
	d.all(func(r int) []api.Step { return []api.Step{{Kind: stepRestart, R: r}} })
}

func (d *driver) round() {
	d.deliver()
	d.all(func(r int) []api.Step { return []api.Step{{Kind: stepPack, R: r}} })
	d.others(func(r int) []api.Step {
		return []api.Step{{Kind: stepAsk, R: r, I: primary}, {Kind: stepAsk, R: primary, I: r}}
	})
	d.deliver()
	d.do(api.Step{Kind: stepCommit, N: maxCommit})
	d.others(func(r int) []api.Step { return []api.Step{{Kind: stepAsk, R: r, I: primary}} })
	d.deliver()
	d.all(func(r int) []api.Step { return []api.Step{{Kind: stepPump, R: r}} })
	d.deliver()
	d.do(api.Step{Kind: stepTick, N: d.Config().Cap})
}
