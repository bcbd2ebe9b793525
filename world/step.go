package world

import (
	"countermand/api"
	"countermand/code"
	"countermand/msg"
	"countermand/peer"
	"countermand/record"
)

// Kinds of steps.
const (
	stepSubmit = iota + 1
	stepSync
	stepAsk
	stepCommit
	stepPump
	stepTick
	stepDeliver
	stepDrop
	stepCopy
	stepFlip
	stepRefuse
	stepCrash
	stepRestart
	stepArm
	stepPack
)

const (
	maxCommit = 16
	maxTick   = 1000
	maxRefuse = 255
)

// Step executes a step.
func (w *World) Step(x api.Step) api.Answer {
	if w.unmade() {
		return fail(api.ErrState)
	}
	if e := code.Check(x); e != api.OK {
		return fail(e)
	}
	if !w.has(x.R) {
		return fail(api.ErrRange)
	}
	n := w.nodes[x.R]
	switch x.Kind {
	case stepSubmit:
		return w.submit(x)
	case stepSync:
		return fail(n.Sync())
	case stepAsk:
		return w.ask(x)
	case stepCommit:
		return w.commit(x.N)
	case stepPump:
		return w.pump(x.R)
	case stepTick:
		return w.tick(x.N)
	case stepDeliver:
		return w.deliver(x.I)
	case stepDrop:
		return w.dropMessage(x.I)
	case stepCopy:
		return w.copyMessage(x.I)
	case stepFlip:
		return w.flipMessage(x.I, x.N)
	case stepRefuse:
		return w.refuse(x.N)
	case stepCrash:
		return w.crash(x.R)
	case stepRestart:
		return fail(n.Restart())
	case stepArm:
		return w.arm(x.R, x.N)
	case stepPack:
		return fail(n.Pack())
	}
	return fail(api.ErrKind)
}

func (w *World) submit(x api.Step) api.Answer {
	if w.submitted >= api.MaxChanges {
		return fail(api.ErrCount)
	}
	n := w.nodes[x.R]
	c, e := n.Submit(x.C)
	if e != api.OK {
		return fail(e)
	}
	w.submitted++
	o, _, _ := n.State().Logs().Outcome(c.Id)
	return api.Answer{N: c.Id.Seq, M: int(o.Code)}
}

func (w *World) ask(x api.Step) api.Answer {
	if !w.has(x.I) || x.I == x.R {
		return fail(api.ErrRange)
	}
	n := w.nodes[x.R]
	if e := n.Sync(); e != api.OK {
		return fail(e)
	}
	return api.Answer{N: w.put(peer.Ask(n.State(), x.I))}
}

func (w *World) commit(most int) api.Answer {
	if most < 1 || most > maxCommit {
		return fail(api.ErrRange)
	}
	n := w.nodes[primary]
	if !n.Up() {
		return fail(api.ErrDown)
	}
	for done := range most {
		a, ok := n.State().Logs().First()
		if !ok {
			return api.Answer{N: done}
		}
		if _, e := n.Take(record.Commit(a)); e != api.OK {
			return api.Answer{Code: e, N: done}
		}
	}
	return api.Answer{N: most}
}

func (w *World) pump(r int) api.Answer {
	requests, e := w.nodes[r].Pump(w.now)
	for _, q := range requests {
		w.putRequest(r, q)
		w.sent = append(w.sent, api.Sent{Replica: r, Now: w.now, Key: q.Key, What: q.What})
	}
	return api.Answer{Code: e, N: len(requests)}
}

func (w *World) tick(n int) api.Answer {
	if n < 1 || n > maxTick || w.now+n > api.MaxTime {
		return fail(api.ErrRange)
	}
	w.now += n
	return api.Answer{N: w.now}
}

func (w *World) deliver(i int) api.Answer {
	to := w.wire.To(i)
	b, ok := w.wire.Take(i)
	if !ok {
		return fail(api.ErrNone)
	}
	m, e := msg.Get(b)
	if e != api.OK {
		return api.Answer{}
	}
	if m.Kind == kindRequest {
		return w.apply(m)
	}
	if !w.Up(to) {
		return api.Answer{}
	}
	return w.receive(to, m)
}

// receive passes a message to a replica that is up.
func (w *World) receive(r int, m msg.Msg) api.Answer {
	n := w.nodes[r]
	switch m.Kind {
	case kindAsk:
		if n.Sync() != api.OK {
			return api.Answer{}
		}
		push, ok := peer.Answer(n.State(), m)
		if !ok {
			return api.Answer{}
		}
		return api.Answer{N: w.put(push)}
	case kindPush:
		done, e := n.Take(peer.Take(n.State(), m)...)
		return api.Answer{Code: e, N: done}
	}
	done, e := n.Take(record.Ack(m.Key))
	if e == api.ErrNone {
		// An answer that came late or twice is no error.
		return api.Answer{}
	}
	return api.Answer{Code: e, N: done}
}

func (w *World) crash(r int) api.Answer {
	if !w.nodes[r].Crash() {
		return fail(api.ErrDown)
	}
	return api.Answer{}
}

func (w *World) arm(r int, n int) api.Answer {
	if n > api.MaxFrame {
		return fail(api.ErrRange)
	}
	if !w.nodes[r].Up() {
		return fail(api.ErrDown)
	}
	// 0 disarms: a negative number does so.
	w.nodes[r].Arm(n - 1)
	return api.Answer{}
}
