package world

import (
	"countermand/api"
	"countermand/gate"
	"countermand/msg"
	"countermand/wire"
)

// Kinds of messages.
const (
	kindAsk = iota + 1
	kindPush
	kindRequest
	kindAnswer
)

// between is what lies between the replicas, and between them and the outside world.
type between struct {
	wire *wire.Wire
	gate *gate.Gate
}

// put puts a message on the wire and returns the number of messages for which there was space.
func (v *between) put(m msg.Msg) int {
	b, e := msg.Put(m)
	if e != api.OK || !v.wire.Put(m.To, b) {
		return 0
	}
	return 1
}

func (v *between) putRequest(from int, q api.Request) {
	v.put(msg.Msg{Kind: kindRequest, From: from, To: api.Gateway, Key: q.Key, What: q.What})
}

// apply passes a request to the gateway and answers it.
func (v *between) apply(m msg.Msg) api.Answer {
	if !v.gate.Do(api.Request{Key: m.Key, What: m.What}) {
		return api.Answer{}
	}
	return api.Answer{N: v.put(msg.Msg{Kind: kindAnswer, From: api.Gateway, To: m.From, Key: m.Key})}
}

func (v *between) dropMessage(i int) api.Answer {
	if _, ok := v.wire.Take(i); !ok {
		return fail(api.ErrNone)
	}
	return api.Answer{}
}

func (v *between) copyMessage(i int) api.Answer {
	if i >= v.wire.Len() {
		return fail(api.ErrNone)
	}
	if !v.wire.Copy(i) {
		return fail(api.ErrFull)
	}
	return api.Answer{}
}

func (v *between) flipMessage(i int, bit int) api.Answer {
	if i >= v.wire.Len() {
		return fail(api.ErrNone)
	}
	if v.wire.Broken(i) {
		return fail(api.ErrState)
	}
	if !v.wire.Flip(i, bit) {
		return fail(api.ErrRange)
	}
	return api.Answer{}
}

func (v *between) refuse(n int) api.Answer {
	if n > maxRefuse {
		return fail(api.ErrRange)
	}
	v.gate.Refuse(n)
	return api.Answer{}
}

func fail(e api.Errno) api.Answer {
	return api.Answer{Code: e}
}
