package msg

import (
	"countermand/api"
	"countermand/change"
	"countermand/effect"
	"countermand/octet"
)

// reader reads the parts of a message; after a failure they are zero.
type reader struct {
	*octet.Reader
}

// body returns the payload of the frame of a valid message.
func body(m Msg) []byte {
	out := put(nil, 1, m.Kind, m.From, m.To)
	switch m.Kind {
	case kindAsk:
		return put(put(out, 2, m.Known[:]...), 1, m.Base)
	case kindPush:
		out = put(out, 1, m.Base, len(m.Ids))
		for _, a := range m.Ids {
			out = putId(out, a)
		}
		changes, _ := change.All(m.Changes)
		return append(out, changes...)
	case kindRequest:
		what, _ := effect.Put(m.What)
		return append(putKey(out, m.Key), what...)
	}
	return putKey(out, m.Key)
}

// put appends numbers of w bytes each.
func put(b []byte, w int, numbers ...int) []byte {
	for _, n := range numbers {
		b = octet.Put(b, uint64(n), w)
	}
	return b
}

func putId(b []byte, a api.Id) []byte {
	return put(put(b, 1, a.Replica), 2, a.Seq)
}

func putKey(b []byte, k api.Key) []byte {
	undo := 0
	if k.Undo {
		undo = 1
	}
	return put(putId(b, k.Id), 1, k.Ord, undo)
}

// read reads a message and reports whether its parts could be read.
func read(b []byte) (Msg, bool) {
	r := reader{octet.New(b)}
	m := Msg{Kind: r.number(1), From: r.number(1), To: r.number(1)}
	var e api.Errno
	switch m.Kind {
	case kindAsk:
		for i := range m.Known {
			m.Known[i] = r.number(2)
		}
		m.Base = r.number(1)
	case kindPush:
		m.Base = r.number(1)
		for range r.number(1) {
			m.Ids = append(m.Ids, r.id())
		}
		m.Changes, e = change.List(r.rest())
	case kindRequest:
		m.Key = r.key()
		m.What, e = effect.Get(r.rest())
	case kindAnswer:
		m.Key = r.key()
	}
	return m, r.Done() && e == api.OK
}

func (r reader) number(w int) int {
	n, _ := r.Take(w)
	return int(n)
}

func (r reader) id() api.Id {
	return api.Id{Replica: r.number(1), Seq: r.number(2)}
}

func (r reader) key() api.Key {
	return api.Key{Id: r.id(), Ord: r.number(1), Undo: r.number(1) == 1}
}

func (r reader) rest() []byte {
	b, _ := r.Bytes(r.Left())
	return b
}
