package node

import (
	"countermand/api"
	"countermand/disk"
	"countermand/image"
	"countermand/record"
	"countermand/state"
	"countermand/wal"
)

// imageMark is the first byte of a record that is an image.
const imageMark = 5

// live is what a node loses in a crash.
type live struct {
	log   *wal.Log
	state *state.State
}

// open opens the log on a disk that is not dead and executes its records.
func open(d *disk.Disk, r int) *live {
	l, _ := wal.Open(d)
	return &live{log: l, state: replay(r, l.Records())}
}

// write appends and executes a record, if the state can execute it and there is space.
func (v *live) write(x record.Record) api.Errno {
	trial := v.state.Clone()
	if e := trial.Do(x); e != api.OK {
		return e
	}
	b, _ := record.Put(x)
	if v.log.Append(b) != api.OK {
		return api.ErrFull
	}
	v.state = trial
	return api.OK
}

func replay(r int, l [][]byte) *state.State {
	s, l := begin(r, l)
	for _, b := range l {
		if x, e := record.Get(b); e == api.OK {
			s.Do(x)
		}
	}
	return s
}

// begin returns the state with which the records start, and those that follow.
func begin(r int, l [][]byte) (*state.State, [][]byte) {
	if len(l) > 0 && l[0][0] == imageMark {
		if s, e := image.Get(r, l[0][1:]); e == api.OK {
			return s, l[1:]
		}
	}
	return state.New(r), l
}
