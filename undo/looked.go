package undo

import (
	"iter"

	"gesso/api"
	"gesso/canvas"
	"gesso/op"
	"gesso/oplog"
)

// wrong leaves by a panic: why something can't be done.
type wrong struct{ errno api.Errno }

// told is the error that a recovered panic stands for.
func told(left any) api.Errno {
	if w, ok := left.(wrong); ok {
		return w.errno
	}
	return api.OK
}

// must is what came without an error.
func must[T any](x T, e api.Errno) T {
	if e != api.OK {
		panic(wrong{e})
	}
	return x
}

// sifted is those of a row of which something holds.
func sifted[T any](row []T, holds func(T) bool) []T {
	var out []T
	for _, x := range row {
		if holds(x) {
			out = append(out, x)
		}
	}
	return out
}

// looked is a log that is looked at, and of each id which of its operations decides of it.
type looked struct {
	api.Log
	decides map[api.Id]int
}

// lookedAt looks at what must be a log.
func lookedAt(l api.Log) *looked {
	if e := oplog.Check(l); e != api.OK {
		panic(wrong{e})
	}
	k := &looked{l, map[api.Id]int{}}
	for at, o := range k.Ops {
		if !op.Paints(o.Kind) {
			// Those behind take the place of those ahead: the last one decides.
			k.decides[o.Target] = at
		}
	}
	return k
}

// lookedOn looks at a log above a base that must be there.
func lookedOn(base *canvas.Canvas, l api.Log) *looked {
	if base == nil {
		panic(wrong{api.ErrNil})
	}
	return lookedAt(l)
}

// shows tells whether an operation of the log shows.
func (k *looked) shows(o api.Op) bool {
	if !op.Paints(o.Kind) {
		return false
	}
	at, decided := k.decides[o.Id]
	return !decided || k.Ops[at].Kind == api.OpRedo
}

// showing tells the operations that show, in order.
func (k *looked) showing() iter.Seq[api.Op] {
	return func(yield func(api.Op) bool) {
		for _, o := range k.Ops {
			if k.shows(o) && !yield(o) {
				return
			}
		}
	}
}
