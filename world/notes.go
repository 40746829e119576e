package world

import (
	"iter"

	"gesso/api"
	"gesso/frame"
	"gesso/oplog"
	"gesso/store"
	"gesso/vector"
)

// note puts notes behind all others.
func (w *World) note(l ...api.Note) {
	w.notes = append(w.notes, each(l, copied)...)
}

// noteUp notes that the server has fallen, or risen, given whether it was up.
func (w *World) noteUp(was bool) {
	switch up := w.server.Up(); {
	case was && !up:
		w.note(api.Note{Kind: api.NtFall})
	case !was && up:
		k := w.server.Kept()
		w.note(api.Note{Kind: api.NtRise, Vector: oplog.Vector(k.Log), Epoch: k.Epoch})
	}
}

// serverHears lets the server hear bytes, and notes what it has written.
func (w *World) serverHears(b []byte) api.Errno {
	was, k, waits := w.server.Up(), w.server.Kept(), w.server.Waits()
	written, e := w.server.Hear(b)
	if was && !w.server.Up() {
		written = could(k, waits, b)
	}
	w.note(each(written, func(o api.Op) api.Note { return api.Note{Kind: api.NtWrite, Op: o} })...)
	return e
}

// could is the operations of a frame that could be laid: as the disk fell on the way, nobody knows which ones are.
func could(k api.Kept, waits []api.Fact, b []byte) []api.Op {
	var out []api.Op
	f, _ := frame.Read(b)
	k, _, _ = store.Apply(k, waits...)
	for _, o := range f.Ops {
		if next, _, e := store.Apply(k, api.Fact{Kind: api.FcOp, Op: o}); e == api.OK {
			k, out = next, append(out, o)
		}
	}
	return out
}

// heard is what a client was, and is, about hearing a frame.
type heard struct {
	frame    api.Frame
	was, now api.Seat
}

// wasReady tells whether it was ready.
func (h heard) wasReady() bool { return h.was.Phase == api.ClReady }

// notes tells the notes of what a client has heard, in order; such as have no kind are none.
func (h heard) notes() iter.Seq[api.Note] {
	return func(yield func(api.Note) bool) {
		if !yield(h.snap()) || !yield(h.ack()) {
			return
		}
		had, has := oplog.Vector(h.was.Log), oplog.Vector(h.now.Log)
		for _, o := range h.frame.Ops {
			if !vector.Has(had, o.Id) && vector.Has(has, o.Id) && !yield(api.Note{Kind: api.NtTake, Site: h.now.Site, Op: o}) {
				return
			}
		}
		yield(h.fold())
	}
}

// snap notes that it has begun.
func (h heard) snap() api.Note {
	if h.wasReady() || h.now.Phase != api.ClReady {
		return api.Note{}
	}
	return api.Note{Kind: api.NtSnap, Site: h.now.Site, Vector: h.now.Log.Base, Time: h.now.Log.Folded}
}

// ack notes that it was told what the server has.
func (h heard) ack() api.Note {
	if !h.wasReady() || h.frame.Kind != api.FrState || h.now.Epoch != h.frame.Epoch {
		return api.Note{}
	}
	return api.Note{Kind: api.NtAck, Site: h.now.Site, Vector: h.frame.Vector}
}

// fold notes that it has folded.
func (h heard) fold() api.Note {
	time := h.now.Log.Folded
	if !h.wasReady() || time == h.was.Log.Folded {
		return api.Note{}
	}
	asked := h.was.By
	if h.frame.Kind == api.FrState && h.frame.Told == time {
		asked = h.frame.By
	}
	return api.Note{Kind: api.NtFold, Site: h.now.Site, Time: time, Vector: asked}
}

// clientHears lets a client hear bytes, and notes what came of it.
func (w *World) clientHears(site int, b []byte) api.Errno {
	c := w.needClient(site)
	was := c.Look()
	e := c.Hear(b)
	if e != api.OK {
		return e
	}
	f, _ := frame.Read(b)
noting:
	for n := range (heard{f, was, c.Look()}).notes() {
		if n.Kind == 0 {
			continue noting
		}
		w.note(n)
	}
	return api.OK
}
