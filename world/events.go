package world

import (
	"gesso/api"
	"gesso/client"
	"gesso/net"
)

// wrong leaves by a panic: why something may not be.
type wrong struct{ errno api.Errno }

// need leaves with an error, if something does not hold.
func need(holds bool, e api.Errno) {
	if !holds {
		panic(wrong{e})
	}
}

// does is by each kind what happens.
func does() [api.EvRise + 1]func(*World, api.Event) api.Outcome {
	return [...]func(*World, api.Event) api.Outcome{
		api.EvJoin:    (*World).join,
		api.EvCommand: (*World).command,
		api.EvTick:    (*World).tick,
		api.EvTake:    (*World).take,
		api.EvTrick:   (*World).trick,
		api.EvSettle:  (*World).settle,
		api.EvArm:     (*World).arm,
		api.EvFall:    (*World).fall,
		api.EvRise:    (*World).rise,
	}
}

// happen lets an event happen.
func (w *World) happen(x api.Event) (out api.Outcome) {
	defer func() {
		if left, ok := recover().(wrong); ok {
			out = api.Outcome{Err: left.errno}
		}
	}()
	need(x.Kind >= api.EvJoin && x.Kind <= api.EvRise, api.ErrArg)
	up := w.server.Up()
	out = does()[x.Kind](w, x)
	w.noteUp(up)
	return out
}

// told is an outcome that is an error, or none.
func told(e api.Errno) api.Outcome { return api.Outcome{Err: e} }

// needClient is the client of a site, which must be there.
func (w *World) needClient(site int) *client.Client {
	c := w.client(site)
	need(c != nil, api.ErrArg)
	return c
}

// send sends parcels.
func (w *World) send(l []api.Parcel) {
	if n, e := net.Send(w.wire, l...); e == api.OK {
		w.wire = n
	}
}

func (w *World) join(x api.Event) api.Outcome { return told(w.needClient(x.Site).Join()) }

func (w *World) command(x api.Event) api.Outcome {
	i, e := w.needClient(x.Site).Command(x.Op)
	if e == api.OK {
		o := x.Op
		o.Id = i
		w.note(api.Note{Kind: api.NtIssue, Site: x.Site, Op: o})
	}
	return api.Outcome{Err: e, Id: i}
}

func (w *World) tick(x api.Event) api.Outcome {
	if x.Site == 0 {
		return w.tickServer()
	}
	rows := w.needClient(x.Site).Tick()
	w.send(each(rows, func(b []byte) api.Parcel { return api.Parcel{Bytes: b} }))
	return told(api.OK)
}

func (w *World) tickServer() api.Outcome {
	turn, e := w.server.Tick()
	if e != api.OK {
		return told(e)
	}
	w.note(each(turn.Took, func(o api.Op) api.Note { return api.Note{Kind: api.NtTake, Op: o} })...)
	if turn.Folded > 0 {
		w.note(api.Note{Kind: api.NtFold, Time: turn.Folded, Vector: w.server.Kept().By})
	}
	w.send(turn.Parcels)
	return told(api.OK)
}

func (w *World) take(x api.Event) api.Outcome {
	n, p, e := net.Do(w.wire, api.Trick{Kind: api.TrTake, At: x.N})
	need(e == api.OK, e)
	w.wire = n
	if p.To == 0 {
		return told(w.serverHears(p.Bytes))
	}
	return told(w.clientHears(p.To, p.Bytes))
}

func (w *World) trick(x api.Event) api.Outcome {
	need(x.Trick.Kind != api.TrTake, api.ErrArg)
	n, _, e := net.Do(w.wire, x.Trick)
	need(e == api.OK, e)
	w.wire = n
	return told(api.OK)
}

func (w *World) settle(x api.Event) api.Outcome { return told(w.server.Settle(x.N)) }

func (w *World) arm(x api.Event) api.Outcome { return told(w.server.Arm(x.N)) }

func (w *World) fall(x api.Event) api.Outcome { return told(w.server.Fall(x.N, x.M)) }

func (w *World) rise(x api.Event) api.Outcome { return told(w.server.Rise(x.N)) }
