package client

import (
	"iter"

	"gesso/api"
	"gesso/canvas"
	"gesso/ident"
	"gesso/oplog"
	"gesso/replay"
	"gesso/snap"
	"gesso/vector"
)

// passes tells whether it passes over a frame.
func (c *Client) passes(f api.Frame) bool {
	switch f.Kind {
	case api.FrJoin, api.FrStatus:
		return true
	case api.FrOps:
		if f.Site != 0 {
			return true
		}
	case api.FrChunk:
		if f.Site != c.Site {
			return true
		}
	}
	return c.Phase == api.ClOut || f.Epoch < c.Epoch
}

// hear does what it does with a frame.
func (c *Client) hear(f api.Frame) {
	if c.passes(f) {
		return
	}
	if f.Epoch > c.Epoch {
		c.Epoch, c.Pile = f.Epoch, api.Pile{}
	}
	does := map[int]func(api.Frame){api.FrChunk: c.chunk, api.FrState: c.state, api.FrOps: c.ops}
	if do, known := does[f.Kind]; known {
		do(f)
	}
}

// chunk puts a piece on the pile of who is joining.
func (c *Client) chunk(f api.Frame) {
	if c.Phase != api.ClJoining {
		return
	}
	p, e := snap.Put(c.Pile, api.Piece{Snap: f.Snap, Index: f.Index, Many: f.Many, Bytes: f.Bytes})
	if e != api.OK {
		return
	}
	c.Pile = p
	if b, whole := snap.Whole(p); whole {
		c.Pile = api.Pile{}
		c.begin(b)
	}
}

// begin lets it be ready, if bytes are a snapshot's.
func (c *Client) begin(b []byte) {
	defer func() { told(recover()) }()
	s := must(snap.Read(b))
	base := must(canvas.Of(s.Canvas))
	c.view = must(replay.New(base, api.Log{Folded: s.Folded, Base: s.Base}))
	c.Phase, c.Acked = api.ClReady, s.Base
	c.Clock.Time, c.Clock.Seq = s.Start, s.Base[c.Site]
	c.Floor, c.FloorSeq = c.Clock.Time, c.Clock.Seq
}

// state takes in what the server has, proposes, and has folded.
func (c *Client) state(f api.Frame) {
	if c.Phase != api.ClReady {
		return
	}
	c.Acked, _ = vector.Join(c.Acked, f.Vector)
	c.promise(max(f.Proposed, f.Told))
	if f.Told > c.view.Log().Folded && f.Told > c.Told {
		c.Told, c.By = f.Told, f.By
	}
	c.fold()
}

// promise promises a time that is above its floor.
func (c *Client) promise(time uint64) {
	if time <= c.Floor {
		return
	}
	c.Floor, c.FloorSeq = time, c.Clock.Seq
	c.see(time)
}

// see lets its clock see a time.
func (c *Client) see(time uint64) {
	if clock, e := ident.See(c.Clock, time); e == api.OK {
		c.Clock = clock
	}
}

// ops inserts operations of others.
func (c *Client) ops(f api.Frame) {
	if c.Phase != api.ClReady {
		return
	}
	for _, o := range f.Ops {
		if o.Id.Site != c.Site && c.view.Insert(o)[0] == api.OK {
			c.see(o.Id.Time)
		}
	}
	c.fold()
}

// fold folds what is told, if it has all that is asked for.
func (c *Client) fold() {
	if c.Told == 0 || !vector.Covers(c.view.Vector(), c.By) {
		return
	}
	if c.view.Fold(c.Told) == api.OK {
		c.Told, c.By = 0, api.Vector{}
	}
}

// frames tells the frames that it sends.
func (c *Client) frames() iter.Seq[api.Frame] {
	return func(yield func(api.Frame) bool) {
		switch c.Phase {
		case api.ClJoining:
			next, _ := snap.Next(c.Pile)
			yield(api.Frame{Kind: api.FrJoin, Epoch: c.Epoch, Site: c.Site, Snap: c.Pile.Snap, Index: next})
		case api.ClReady:
			status := api.Frame{Kind: api.FrStatus, Epoch: c.Epoch, Site: c.Site, Vector: c.view.Vector(), Floor: c.Floor, FloorSeq: c.FloorSeq}
			own := oplog.Own(c.view.Log(), c.Site, c.Acked[c.Site])
			if n := min(len(own), api.Batch); yield(status) && n > 0 {
				yield(api.Frame{Kind: api.FrOps, Epoch: c.Epoch, Site: c.Site, Ops: own[:n:n]})
			}
		}
	}
}
