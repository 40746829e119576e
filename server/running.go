package server

import (
	"iter"
	"slices"

	"gesso/api"
	"gesso/frame"
	"gesso/frontier"
	"gesso/oplog"
	"gesso/snap"
	"gesso/store"
)

// kept is what is kept: by that name its fields are promoted.
type kept = api.Kept

// running is what a server has that is up.
type running struct {
	kept
	waits     []api.Fact
	behind    api.Kept // what is kept, once all that waits is applied
	front     api.Frontier
	told      [api.MaxSites + 1]bool
	joined    [api.MaxSites + 1]bool
	asked     [api.MaxSites + 1]int    // of who has joined: for which chunk
	transfers [api.MaxSites + 1][]byte // what chunks are cut from, once one was sent
}

// runningOf is what a server has that begins with what is kept.
func runningOf(k api.Kept) *running {
	r := &running{kept: k, behind: k}
	r.front = api.Frontier{Folded: k.Log.Folded, By: k.By}
	for site := range r.registered() {
		r.front = must(frontier.Register(r.front, site))
	}
	return r
}

// registered tells the sites that are registered, rising.
func (r *running) registered() iter.Seq[int] {
	return func(yield func(int) bool) {
		for site, in := range r.Sites {
			if in && !yield(site) {
				return
			}
		}
	}
}

// copied is an operation in new memory.
func copied(o api.Op) api.Op {
	o.Stamp.Pixels = slices.Clone(o.Stamp.Pixels)
	return o
}

// could is what would be kept, if a fact were laid; an error, if it can't be applied.
func (r *running) could(f api.Fact) (api.Kept, api.Errno) {
	k, _, e := store.Apply(r.behind, f)
	return k, e
}

// wait lays a fact that can be applied, which waits then.
func (s *Server) wait(f api.Fact, behind api.Kept) {
	s.lay(f)
	s.up.waits = append(s.up.waits, f)
	s.up.behind = behind
}

// join hears a join.
func (s *Server) join(f api.Frame) []api.Op {
	fact := api.Fact{Kind: api.FcSite, Site: f.Site}
	if behind, e := s.up.could(fact); e == api.OK {
		s.wait(fact, behind)
	}
	s.up.joined[f.Site], s.up.asked[f.Site] = true, 0
	if f.Snap == s.up.Epoch {
		s.up.asked[f.Site] = f.Index
	}
	return nil
}

// status hears a status.
func (s *Server) status(f api.Frame) []api.Op {
	pledge := api.Pledge{In: true, Floor: f.Floor, FloorSeq: f.FloorSeq, Has: f.Vector}
	s.up.front = must(frontier.Hear(s.up.front, f.Site, pledge))
	s.up.told[f.Site], s.up.transfers[f.Site] = true, nil
	return nil
}

// ops hears operations, and tells those that it has laid.
func (s *Server) ops(f api.Frame) []api.Op {
	var laid []api.Op
	for _, o := range f.Ops {
		fact := api.Fact{Kind: api.FcOp, Op: o}
		if behind, e := s.up.could(fact); e == api.OK {
			s.wait(fact, behind)
			laid = append(laid, copied(o))
		}
	}
	return laid
}

// take applies all that waits, and tells the operations among it.
func (r *running) take() []api.Op {
	var took []api.Op
	for _, f := range r.waits {
		switch f.Kind {
		case api.FcSite:
			r.front = must(frontier.Register(r.front, f.Site))
		case api.FcOp:
			took = append(took, copied(f.Op))
		}
	}
	r.kept, r.waits = r.behind, nil
	return took
}

// fold folds what is kept, and the frontier, as a fact says.
func (r *running) fold(f api.Fact) {
	k, _, e := store.Apply(r.kept, f)
	need(e == api.OK, e)
	r.front = must(frontier.Fold(r.front, oplog.Vector(r.Log)))
	r.kept, r.behind = k, k
}

// chunk is the frame of the chunk that a site has asked for, if there is such a one.
func (r *running) chunk(site int) (api.Frame, bool) {
	if !r.joined[site] {
		return api.Frame{}, false
	}
	b := r.transfers[site]
	if b == nil {
		s := api.Snapshot{Canvas: r.Canvas, Folded: r.Log.Folded, Start: max(r.Log.Folded, r.front.Proposed), Base: r.Log.Base}
		b = must(snap.Bytes(s))
	}
	p, e := snap.Piece(r.Epoch, b, r.asked[site])
	if e != api.OK {
		return api.Frame{}, false
	}
	r.transfers[site] = b[:len(b):len(b)]
	return api.Frame{Kind: api.FrChunk, Epoch: r.Epoch, Site: site, Snap: p.Snap, Index: p.Index, Many: p.Many, Bytes: p.Bytes}, true
}

// frames tells what is sent to a site.
func (r *running) frames(site int) iter.Seq[api.Frame] {
	return func(yield func(api.Frame) bool) {
		state := api.Frame{Kind: api.FrState, Epoch: r.Epoch, Vector: oplog.Vector(r.Log), Proposed: r.front.Proposed, Told: r.Log.Folded, By: r.By}
		if !yield(state) {
			return
		}
		if !r.told[site] {
			if f, there := r.chunk(site); there {
				yield(f)
			}
			return
		}
		missing, e := oplog.Missing(r.Log, r.front.Sites[site].Has, api.Batch)
		if e == api.OK && len(missing) > 0 {
			yield(api.Frame{Kind: api.FrOps, Epoch: r.Epoch, Ops: missing})
		}
	}
}

// sends is all that it sends.
func (r *running) sends() []api.Parcel {
	var out []api.Parcel
	for site := range r.registered() {
	sending:
		for f := range r.frames(site) {
			b, e := frame.Bytes(f)
			if e != api.OK {
				break sending
			}
			out = append(out, api.Parcel{To: site, Bytes: b})
		}
	}
	return out
}
