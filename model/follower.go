package model

import (
	"iter"

	"gesso/api"
	"gesso/op"
	"gesso/vector"
)

// unsound leaves by a panic: a note is not sound behind those ahead of it.
type unsound struct{}

// need leaves, if something does not hold.
func need(holds bool) {
	if !holds {
		panic(unsound{})
	}
}

// mayBe tells whether it is a note.
func mayBe(n api.Note) bool {
	plain := api.Note{Site: n.Site}
	usesOp, least := false, 1
	switch n.Kind {
	case api.NtIssue:
		usesOp, plain.Site = true, n.Op.Id.Site
	case api.NtTake:
		usesOp, least = true, 0
	case api.NtWrite:
		usesOp, least, plain.Site = true, 0, 0
	case api.NtAck:
		plain.Vector = n.Vector
	case api.NtSnap:
		plain.Vector, plain.Time = n.Vector, n.Time
	case api.NtFold:
		plain.Vector, plain.Time, least = n.Vector, n.Time, 0
	case api.NtFall:
		plain.Site, least = 0, 0
	case api.NtRise:
		plain.Site, least, plain.Vector, plain.Epoch = 0, 0, n.Vector, n.Epoch
	default:
		return false
	}
	if usesOp {
		plain.Op = n.Op
	}
	return isSite(n.Site) && n.Site >= least && n.Site == plain.Site && opMayBe(n.Op, usesOp) && op.Same(n.Op, plain.Op) &&
		n.Vector == plain.Vector && vector.Check(n.Vector) == api.OK && n.Time == plain.Time && n.Epoch == plain.Epoch && max(n.Time, n.Epoch) <= api.MaxTime
}

// opMayBe tells whether it may be a note's operation: one that is used, or none.
func opMayBe(o api.Op, used bool) bool { return !used || op.Check(o) == api.OK }

// issued is what was issued: all in the order in which it was, and of each site which ones of these.
type issued struct {
	all    []api.Op
	bySite [api.MaxSites + 1][]int
}

// just tells whether an operation was issued, just so.
func (i *issued) just(o api.Op) bool {
	own := i.bySite[o.Id.Site]
	return o.Id.Seq <= uint64(len(own)) && op.Same(i.all[own[o.Id.Seq-1]], o)
}

// add adds an operation.
func (i *issued) add(o api.Op) {
	i.bySite[o.Id.Site] = append(i.bySite[o.Id.Site], len(i.all))
	i.all = append(i.all, o)
}

// last is the Time of a site's last operation.
func (i *issued) last(site int) uint64 {
	own := i.bySite[site]
	if len(own) == 0 {
		return 0
	}
	return i.all[own[len(own)-1]].Id.Time
}

// follower follows a history. What each has stands by its site, what the server has at 0; that has begun, as long as it is up.
type follower struct {
	issued
	has      [api.MaxSites + 1]api.Vector
	begun    [api.MaxSites + 1]bool
	folded   [api.MaxSites + 1]uint64
	acked    [api.MaxSites + 1]api.Vector
	written  api.Vector
	epoch    uint64
	followed int
}

// told tells notes, one behind the other.
func told(l []api.Note) iter.Seq[api.Note] {
	return func(yield func(api.Note) bool) {
		for _, n := range l {
			if !yield(n) {
				return
			}
		}
	}
}

// follow follows a history up to the first note that is not sound.
func follow(l []api.Note) *follower {
	f := &follower{epoch: 1}
	f.begun[0] = true
	needs := map[int]func(api.Note){
		api.NtIssue: f.issue, api.NtTake: f.take, api.NtWrite: f.write, api.NtAck: f.ack,
		api.NtSnap: f.snap, api.NtFold: f.fold, api.NtFall: f.fall, api.NtRise: f.rise,
	}
following:
	for n := range told(l) {
		if !f.try(needs[n.Kind], n) {
			break following
		}
		f.followed++
	}
	return f
}

// try does what a note needs, and tells whether it is sound.
func (f *follower) try(does func(api.Note), n api.Note) (ok bool) {
	defer func() {
		if _, left := recover().(unsound); left {
			ok = false
		}
	}()
	does(n)
	return true
}

func (f *follower) issue(n api.Note) {
	i := n.Op.Id
	need(f.begun[n.Site] && i.Seq == uint64(len(f.bySite[n.Site]))+1 && i.Time > f.last(n.Site))
	f.add(n.Op)
	f.has[n.Site][n.Site]++
}

func (f *follower) take(n api.Note) {
	i := n.Op.Id
	need(f.just(n.Op) && f.begun[n.Site] && vector.Next(f.has[n.Site], i))
	need(n.Site != i.Site)
	need(n.Site > 0 || vector.Has(f.written, i))
	f.has[n.Site][i.Site]++
}

func (f *follower) write(n api.Note) {
	i := n.Op.Id
	need(f.just(n.Op) && f.begun[0] && i.Seq <= f.written[i.Site]+1)
	f.written[i.Site] = max(f.written[i.Site], i.Seq)
}

func (f *follower) ack(n api.Note) {
	need(f.begun[n.Site] && vector.Covers(f.has[0], n.Vector))
	f.acked[n.Site], _ = vector.Join(f.acked[n.Site], n.Vector)
}

func (f *follower) snap(n api.Note) {
	need(!f.begun[n.Site] && vector.Covers(f.has[0], n.Vector) && n.Vector[n.Site] == 0)
	f.begun[n.Site], f.has[n.Site], f.folded[n.Site] = true, n.Vector, n.Time
}

func (f *follower) fold(n api.Note) {
	need(vector.Covers(f.has[n.Site], n.Vector) && n.Time > f.folded[n.Site])
	need(n.Site == 0 || f.begun[n.Site])
	f.folded[n.Site] = n.Time
}

func (f *follower) fall(api.Note) {
	need(f.begun[0])
	f.begun[0] = false
}

func (f *follower) rise(n api.Note) {
	need(!f.begun[0] && n.Epoch > f.epoch && vector.Covers(n.Vector, f.has[0]) && vector.Covers(f.written, n.Vector))
	f.begun[0], f.epoch, f.has[0] = true, n.Epoch, n.Vector
}
