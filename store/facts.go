package store

import (
	"slices"

	"gesso/api"
	"gesso/codec"
	"gesso/disk"
	"gesso/journal"
	"gesso/octet"
	"gesso/op"
	"gesso/snap"
	"gesso/vector"
)

// The widths of numbers.
const (
	byteWidth = 1
	timeWidth = 8
)

// kind is what the facts of a kind use; whether that may be; what they do; and how they are laid, and read.
type kind struct {
	plain func(f api.Fact) api.Fact
	mayBe func(f api.Fact) bool
	apply func(p *keeper, f api.Fact)
	lay   func(f api.Fact) []byte
	read  func(b []byte) api.Fact
}

// kinds is all kinds of facts, by their numbers.
func kinds() [api.FcFold + 1]kind {
	return [...]kind{
		api.FcSite: {
			func(f api.Fact) api.Fact { return api.Fact{Kind: f.Kind, Site: f.Site} },
			func(f api.Fact) bool { return f.Site >= 1 && f.Site <= api.MaxSites },
			(*keeper).site,
			func(f api.Fact) []byte { return must(octet.Put(nil, byteWidth, uint64(f.Site))) },
			func(b []byte) api.Fact {
				return api.Fact{Kind: api.FcSite, Site: int(must(octet.Get(b, 0, byteWidth)))}
			},
		},
		api.FcOp: {
			func(f api.Fact) api.Fact { return api.Fact{Kind: f.Kind, Op: f.Op} },
			func(f api.Fact) bool { return op.Check(f.Op) == api.OK },
			(*keeper).op,
			func(f api.Fact) []byte { return must(codec.Op(f.Op)) },
			readOp,
		},
		api.FcFold: {
			func(f api.Fact) api.Fact { return api.Fact{Kind: f.Kind, Time: f.Time, By: f.By} },
			func(f api.Fact) bool {
				return f.Time >= 1 && f.Time <= api.MaxTime && vector.Check(f.By) == api.OK
			},
			(*keeper).fold,
			func(f api.Fact) []byte {
				return slices.Concat(must(octet.Put(nil, timeWidth, f.Time)), must(codec.Vector(f.By)))
			},
			readFold,
		},
	}
}

func readOp(b []byte) api.Fact {
	o, _, e := codec.TakeOp(b)
	need(e == api.OK, e)
	return api.Fact{Kind: api.FcOp, Op: o}
}

func readFold(b []byte) api.Fact {
	time := must(octet.Get(b, 0, timeWidth))
	by, _, e := codec.TakeVector(b[timeWidth:len(b):len(b)])
	need(e == api.OK, e)
	return api.Fact{Kind: api.FcFold, Time: time, By: by}
}

// isFact tells whether it is a fact.
func isFact(f api.Fact) bool {
	if f.Kind < api.FcSite || f.Kind > api.FcFold {
		return false
	}
	k := kinds()[f.Kind]
	plain := k.plain(f)
	return k.mayBe(f) && f.Site == plain.Site && op.Same(f.Op, plain.Op) && f.Time == plain.Time && f.By == plain.By
}

// layFact is the bytes of what is a fact.
func layFact(f api.Fact) []byte {
	return append([]byte{byte(f.Kind)}, kinds()[f.Kind].lay(f)...)
}

// Fact is a fact's bytes.
func Fact(f api.Fact) (out []byte, e api.Errno) {
	defer func() { e = told(recover()) }()
	need(isFact(f), api.ErrArg)
	return layFact(f), api.OK
}

// Read is the fact whose bytes these are.
func Read(b []byte) (f api.Fact, e api.Errno) {
	defer func() {
		if told(recover()) != api.OK {
			f, e = api.Fact{}, api.ErrArg
		}
	}()
	kind := must(octet.Get(b, 0, byteWidth))
	need(kind >= api.FcSite && kind <= api.FcFold, api.ErrArg)
	f = kinds()[kind].read(b[byteWidth:len(b):len(b)])
	need(isFact(f) && len(layFact(f)) == len(b), api.ErrArg)
	return f, api.OK
}

// recordsOf is the records of the facts of operations.
func recordsOf(ops []api.Op) []byte {
	rows := make([][]byte, 0, len(ops))
	for _, o := range ops {
		rows = append(rows, layFact(api.Fact{Kind: api.FcOp, Op: o}))
	}
	return must(journal.Join(rows...))
}

// recordOf is the record of a slot's first file: what is kept, but the operations.
func recordOf(k api.Kept) []byte {
	sites := byte(0)
	for site, in := range k.Sites {
		if in {
			sites |= 1 << (site - 1)
		}
	}
	s := api.Snapshot{Canvas: k.Canvas, Folded: k.Log.Folded, Start: k.Log.Folded, Base: k.Log.Base}
	head := must(octet.Put(nil, timeWidth, k.Epoch))
	return must(journal.Record(slices.Concat(head, []byte{sites}, must(codec.Vector(k.By)), must(snap.Bytes(s)))))
}

// readKept is what is kept, as a slot's first file says.
func readKept(b []byte) api.Kept {
	var k api.Kept
	var e api.Errno
	k.Epoch, e = octet.Get(b, 0, timeWidth)
	need(e == api.OK, api.ErrStore)
	sites, e := octet.Get(b, timeWidth, byteWidth)
	need(e == api.OK, api.ErrStore)
	for site := 1; site <= api.MaxSites; site++ {
		k.Sites[site] = sites>>(site-1)&1 == 1
	}
	rest := b[timeWidth+byteWidth : len(b) : len(b)]
	by, n, e := codec.TakeVector(rest)
	need(e == api.OK, api.ErrStore)
	s, e := snap.Read(rest[n:])
	need(e == api.OK && s.Start == s.Folded, api.ErrStore)
	k.By, k.Canvas, k.Log = by, s.Canvas, api.Log{Folded: s.Folded, Base: s.Base}
	need(Check(k) == api.OK, api.ErrStore)
	return k
}

// slot is two files of a disk, by its number.
type slot int

func slotOf(n int) slot    { return slot(n) }
func (s slot) first() int  { return 2 * int(s) }
func (s slot) second() int { return 2*int(s) + 1 }
func (s slot) other() slot { return 1 - s }
func isSlot(head int) bool { return head == 0 || head == 1 }

// counting is what tells which slot of a disk counts; there may be none.
func counting(d api.Disk, none api.Errno) func() slot {
	return func() slot {
		head := disk.Head(d)
		need(isSlot(head), none)
		return slotOf(head)
	}
}
