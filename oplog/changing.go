package oplog

import (
	"iter"
	"slices"
	"sort"

	"gesso/api"
	"gesso/ident"
	"gesso/op"
	"gesso/vector"
)

// wrong leaves by a panic: why something can't be done.
type wrong struct{ errno api.Errno }

// told is the error that a recovered panic stands for.
func told(left any) api.Errno {
	if w, ok := left.(wrong); ok {
		return w.errno
	}
	return api.OK
}

// lasts is of each site the id of its last operation; of none: what is folded of it.
type lasts [api.MaxSites + 1]api.Id

// numbers is how many operations of each site there are.
func numbers(last lasts) api.Vector {
	var v api.Vector
	for site, i := range last {
		v[site] = i.Seq
	}
	return v
}

// ends is the last ones of a log's sites; an error, if it is no log.
func ends(l api.Log) (lasts, api.Errno) {
	if l.Folded > api.MaxTime || vector.Check(l.Base) != api.OK {
		return lasts{}, api.ErrLog
	}
	var last lasts
	for site, n := range l.Base {
		last[site] = api.Id{Time: l.Folded, Site: site, Seq: n}
	}
	ahead := api.Id{}
	for _, o := range l.Ops {
		if op.Check(o) != api.OK || !ident.Less(ahead, o.Id) || o.Id.Time <= l.Folded {
			return lasts{}, api.ErrLog
		}
		// A site's Times don't have to rise: of one Time its ids rise by their Seqs.
		if o.Id.Seq != last[o.Id.Site].Seq+1 {
			return lasts{}, api.ErrLog
		}
		ahead, last[o.Id.Site] = o.Id, o.Id
	}
	return last, api.OK
}

// place is where the first one of a row stands of which something holds, which then does of all behind.
func place[T any](row []T, holds func(T) bool) int {
	return sort.Search(len(row), func(i int) bool { return holds(row[i]) })
}

// copied is an operation in new memory.
func copied(o api.Op) api.Op {
	o.Stamp.Pixels = slices.Clone(o.Stamp.Pixels)
	return o
}

// copies is operations in new memory.
func copies(l []api.Op) []api.Op {
	out := make([]api.Op, len(l))
	copy(out, l)
	for i := range out {
		out[i] = copied(out[i])
	}
	return out
}

// those tells the operations of which something holds, in order.
func those(l []api.Op, holds func(*api.Op) bool) iter.Seq[*api.Op] {
	return func(yield func(*api.Op) bool) {
		for i := range l {
			if holds(&l[i]) && !yield(&l[i]) {
				return
			}
		}
	}
}

// changing is a log that changes.
type changing struct {
	api.Log
	last lasts
}

// changingOf is a copy of what must be a log.
func changingOf(l api.Log) *changing {
	last, e := ends(l)
	if e != api.OK {
		panic(wrong{e})
	}
	l.Ops = copies(l.Ops)
	return &changing{l, last}
}

// insert puts an operation where it stands, and tells where that is.
func (c *changing) insert(o api.Op) int {
	if e := op.Check(o); e != api.OK {
		panic(wrong{e})
	}
	last := c.last[o.Id.Site]
	switch {
	case o.Id.Seq <= last.Seq:
		panic(wrong{api.ErrThere})
	case o.Id.Seq != last.Seq+1:
		panic(wrong{api.ErrGap})
	case o.Id.Time <= last.Time:
		panic(wrong{api.ErrBehind})
	}
	at := place(c.Ops, func(x api.Op) bool { return ident.Less(o.Id, x.Id) })
	ops := make([]api.Op, 0, len(c.Ops)+1)
	ops = append(ops, c.Ops[:at:at]...)
	ops = append(ops, copied(o))
	c.Ops = append(ops, c.Ops[at:]...)
	c.last[o.Id.Site] = o.Id
	return at
}

// try inserts an operation, if it may be, and tells the error.
func (c *changing) try(o api.Op) (e api.Errno) {
	defer func() { e = told(recover()) }()
	c.insert(o)
	return api.OK
}

// fold takes out the operations up to a time, and tells them.
func (c *changing) fold(time uint64) []api.Op {
	at := place(c.Ops, func(o api.Op) bool { return o.Id.Time > time })
	folded := c.Ops[:at:at]
	c.Ops = c.Ops[at:len(c.Ops):len(c.Ops)]
	for _, o := range folded {
		c.Base[o.Id.Site] = o.Id.Seq
	}
	c.Folded = time
	return folded
}
