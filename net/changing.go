package net

import (
	"iter"
	"slices"

	"gesso/api"
	"gesso/crc"
)

// wrong leaves by a panic: why something can't be.
type wrong struct{ errno api.Errno }

// told is the error that a recovered panic stands for.
func told(left any) api.Errno {
	if w, ok := left.(wrong); ok {
		return w.errno
	}
	return api.OK
}

// need leaves with an error, if something does not hold.
func need(holds bool, e api.Errno) {
	if !holds {
		panic(wrong{e})
	}
}

// all asks of each of a row whether it is so.
func all[T any](row []T, holds func(T) bool) bool {
	return !slices.ContainsFunc(row, func(x T) bool { return !holds(x) })
}

// mayBe tells whether it is a parcel.
func mayBe(p api.Parcel) bool {
	return p.To >= 0 && p.To <= api.MaxSites && len(p.Bytes) <= api.MaxParcel
}

// copied is a parcel in new memory.
func copied(p api.Parcel) api.Parcel {
	p.Bytes = slices.Clone(p.Bytes)
	return p
}

// changing is a net that changes.
type changing struct{ api.Net }

// changingOf is a copy of what must be a net.
func changingOf(n api.Net) *changing {
	need(Check(n) == api.OK, api.ErrNet)
	parcels := make([]api.Parcel, 0, len(n.Parcels)+1)
	for _, p := range n.Parcels {
		parcels = append(parcels, copied(p))
	}
	n.Parcels = parcels
	return &changing{n}
}

// parcels tells the parcels, each with its place.
func (c *changing) parcels() iter.Seq2[int, api.Parcel] {
	return func(yield func(int, api.Parcel) bool) {
		for at, p := range c.Parcels {
			if !yield(at, p) {
				return
			}
		}
	}
}

// send lets a parcel come behind all others; without room it is lost.
func (c *changing) send(p api.Parcel) {
	if len(c.Parcels) < api.MaxNet {
		c.Parcels = append(c.Parcels, copied(p))
		return
	}
	c.Lost = min(c.Lost+1, api.MaxTime)
}

// take lets a parcel arrive.
func (c *changing) take(t api.Trick) api.Parcel {
	p := c.Parcels[t.At]
	c.drop(t)
	return p
}

// drop lets a parcel be under way no more.
func (c *changing) drop(t api.Trick) api.Parcel {
	c.Parcels = slices.Concat(c.Parcels[:t.At:t.At], c.Parcels[t.At+1:])
	return api.Parcel{}
}

// twice lets one more like a parcel come.
func (c *changing) twice(t api.Trick) api.Parcel {
	c.send(c.Parcels[t.At])
	return api.Parcel{}
}

// spoil turns some of a parcel's bits.
func (c *changing) spoil(t api.Trick) api.Parcel {
	p := c.Parcels[t.At]
	need(!p.Spoilt, api.ErrThere)
	b, e := crc.Spoil(p.Bytes, t.Bit, t.Mask)
	need(e == api.OK, e)
	c.Parcels[t.At] = api.Parcel{To: p.To, Bytes: b, Spoilt: true}
	return api.Parcel{}
}

// tricks is by each kind what befalls a parcel.
func tricks() [api.TrSpoil + 1]func(*changing, api.Trick) api.Parcel {
	return [...]func(*changing, api.Trick) api.Parcel{
		api.TrTake:  (*changing).take,
		api.TrDrop:  (*changing).drop,
		api.TrTwice: (*changing).twice,
		api.TrSpoil: (*changing).spoil,
	}
}

// do lets a trick befall a parcel, and tells what arrives.
func (c *changing) do(t api.Trick) api.Parcel {
	need(t.Kind >= api.TrTake && t.Kind <= api.TrSpoil, api.ErrArg)
	need(t.At >= 0 && t.At < len(c.Parcels), api.ErrNone)
	return tricks()[t.Kind](c, t)
}

// try does a trick, if it can be done.
func (c *changing) try(t api.Trick) (p api.Parcel, e api.Errno) {
	defer func() { e = told(recover()) }()
	return c.do(t), api.OK
}
