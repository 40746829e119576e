package frontier

import (
	"iter"

	"gesso/api"
	"gesso/vector"
)

// wrong leaves by a panic: why something can't be done.
type wrong struct{ errno api.Errno }

// told is the error that a recovered panic stands for.
func told(left any) api.Errno {
	if w, ok := left.(wrong); ok {
		return w.errno
	}
	return api.OK
}

// need leaves with an error, if something does not hold.
func need(holds bool, e api.Errno) {
	if !holds {
		panic(wrong{e})
	}
}

// all asks of each of a row whether it is in order.
func all[T any](row []T, holds func(T) bool) bool {
	for _, x := range row {
		if !holds(x) {
			return false
		}
	}
	return true
}

// isSite tells whether there is such a site.
func isSite(site int) bool { return site >= 1 && site <= api.MaxSites }

// mayBe tells whether it may be a registered site's pledge, whatever is folded.
func mayBe(p api.Pledge) bool {
	return p.In && p.Floor <= api.MaxTime && p.FloorSeq <= api.MaxTime && vector.Check(p.Has) == api.OK
}

// changing is a frontier that changes.
type changing struct{ api.Frontier }

// changingOf is a copy of what must be a frontier.
func changingOf(f api.Frontier) *changing {
	need(Check(f) == api.OK, api.ErrFront)
	return &changing{f}
}

// registered tells the sites that are registered, rising, each with its pledge.
func (c *changing) registered() iter.Seq2[int, api.Pledge] {
	return func(yield func(int, api.Pledge) bool) {
		for site, p := range c.Sites {
			if p.In && !yield(site, p) {
				return
			}
		}
	}
}

// hear takes in what a pledge says more.
func (c *changing) hear(site int, p api.Pledge) {
	own := &c.Sites[site]
	own.Has, _ = vector.Join(own.Has, p.Has)
	if p.Floor > own.Floor {
		own.Floor, own.FloorSeq = p.Floor, p.FloorSeq
	}
}

// forget forgets what a site promised, but what is folded.
func (c *changing) forget(site int) {
	c.Sites[site] = api.Pledge{In: true, Floor: c.Folded}
}

// asked is what is asked for: what each site had issued when it promised.
func (c *changing) asked() api.Vector {
	var v api.Vector
	for site, p := range c.registered() {
		v[site] = p.FloorSeq
	}
	return v
}

// waits is the sites that are waited for.
func (c *changing) waits(set api.Vector) []int {
	var out []int
	asked := c.asked()
waiting:
	for site, p := range c.registered() {
		if c.Proposed == 0 {
			break waiting
		}
		if p.Floor < c.Proposed || p.FloorSeq > set[site] || !vector.Covers(p.Has, asked) {
			out = append(out, site)
		}
	}
	return out
}
