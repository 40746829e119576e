package frame

import (
	"gesso/api"
	"gesso/codec"
	"gesso/octet"
)

// unread leaves by a panic: bytes are no frame's.
type unread struct{}

// reader reads a frame from bytes, part by part.
type reader struct {
	api.Frame
	rest []byte
}

// need leaves, if something does not hold.
func (r *reader) need(holds bool) {
	if !holds {
		panic(unread{})
	}
}

// part reads a field.
func (r *reader) part(x field) { x.read(r) }

// pass passes over bytes that were read.
func (r *reader) pass(n int) { r.rest = r.rest[n:len(r.rest):len(r.rest)] }

// number reads a number.
func (r *reader) number(width int) uint64 {
	n, e := octet.Get(r.rest, 0, width)
	r.need(e == api.OK)
	r.pass(width)
	return n
}

// piece reads a part.
func (r *reader) piece() []byte {
	o, e := octet.Open(r.rest)
	r.need(e == api.OK)
	b := o.Part()
	r.need(o.Err() == api.OK)
	r.pass(len(r.rest) - o.Left())
	return b
}

// vector reads a vector.
func (r *reader) vector() api.Vector {
	v, n, e := codec.TakeVector(r.rest)
	r.need(e == api.OK)
	r.pass(n)
	return v
}

// ops reads a row of operations.
func (r *reader) ops() []api.Op {
	l, n, e := codec.TakeOps(r.rest)
	r.need(e == api.OK)
	r.pass(n)
	return l
}
