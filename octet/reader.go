package octet

import (
	"iter"
	"slices"

	"gesso/api"
)

// partWidth is the width of the number that stands ahead of a part.
const partWidth = 2

// rest is what is left to be read, and why nothing more is.
type rest struct {
	bytes []byte
	errno api.Errno
}

// Reader goes along bytes, till it fails.
type Reader struct{ rest }

// ahead tells the bytes that are left, each with its place.
func (r *rest) ahead() iter.Seq2[int, byte] {
	return func(yield func(int, byte) bool) {
		for i, b := range r.bytes {
			if !yield(i, b) {
				return
			}
		}
	}
}

// need leaves with ErrShort, if fewer than n bytes are left.
func (r *rest) need(n int) {
	if len(r.bytes) < n {
		panic(wrong{api.ErrShort})
	}
}

// peek is the number of that width, which is one, that stands next.
func (r *rest) peek(width int) uint64 {
	r.need(width)
	n := uint64(0)
reading:
	for i, b := range r.ahead() {
		if i == width {
			break reading
		}
		n = n<<8 | uint64(b)
	}
	return n
}

// number reads what peek tells.
func (r *rest) number(width int) uint64 {
	n := r.peek(width)
	r.bytes = r.bytes[width:]
	return n
}

// take reads n bytes, and answers new memory.
func (r *rest) take(n int) []byte {
	r.need(n)
	out := slices.Clone(r.bytes[:n:n])
	r.bytes = r.bytes[n:]
	return out
}

// try does one reading, unless the reader has failed, and keeps why it failed.
func (r *Reader) try(reading func()) {
	if r == nil || r.errno != api.OK {
		return
	}
	defer func() { r.errno = told(recover()) }()
	reading()
}

// Number reads the number of that width that stands next.
func (r *Reader) Number(width int) (n uint64) {
	r.try(func() {
		needWidths(width)
		n = r.number(width)
	})
	return n
}

// Bytes reads the next n bytes.
func (r *Reader) Bytes(n int) (out []byte) {
	r.try(func() {
		if n < 0 {
			panic(wrong{api.ErrArg})
		}
		out = r.take(n)
	})
	return out
}

// Part reads the part that stands next.
func (r *Reader) Part() (out []byte) {
	r.try(func() {
		many := int(r.peek(partWidth))
		// As a whole, or not at all: the two bytes stay unread if the part is torn.
		r.need(partWidth + many)
		r.number(partWidth)
		out = r.take(many)
	})
	return out
}

// Left is how many bytes are left.
func (r *Reader) Left() int {
	if r == nil {
		return 0
	}
	return len(r.bytes)
}

// Err is the error with which it failed.
func (r *Reader) Err() api.Errno {
	if r == nil {
		return api.ErrNil
	}
	return r.errno
}

// End is Err, or ErrMore, if bytes are left.
func (r *Reader) End() api.Errno {
	if r == nil {
		return api.ErrNil
	}
	if r.errno == api.OK && len(r.bytes) > 0 {
		return api.ErrMore
	}
	return r.errno
}
