package snap

import (
	"iter"
	"slices"

	"gesso/api"
)

// wrong leaves by a panic: why something can't be.
type wrong struct{ errno api.Errno }

// told is the error that a recovered panic stands for.
func told(left any) api.Errno {
	if w, ok := left.(wrong); ok {
		return w.errno
	}
	return api.OK
}

// need leaves with an error, if something does not hold.
func need(holds bool, e api.Errno) {
	if !holds {
		panic(wrong{e})
	}
}

// must is what came without an error.
func must[T any](x T, e api.Errno) T {
	need(e == api.OK, e)
	return x
}

// pieces tells the pieces of bytes that may be cut, in order.
func pieces(snap uint64, b []byte) iter.Seq[api.Piece] {
	need(snap >= 1 && snap <= api.MaxTime && len(b) > 0, api.ErrArg)
	need(len(b) <= api.ChunkBytes*api.MaxChunks, api.ErrLong)
	many := (len(b) + api.ChunkBytes - 1) / api.ChunkBytes
	return func(yield func(api.Piece) bool) {
		for index := range many {
			from, to := index*api.ChunkBytes, min(len(b), (index+1)*api.ChunkBytes)
			if !yield(api.Piece{Snap: snap, Index: index, Many: many, Bytes: slices.Clone(b[from:to:to])}) {
				return
			}
		}
	}
}

// first is the place of the first one of a row of which something holds; -1, if there is none.
func first[T any](row []T, holds func(T) bool) int { return slices.IndexFunc(row, holds) }

// lacking is the place of the first part that has not come; -1, if all have.
func lacking(p api.Pile) int {
	return first(p.Parts, func(part []byte) bool { return len(part) == 0 })
}

// nothing tells whether it is a pile of nothing.
func nothing(p api.Pile) bool { return p.Snap == 0 && p.Many == 0 && len(p.Parts) == 0 }

// CheckPile tells whether it is a pile.
func CheckPile(p api.Pile) api.Errno {
	if nothing(p) {
		return api.OK
	}
	come := 0
	for index, part := range p.Parts {
		if len(part) == 0 {
			continue
		}
		if CheckPiece(api.Piece{Snap: p.Snap, Index: index, Many: p.Many, Bytes: part}) != api.OK {
			return api.ErrPile
		}
		come++
	}
	if come == 0 || len(p.Parts) != p.Many {
		return api.ErrPile
	}
	return api.OK
}

// changing is a pile that changes.
type changing struct{ api.Pile }

// changingOf is a copy of what must be a pile.
func changingOf(p api.Pile) *changing {
	need(CheckPile(p) == api.OK, api.ErrPile)
	parts := make([][]byte, len(p.Parts))
	for i, part := range p.Parts {
		parts[i] = slices.Clone(part)
	}
	p.Parts = parts
	return &changing{p}
}

// put puts a piece on the pile.
func (c *changing) put(x api.Piece) {
	need(CheckPiece(x) == api.OK, api.ErrPiece)
	need(x.Snap >= c.Snap, api.ErrBehind)
	if x.Snap > c.Snap {
		c.Pile = api.Pile{Snap: x.Snap, Many: x.Many, Parts: make([][]byte, x.Many)}
	}
	need(x.Many == c.Many, api.ErrPiece)
	need(len(c.Parts[x.Index]) == 0, api.ErrThere)
	c.Parts[x.Index] = slices.Clone(x.Bytes)
}

// try puts a piece, if it may be put, and tells the error.
func (c *changing) try(x api.Piece) (e api.Errno) {
	defer func() { e = told(recover()) }()
	c.put(x)
	return api.OK
}

// Put is the pile with a piece more.
func Put(p api.Pile, x api.Piece) (out api.Pile, e api.Errno) {
	defer func() { e = told(recover()) }()
	c := changingOf(p)
	c.put(x)
	return c.Pile, api.OK
}

// Puts is the pile with all pieces that have no error, and how many have one.
func Puts(p api.Pile, l ...api.Piece) (out api.Pile, passed int, e api.Errno) {
	defer func() { e = told(recover()) }()
	c := changingOf(p)
	put := c.try
	for _, x := range l {
		if put(x) != api.OK {
			passed++
		}
	}
	return c.Pile, passed, api.OK
}

// Next is the first place of a piece that has not come.
func Next(p api.Pile) (int, bool) {
	if nothing(p) {
		return 0, true
	}
	at := lacking(p)
	if at < 0 || CheckPile(p) != api.OK {
		return 0, false
	}
	return at, true
}

// Whole is the bytes of all parts, if the pile is whole.
func Whole(p api.Pile) ([]byte, bool) {
	if nothing(p) || lacking(p) >= 0 || CheckPile(p) != api.OK {
		return nil, false
	}
	return slices.Concat(p.Parts...), true
}
