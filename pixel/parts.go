package pixel

import (
	"iter"

	"gesso/api"
)

// The places of a colour's parts; the first three are what is seen.
const (
	seen  = 3
	count = 4
)

// parts are a colour's R, G, B and A.
type parts [count]byte

func partsOf(c api.Color) parts { return parts{c.R, c.G, c.B, c.A} }

func colorOf(p parts) api.Color { return api.Color{R: p[0], G: p[1], B: p[2], A: p[3]} }

// told tells the parts, each with its place.
func (p parts) told() iter.Seq2[int, byte] {
	return func(yield func(int, byte) bool) {
		for i, part := range p {
			if !yield(i, part) {
				return
			}
		}
	}
}

// merged is what each two of one place come to.
func merged[T any](a, b [count]T, come func(i int, x, y T) T) [count]T {
	var out [count]T
	for i := range out {
		out[i] = come(i, a[i], b[i])
	}
	return out
}

// worked is a colour that is worked on.
type worked struct{ api.Color }

// cover lays a colour over it.
func (w *worked) cover(over api.Color) {
	a := over.A
	w.Color = colorOf(merged(partsOf(w.Color), partsOf(over), func(i int, under, over byte) byte {
		if i < seen {
			return share(over, a, under, whole-a)
		}
		return a + share(under, whole-a, 0, 0)
	}))
}

// word is its parts as a number's bytes.
func (w worked) word() uint32 {
	return uint32(w.R)<<24 | uint32(w.G)<<16 | uint32(w.B)<<8 | uint32(w.A)
}
