// Package octet is layer 1: numbers and rows as bytes, and back (doc/01-octet.md).
package octet

import (
	"slices"

	"gesso/api"
)

// wrong leaves by a panic: why something can't be done.
type wrong struct{ errno api.Errno }

// told is the error that a recovered panic stands for.
func told(left any) api.Errno {
	if w, ok := left.(wrong); ok {
		return w.errno
	}
	return api.OK
}

// all asks of each of a row whether something holds.
func all[T any](row []T, holds func(T) bool) bool {
	for _, x := range row {
		if !holds(x) {
			return false
		}
	}
	return true
}

// needWidths leaves with ErrWidth, if one is no width.
func needWidths(widths ...int) {
	if !all(widths, func(w int) bool { return w >= 1 && w <= api.MaxWidth }) {
		panic(wrong{api.ErrWidth})
	}
}

// fits tells whether n has that width, which is one.
func fits(width int, n uint64) bool {
	return width == api.MaxWidth || n>>(8*width) == 0
}

// numberBytes is n's bytes, the highest one first.
func numberBytes(width int, n uint64) []byte {
	if !fits(width, n) {
		panic(wrong{api.ErrBig})
	}
	var low [api.MaxWidth]byte
	for i := range low {
		low[api.MaxWidth-1-i] = byte(n >> (8 * i))
	}
	return low[api.MaxWidth-width : api.MaxWidth : api.MaxWidth]
}

// behind is new memory that holds all rows, one behind the other.
func behind(rows ...[]byte) []byte {
	many := 0
	for _, row := range rows {
		many += len(row)
	}
	out := make([]byte, many)
	at := 0
	for _, row := range rows {
		at += copy(out[at:], row)
	}
	return out
}

// together is how many bytes numbers of these widths have.
func together(widths []int) int {
	sum := 0
	for _, w := range widths {
		sum += w
	}
	return sum
}

// Put lays n behind b.
func Put(b []byte, width int, n uint64) (out []byte, e api.Errno) {
	defer func() { e = told(recover()) }()
	needWidths(width)
	return behind(b, numberBytes(width, n)), api.OK
}

// Get is the number that stands at a place.
func Get(b []byte, at, width int) (n uint64, e api.Errno) {
	defer func() { e = told(recover()) }()
	needWidths(width)
	if at < 0 || at > len(b) {
		panic(wrong{api.ErrArg})
	}
	left := rest{bytes: b[at:]}
	return left.number(width), api.OK
}

// Size is how many bytes numbers of these widths have together.
func Size(widths ...int) (size int, e api.Errno) {
	defer func() { e = told(recover()) }()
	needWidths(widths...)
	return together(widths), api.OK
}

// Lay lays numbers by a row of widths.
func Lay(widths []int, n ...uint64) (out []byte, e api.Errno) {
	defer func() { e = told(recover()) }()
	needWidths(widths...)
	if len(n) != len(widths) {
		panic(wrong{api.ErrArg})
	}
	laid := make([]byte, 0, together(widths))
	for i, w := range widths {
		laid = append(laid, numberBytes(w, n[i])...)
	}
	return laid, api.OK
}

// Split is the numbers that were laid by a row of widths.
func Split(widths []int, b []byte) (n []uint64, e api.Errno) {
	defer func() { e = told(recover()) }()
	needWidths(widths...)
	size := together(widths)
	if len(b) < size {
		panic(wrong{api.ErrShort})
	}
	if len(b) > size {
		panic(wrong{api.ErrMore})
	}
	left := rest{bytes: b}
	split := make([]uint64, 0, len(widths))
	for _, w := range widths {
		split = append(split, left.number(w))
	}
	return split, api.OK
}

// Part lays a part behind b.
func Part(b, part []byte) (out []byte, e api.Errno) {
	defer func() { e = told(recover()) }()
	if len(part) > api.MaxPart {
		panic(wrong{api.ErrLong})
	}
	return behind(b, numberBytes(partWidth, uint64(len(part))), part), api.OK
}

// Open makes a reader of b.
func Open(b []byte) (*Reader, api.Errno) {
	if len(b) > api.MaxRow {
		return nil, api.ErrLong
	}
	return &Reader{rest{bytes: slices.Clone(b)}}, api.OK
}
