package crc

import (
	"iter"
	"sync"

	"gesso/api"
)

// table is by which a register goes on, a byte at a time.
type table struct {
	once  sync.Once
	words [256]uint32
}

// made is the table's words, which are worked out once.
func (t *table) made() *[256]uint32 {
	t.once.Do(t.fill)
	return &t.words
}

// fill works out the words of single bits; each other one is what its bits' words come to together.
func (t *table) fill() {
	word := uint32(1)
	for bit := range 8 {
		word = halved(word)
		t.words[128>>bit] = word
	}
	for b := range t.words {
		low := b & -b
		t.words[b] = t.words[low] ^ t.words[b^low]
	}
}

// halved is a register behind being fed a bit 0.
func halved(bits uint32) uint32 {
	if bits&1 == 1 {
		return bits>>1 ^ api.Poly
	}
	return bits >> 1
}

// doubled is what halved was made of: as Poly has the highest bit, that bit tells which way it went.
func doubled(bits uint32) uint32 {
	if bits>>31 == 1 {
		return (bits^api.Poly)<<1 | 1
	}
	return bits << 1
}

// register goes on by its table.
type register struct {
	table
	bits uint32
}

// fresh is a register behind bytes whose sum is known; the sum of none is 0.
func fresh(sum uint32) *register {
	return &register{bits: ^sum}
}

// feed moves it on by a byte.
func (r *register) feed(b byte) {
	r.bits = r.bits>>8 ^ r.made()[byte(r.bits)^b]
}

// feedAll moves it on by all rows.
func (r *register) feedAll(rows ...[]byte) {
	move := r.feed
	for b := range told(rows...) {
		move(b)
	}
}

// sum is the sum of what it was fed.
func (r *register) sum() uint32 { return ^r.bits }

// told tells the bytes of all rows, one behind the other.
func told(rows ...[]byte) iter.Seq[byte] {
	return func(yield func(byte) bool) {
		for _, row := range rows {
			for _, b := range row {
				if !yield(b) {
					return
				}
			}
		}
	}
}
