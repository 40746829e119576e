package journal

import (
	"iter"
	"slices"

	"gesso/api"
	"gesso/crc"
	"gesso/octet"
)

// The bytes of a record beside what it holds: the number of these ahead, the sum behind.
const (
	manyWidth = 4
	sumBytes  = 4
)

// wrong leaves by a panic: why something can't be.
type wrong struct{ errno api.Errno }

// told is the error that a recovered panic stands for.
func told(left any) api.Errno {
	if w, ok := left.(wrong); ok {
		return w.errno
	}
	return api.OK
}

// need leaves with an error, if something does not hold.
func need(holds bool, e api.Errno) {
	if !holds {
		panic(wrong{e})
	}
}

// each is what all of a row come to, one by one.
func each[T, U any](row []T, come func(T) U) []U {
	out := make([]U, 0, len(row))
	for _, x := range row {
		out = append(out, come(x))
	}
	return out
}

// joined is the records of rows, one behind the other.
func joined(rows [][]byte) []byte {
	return slices.Concat(each(rows, func(b []byte) []byte {
		need(len(b) <= api.MaxRecord, api.ErrLong)
		many, e := octet.Put(nil, manyWidth, uint64(len(b)))
		need(e == api.OK, e)
		return crc.Seal(append(many, b...))
	})...)
}

// rest is the bytes that are left, and where they stand.
type rest struct {
	left []byte
	at   int
}

// scanner goes along bytes, from record to record.
type scanner struct{ rest }

// next is the bytes of the record that stands next; it goes behind that.
func (s *scanner) next() []byte {
	n, e := octet.Get(s.left, 0, manyWidth)
	need(e == api.OK, api.ErrShort)
	need(n <= api.MaxRecord, api.ErrLong)
	end := manyWidth + int(n) + sumBytes
	need(end <= len(s.left), api.ErrShort)
	sealed, e := crc.Open(s.left[:end:end])
	need(e == api.OK, e)
	s.left, s.at = s.left[end:len(s.left):len(s.left)], s.at+end
	return slices.Clone(sealed[manyWidth:])
}

// found is a record's bytes, and where it stands; or why there is none.
type found struct {
	bytes []byte
	at    int
	errno api.Errno
}

// try finds the record that stands next.
func (s *scanner) try() (f found) {
	defer func() { f.errno = told(recover()) }()
	f.at = s.at
	f.bytes = s.next()
	return f
}

// told tells the records that stand next, and then why there is none any more.
func (s *scanner) told() iter.Seq[found] {
	next := s.try
	return func(yield func(found) bool) {
	again:
		if f := next(); yield(f) && f.errno == api.OK {
			goto again
		}
	}
}
