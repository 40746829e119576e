package journal_test

import (
	"bytes"
	"math/rand"
	"slices"
	"testing"

	"gesso/api"
	"gesso/crc"
	"gesso/journal"
)

func join(t *testing.T, rows ...[]byte) []byte {
	t.Helper()
	b, e := journal.Join(rows...)
	if e != api.OK {
		t.Fatalf("Join: %d", e)
	}
	return b
}

func same(a, b [][]byte) bool {
	return slices.EqualFunc(a, b, func(x, y []byte) bool { return bytes.Equal(x, y) })
}

// P23.1
func TestRecord(t *testing.T) {
	if b, e := journal.Record(nil); e != api.OK || !bytes.Equal(b, crc.Seal([]byte{0, 0, 0, 0})) {
		t.Errorf("Record of none: %v %d", b, e)
	}
	if b, e := journal.Record([]byte{5, 6}); e != api.OK || !bytes.Equal(b, crc.Seal([]byte{0, 0, 0, 2, 5, 6})) {
		t.Errorf("Record: %v %d", b, e)
	}
	a, _ := journal.Record([]byte{5})
	b, _ := journal.Record([]byte{6, 7})
	if got := join(t, []byte{5}, []byte{6, 7}); !bytes.Equal(got, append(a, b...)) {
		t.Errorf("Join: %v", got)
	}
	if got := join(t); len(got) != 0 {
		t.Errorf("Join of none: %v", got)
	}
	long := make([]byte, api.MaxRecord)
	if b, e := journal.Record(long); e != api.OK || len(b) != api.MaxRecord+8 || !bytes.Equal(b[:4], []byte{0, 1, 0, 0}) {
		t.Errorf("Record of the most: %d", e)
	}
	long = append(long, 0)
	if b, e := journal.Record(long); e != api.ErrLong || b != nil {
		t.Errorf("Record of more: %d", e)
	}
	if b, e := journal.Join([]byte{1}, long); e != api.ErrLong || b != nil {
		t.Errorf("Join of more: %d", e)
	}
}

// P23.2
func TestFirst(t *testing.T) {
	j := join(t, []byte{5}, []byte{6, 7})
	if b, n, e := journal.First(j); e != api.OK || n != 9 || !bytes.Equal(b, []byte{5}) {
		t.Errorf("First: %v %d %d", b, n, e)
	}
	if b, n, e := journal.First(join(t, nil)); e != api.OK || n != 8 || len(b) != 0 {
		t.Errorf("First of a record of nothing: %v %d %d", b, n, e)
	}
	most := join(t, make([]byte, api.MaxRecord))
	if b, n, e := journal.First(most); e != api.OK || n != len(most) || len(b) != api.MaxRecord {
		t.Errorf("First of the most: %d %d", n, e)
	}
	for _, x := range []struct {
		b []byte
		e api.Errno
	}{
		{nil, api.ErrShort}, {[]byte{0, 0, 0}, api.ErrShort}, {[]byte{255, 255, 255}, api.ErrShort}, {[]byte{0, 1, 0, 1}, api.ErrLong}, {[]byte{255, 255, 255, 255, 0, 0}, api.ErrLong}, {[]byte{0, 1, 0, 0}, api.ErrShort}, {[]byte{0, 0, 0, 0}, api.ErrShort},
		{[]byte{0, 0, 0, 0, 1, 2, 3, 4}, api.ErrSum}, {[]byte{0, 0, 0, 0, 1, 2, 3}, api.ErrShort}, {j[:8], api.ErrShort}, {most[:len(most)-1], api.ErrShort}, {append(bytes.Clone(j[:8]), j[8]+1), api.ErrSum},
	} {
		if b, n, e := journal.First(x.b); e != x.e || n != 0 || b != nil {
			t.Errorf("First(%d bytes): %d %d", len(x.b), n, e)
		}
	}
	got, _, _ := journal.First(j)
	got[0] = 9
	if again, _, _ := journal.First(j); again[0] != 5 {
		t.Errorf("First shares memory")
	}
}

// P23.3, P23.4
func TestScan(t *testing.T) {
	rows := [][]byte{{5}, {6, 7}, {}, {8}}
	j := join(t, rows...)
	places := []int{0, 9, 19, 27}
	for n := 0; n <= len(j); n++ {
		whole := 0
		for whole < 3 && n >= places[whole+1] || whole == 3 && n == len(j) {
			whole++
		}
		end := append(places, len(j))[whole]
		got, many := journal.Scan(j[:n])
		if many != end || !same(got, rows[:whole]) || !slices.Equal(journal.Places(j[:n]), places[:whole]) || !bytes.Equal(journal.Cut(j[:n]), j[:end]) {
			t.Errorf("of %d bytes: %d records, %d bytes", n, len(got), many)
		}
		want := api.OK
		if n != end {
			want = api.ErrShort
		}
		if many, e := journal.Why(j[:n]); many != end || e != want {
			t.Errorf("Why(%d bytes): %d %d", n, many, e)
		}
	}
	for _, x := range []struct {
		tail []byte
		e    api.Errno
	}{{[]byte{0}, api.ErrShort}, {[]byte{0, 1, 0, 1}, api.ErrLong}, {slices.Concat([]byte{0, 0, 0, 0, 9, 9, 9, 9}, j), api.ErrSum}} {
		b := append(bytes.Clone(j), x.tail...)
		got, n := journal.Scan(b)
		many, e := journal.Why(b)
		if n != len(j) || !same(got, rows) || many != n || e != x.e || len(journal.Places(b)) != 4 {
			t.Errorf("with a tail of %v: %d, %d %d", x.tail, n, many, e)
		}
	}
	if n, e := journal.Why(nil); n != 0 || e != api.OK {
		t.Errorf("Why of none: %d %d", n, e)
	}
	got, _ := journal.Scan(j)
	cut := journal.Cut(j)
	got[0][0], cut[4] = 9, 9
	if j[4] != 5 {
		t.Errorf("memory is shared")
	}
}

// P23.5
func TestAppend(t *testing.T) {
	j := join(t, []byte{5})
	if got, e := journal.Append(j, []byte{6, 7}, nil); e != api.OK || !bytes.Equal(got, join(t, []byte{5}, []byte{6, 7}, nil)) {
		t.Errorf("Append: %v %d", got, e)
	}
	if got, e := journal.Append(nil); e != api.OK || len(got) != 0 {
		t.Errorf("Append of nothing: %v %d", got, e)
	}
	long := make([]byte, api.MaxRecord+1)
	for _, x := range []struct {
		b    []byte
		rows [][]byte
		e    api.Errno
	}{{append(bytes.Clone(j), 0), nil, api.ErrArg}, {append(bytes.Clone(j), 0), [][]byte{long}, api.ErrArg}, {j, [][]byte{{1}, long}, api.ErrLong}, {j[:8], [][]byte{{1}}, api.ErrArg}} {
		if got, e := journal.Append(x.b, x.rows...); e != x.e || got != nil {
			t.Errorf("Append to %d bytes: %d", len(x.b), e)
		}
	}
	wide := append(make([]byte, 0, 64), j...)
	journal.Append(wide, []byte{1})
	if !bytes.Equal(wide[:12][9:], []byte{0, 0, 0}) {
		t.Errorf("Append writes behind what it was handed")
	}
}

// P23.6
func TestFollows(t *testing.T) {
	r := rand.New(rand.NewSource(1))
	for range 300 {
		var rows [][]byte
		for range 1 + r.Intn(5) {
			b := make([]byte, r.Intn(20))
			r.Read(b)
			rows = append(rows, b)
		}
		j := join(t, rows...)
		if got, n := journal.Scan(j); n != len(j) || !same(got, rows) {
			t.Fatalf("what was joined is not scanned")
		}
		front := j[:r.Intn(len(j)+1)]
		cut := journal.Cut(front)
		if again := journal.Cut(cut); !bytes.Equal(again, cut) || !bytes.HasPrefix(j, cut) {
			t.Fatalf("what holds of what holds is another one")
		}
		at := r.Intn(len(rows))
		from := journal.Places(j)[at]
		x, e := crc.Spoil(j, 8*(from+4)+r.Intn(8*(len(rows[at])+4)), r.Uint32()&0xff)
		if e != api.OK || bytes.Equal(x[:from+8+len(rows[at])], j[:from+8+len(rows[at])]) {
			continue
		}
		if got, n := journal.Scan(x); n != from || len(got) != at {
			t.Fatalf("a spoilt record holds: %d, not %d", n, from)
		}
	}
}
