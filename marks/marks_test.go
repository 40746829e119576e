package marks_test

import (
	"math"
	"math/rand"
	"slices"
	"testing"

	"gesso/api"
	"gesso/canvas"
	"gesso/ident"
	"gesso/marks"
)

func id(time uint64) api.Id { return api.Id{Time: time, Site: 1, Seq: time} }

func blank(t *testing.T) *canvas.Canvas {
	t.Helper()
	c, e := canvas.New(2, 1)
	if e != api.OK {
		t.Fatal(e)
	}
	return c
}

// row is marks of these times, each on a canvas with one more dot in the first tile.
func row(t *testing.T, times ...uint64) marks.Marks {
	c := blank(t)
	var m marks.Marks
	for _, time := range times {
		c = c.Set(api.Color{R: byte(time), A: 1}, api.Point{X: int(time % 8)})
		m = append(m, marks.Mark{Id: id(time), Canvas: c})
	}
	return m
}

func times(m marks.Marks) []uint64 {
	var out []uint64
	for _, x := range m {
		out = append(out, x.Id.Time)
	}
	return out
}

func bad(t *testing.T) []marks.Marks {
	none := row(t, 1, 2, 3)
	none[1].Canvas = nil
	noId := row(t, 1, 2, 3)
	noId[0].Id.Seq = 0
	return []marks.Marks{none, noId, row(t, 2, 1), row(t, 1, 1), row(t, 1, 2, 3, 4, 5, 6, 7)}
}

// P16.1
func TestCheckSame(t *testing.T) {
	for _, m := range []marks.Marks{nil, {}, row(t, 1), row(t, 1, 2, 3, 4, 5, 6)} {
		if marks.Check(m) != api.OK {
			t.Errorf("Check(%v)", times(m))
		}
	}
	for i, m := range bad(t) {
		if marks.Check(m) != api.ErrMarks {
			t.Errorf("Check of the bad one %d", i)
		}
		if !marks.Same(m, bad(t)[i]) {
			t.Errorf("Same of the bad one %d", i)
		}
	}
	a, b := row(t, 1, 2, 3), row(t, 1, 2, 3)
	if !marks.Same(a, b) || marks.Same(a, a[:2]) || marks.Same(a, row(t, 1, 2, 4)) || !marks.Same(nil, marks.Marks{}) {
		t.Errorf("Same")
	}
	b[1].Canvas = b[0].Canvas
	if marks.Same(a, b) {
		t.Errorf("Same with another canvas")
	}
	b[1].Canvas = nil
	if marks.Same(a, b) || marks.Same(b, a) {
		t.Errorf("Same with no canvas")
	}
	b = row(t, 1, 2, 3)
	b[2].Id.Site = 2
	if marks.Same(a, b) {
		t.Errorf("Same with another site")
	}
}

// P16.2
func TestPut(t *testing.T) {
	for _, x := range []struct{ first, more, want []uint64 }{
		{nil, []uint64{1, 2, 3, 4, 5, 6}, []uint64{1, 2, 3, 4, 5, 6}},
		{[]uint64{1, 2, 3, 4, 5, 6}, []uint64{7}, []uint64{1, 3, 4, 5, 6, 7}},
		{nil, []uint64{10, 20, 21, 30, 40, 50, 60}, []uint64{10, 20, 30, 40, 50, 60}},
		{[]uint64{10, 20, 30, 40, 50, 60}, []uint64{21}, []uint64{10, 20, 30, 40, 50, 60}},
		{[]uint64{10, 20, 30, 40, 50, 60}, []uint64{5}, []uint64{5, 20, 30, 40, 50, 60}},
		{[]uint64{10, 20, 30, 40, 50, 60}, []uint64{61}, []uint64{10, 20, 30, 40, 50, 61}},
		{[]uint64{10, 20}, []uint64{15, 5, 25}, []uint64{5, 10, 15, 20, 25}},
		{[]uint64{10, 20}, nil, []uint64{10, 20}},
		{[]uint64{1, 1000, 1001, 2000, 3000, 4000}, []uint64{5000}, []uint64{1, 1001, 2000, 3000, 4000, 5000}},
	} {
		first, more := row(t, x.first...), row(t, x.more...)
		keep := slices.Clone(first)
		got, e := marks.Put(first, more...)
		if e != api.OK || !slices.Equal(times(got), x.want) || !slices.Equal(first, keep) {
			t.Errorf("Put(%v, %v) = %v %d", x.first, x.more, times(got), e)
		}
	}
	m := row(t, 1, 2, 3)
	other := blank(t)
	got, e := marks.Put(m, marks.Mark{Id: id(2), Canvas: other})
	if e != api.OK || len(got) != 3 || got[1].Canvas != other || got[0].Canvas != m[0].Canvas || m[1].Canvas == other {
		t.Errorf("Put in the place of one: %v %d", times(got), e)
	}
	full := row(t, 1, 2, 3, 4, 5, 6)
	if got, e := marks.Put(full, marks.Mark{Id: id(6), Canvas: other}); e != api.OK || len(got) != 6 || got[5].Canvas != other || got[1].Canvas != full[1].Canvas {
		t.Errorf("Put in the place of the last one: %v %d", times(got), e)
	}
	for i, m := range bad(t) {
		if got, e := marks.Put(m, row(t, 9)...); e != api.ErrMarks || got != nil {
			t.Errorf("Put in the bad one %d: %d", i, e)
		}
	}
	for _, x := range []marks.Mark{{}, {Id: id(1)}, {Canvas: other}} {
		if got, e := marks.Put(nil, marks.Mark{Id: id(4), Canvas: other}, x); e != api.ErrMarks || got != nil {
			t.Errorf("Put of no mark: %d", e)
		}
	}
	wide := append(make(marks.Marks, 0, 9), row(t, 1, 3)...)
	if _, e := marks.Put(wide, row(t, 4)...); e != api.OK || wide[:3][2].Canvas != nil {
		t.Errorf("Put writes behind what it was handed: %d", e)
	}
}

// P16.3
func TestBelow(t *testing.T) {
	m := row(t, 1, 2, 3, 4, 5, 6)
	for time, want := range map[uint64]uint64{4: 3, 2: 1, 9: 6, math.MaxUint64: 6} {
		if got, ok := marks.Below(m, id(time)); !ok || got.Id.Time != want || got.Canvas != m[want-1].Canvas {
			t.Errorf("Below(%d): %v %t", time, got.Id, ok)
		}
	}
	if got, ok := marks.Below(m, api.Id{Time: 4, Site: 1, Seq: 5}); !ok || got.Id.Time != 4 {
		t.Errorf("Below of one of the same Time: %v", got.Id)
	}
	for _, i := range []api.Id{id(1), {}} {
		if got, ok := marks.Below(m, i); ok || got != (marks.Mark{}) {
			t.Errorf("Below(%v): %v", i, got.Id)
		}
	}
	if _, ok := marks.Below(nil, id(4)); ok {
		t.Errorf("Below of none")
	}
	for _, x := range []struct {
		time       uint64
		drop, fold []uint64
	}{{4, []uint64{1, 2, 3}, []uint64{5, 6}}, {1, nil, []uint64{2, 3, 4, 5, 6}}, {0, nil, []uint64{1, 2, 3, 4, 5, 6}}, {7, []uint64{1, 2, 3, 4, 5, 6}, nil}} {
		if got := marks.Drop(m, id(x.time)); !slices.Equal(times(got), x.drop) {
			t.Errorf("Drop(%d): %v", x.time, times(got))
		}
		if got := marks.Fold(m, x.time); !slices.Equal(times(got), x.fold) {
			t.Errorf("Fold(%d): %v", x.time, times(got))
		}
	}
	dropped := marks.Drop(m, id(9))
	dropped[0] = marks.Mark{}
	if folded := marks.Fold(m, 0); m[0].Canvas == nil || folded[0].Canvas == nil {
		t.Errorf("Drop shares memory")
	}
}

// P16.4
func TestIdsShares(t *testing.T) {
	m := row(t, 1, 2, 3)
	if got := marks.Ids(m); !slices.Equal(got, []api.Id{id(1), id(2), id(3)}) {
		t.Errorf("Ids: %v", got)
	}
	if got := marks.Shares(m); got != 2 {
		t.Errorf("Shares: %d", got)
	}
	m[1].Canvas = m[0].Canvas
	if got := marks.Shares(m); got != 3 {
		t.Errorf("Shares of one canvas: %d", got)
	}
	if len(marks.Ids(nil)) != 0 || marks.Shares(nil) != 0 || marks.Shares(m[:1]) != 0 {
		t.Errorf("of none")
	}
}

// P16.5
func TestDue(t *testing.T) {
	var l []api.Id
	for time := uint64(3); time <= 9; time++ {
		l = append(l, id(time))
	}
	for _, x := range []struct {
		m     marks.Marks
		every int
		want  []api.Id
	}{
		{row(t, 1, 2, 3), 2, []api.Id{id(5), id(7), id(9)}}, {nil, 3, []api.Id{id(5), id(8)}}, {nil, 1, l}, {row(t, 8), 1, []api.Id{id(9)}}, {row(t, 9), 1, nil}, {row(t, 1), 7, []api.Id{id(9)}},
		{nil, 8, nil}, {nil, math.MaxInt, nil}, {nil, 0, nil}, {nil, -1, nil}, {nil, math.MinInt, nil},
	} {
		if got := marks.Due(x.m, l, x.every); !slices.Equal(got, x.want) {
			t.Errorf("Due(%v, %d): %v", times(x.m), x.every, got)
		}
	}
	for _, no := range [][]api.Id{{id(2), id(1)}, {id(1), id(1)}, {{}, id(1)}} {
		if got := marks.Due(nil, no, 1); got != nil {
			t.Errorf("Due of %v: %v", no, got)
		}
	}
}

// What are no marks tells nothing.
func TestBad(t *testing.T) {
	for i, m := range bad(t) {
		if _, ok := marks.Below(m, id(9)); ok || marks.Drop(m, id(9)) != nil || marks.Fold(m, 0) != nil || marks.Ids(m) != nil || marks.Shares(m) != 0 || marks.Due(m, []api.Id{id(10)}, 1) != nil {
			t.Errorf("of the bad one %d something is told", i)
		}
	}
}

// P16.6
func TestFollows(t *testing.T) {
	r := rand.New(rand.NewSource(1))
	for range 200 {
		var m marks.Marks
		first, last := uint64(math.MaxUint64), uint64(0)
		for range r.Intn(20) {
			time := 1 + uint64(r.Intn(40))
			first, last = min(first, time), max(last, time)
			var e api.Errno
			if m, e = marks.Put(m, row(t, time)...); e != api.OK || marks.Check(m) != api.OK || !ident.Rising(marks.Ids(m)) {
				t.Fatalf("Put: %v %d", times(m), e)
			}
			if m[0].Id.Time != first || m[len(m)-1].Id.Time != last {
				t.Fatalf("the first, or the last one, is gone: %v", times(m))
			}
		}
		if again, e := marks.Put(m, m...); e != api.OK || !marks.Same(again, m) {
			t.Errorf("put again: %v", times(again))
		}
		i := id(1 + uint64(r.Intn(40)))
		if below, ok := marks.Below(m, i); ok && !slices.Contains(marks.Drop(m, i), below) {
			t.Errorf("what is below is dropped")
		}
	}
}
