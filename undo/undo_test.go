package undo_test

import (
	"math/rand"
	"slices"
	"testing"

	"gesso/api"
	"gesso/canvas"
	"gesso/ident"
	"gesso/op"
	"gesso/oplog"
	"gesso/undo"
)

var (
	red  = api.Color{R: 255, A: 255}
	blue = api.Color{B: 255, A: 255}
)

func id(time uint64, site int, seq uint64) api.Id { return api.Id{Time: time, Site: site, Seq: seq} }

func dot(i api.Id, c api.Color) api.Op { return api.Op{Id: i, Kind: api.OpRect, Color: c} }

func of(i api.Id, kind int, target api.Id) api.Op { return api.Op{Id: i, Kind: kind, Target: target} }

var (
	a = dot(id(1, 1, 1), red)
	b = dot(id(2, 1, 2), blue)
	c = of(id(3, 2, 1), api.OpUndo, id(2, 1, 2))
	d = of(id(4, 1, 3), api.OpRedo, id(2, 1, 2))
)

func logOf(t *testing.T, ops ...api.Op) api.Log {
	t.Helper()
	l, es := oplog.Inserts(oplog.New(), ops...)
	for _, e := range es {
		if e != api.OK {
			t.Fatalf("Inserts: %v", es)
		}
	}
	return l
}

func blank(t *testing.T) *canvas.Canvas {
	t.Helper()
	c, e := canvas.New(1, 1)
	if e != api.OK {
		t.Fatal(e)
	}
	return c
}

func corner(c *canvas.Canvas) api.Color {
	x, _ := c.At(0, 0)
	return x
}

func ids(l []api.Op) []api.Id {
	var out []api.Id
	for _, o := range l {
		out = append(out, o.Id)
	}
	return out
}

var bad = api.Log{Ops: []api.Op{dot(id(2, 1, 1), red), dot(id(1, 2, 1), red)}}

// P15.1
func TestDecides(t *testing.T) {
	l := logOf(t, a, b, c)
	if by, ok := undo.Decides(l, b.Id); !ok || by != c.Id {
		t.Errorf("Decides: %v %t", by, ok)
	}
	for _, i := range []api.Id{a.Id, c.Id, {}, id(2, 1, 3)} {
		if by, ok := undo.Decides(l, i); ok || by != (api.Id{}) {
			t.Errorf("Decides(%v): %v %t", i, by, ok)
		}
	}
	if by, ok := undo.Decides(logOf(t, a, b, d, c), b.Id); ok == false || by != d.Id {
		t.Errorf("the last one decides: %v", by)
	}
	gone := logOf(t, a, of(id(3, 2, 1), api.OpUndo, id(2, 8, 9)))
	if by, ok := undo.Decides(gone, id(2, 8, 9)); !ok || by != id(3, 2, 1) {
		t.Errorf("Decides of what is not there: %v %t", by, ok)
	}
	if by, ok := undo.Decides(bad, id(1, 2, 1)); ok || by != (api.Id{}) {
		t.Errorf("Decides of no log")
	}
}

// P15.1
func TestShows(t *testing.T) {
	for _, x := range []struct {
		l               api.Log
		showing, hidden []api.Id
	}{
		{logOf(t), nil, nil},
		{logOf(t, a, b), []api.Id{a.Id, b.Id}, nil},
		{logOf(t, a, b, c), []api.Id{a.Id}, []api.Id{b.Id}},
		{logOf(t, a, b, c, d), []api.Id{a.Id, b.Id}, nil},
		{logOf(t, a, b, c, d, of(id(9, 3, 1), api.OpUndo, d.Id)), []api.Id{a.Id, b.Id}, nil},
		{logOf(t, a, b, c, of(id(9, 3, 1), api.OpUndo, c.Id)), []api.Id{a.Id}, []api.Id{b.Id}},
		{logOf(t, a, b, c, of(id(4, 3, 1), api.OpUndo, a.Id), d, of(id(5, 3, 2), api.OpUndo, b.Id)), nil, []api.Id{a.Id, b.Id}},
	} {
		showing := undo.Showing(x.l)
		if !slices.Equal(ids(showing), x.showing) || !slices.Equal(undo.Hidden(x.l), x.hidden) {
			t.Errorf("Showing %v, Hidden %v", ids(showing), undo.Hidden(x.l))
		}
		for _, o := range x.l.Ops {
			if undo.Shows(x.l, o.Id) != slices.Contains(x.showing, o.Id) {
				t.Errorf("Shows(%v)", o.Id)
			}
		}
		for _, o := range showing {
			if got, _, e := oplog.At(x.l, o.Id); e != api.OK || !op.Same(got, o) {
				t.Errorf("Showing tells another one")
			}
		}
		if undo.Shows(x.l, api.Id{}) || undo.Shows(x.l, id(1, 1, 2)) {
			t.Errorf("Shows of what is not there")
		}
	}
	if undo.Showing(bad) != nil || undo.Hidden(bad) != nil || undo.Shows(bad, id(2, 1, 1)) {
		t.Errorf("of no log something is told")
	}
	l := logOf(t, api.Op{Id: id(1, 1, 1), Kind: api.OpStamp, Stamp: api.Stamp{Wide: 1, High: 1, Pixels: []api.Color{red}}})
	if undo.Showing(l)[0].Stamp.Pixels[0] = blue; l.Ops[0].Stamp.Pixels[0] != red {
		t.Errorf("Showing shares memory")
	}
}

// P15.2
func TestPaint(t *testing.T) {
	base := blank(t)
	for _, x := range []struct {
		l    api.Log
		want api.Color
	}{{logOf(t), api.Color{}}, {logOf(t, a, b), blue}, {logOf(t, a, b, c), red}, {logOf(t, a, b, c, d), blue}} {
		if got, e := undo.Paint(base, x.l); e != api.OK || corner(got) != x.want {
			t.Errorf("Paint: %v %d", corner(got), e)
		}
	}
	if corner(base) != (api.Color{}) {
		t.Errorf("the base was changed")
	}
	l := logOf(t, a, b, c)
	got, e := undo.Upto(base, l, b.Id, a.Id, b.Id, id(1, 1, 0), id(9, 9, 9))
	if e != api.OK || len(got) != 5 || corner(got[0]) != red || corner(got[1]) != red || corner(got[2]) != red || corner(got[3]) != (api.Color{}) || corner(got[4]) != red {
		t.Errorf("Upto: %d", e)
	}
	got, e = undo.Upto(base, logOf(t, a, b, c, d), d.Id, c.Id, b.Id, a.Id, api.Id{})
	if e != api.OK || corner(got[0]) != blue || corner(got[1]) != blue || corner(got[2]) != blue || corner(got[3]) != red || corner(got[4]) != (api.Color{}) {
		t.Errorf("Upto, by all that decides: %d", e)
	}
	if got, e := undo.Upto(base, l); e != api.OK || len(got) != 0 {
		t.Errorf("Upto of none: %d", e)
	}
	for _, x := range []struct {
		base *canvas.Canvas
		e    api.Errno
	}{{nil, api.ErrNil}, {base, api.ErrLog}} {
		p, e := undo.Paint(x.base, bad)
		u, f := undo.Upto(x.base, bad, a.Id)
		q, l, g := undo.Fold(x.base, bad, api.MaxTime+1)
		if e != x.e || f != x.e || g != x.e || p != nil || u != nil || q != nil || !oplog.Same(l, api.Log{}) {
			t.Errorf("errors: %d %d %d", e, f, g)
		}
	}
}

// P15.3
func TestFrom(t *testing.T) {
	l := logOf(t, a, b)
	for _, x := range []struct {
		l    api.Log
		o    api.Op
		want api.Id
		ok   bool
	}{
		{l, c, b.Id, true}, {logOf(t, a), c, api.Id{}, false}, {l, dot(id(1, 2, 1), red), id(1, 2, 1), true}, {l, d, b.Id, true},
		{logOf(t, a, b, c), of(id(9, 3, 1), api.OpUndo, c.Id), api.Id{}, false}, {logOf(t, a, b, c), of(id(9, 3, 1), api.OpRedo, a.Id), a.Id, true},
		{l, of(id(9, 3, 1), api.OpUndo, id(2, 1, 3)), api.Id{}, false}, {bad, dot(id(3, 3, 1), red), api.Id{}, false},
	} {
		if got, ok := undo.From(x.l, x.o); ok != x.ok || got != x.want {
			t.Errorf("From(%v): %v %t", x.o.Id, got, ok)
		}
	}
}

// P15.4
func TestFold(t *testing.T) {
	base := blank(t)
	l := logOf(t, a, b, c)
	got, left, e := undo.Fold(base, l, 2)
	if e != api.OK || corner(got) != red || len(left.Ops) != 1 || left.Folded != 2 {
		t.Errorf("Fold(2): %v %d", left, e)
	}
	want, _, _ := oplog.Fold(l, 2)
	if !oplog.Same(left, want) {
		t.Errorf("the log is not folded so")
	}
	if got, _, e := undo.Fold(base, logOf(t, a, b, c, d), 2); e != api.OK || corner(got) != blue {
		t.Errorf("Fold by what decides above: %d", e)
	}
	if got, left, e := undo.Fold(base, l, 0); e != api.OK || !got.Same(base) || !oplog.Same(left, l) {
		t.Errorf("Fold(0): %d", e)
	}
	for _, time := range []uint64{1, api.MaxTime + 1} {
		if got, left, e := undo.Fold(base, left, time); e != api.ErrArg || got != nil || !oplog.Same(left, api.Log{}) {
			t.Errorf("Fold(%d): %d", time, e)
		}
	}
	if got, left, e := undo.Fold(base, l, api.MaxTime); e != api.OK || corner(got) != red || len(left.Ops) != 0 {
		t.Errorf("Fold of all: %d", e)
	}
}

// P15.1, P15.2, P15.3, P15.4: of a log in which operations of one site have one Time.
func TestOneTime(t *testing.T) {
	first, second := dot(id(10, 1, 1), red), dot(id(10, 1, 2), blue)
	l := api.Log{Ops: []api.Op{first, second}}
	if !slices.Equal(ids(undo.Showing(l)), []api.Id{first.Id, second.Id}) || undo.Hidden(l) != nil || !undo.Shows(l, second.Id) {
		t.Errorf("Showing: %v", ids(undo.Showing(l)))
	}
	undone := of(id(11, 2, 1), api.OpUndo, second.Id)
	if got, ok := undo.From(l, undone); !ok || got != second.Id {
		t.Errorf("From: %v %t", got, ok)
	}
	base := blank(t)
	if got, e := undo.Upto(base, l, first.Id, second.Id); e != api.OK || corner(got[0]) != red || corner(got[1]) != blue {
		t.Errorf("Upto: %d", e)
	}
	l.Ops = append(l.Ops, undone)
	if by, ok := undo.Decides(l, second.Id); !ok || by != undone.Id {
		t.Errorf("Decides: %v %t", by, ok)
	}
	if got, e := undo.Paint(base, l); e != api.OK || corner(got) != red {
		t.Errorf("Paint: %d", e)
	}
	if got, left, e := undo.Fold(base, l, 10); e != api.OK || corner(got) != red || left.Base != (api.Vector{1: 2}) || !slices.Equal(ids(left.Ops), []api.Id{undone.Id}) {
		t.Errorf("Fold: %v %d", left, e)
	}
}

// P15.5
func TestFollows(t *testing.T) {
	r := rand.New(rand.NewSource(1))
	for range 150 {
		var ops []api.Op
		seqs := map[int]uint64{}
		for time := uint64(1); time <= 14; time++ {
			site := 1 + r.Intn(3)
			seqs[site]++
			o := api.Op{Id: id(time, site, seqs[site]), Kind: api.OpWash, X: r.Intn(8), Y: r.Intn(8), X2: r.Intn(8), Y2: r.Intn(8), Color: api.Color{R: byte(r.Intn(256)), A: 128}}
			if len(ops) > 0 && r.Intn(2) == 0 {
				o = of(o.Id, api.OpUndo+r.Intn(2), ops[r.Intn(len(ops))].Id)
			}
			ops = append(ops, o)
		}
		l := logOf(t, ops...)
		base := blank(t)
		if paints := len(undo.Showing(l)) + len(undo.Hidden(l)); paints != len(slices.DeleteFunc(slices.Clone(ops), func(o api.Op) bool { return !op.Paints(o.Kind) })) {
			t.Errorf("%d show, or are hidden", paints)
		}
		// By the words: the last undo, or redo, of each decides.
		want := base
		for _, o := range l.Ops {
			shows := op.Paints(o.Kind)
			for _, x := range l.Ops {
				if x.Target == o.Id {
					shows = x.Kind == api.OpRedo && op.Paints(o.Kind)
				}
			}
			if shows {
				want, _ = op.Apply(want, o)
			}
		}
		got, _ := undo.Paint(base, l)
		if !got.Same(want) {
			t.Fatalf("Paint")
		}
		time := uint64(r.Intn(14))
		folded, left, e := undo.Fold(base, l, time)
		again, f := undo.Paint(folded, left)
		if e != api.OK || f != api.OK || !again.Same(got) {
			t.Fatalf("Paint of what is folded to %d", time)
		}
		o := api.Op{Id: id(20, 1, seqs[1]+1), Kind: api.OpRect, X2: 3, Color: red}
		if above := ops[r.Intn(14)].Id; above.Time > time && r.Intn(2) == 0 {
			o = of(o.Id, api.OpUndo+r.Intn(2), above)
		}
		more, _, _ := oplog.Insert(l, o)
		moreLeft, _, e := oplog.Insert(left, o)
		x, _ := undo.Paint(base, more)
		y, _ := undo.Paint(folded, moreLeft)
		if e != api.OK || !x.Same(y) {
			t.Fatalf("inserted behind a fold: %d", e)
		}
		from, ok := undo.From(l, o)
		for _, o := range l.Ops {
			if !ok || ident.Less(o.Id, from) {
				was, _ := undo.Upto(base, l, o.Id)
				is, _ := undo.Upto(base, more, o.Id)
				if !was[0].Same(is[0]) {
					t.Errorf("ahead of From something is another one")
				}
			}
		}
	}
}
