package replay_test

import (
	"math/rand"
	"slices"
	"testing"

	"gesso/api"
	"gesso/canvas"
	"gesso/ident"
	"gesso/oplog"
	"gesso/replay"
	"gesso/undo"
)

var (
	red  = api.Color{R: 255, A: 255}
	blue = api.Color{B: 255, A: 255}
)

func id(time uint64, site int, seq uint64) api.Id { return api.Id{Time: time, Site: site, Seq: seq} }

func dot(i api.Id, c api.Color) api.Op { return api.Op{Id: i, Kind: api.OpRect, Color: c} }

func of(i api.Id, kind int, target api.Id) api.Op { return api.Op{Id: i, Kind: kind, Target: target} }

var (
	a = dot(id(1, 1, 1), red)
	b = dot(id(2, 2, 1), blue)
	c = of(id(3, 1, 2), api.OpUndo, id(2, 2, 1))
)

func blank(t *testing.T) *canvas.Canvas {
	t.Helper()
	c, e := canvas.New(1, 1)
	if e != api.OK {
		t.Fatal(e)
	}
	return c
}

func view(t *testing.T, base *canvas.Canvas, l api.Log) *replay.View {
	t.Helper()
	v, e := replay.New(base, l)
	if e != api.OK || v == nil {
		t.Fatalf("New: %d", e)
	}
	return v
}

func corner(c *canvas.Canvas) api.Color {
	x, _ := c.At(0, 0)
	return x
}

// check holds a view against what has to be painted, and its marks against its log.
func check(t *testing.T, v *replay.View) {
	t.Helper()
	want, e := undo.Paint(v.Base(), v.Log())
	if e != api.OK || !v.Show().Same(want) {
		t.Fatalf("what is shown is not what is painted (%d)", e)
	}
	m := v.Marks()
	if len(m) > api.MaxMarks || !ident.Rising(m) {
		t.Fatalf("Marks: %v", m)
	}
	for _, i := range m {
		if _, _, e := oplog.At(v.Log(), i); e != api.OK {
			t.Fatalf("a mark of %v, which is not in the log", i)
		}
	}
	if v.Vector() != oplog.Vector(v.Log()) {
		t.Fatalf("Vector: %v", v.Vector())
	}
}

// P17.1
func TestNew(t *testing.T) {
	base := blank(t)
	bad := api.Log{Ops: []api.Op{{}}}
	for _, x := range []struct {
		base *canvas.Canvas
		l    api.Log
		e    api.Errno
	}{{nil, oplog.New(), api.ErrNil}, {nil, bad, api.ErrNil}, {base, bad, api.ErrLog}} {
		if v, e := replay.New(x.base, x.l); e != x.e || v != nil {
			t.Errorf("New: %d", e)
		}
	}
	l, _ := oplog.Inserts(oplog.New(), a, b, c)
	v := view(t, base, l)
	check(t, v)
	if corner(v.Show()) != red || !v.Base().Same(base) || !oplog.Same(v.Log(), l) {
		t.Errorf("New of a log")
	}
	l.Ops[0] = b
	if v.Log().Ops[0].Id != a.Id {
		t.Errorf("New keeps what it was handed")
	}
}

// P17.1, P17.2, P17.3: of a log in which many operations of one site have one Time.
func TestOneTime(t *testing.T) {
	var l api.Log
	for seq := range uint64(3 * api.EveryMark) {
		l.Ops = append(l.Ops, dot(id(10, 2, seq+1), api.Color{R: byte(seq), A: 255}))
	}
	last := l.Ops[len(l.Ops)-1]
	v := view(t, blank(t), l)
	check(t, v)
	if corner(v.Show()) != last.Color || !oplog.Same(v.Log(), l) {
		t.Errorf("New: %v", corner(v.Show()))
	}
	// One that comes late, below them all; one of that Time, behind them; and one of their site.
	late, behind := dot(id(9, 1, 1), blue), of(id(11, 3, 1), api.OpUndo, last.Id)
	if got := v.Insert(late, behind, dot(id(10, 2, last.Id.Seq+1), red)); !slices.Equal(got, []api.Errno{api.OK, api.OK, api.ErrBehind}) {
		t.Errorf("Insert: %v", got)
	}
	check(t, v)
	if corner(v.Show()).R != last.Color.R-1 {
		t.Errorf("undone: %v", corner(v.Show()))
	}
	if e := v.Fold(10); e != api.OK || len(v.Log().Ops) != 1 || v.Vector()[2] != last.Id.Seq || corner(v.Base()).R != last.Color.R-1 {
		t.Errorf("Fold: %d", e)
	}
	check(t, v)
}

// P17.2
func TestInsert(t *testing.T) {
	v := view(t, blank(t), oplog.New())
	if got := v.Insert(b, a); !slices.Equal(got, []api.Errno{api.OK, api.OK}) || corner(v.Show()) != blue {
		t.Errorf("Insert: %v", got)
	}
	check(t, v)
	if got := v.Insert(a, api.Op{}, of(id(2, 1, 2), api.OpUndo, a.Id), dot(id(2, 2, 2), red), dot(id(9, 3, 2), red)); !slices.Equal(got, []api.Errno{api.ErrThere, api.ErrOp, api.OK, api.ErrBehind, api.ErrGap}) {
		t.Errorf("Insert: %v", got)
	}
	check(t, v)
	if len(v.Log().Ops) != 3 || corner(v.Show()) != blue || len(v.Insert()) != 0 {
		t.Errorf("what has an error is in the log, or the other way round")
	}
	v.Insert(of(id(4, 4, 1), api.OpUndo, b.Id))
	check(t, v)
	if corner(v.Show()) != (api.Color{}) {
		t.Errorf("both are undone: %v", corner(v.Show()))
	}
	early := view(t, blank(t), oplog.New())
	early.Insert(c)
	early.Insert(a)
	if got := early.Insert(c, a, b); !slices.Equal(got, []api.Errno{api.OK, api.ErrThere, api.OK}) {
		t.Errorf("an undo ahead of its target: %v", got)
	}
	check(t, early)
	if corner(early.Show()) != red {
		t.Errorf("undone ahead of coming: %v", corner(early.Show()))
	}
}

// P17.3
func TestFold(t *testing.T) {
	v := view(t, blank(t), oplog.New())
	v.Insert(b, a, c)
	if e := v.Fold(2); e != api.OK || corner(v.Show()) != red || corner(v.Base()) != red || len(v.Log().Ops) != 1 {
		t.Errorf("Fold: %d", e)
	}
	check(t, v)
	if got := v.Insert(dot(id(2, 2, 2), blue)); !slices.Equal(got, []api.Errno{api.ErrBehind}) {
		t.Errorf("Insert behind a fold: %v", got)
	}
	for _, time := range []uint64{1, api.MaxTime + 1} {
		if e := v.Fold(time); e != api.ErrArg {
			t.Errorf("Fold(%d): %d", time, e)
		}
	}
	if v.Log().Folded != 2 || corner(v.Show()) != red {
		t.Errorf("an error changes something")
	}
	check(t, v)
}

// P17.4, P17.5
func TestNil(t *testing.T) {
	var v *replay.View
	painted, back := v.Work()
	if got := v.Insert(a, b); !slices.Equal(got, []api.Errno{api.ErrNil, api.ErrNil}) || v.Fold(1) != api.ErrNil || v.Show() != nil || v.Base() != nil || !oplog.Same(v.Log(), api.Log{}) || v.Vector() != (api.Vector{}) || len(v.Marks()) != 0 || v.Copy() != nil || painted != 0 || back != 0 {
		t.Errorf("a nil view tells something")
	}
}

// P17.4
func TestMemory(t *testing.T) {
	v := view(t, blank(t), oplog.New())
	o := api.Op{Id: id(1, 1, 1), Kind: api.OpStamp, Stamp: api.Stamp{Wide: 1, High: 1, Pixels: []api.Color{red}}}
	v.Insert(o)
	l := v.Log()
	l.Ops[0].Stamp.Pixels[0], o.Stamp.Pixels[0] = blue, blue
	if v.Log().Ops[0].Stamp.Pixels[0] != red {
		t.Errorf("Log shares memory")
	}
	if m := v.Marks(); len(m) > 0 {
		m[0] = api.Id{}
	}
	check(t, v)
}

// P17.5
func TestCopyWork(t *testing.T) {
	v := view(t, blank(t), oplog.New())
	v.Insert(a, b)
	painted, back := v.Work()
	w := v.Copy()
	if p, b := w.Work(); p != 0 || b != 0 || !w.Show().Same(v.Show()) || !w.Base().Same(v.Base()) || !oplog.Same(w.Log(), v.Log()) {
		t.Errorf("Copy: %d %d", p, b)
	}
	w.Insert(c)
	w.Fold(2)
	if p, b := v.Work(); p != painted || b != back || corner(v.Show()) != blue || len(v.Log().Ops) != 2 {
		t.Errorf("what is done with a copy is done with what it is of")
	}
	check(t, v)
	check(t, w)
	v.Insert(c)
	if p, b := v.Work(); p < painted || b < back || corner(w.Show()) != red {
		t.Errorf("Work falls: %d %d", p, b)
	}
	if painted == 0 {
		t.Errorf("nothing was painted")
	}
}

// drawn is operations of four sites, as they were issued.
func drawn(r *rand.Rand, many int) []api.Op {
	var ops []api.Op
	seqs := map[int]uint64{}
	time := uint64(0)
	for range many {
		time += uint64(1 + r.Intn(2))
		site := 1 + r.Intn(4)
		seqs[site]++
		o := api.Op{Id: id(time, site, seqs[site]), Kind: api.OpWash, X: r.Intn(8), Y: r.Intn(8), X2: r.Intn(8), Y2: r.Intn(8), Color: api.Color{R: byte(r.Intn(256)), G: byte(r.Intn(256)), A: 128}}
		switch {
		case len(ops) > 0 && r.Intn(3) == 0:
			o = of(o.Id, api.OpUndo+r.Intn(2), ops[r.Intn(len(ops))].Id)
		case r.Intn(4) == 0:
			o = api.Op{Id: o.Id, Kind: api.OpFill, X: o.X, Y: o.Y, Size: 100, Color: o.Color}
		}
		ops = append(ops, o)
	}
	return ops
}

// P17.6
func TestWhateverOrder(t *testing.T) {
	r := rand.New(rand.NewSource(1))
	for range 30 {
		ops := drawn(r, 30+r.Intn(60))
		base := blank(t).Set(red, api.Point{X: 3, Y: 3})
		v := view(t, base, oplog.New())
		order := slices.Clone(ops)
		for i := range order { // late by some places
			j := min(len(order)-1, i+r.Intn(6))
			order[i], order[j] = order[j], order[i]
		}
		lastPainted, lastBack := uint64(0), uint64(0)
		for len(order) > 0 {
			many := min(len(order), 1+r.Intn(4))
			var later []api.Op
			for i, e := range v.Insert(order[:many]...) {
				if e == api.ErrGap {
					later = append(later, order[i])
				} else if e != api.OK {
					t.Fatalf("Insert: %d", e)
				}
			}
			order = append(slices.Clone(order[many:]), later...)
			check(t, v)
			painted, back := v.Work()
			if painted < lastPainted || back < lastBack {
				t.Fatalf("Work falls")
			}
			lastPainted, lastBack = painted, back
			if r.Intn(10) == 0 && len(order) > 0 {
				least := order[0].Id.Time
				for _, o := range order {
					least = min(least, o.Id.Time)
					if o.Target.Time > 0 {
						least = min(least, o.Target.Time)
					}
				}
				if was := v.Show(); least-1 >= v.Log().Folded {
					if e := v.Fold(least - 1); e != api.OK || !v.Show().Same(was) {
						t.Fatalf("Fold: %d", e)
					}
					check(t, v)
				}
			}
		}
		whole, _ := oplog.Inserts(oplog.New(), ops...)
		want, _ := undo.Paint(base, whole)
		if !v.Show().Same(want) {
			t.Fatalf("another order, another picture")
		}
		for range 3 {
			w := v.Copy()
			w.Fold(whole.Ops[len(whole.Ops)-1].Id.Time)
			check(t, w)
			check(t, v)
		}
	}
}
