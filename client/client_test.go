package client_test

import (
	"bytes"
	"math/rand"
	"slices"
	"testing"

	"gesso/api"
	"gesso/canvas"
	"gesso/client"
	"gesso/crc"
	"gesso/frame"
	"gesso/ident"
	"gesso/op"
	"gesso/oplog"
	"gesso/snap"
	"gesso/undo"
	"gesso/vector"
)

const most = uint64(api.MaxTime)

var red = api.Color{R: 255, A: 255}

func of(n ...uint64) api.Vector {
	var v api.Vector
	copy(v[1:], n)
	return v
}

func id(time uint64, site int, seq uint64) api.Id { return api.Id{Time: time, Site: site, Seq: seq} }

func rect(i api.Id) api.Op {
	return api.Op{Id: i, Kind: api.OpRect, X2: int(i.Time % 8), Color: api.Color{R: byte(i.Time), A: 255}}
}

func blank(t *testing.T) api.Canvas {
	t.Helper()
	c, e := canvas.New(1, 1)
	if e != api.OK {
		t.Fatal(e)
	}
	return c.Show()
}

func row(t *testing.T, f api.Frame) []byte {
	t.Helper()
	b, e := frame.Bytes(f)
	if e != api.OK {
		t.Fatalf("Bytes of %v: %d", f, e)
	}
	return b
}

func hear(t *testing.T, c *client.Client, f api.Frame) {
	t.Helper()
	if e := c.Hear(row(t, f)); e != api.OK {
		t.Fatalf("Hear: %d", e)
	}
}

// chunks is the frames of a snapshot.
func chunks(t *testing.T, epoch uint64, site int, s api.Snapshot) []api.Frame {
	t.Helper()
	b, e := snap.Bytes(s)
	if e != api.OK {
		t.Fatal(e)
	}
	var out []api.Frame
	l, _ := snap.Cut(epoch, b)
	for _, p := range l {
		out = append(out, api.Frame{Kind: api.FrChunk, Epoch: epoch, Site: site, Snap: p.Snap, Index: p.Index, Many: p.Many, Bytes: p.Bytes})
	}
	return out
}

func made(t *testing.T, site int) *client.Client {
	t.Helper()
	c, e := client.New(site)
	if e != api.OK {
		t.Fatal(e)
	}
	return c
}

// ready is a client of the site 1 that has begun with Start 4, in the epoch 2.
func ready(t *testing.T) *client.Client {
	t.Helper()
	c := made(t, 1)
	c.Join()
	for _, f := range chunks(t, 2, 1, api.Snapshot{Canvas: blank(t), Start: 4}) {
		hear(t, c, f)
	}
	if c.Look().Phase != api.ClReady {
		t.Fatalf("it is not ready")
	}
	return c
}

func command(t *testing.T, c *client.Client, o api.Op) api.Id {
	t.Helper()
	i, e := c.Command(o)
	if e != api.OK {
		t.Fatalf("Command: %d", e)
	}
	return i
}

var paint = api.Op{Kind: api.OpRect, X2: 3, Color: red}

func same(a, b api.Seat) bool {
	return a.Site == b.Site && a.Phase == b.Phase && a.Epoch == b.Epoch && a.Pile.Snap == b.Pile.Snap && a.Pile.Many == b.Pile.Many && slices.EqualFunc(a.Pile.Parts, b.Pile.Parts, func(x, y []byte) bool { return bytes.Equal(x, y) }) &&
		a.Clock == b.Clock && a.Floor == b.Floor && a.FloorSeq == b.FloorSeq && a.Acked == b.Acked && a.Told == b.Told && a.By == b.By && canvas.Alike(a.Base, b.Base) && oplog.Same(a.Log, b.Log) && a.Bad == b.Bad
}

// P26.1, P26.2
func TestNewJoin(t *testing.T) {
	for _, site := range []int{0, 9, -1} {
		if c, e := client.New(site); e != api.ErrArg || c != nil {
			t.Errorf("New(%d): %d", site, e)
		}
	}
	c := made(t, 8)
	if !same(c.Look(), api.Seat{Site: 8, Clock: api.Clock{Site: 8}}) || len(c.Tick()) != 0 {
		t.Errorf("New: %v", c.Look())
	}
	if _, ok := c.Show(); ok || c.Vector() != of() {
		t.Errorf("who is out shows something")
	}
	if e := c.Join(); e != api.OK || !same(c.Look(), api.Seat{Site: 8, Phase: api.ClJoining, Clock: api.Clock{Site: 8}}) {
		t.Errorf("Join: %d", e)
	}
	if e := c.Join(); e != api.ErrThere {
		t.Errorf("Join twice: %d", e)
	}
	if e := ready(t).Join(); e != api.ErrThere {
		t.Errorf("Join of who is ready: %d", e)
	}
}

// P26.4
func TestOut(t *testing.T) {
	c := made(t, 1)
	for _, f := range append(chunks(t, 2, 1, api.Snapshot{Canvas: blank(t)}), api.Frame{Kind: api.FrState, Epoch: 5}) {
		hear(t, c, f)
	}
	if !same(c.Look(), api.Seat{Site: 1, Clock: api.Clock{Site: 1}}) {
		t.Errorf("who is out hears something: %v", c.Look())
	}
	for n, b := range [][]byte{nil, {0, 0, 0, 1}} {
		if e := c.Hear(b); e != api.ErrSum || c.Look().Bad != uint64(n+1) {
			t.Errorf("Hear: %d", e)
		}
	}
	if e := c.Hear(crc.Seal([]byte{9})); e != api.ErrFrame || c.Look().Bad != 3 {
		t.Errorf("Hear: %d", e)
	}
}

// P26.4: chunks.
func TestBegin(t *testing.T) {
	s := api.Snapshot{Canvas: blank(t), Folded: 3, Start: 5, Base: of(2, 7)}
	for i := range s.Canvas.Tiles[0] {
		s.Canvas.Tiles[0][i].R = byte(i)
	}
	l := chunks(t, 6, 2, s)
	if len(l) != 2 {
		t.Fatalf("%d chunks", len(l))
	}
	c := made(t, 2)
	c.Join()
	hear(t, c, api.Frame{Kind: api.FrChunk, Epoch: 6, Site: 3, Snap: 9, Index: 0, Many: 1, Bytes: []byte{1}})
	if c.Look().Epoch != 0 {
		t.Errorf("it hears a chunk of another site")
	}
	hear(t, c, l[1])
	if x := c.Look(); x.Phase != api.ClJoining || x.Epoch != 6 || x.Pile.Snap != 6 || len(x.Pile.Parts) != 2 || !bytes.Equal(x.Pile.Parts[1], l[1].Bytes) {
		t.Errorf("a chunk: %v", x)
	}
	hear(t, c, l[1])
	if got, e := frame.Read(c.Tick()[0]); e != api.OK || !frame.Same(got, api.Frame{Kind: api.FrJoin, Epoch: 6, Site: 2, Snap: 6, Index: 0}) {
		t.Errorf("Tick of who joins: %v %d", got, e)
	}
	hear(t, c, api.Frame{Kind: api.FrState, Epoch: 7})
	if x := c.Look(); x.Epoch != 7 || x.Pile.Snap != 0 || x.Phase != api.ClJoining {
		t.Errorf("a greater epoch: %v", x.Pile)
	}
	hear(t, c, l[0])
	if x := c.Look(); x.Pile.Snap != 0 {
		t.Errorf("it hears of a lesser epoch")
	}
	for _, f := range l {
		f.Epoch = 7
		hear(t, c, f)
	}
	if x := c.Look(); !same(x, api.Seat{Site: 2, Phase: api.ClReady, Epoch: 7, Clock: api.Clock{Site: 2, Time: 5, Seq: 7}, Floor: 5, FloorSeq: 7, Acked: of(2, 7), Base: s.Canvas, Log: api.Log{Folded: 3, Base: of(2, 7)}}) {
		t.Errorf("it is ready: %v", x)
	}
	if x, ok := c.Show(); !ok || !canvas.Alike(x, s.Canvas) || c.Vector() != of(2, 7) {
		t.Errorf("it shows another canvas")
	}
	hear(t, c, l[0])
	if c.Look().Pile.Snap != 0 {
		t.Errorf("who is ready gathers")
	}
	wrong := made(t, 1)
	wrong.Join()
	hear(t, wrong, api.Frame{Kind: api.FrChunk, Epoch: 2, Site: 1, Snap: 2, Many: 1, Bytes: []byte{1, 2, 3}})
	if x := wrong.Look(); x.Phase != api.ClJoining || x.Pile.Snap != 0 || x.Epoch != 2 {
		t.Errorf("whole, but no snapshot: %v", x)
	}
	for _, f := range chunks(t, 1, 1, api.Snapshot{Canvas: blank(t)}) {
		f.Epoch = 2
		hear(t, wrong, f)
	}
	if wrong.Look().Phase != api.ClReady {
		t.Errorf("behind what was no snapshot it does not begin")
	}
}

// P26.3
func TestCommand(t *testing.T) {
	c := made(t, 1)
	if _, e := c.Command(api.Op{}); e != api.ErrOut {
		t.Errorf("Command of who is out: %d", e)
	}
	c.Join()
	if _, e := c.Command(paint); e != api.ErrOut {
		t.Errorf("Command of who joins: %d", e)
	}
	c = ready(t)
	if i := command(t, c, paint); i != id(5, 1, 1) {
		t.Errorf("Command: %v", i)
	}
	if x, _ := c.Show(); x.Tiles[0][3] != red || x.Tiles[0][4] == red {
		t.Errorf("it does not show what it issued")
	}
	if x := c.Look(); x.Clock != (api.Clock{Site: 1, Time: 5, Seq: 1}) || len(x.Log.Ops) != 1 || c.Vector() != of(1) || x.Floor != 4 {
		t.Errorf("behind a command: %v", x.Clock)
	}
	hear(t, c, api.Frame{Kind: api.FrOps, Epoch: 2, Ops: []api.Op{rect(id(3, 2, 1)), rect(id(20, 2, 2))}})
	was := c.Look()
	for name, x := range map[string]struct {
		o api.Op
		e api.Errno
	}{
		"an id": {rect(id(1, 1, 1)), api.ErrArg}, "a part of an id": {api.Op{Id: api.Id{Seq: 1}, Kind: api.OpRect}, api.ErrArg}, "no kind": {api.Op{}, api.ErrArg}, "no place": {api.Op{Kind: api.OpRect, X: 128}, api.ErrArg}, "no target": {api.Op{Kind: api.OpUndo}, api.ErrArg},
		"a target that is not there": {api.Op{Kind: api.OpUndo, Target: id(5, 1, 2)}, api.ErrNone}, "a redo of none": {api.Op{Kind: api.OpRedo, Target: id(1, 1, 1)}, api.ErrNone}, "a target at the floor": {api.Op{Kind: api.OpUndo, Target: id(3, 2, 1)}, api.ErrFolded},
	} {
		if i, e := c.Command(x.o); e != x.e || i != (api.Id{}) || !same(c.Look(), was) {
			t.Errorf("Command of %s: %d", name, e)
		}
	}
	undone := command(t, c, api.Op{Kind: api.OpUndo, Target: id(5, 1, 1)})
	if undone != id(21, 1, 2) {
		t.Errorf("an undo: %v", undone)
	}
	if _, e := c.Command(api.Op{Kind: api.OpUndo, Target: undone}); e != api.ErrNone {
		t.Errorf("an undo of an undo: %d", e)
	}
	if i := command(t, c, api.Op{Kind: api.OpRedo, Target: id(20, 2, 2)}); i != id(22, 1, 3) {
		t.Errorf("a redo of another's: %v", i)
	}
}

// P26.3: limits.
func TestFull(t *testing.T) {
	c := ready(t)
	for range 16 {
		command(t, c, paint)
	}
	if _, e := c.Command(paint); e != api.ErrFull {
		t.Errorf("the 17th that the server was not told to have: %d", e)
	}
	if _, e := c.Command(api.Op{Kind: api.OpUndo, Target: id(1, 1, 1)}); e != api.ErrNone {
		t.Errorf("ErrNone goes ahead of ErrFull: %d", e)
	}
	hear(t, c, api.Frame{Kind: api.FrState, Epoch: 2, Vector: of(1)})
	command(t, c, paint)
	if _, e := c.Command(paint); e != api.ErrFull {
		t.Errorf("one more: %d", e)
	}
	hear(t, c, api.Frame{Kind: api.FrState, Epoch: 2, Vector: of(17)})
	for range 7 {
		command(t, c, paint)
	}
	if _, e := c.Command(paint); e != api.ErrFull || len(c.Look().Log.Ops) != 24 {
		t.Errorf("the 25th that is retained: %d, %d", e, len(c.Look().Log.Ops))
	}
	late := made(t, 1)
	late.Join()
	for _, f := range chunks(t, 2, 1, api.Snapshot{Canvas: blank(t), Start: most - 1}) {
		hear(t, late, f)
	}
	if i := command(t, late, paint); i != id(most, 1, 1) {
		t.Errorf("the last time: %v", i)
	}
	was := late.Look()
	if _, e := late.Command(paint); e != api.ErrLate || !same(late.Look(), was) {
		t.Errorf("behind the last time: %d", e)
	}
}

// P26.4: states.
func TestState(t *testing.T) {
	c := ready(t)
	command(t, c, paint)
	command(t, c, paint)
	hear(t, c, api.Frame{Kind: api.FrState, Epoch: 2, Vector: of(1, 3), Proposed: 9})
	x := c.Look()
	if x.Acked != of(1, 3) || x.Floor != 9 || x.FloorSeq != 2 || x.Clock != (api.Clock{Site: 1, Time: 9, Seq: 2}) || x.Told != 0 {
		t.Errorf("a State that proposes: %v", x)
	}
	hear(t, c, api.Frame{Kind: api.FrState, Epoch: 2, Vector: of(0, 1, 5), Proposed: 8})
	if x := c.Look(); x.Acked != of(1, 3, 5) || x.Floor != 9 || x.FloorSeq != 2 {
		t.Errorf("a State that proposes less: %v", x)
	}
	if _, e := c.Command(api.Op{Kind: api.OpUndo, Target: id(5, 1, 1)}); e != api.ErrFolded {
		t.Errorf("an undo of what was promised not to be: %d", e)
	}
	third := command(t, c, paint)
	if third != id(10, 1, 3) {
		t.Errorf("issued behind a promise: %v", third)
	}
	hear(t, c, api.Frame{Kind: api.FrState, Epoch: 2, Proposed: 9})
	if x := c.Look(); x.Floor != 9 || x.FloorSeq != 2 {
		t.Errorf("promised once more: %v", x.FloorSeq)
	}
	hear(t, c, api.Frame{Kind: api.FrState, Epoch: 2, Told: 12, By: of(2, 1)})
	if x := c.Look(); x.Told != 12 || x.By != of(2, 1) || x.Log.Folded != 0 || x.Floor != 12 || x.FloorSeq != 3 {
		t.Errorf("told, but not all is there: %v", x)
	}
	for _, f := range []api.Frame{{Told: 11, By: of(1)}, {Told: 12, By: of(1)}} {
		f.Kind, f.Epoch = api.FrState, 2
		hear(t, c, f)
	}
	if x := c.Look(); x.Told != 12 || x.By != of(2, 1) {
		t.Errorf("told of less: %v", x)
	}
	shown, _ := c.Show()
	hear(t, c, api.Frame{Kind: api.FrOps, Epoch: 2, Ops: []api.Op{rect(id(12, 2, 1))}})
	want := api.Log{Folded: 12, Base: of(3, 1)}
	if x := c.Look(); x.Told != 0 || x.By != of() || !oplog.Same(x.Log, want) {
		t.Errorf("it does not fold: %v", x)
	}
	if now, _ := c.Show(); canvas.Alike(now, shown) || !canvas.Alike(now, c.Look().Base) {
		t.Errorf("folded, something else is shown")
	}
	hear(t, c, api.Frame{Kind: api.FrState, Epoch: 2, Told: 12, By: of(9)})
	if x := c.Look(); x.Told != 0 {
		t.Errorf("told of what is folded: %v", x.Told)
	}
	hear(t, c, api.Frame{Kind: api.FrState, Epoch: 2, Told: 15, By: of(1), Proposed: 20})
	if x := c.Look(); x.Told != 0 || x.Log.Folded != 15 || x.Floor != 20 {
		t.Errorf("folded at once: %v", x)
	}
	joining := made(t, 1)
	joining.Join()
	hear(t, joining, api.Frame{Kind: api.FrState, Epoch: 4, Vector: of(1), Proposed: 20})
	if !same(joining.Look(), api.Seat{Site: 1, Phase: api.ClJoining, Epoch: 4, Clock: api.Clock{Site: 1}}) {
		t.Errorf("a State of who joins: %v", joining.Look())
	}
}

// P26.4: operations, and what it passes over.
func TestOps(t *testing.T) {
	c := ready(t)
	command(t, c, paint)
	hear(t, c, api.Frame{Kind: api.FrOps, Epoch: 2, Ops: []api.Op{rect(id(2, 3, 1)), rect(id(7, 2, 1)), rect(id(9, 1, 2)), rect(id(30, 2, 3))}})
	x := c.Look()
	if c.Vector() != of(1, 1, 1) || x.Clock != (api.Clock{Site: 1, Time: 7, Seq: 1}) || x.Acked != of() {
		t.Errorf("operations: %v, %v", c.Vector(), x.Clock)
	}
	was := c.Look()
	for name, f := range map[string]api.Frame{
		"a join": {Kind: api.FrJoin, Epoch: 9, Site: 1}, "a status": {Kind: api.FrStatus, Epoch: 9, Site: 2, Floor: 99}, "operations of a site": {Kind: api.FrOps, Epoch: 9, Site: 2, Ops: []api.Op{rect(id(8, 2, 2))}},
		"a chunk of another site": {Kind: api.FrChunk, Epoch: 9, Site: 2, Snap: 9, Many: 1, Bytes: []byte{1}}, "of a lesser epoch": {Kind: api.FrOps, Epoch: 1, Ops: []api.Op{rect(id(8, 2, 2))}}, "a lesser state": {Kind: api.FrState, Epoch: 1, Proposed: 99},
		"what is there": {Kind: api.FrOps, Epoch: 2, Ops: []api.Op{rect(id(7, 2, 1))}}, "a chunk": {Kind: api.FrChunk, Epoch: 2, Site: 1, Snap: 9, Many: 1, Bytes: []byte{1}},
	} {
		if hear(t, c, f); !same(c.Look(), was) {
			t.Errorf("it does something with %s", name)
		}
	}
	hear(t, c, api.Frame{Kind: api.FrOps, Epoch: 8, Ops: []api.Op{rect(id(8, 2, 2))}})
	if x := c.Look(); x.Epoch != 8 || c.Vector() != of(1, 2, 1) || x.Clock.Time != 8 {
		t.Errorf("operations of a greater epoch: %v", x.Epoch)
	}
}

// P26.5
func TestTick(t *testing.T) {
	c := made(t, 3)
	c.Join()
	if l := c.Tick(); len(l) != 1 || !bytes.Equal(l[0], row(t, api.Frame{Kind: api.FrJoin, Site: 3})) {
		t.Errorf("Tick of who joins: %v", l)
	}
	c = ready(t)
	status := func() api.Frame {
		x := c.Look()
		return api.Frame{Kind: api.FrStatus, Epoch: x.Epoch, Site: 1, Vector: c.Vector(), Floor: x.Floor, FloorSeq: x.FloorSeq}
	}
	if l := c.Tick(); len(l) != 1 || !bytes.Equal(l[0], row(t, status())) {
		t.Errorf("Tick of who has nothing to send: %d", len(l))
	}
	for range 6 {
		command(t, c, paint)
	}
	hear(t, c, api.Frame{Kind: api.FrOps, Epoch: 2, Ops: []api.Op{rect(id(2, 2, 1))}})
	for acked, want := range [][]uint64{{1, 2, 3, 4}, {2, 3, 4, 5}, {3, 4, 5, 6}, {4, 5, 6}, {5, 6}, {6}, nil} {
		hear(t, c, api.Frame{Kind: api.FrState, Epoch: 2, Vector: of(uint64(acked))})
		was := c.Look()
		l := c.Tick()
		if !same(c.Look(), was) {
			t.Errorf("Tick changes something")
		}
		if !bytes.Equal(l[0], row(t, status())) {
			t.Errorf("another status")
		}
		if want == nil {
			if len(l) != 1 {
				t.Errorf("it sends what the server has")
			}
			continue
		}
		f, e := frame.Read(l[1])
		var seqs []uint64
		for _, o := range f.Ops {
			seqs = append(seqs, o.Id.Seq)
		}
		if len(l) != 2 || e != api.OK || f.Kind != api.FrOps || f.Site != 1 || f.Epoch != 2 || !slices.Equal(seqs, want) {
			t.Errorf("Tick with %d acked: %v", acked, seqs)
		}
	}
}

// P26.6, P26.7
func TestNilCopy(t *testing.T) {
	var none *client.Client
	_, ok := none.Show()
	_, e := none.Command(paint)
	if none.Join() != api.ErrNil || e != api.ErrNil || none.Hear(nil) != api.ErrNil || none.Tick() != nil || !same(none.Look(), api.Seat{}) || ok || none.Vector() != of() || none.Copy() != nil {
		t.Errorf("a nil client tells something")
	}
	c := ready(t)
	command(t, c, paint)
	was := c.Look()
	d := c.Copy()
	if !same(d.Look(), was) {
		t.Errorf("Copy: %v", d.Look())
	}
	command(t, d, paint)
	hear(t, d, api.Frame{Kind: api.FrState, Epoch: 9, Proposed: 99})
	if !same(c.Look(), was) || same(d.Look(), was) {
		t.Errorf("what is done with a copy is done with what it is of")
	}
	if x := c.Look(); true {
		x.Log.Ops[0].X, x.Base.Tiles[0][0].R = 9, 9
	}
	if x, _ := c.Show(); true {
		x.Tiles[0][0].R = 9
	}
	if !same(c.Look(), was) {
		t.Errorf("Look shares memory")
	}
	j := made(t, 1)
	j.Join()
	if !same(j.Copy().Look(), j.Look()) {
		t.Errorf("Copy of who joins")
	}
	hear(t, j, api.Frame{Kind: api.FrChunk, Epoch: 2, Site: 1, Snap: 2, Index: 1, Many: 2, Bytes: []byte{1, 2, 3}})
	j.Look().Pile.Parts[1][0] = 9
	if j.Look().Pile.Parts[1][0] != 1 {
		t.Errorf("Look shares the pile's memory")
	}
}

// P26.8
func TestFollows(t *testing.T) {
	r := rand.New(rand.NewSource(1))
	for range 40 {
		c := ready(t)
		seqs := of()
		time := uint64(1)
		last := c.Look()
		lastId := api.Id{}
		for range 60 {
			before := c.Look()
			if before.Told == 0 { // what others issue now is behind what is folded
				time = max(time, before.Floor)
			}
			var f api.Frame
			switch r.Intn(5) {
			case 0, 1:
				o := paint
				if l := before.Log.Ops; len(l) > 0 && r.Intn(2) == 0 {
					o = api.Op{Kind: api.OpUndo + r.Intn(2), Target: l[r.Intn(len(l))].Id}
				}
				i, e := c.Command(o)
				if e != api.OK {
					continue
				}
				if !ident.Less(lastId, i) || i.Time <= before.Floor || !op.Paints(o.Kind) && o.Target.Time <= before.Floor {
					t.Fatalf("issued: %v, floor %d", i, before.Floor)
				}
				lastId = i
				continue
			case 2:
				site := 2 + r.Intn(3)
				time++
				seqs[site]++
				f = api.Frame{Kind: api.FrOps, Epoch: before.Epoch, Ops: []api.Op{rect(id(time, site, seqs[site]))}}
			case 3:
				told := uint64(r.Intn(int(before.Floor) + 1))
				f = api.Frame{Kind: api.FrState, Epoch: before.Epoch + uint64(r.Intn(2)), Vector: of(min(before.Clock.Seq, uint64(r.Intn(9)))), Told: told, By: vectorOf(r, c.Vector())}
			case 4:
				f = api.Frame{Kind: api.FrState, Epoch: before.Epoch, Proposed: before.Floor + uint64(r.Intn(3))}
			}
			b := row(t, f)
			if x, e := crc.Spoil(b, r.Intn(8*len(b)), 1+r.Uint32()>>1); e == api.OK {
				want := c.Look()
				want.Bad++
				if e := c.Hear(x); e == api.OK || !same(c.Look(), want) {
					t.Fatalf("a spoilt frame changes something: %d", e)
				}
			}
			hear(t, c, f)
			now := c.Look()
			if now.Floor < last.Floor || now.Epoch < last.Epoch || !vector.Covers(oplog.Vector(now.Log), oplog.Vector(last.Log)) {
				t.Fatalf("something falls")
			}
			base, _ := canvas.Of(now.Base)
			want, _ := undo.Paint(base, now.Log)
			if x, ok := c.Show(); !ok || !canvas.Alike(x, want.Show()) {
				t.Fatalf("it shows something else")
			}
			last = now
		}
	}
}

// vectorOf is a vector near another one.
func vectorOf(r *rand.Rand, v api.Vector) api.Vector {
	if r.Intn(3) == 0 {
		v[2+r.Intn(3)]++
	}
	return v
}
