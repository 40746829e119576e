package server_test

import (
	"bytes"
	"math/rand"
	"slices"
	"testing"

	"gesso/api"
	"gesso/canvas"
	"gesso/disk"
	"gesso/frame"
	"gesso/frontier"
	"gesso/op"
	"gesso/oplog"
	"gesso/server"
	"gesso/snap"
	"gesso/store"
	"gesso/undo"
	"gesso/vector"
)

func of(n ...uint64) api.Vector {
	var v api.Vector
	copy(v[1:], n)
	return v
}

func id(time uint64, site int, seq uint64) api.Id { return api.Id{Time: time, Site: site, Seq: seq} }

func rect(time uint64, site int, seq uint64) api.Op {
	return api.Op{Id: id(time, site, seq), Kind: api.OpRect, X2: int(time % 8), Color: api.Color{R: byte(time), A: 255}}
}

var a = rect(1, 1, 1)

func made(t *testing.T) *server.Server {
	t.Helper()
	s, e := server.New(1, 1)
	if e != api.OK {
		t.Fatal(e)
	}
	return s
}

func row(t *testing.T, f api.Frame) []byte {
	t.Helper()
	b, e := frame.Bytes(f)
	if e != api.OK {
		t.Fatalf("Bytes of %v: %d", f, e)
	}
	return b
}

func join(site int) api.Frame { return api.Frame{Kind: api.FrJoin, Site: site} }

func status(epoch uint64, site int, floor, seq uint64, has api.Vector) api.Frame {
	return api.Frame{Kind: api.FrStatus, Epoch: epoch, Site: site, Floor: floor, FloorSeq: seq, Vector: has}
}

func ops(epoch uint64, site int, l ...api.Op) api.Frame {
	return api.Frame{Kind: api.FrOps, Epoch: epoch, Site: site, Ops: l}
}

func hear(t *testing.T, s *server.Server, l ...api.Frame) []api.Op {
	t.Helper()
	var out []api.Op
	for _, f := range l {
		got, e := s.Hear(row(t, f))
		if e != api.OK {
			t.Fatalf("Hear of %v: %d", f, e)
		}
		out = append(out, got...)
	}
	return out
}

func tick(t *testing.T, s *server.Server) api.Turn {
	t.Helper()
	turn, e := s.Tick()
	if e != api.OK {
		t.Fatalf("Tick: %d", e)
	}
	return turn
}

// read is the frames of a turn's parcels, by where they go.
func read(t *testing.T, turn api.Turn) map[int][]api.Frame {
	t.Helper()
	out := map[int][]api.Frame{}
	last := 0
	for _, p := range turn.Parcels {
		f, e := frame.Read(p.Bytes)
		if e != api.OK || p.To < last || p.To < 1 || p.Spoilt {
			t.Fatalf("a parcel to %d: %d", p.To, e)
		}
		last = p.To
		out[p.To] = append(out[p.To], f)
	}
	return out
}

func kinds(l []api.Frame) []int {
	var out []int
	for _, f := range l {
		out = append(out, f.Kind)
	}
	return out
}

func ids(l []api.Op) []api.Id {
	var out []api.Id
	for _, o := range l {
		out = append(out, o.Id)
	}
	return out
}

// P27.1
func TestNew(t *testing.T) {
	for _, x := range [][2]int{{0, 1}, {1, 5}} {
		if s, e := server.New(x[0], x[1]); e != api.ErrArg || s != nil {
			t.Errorf("New(%v): %d", x, e)
		}
	}
	s, e := server.New(2, 3)
	d, k, _ := store.Format(2, 3)
	if e != api.OK || !s.Up() || !store.Same(s.Kept(), k) || !disk.Same(s.Disk(), d) || len(s.Waits()) != 0 || s.Front() != frontier.New() {
		t.Errorf("New: %d", e)
	}
	if turn := tick(t, s); len(turn.Parcels) != 0 || len(turn.Took) != 0 || turn.Folded != 0 {
		t.Errorf("a tick of nothing: %v", turn)
	}
}

// P27.2, P27.4
func TestExamples(t *testing.T) {
	s := made(t)
	if got := hear(t, s, join(1)); len(got) != 0 {
		t.Errorf("a join: %v", got)
	}
	if l := s.Waits(); len(l) != 1 || l[0].Kind != api.FcSite || l[0].Site != 1 || s.Kept().Sites[1] {
		t.Errorf("Waits: %v", l)
	}
	hear(t, s, join(1))
	if len(s.Waits()) != 1 {
		t.Errorf("a join twice is laid twice")
	}
	got := read(t, tick(t, s))
	if !slices.Equal(kinds(got[1]), []int{api.FrState, api.FrChunk}) || len(got) != 1 || !s.Kept().Sites[1] || len(s.Waits()) != 0 || !s.Front().Sites[1].In {
		t.Errorf("a tick behind a join: %v", got)
	}
	if !frame.Same(got[1][0], api.Frame{Kind: api.FrState, Epoch: 1}) {
		t.Errorf("the state: %v", got[1][0])
	}
	want, _ := snap.Bytes(api.Snapshot{Canvas: s.Kept().Canvas})
	if !frame.Same(got[1][1], api.Frame{Kind: api.FrChunk, Epoch: 1, Site: 1, Snap: 1, Many: 1, Bytes: want}) {
		t.Errorf("the chunk: %v", got[1][1])
	}
	hear(t, s, join(1))
	if len(s.Waits()) != 0 {
		t.Errorf("who is registered is laid again")
	}
	if got := hear(t, s, status(1, 1, 0, 0, of())); len(got) != 0 {
		t.Errorf("a status: %v", got)
	}
	if got := hear(t, s, ops(1, 1, a)); !slices.Equal(ids(got), []api.Id{a.Id}) {
		t.Errorf("operations: %v", got)
	}
	if got := hear(t, s, ops(1, 1, a)); len(got) != 0 || len(s.Waits()) != 1 || s.Waits()[0].Kind != api.FcOp {
		t.Errorf("the same once more: %v", got)
	}
	if len(s.Kept().Log.Ops) != 0 {
		t.Errorf("what waits is kept")
	}
	turn := tick(t, s)
	if got := read(t, turn)[1]; !slices.Equal(ids(turn.Took), []api.Id{a.Id}) || !slices.Equal(kinds(got), []int{api.FrState, api.FrOps}) || got[0].Vector != of(1) || got[1].Site != 0 || !op.Same(got[1].Ops[0], a) {
		t.Errorf("a tick behind operations: %v", got)
	}
	turn = tick(t, s)
	if got := read(t, turn)[1]; len(turn.Took) != 0 || !slices.Equal(kinds(got), []int{api.FrState, api.FrOps}) {
		t.Errorf("a tick more: %v", got)
	}
	hear(t, s, status(1, 1, 0, 0, of(1)))
	if got := read(t, tick(t, s))[1]; !slices.Equal(kinds(got), []int{api.FrState}) {
		t.Errorf("who has all: %v", kinds(got))
	}
}

// P27.2
func TestHearErrors(t *testing.T) {
	s := made(t)
	hear(t, s, join(1))
	chunk := api.Frame{Kind: api.FrChunk, Epoch: 1, Site: 1, Snap: 1, Many: 1, Bytes: []byte{1}}
	for name, x := range map[string]struct {
		f api.Frame
		e api.Errno
	}{"a chunk": {chunk, api.ErrArg}, "a state": {api.Frame{Kind: api.FrState, Epoch: 9}, api.ErrArg}, "operations of 0": {ops(9, 0, a), api.ErrArg}, "stale operations": {ops(2, 3, rect(1, 3, 1)), api.ErrStale}, "a stale status": {status(0, 1, 0, 0, of()), api.ErrStale},
		"operations of who waits": {ops(1, 1, a), api.ErrNone}, "a status of who waits": {status(1, 1, 0, 0, of()), api.ErrNone}, "operations of none": {ops(1, 3, rect(1, 3, 1)), api.ErrNone}} {
		if got, e := s.Hear(row(t, x.f)); e != x.e || got != nil {
			t.Errorf("Hear of %s: %d", name, e)
		}
	}
	if _, e := s.Hear([]byte{1, 2, 3}); e != api.ErrSum {
		t.Errorf("Hear of nothing sealed: %d", e)
	}
	if _, e := s.Hear([]byte{0, 0, 0, 0}); e != api.ErrFrame {
		t.Errorf("Hear of no frame: %d", e)
	}
	if len(s.Waits()) != 1 {
		t.Errorf("errors lay something")
	}
	tick(t, s)
	if got := hear(t, s, ops(1, 1, a, rect(2, 1, 2), rect(4, 1, 4))); !slices.Equal(ids(got), []api.Id{id(1, 1, 1), id(2, 1, 2)}) {
		t.Errorf("what can't be applied is laid: %v", ids(got))
	}
	if got := hear(t, s, ops(1, 1, rect(2, 1, 2), rect(3, 1, 3), rect(4, 1, 4))); !slices.Equal(ids(got), []api.Id{id(3, 1, 3), id(4, 1, 4)}) {
		t.Errorf("what waits is not counted: %v", ids(got))
	}
	if f := s.Front(); f.Sites[1].Has != of() {
		t.Errorf("operations are heard as a status")
	}
	hear(t, s, status(1, 1, 7, 5, of(2)))
	if f := s.Front(); f.Sites[1] != (api.Pledge{In: true, Floor: 7, FloorSeq: 5, Has: of(2)}) {
		t.Errorf("a status: %v", f.Sites[1])
	}
}

// P27.2, P27.4: transfers.
func TestTransfer(t *testing.T) {
	s, _ := server.New(4, 4)
	hear(t, s, join(1))
	tick(t, s)
	var l []api.Op
	for i := range uint64(8) {
		o := api.Op{Id: id(i+1, 1, i+1), Kind: api.OpStamp, X: int(i) * 4, Y: int(i) * 4, Stamp: api.Stamp{Wide: 8, High: 8}}
		for p := range 64 {
			o.Stamp.Pixels = append(o.Stamp.Pixels, api.Color{R: byte(p), G: byte(i), A: 255})
		}
		l = append(l, o)
	}
	hear(t, s, ops(1, 1, l[:4]...), ops(1, 1, l[4:]...))
	tick(t, s)
	hear(t, s, status(1, 1, 0, 0, of(8)))
	if e := s.Settle(0); e != api.OK {
		t.Fatalf("Settle: %d", e)
	}
	hear(t, s, status(1, 1, 8, 8, of(8)))
	if turn := tick(t, s); turn.Folded != 8 {
		t.Fatalf("it does not fold: %d", turn.Folded)
	}
	hear(t, s, ops(1, 1, rect(9, 1, 9), rect(11, 1, 10)))
	tick(t, s)
	hear(t, s, join(3))
	first := read(t, tick(t, s))[3]
	s.Settle(0)
	hear(t, s, join(3))
	if again := read(t, tick(t, s))[3]; len(first) != 2 || len(again) != 2 || again[0].Proposed != 11 || !frame.Same(first[1], again[1]) {
		t.Errorf("a transfer that was sent from becomes another one")
	}
	k := s.Kept()
	want, _ := snap.Bytes(api.Snapshot{Canvas: k.Canvas, Folded: 8, Start: 11, Base: of(8)})
	pieces, _ := snap.Cut(1, want)
	if len(pieces) < 3 {
		t.Fatalf("%d pieces", len(pieces))
	}
	asked := func(snap uint64, index int) []api.Frame {
		f := join(2)
		f.Snap, f.Index = snap, index
		hear(t, s, f)
		return read(t, tick(t, s))[2]
	}
	check := func(l []api.Frame, index int) {
		t.Helper()
		p := pieces[index]
		if len(l) != 2 || !frame.Same(l[1], api.Frame{Kind: api.FrChunk, Epoch: 1, Site: 2, Snap: 1, Index: index, Many: p.Many, Bytes: p.Bytes}) {
			t.Fatalf("the chunk %d: %v", index, kinds(l))
		}
	}
	check(asked(7, 2), 0)
	check(asked(1, 2), 2)
	if l := asked(1, len(pieces)); len(l) != 1 {
		t.Errorf("a chunk that there is not: %v", kinds(l))
	}
	// What is taken since does not change the transfer, till the site has told.
	hear(t, s, ops(1, 1, rect(12, 1, 11)), status(1, 1, 11, 10, of(11)))
	check(asked(1, 1), 1)
	hear(t, s, status(1, 2, 11, 0, of(8)))
	if l := read(t, tick(t, s))[2]; !slices.Equal(kinds(l), []int{api.FrState, api.FrOps}) || !slices.Equal(ids(l[1].Ops), []api.Id{id(9, 1, 9), id(11, 1, 10), id(12, 1, 11)}) {
		t.Errorf("who has told: %v", l)
	}
	if l := asked(1, 1); slices.Contains(kinds(l), api.FrChunk) {
		t.Errorf("who has told, and asks: %v", kinds(l))
	}
}

// P27.3, P27.4: folds.
func TestFold(t *testing.T) {
	s := made(t)
	if e := s.Settle(0); e != api.ErrNone {
		t.Errorf("Settle of nothing: %d", e)
	}
	hear(t, s, join(1), join(2))
	tick(t, s)
	hear(t, s, ops(1, 1, a, rect(3, 1, 2)), ops(1, 2, rect(2, 2, 1), rect(5, 2, 2)))
	if e := s.Settle(0); e != api.ErrNone {
		t.Errorf("Settle of what waits: %d", e)
	}
	tick(t, s)
	if e := s.Settle(-1); e != api.ErrArg {
		t.Errorf("Settle(-1): %d", e)
	}
	if e := s.Settle(1); e != api.OK || s.Front().Proposed != 3 {
		t.Errorf("Settle(1): %d, %d", s.Front().Proposed, e)
	}
	if e := s.Settle(0); e != api.ErrThere {
		t.Errorf("Settle once more: %d", e)
	}
	if l := read(t, tick(t, s))[2]; l[0].Proposed != 3 || l[0].Told != 0 {
		t.Errorf("the state: %v", l[0])
	}
	hear(t, s, status(1, 1, 3, 2, of(2, 2)))
	if turn := tick(t, s); turn.Folded != 0 {
		t.Errorf("folded ahead of all having promised")
	}
	before := s.Disk()
	base, _ := canvas.Of(s.Kept().Canvas)
	want, left, _ := undo.Fold(base, s.Kept().Log, 3)
	hear(t, s, status(1, 2, 4, 1, of(2, 1)))
	turn := tick(t, s)
	k := s.Kept()
	if turn.Folded != 3 || k.By != of(2, 1) || !oplog.Same(k.Log, left) || !canvas.Alike(k.Canvas, want.Show()) || s.Front().Folded != 3 || s.Front().By != of(2, 1) || s.Front().Proposed != 0 {
		t.Errorf("folded: %v", turn.Folded)
	}
	if l := read(t, turn); l[1][0].Told != 3 || l[1][0].By != of(2, 1) || l[1][0].Proposed != 0 || l[1][0].Vector != of(2, 2) || !slices.Equal(ids(l[2][1].Ops), []api.Id{id(5, 2, 2)}) {
		t.Errorf("told of: %v", l)
	}
	after := s.Disk()
	if len(after.Waits) != 0 || len(after.Files[1]) <= len(before.Files[1]) {
		t.Errorf("the fact of the fold is not there for good")
	}
	if got, n, e := store.Open(after); e != api.OK || n != 7 || !store.Same(got, k) {
		t.Errorf("Open: %d %d", n, e)
	}
}

// P27.4: saves.
func TestSave(t *testing.T) {
	s := made(t)
	hear(t, s, join(1))
	tick(t, s)
	saves := 0
	for seq := uint64(1); seq <= 100; seq++ {
		was := s.Disk()
		hear(t, s, ops(1, 1, rect(seq, 1, seq)))
		size := disk.Size(s.Disk(), 2*disk.Head(was)+1)
		tick(t, s)
		now := s.Disk()
		if (size > api.SaveBytes) != (now.Head != was.Head) {
			t.Fatalf("with %d bytes the head is %d, and was %d", size, now.Head, was.Head)
		}
		if got, _, e := store.Open(now); e != api.OK || !store.Same(got, s.Kept()) {
			t.Fatalf("Open: %d", e)
		}
		if now.Head != was.Head {
			saves++
		}
	}
	if saves < 3 {
		t.Errorf("it saves %d times", saves)
	}
}

// P27.4: with just SaveBytes bytes nothing is saved.
func TestSaveBytes(t *testing.T) {
	s := made(t)
	hear(t, s, join(1))
	tick(t, s)
	seq := uint64(0)
	issue := func(kind int) {
		seq++
		o := rect(seq, 1, seq)
		if kind == api.OpUndo {
			o = api.Op{Id: o.Id, Kind: kind, Target: a.Id}
		}
		hear(t, s, ops(1, 1, o))
	}
	for range 18 {
		issue(api.OpRect)
	}
	for range 32 {
		issue(api.OpUndo)
	}
	tick(t, s)
	if d := s.Disk(); len(d.Files[1]) != api.SaveBytes || d.Head != 0 {
		t.Errorf("with %d bytes it has saved: %d", len(d.Files[1]), d.Head)
	}
	issue(api.OpUndo)
	tick(t, s)
	if d := s.Disk(); d.Head != 1 || len(s.Kept().Log.Ops) != 51 {
		t.Errorf("with more it has not saved")
	}
}

// P27.3, P27.5
func TestFallRise(t *testing.T) {
	s := made(t)
	hear(t, s, join(1))
	tick(t, s)
	hear(t, s, ops(1, 1, a))
	tick(t, s)
	hear(t, s, ops(1, 1, rect(2, 1, 2), rect(3, 1, 3)), status(1, 1, 1, 1, of(1)))
	s.Settle(0)
	if e := s.Rise(0); e != api.ErrThere {
		t.Errorf("Rise of what is up: %d", e)
	}
	for _, x := range [][2]int{{-1, 0}, {0, -1}} {
		if e := s.Fall(x[0], x[1]); e != api.ErrArg || !s.Up() {
			t.Errorf("Fall(%v): %d", x, e)
		}
	}
	fallen, _ := disk.Fall(s.Disk(), 1, 5)
	if e := s.Fall(1, 5); e != api.OK || s.Up() || !disk.Same(s.Disk(), fallen) {
		t.Errorf("Fall: %d", e)
	}
	turn, e := s.Tick()
	_, f := s.Hear([]byte{1})
	if e != api.ErrDown || f != api.ErrDown || s.Settle(-1) != api.ErrDown || s.Arm(-1) != api.ErrDown || len(turn.Parcels) != 0 {
		t.Errorf("of what is down: %d %d", e, f)
	}
	if !store.Same(s.Kept(), api.Kept{}) || len(s.Waits()) != 0 || s.Front() != (api.Frontier{}) {
		t.Errorf("of what is down something is told")
	}
	if e := s.Fall(0, 0); e != api.OK || s.Up() {
		t.Errorf("Fall of what is down: %d", e)
	}
	if e := s.Rise(-1); e != api.ErrArg || s.Up() {
		t.Errorf("Rise(-1): %d", e)
	}
	up, kept, _ := store.Rise(s.Disk(), 9)
	if e := s.Rise(9); e != api.OK || !s.Up() || !store.Same(s.Kept(), kept) || !disk.Same(s.Disk(), up) {
		t.Errorf("Rise: %d", e)
	}
	want := frontier.New()
	want, _ = frontier.Register(want, 1)
	if s.Kept().Epoch != 2 || oplog.Vector(s.Kept().Log) != of(2) || s.Front() != want || len(s.Waits()) != 0 {
		t.Errorf("behind Rise: %v", s.Front())
	}
	if l := read(t, tick(t, s))[1]; !slices.Equal(kinds(l), []int{api.FrState}) || l[0].Epoch != 2 {
		t.Errorf("who has neither told nor asked: %v", kinds(l))
	}
	if _, e := s.Hear(row(t, status(1, 1, 0, 0, of()))); e != api.ErrStale {
		t.Errorf("of the epoch that was: %d", e)
	}
}

// P27.2 to P27.5: whatever lets the disk fall lets the server fall.
func TestArmed(t *testing.T) {
	for fuse := 1; fuse <= 4; fuse++ {
		s := made(t)
		hear(t, s, join(1))
		tick(t, s)
		if e := s.Arm(fuse); e != api.OK || s.Disk().Fuse != fuse {
			t.Fatalf("Arm: %d", e)
		}
		got, e := s.Hear(row(t, ops(1, 1, a, rect(2, 1, 2), rect(3, 1, 3))))
		if fuse < 4 {
			if e != api.ErrDown || got != nil || s.Up() || !s.Disk().Down || len(s.Disk().Waits) != fuse-1 {
				t.Errorf("Hear with a fuse of %d: %d", fuse, e)
			}
		} else if turn, e := s.Tick(); e != api.ErrDown || s.Up() || len(turn.Parcels) != 0 || len(turn.Took) != 0 {
			t.Errorf("Tick with a fuse: %d", e)
		}
		if e := s.Rise(3); e != api.ErrDown || s.Up() || !s.Disk().Down {
			t.Errorf("Rise with a fuse: %d", e)
		}
		if e := s.Rise(0); e != api.OK || s.Kept().Epoch != 2 || !s.Kept().Sites[1] {
			t.Errorf("Rise: %d", e)
		}
	}
	s := made(t)
	s.Arm(1)
	if _, e := s.Hear(row(t, join(1))); e != api.ErrDown || s.Up() {
		t.Errorf("a join with a fuse: %d", e)
	}
	for _, n := range []int{-1, api.MaxWaits + 1} {
		if e := made(t).Arm(n); e != api.ErrArg {
			t.Errorf("Arm(%d): %d", n, e)
		}
	}
}

// P27.6
func TestNil(t *testing.T) {
	var s *server.Server
	_, e := s.Hear(nil)
	_, f := s.Tick()
	if e != api.ErrNil || f != api.ErrNil || s.Settle(0) != api.ErrNil || s.Arm(0) != api.ErrNil || s.Fall(0, 0) != api.ErrNil || s.Rise(0) != api.ErrNil || s.Up() || !store.Same(s.Kept(), api.Kept{}) || len(s.Waits()) != 0 || s.Front() != (api.Frontier{}) || !disk.Same(s.Disk(), api.Disk{}) {
		t.Errorf("a nil server tells something")
	}
	s = made(t)
	hear(t, s, join(1))
	tick(t, s)
	o := api.Op{Id: id(1, 1, 1), Kind: api.OpStamp, Stamp: api.Stamp{Wide: 1, High: 1, Pixels: []api.Color{{R: 5}}}}
	got := hear(t, s, ops(1, 1, o))
	w := s.Waits()
	got[0].Stamp.Pixels[0].R, w[0].Op.Stamp.Pixels[0].R = 7, 7
	turn := tick(t, s)
	k, d := s.Kept(), s.Disk()
	k.Log.Ops[0].Stamp.Pixels[0].R, k.Canvas.Tiles[0][0].R, d.Files[0][0], turn.Took[0].Stamp.Pixels[0].R = 7, 7, 7, 7
	more := o
	more.Id = id(2, 1, 2)
	hear(t, s, ops(1, 1, more))
	if w := s.Waits(); true {
		w[0].Op.Stamp.Pixels[0].R = 7
	}
	if s.Waits()[0].Op.Stamp.Pixels[0].R != 5 {
		t.Errorf("Waits shares memory")
	}
	if k := s.Kept(); k.Log.Ops[0].Stamp.Pixels[0].R != 5 || k.Canvas.Tiles[0][0].R != 0 || s.Disk().Files[0][0] == 7 {
		t.Errorf("memory is shared")
	}
}

// P27.7
func TestFollows(t *testing.T) {
	r := rand.New(rand.NewSource(1))
	for range 30 {
		s := made(t)
		blank, _ := canvas.New(1, 1)
		var all, waiting []api.Op // what was taken; what was laid, and not taken
		time := uint64(0)
		for range 120 {
			if !s.Up() {
				if e := s.Rise(r.Intn(12)); e != api.OK && e != api.ErrDown {
					t.Fatalf("Rise: %d", e)
				}
				if !s.Up() {
					continue
				}
				v := oplog.Vector(s.Kept().Log)
				for _, o := range waiting {
					if vector.Has(v, o.Id) {
						all = append(all, o)
					}
				}
				waiting = nil
			}
			k := s.Kept()
			site := 1 + r.Intn(3)
			var e api.Errno
			switch r.Intn(9) {
			case 0:
				_, e = s.Hear(row(t, join(site)))
			case 1:
				_, e = s.Hear(row(t, status(k.Epoch, site, max(time, s.Front().Proposed), oplog.Vector(k.Log)[site], oplog.Vector(k.Log))))
				if e == api.ErrNone {
					e = api.OK
				}
			case 2:
				s.Settle(r.Intn(3))
			case 3:
				s.Arm(r.Intn(20))
			case 4:
				if r.Intn(4) == 0 {
					e = s.Fall(r.Intn(4), r.Intn(50))
				}
			case 5, 6:
				turn, f := s.Tick()
				if e = f; e == api.OK {
					all, waiting = append(all, turn.Took...), nil
				}
				for to, l := range read(t, turn) {
					for _, f := range l[1:] {
						for _, o := range f.Ops {
							if got, _, e := oplog.At(s.Kept().Log, o.Id); e != api.OK || !op.Same(got, o) {
								t.Fatalf("%v goes to %d, and is not in the set", o.Id, to)
							}
						}
					}
				}
			default:
				behind, _, _ := store.Apply(k, s.Waits()...)
				if !behind.Sites[site] || !k.Sites[site] {
					continue
				}
				time++
				time = max(time, s.Front().Proposed+1, k.Log.Folded+1)
				before := s.Waits()
				got, f := s.Hear(row(t, ops(k.Epoch, site, rect(time, site, oplog.Vector(behind.Log)[site]+1))))
				if e = f; e == api.OK && len(got) != 1 {
					t.Fatalf("not laid: %v", got)
				}
				waiting = append(waiting, got...)
				if e == api.OK && len(s.Waits()) != len(before)+1 {
					t.Fatalf("what is laid does not wait")
				}
			}
			if e != api.OK && e != api.ErrDown || e == api.ErrDown && s.Up() {
				t.Fatalf("an error: %d", e)
			}
			if !s.Up() {
				continue
			}
			k = s.Kept()
			v := oplog.Vector(k.Log)
			for _, o := range all {
				if !vector.Has(v, o.Id) {
					t.Fatalf("what was taken is gone: %v", o.Id)
				}
			}
			l, es := oplog.Inserts(oplog.New(), all...)
			if slices.ContainsFunc(es, func(e api.Errno) bool { return e != api.OK }) || oplog.Vector(l) != v {
				t.Fatalf("taken: %v; the set's: %v", oplog.Vector(l), v)
			}
			base, _ := canvas.Of(k.Canvas)
			x, _ := undo.Paint(blank, l)
			y, _ := undo.Paint(base, k.Log)
			if !x.Same(y) {
				t.Fatalf("what is kept paints something else")
			}
			if f := s.Front(); f.Folded != k.Log.Folded || f.By != k.By {
				t.Fatalf("the frontier goes another way")
			}
		}
	}
}

// What goes to who has told all, and has all: states alone.
func TestQuiet(t *testing.T) {
	s := made(t)
	hear(t, s, join(1), join(2))
	tick(t, s)
	hear(t, s, ops(1, 1, a, rect(2, 1, 2), rect(3, 1, 3), rect(4, 1, 4)), ops(1, 1, rect(5, 1, 5)))
	tick(t, s)
	hear(t, s, status(1, 1, 0, 0, of(5)), status(1, 2, 0, 0, of()))
	l := read(t, tick(t, s))
	if !slices.Equal(kinds(l[1]), []int{api.FrState}) || len(l[2][1].Ops) != api.Batch {
		t.Errorf("states alone: %v, %v", kinds(l[1]), l[2])
	}
	if b := row(t, l[1][0]); !bytes.Equal(b, row(t, l[2][0])) {
		t.Errorf("two states of one tick are not the same")
	}
}
