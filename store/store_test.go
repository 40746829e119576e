package store_test

import (
	"bytes"
	"math/rand"
	"slices"
	"testing"

	"gesso/api"
	"gesso/canvas"
	"gesso/codec"
	"gesso/disk"
	"gesso/journal"
	"gesso/oplog"
	"gesso/snap"
	"gesso/store"
	"gesso/undo"
)

const most = uint64(api.MaxTime)

func of(n ...uint64) api.Vector {
	var v api.Vector
	copy(v[1:], n)
	return v
}

func rect(time uint64, site int, seq uint64) api.Op {
	return api.Op{Id: api.Id{Time: time, Site: site, Seq: seq}, Kind: api.OpRect, X2: int(time % 8), Color: api.Color{R: byte(time), A: 255}}
}

func site(n int) api.Fact { return api.Fact{Kind: api.FcSite, Site: n} }

func take(o api.Op) api.Fact { return api.Fact{Kind: api.FcOp, Op: o} }

func fold(time uint64, by api.Vector) api.Fact {
	return api.Fact{Kind: api.FcFold, Time: time, By: by}
}

var (
	a    = site(1)
	b    = take(rect(1, 1, 1))
	c    = fold(1, of(1))
	sync = api.DiskOp{Kind: api.DkSync}
)

func same(x, y api.Fact) bool {
	return x.Kind == y.Kind && x.Site == y.Site && x.Time == y.Time && x.By == y.By && oplog.Same(api.Log{Ops: []api.Op{x.Op}}, api.Log{Ops: []api.Op{y.Op}})
}

func format(t *testing.T) (api.Disk, api.Kept) {
	t.Helper()
	d, k, e := store.Format(1, 1)
	if e != api.OK {
		t.Fatal(e)
	}
	return d, k
}

func lay(t *testing.T, d api.Disk, l ...api.Fact) api.Disk {
	t.Helper()
	d, e := store.Lay(d, l...)
	if e != api.OK {
		t.Fatalf("Lay: %d", e)
	}
	return d
}

func apply(t *testing.T, k api.Kept, l ...api.Fact) api.Kept {
	t.Helper()
	k, n, e := store.Apply(k, l...)
	if e != api.OK || n != len(l) {
		t.Fatalf("Apply: %d %d", n, e)
	}
	return k
}

func do(t *testing.T, d api.Disk, l ...api.DiskOp) api.Disk {
	t.Helper()
	d, _, e := disk.Run(d, l...)
	if e != api.OK {
		t.Fatalf("Run: %d", e)
	}
	return d
}

func badKept(t *testing.T) map[string]api.Kept {
	out := map[string]api.Kept{}
	for name, f := range map[string]func(k *api.Kept){
		"epoch 0": func(k *api.Kept) { k.Epoch = 0 }, "epoch": func(k *api.Kept) { k.Epoch = most + 1 }, "site 0": func(k *api.Kept) { k.Sites[0] = true }, "by": func(k *api.Kept) { k.By[0] = 1 },
		"canvas": func(k *api.Kept) { k.Canvas.Tiles = nil }, "log": func(k *api.Kept) { k.Log.Base[0] = 1 }, "an operation of another site": func(k *api.Kept) { k.Sites[1] = false },
	} {
		_, k := format(t)
		k = apply(t, k, a, b)
		f(&k)
		out[name] = k
	}
	return out
}

// P24.1
func TestCheckSame(t *testing.T) {
	_, k := format(t)
	k = apply(t, k, a, b)
	late := k
	late.Epoch = most
	if store.Check(k) != api.OK || store.Check(late) != api.OK || !store.Same(k, apply(t, k)) || store.Same(k, late) {
		t.Errorf("Check, Same")
	}
	for name, x := range badKept(t) {
		if store.Check(x) != api.ErrKept {
			t.Errorf("Check of %s", name)
		}
		if store.Same(x, k) || store.Same(k, x) || !store.Same(x, badKept(t)[name]) {
			t.Errorf("Same of %s", name)
		}
		got, n, e := store.Apply(x, api.Fact{})
		d, _ := format(t)
		saved, f := store.Save(d, x)
		if e != api.ErrKept || n != 0 || !store.Same(got, api.Kept{}) || f != api.ErrKept || !disk.Same(saved, api.Disk{}) {
			t.Errorf("of %s: %d %d", name, e, f)
		}
	}
	other := apply(t, k, site(8))
	if store.Same(k, other) || store.Same(k, apply(t, k, take(rect(2, 1, 2)))) || store.Same(k, apply(t, k, c)) {
		t.Errorf("Same of another one")
	}
}

// P24.2
func TestApply(t *testing.T) {
	_, k := format(t)
	keep, _, _ := store.Apply(k)
	got, n, e := store.Apply(k, a, b, c)
	if e != api.OK || n != 3 || !got.Sites[1] || got.By != of(1) || got.Log.Folded != 1 || got.Log.Base != of(1) || len(got.Log.Ops) != 0 || got.Canvas.Tiles[0][0].R != 1 || got.Epoch != 1 {
		t.Errorf("Apply: %v %d %d", got.Log, n, e)
	}
	if !store.Same(k, keep) {
		t.Errorf("Apply changes what it was handed")
	}
	undone := apply(t, k, a, b, take(rect(2, 1, 2)), take(api.Op{Id: api.Id{Time: 3, Site: 1, Seq: 3}, Kind: api.OpUndo, Target: api.Id{Time: 2, Site: 1, Seq: 2}}))
	base, _ := canvas.Of(undone.Canvas)
	want, left, _ := undo.Fold(base, undone.Log, 2)
	if got := apply(t, undone, fold(2, of(2))); !canvas.Alike(got.Canvas, want.Show()) || !oplog.Same(got.Log, left) || got.By != of(2) {
		t.Errorf("a fold is not as of undo")
	}
	for name, x := range map[string]struct {
		l []api.Fact
		n int
		e api.Errno
	}{
		"there": {[]api.Fact{a, a}, 1, api.ErrThere}, "no site": {[]api.Fact{b}, 0, api.ErrNone}, "twice": {[]api.Fact{a, b, b, c}, 2, api.ErrThere}, "a gap": {[]api.Fact{a, take(rect(1, 1, 2))}, 1, api.ErrGap}, "behind": {[]api.Fact{a, b, c, take(rect(1, 1, 2))}, 3, api.ErrBehind},
		"folded": {[]api.Fact{a, b, c, c}, 3, api.ErrArg}, "not all that is asked for": {[]api.Fact{a, b, fold(1, of(2))}, 2, api.ErrGap}, "no fact": {[]api.Fact{a, {}, b}, 1, api.ErrArg}, "no operation": {[]api.Fact{{Kind: api.FcOp}}, 0, api.ErrArg},
		"a fold ahead": {[]api.Fact{fold(7, of())}, 1, api.OK},
	} {
		got, n, e := store.Apply(k, x.l...)
		if e != x.e || n != x.n || !store.Same(got, apply(t, k, x.l[:n]...)) {
			t.Errorf("Apply of %s: %d %d", name, n, e)
		}
	}
	one := apply(t, k)
	one.Canvas.Tiles[0][0].R = 77
	if k.Canvas.Tiles[0][0].R != 0 {
		t.Errorf("Apply shares memory")
	}
}

// P24.1, P24.2, P24.5, P24.6: of what is kept with a log in which operations of one site have one Time.
func TestOneTime(t *testing.T) {
	d, k := format(t)
	k = apply(t, k, a)
	k.Log.Ops = []api.Op{rect(10, 1, 1), rect(10, 1, 2)}
	if e := store.Check(k); e != api.OK {
		t.Errorf("Check: %d", e)
	}
	if _, n, e := store.Apply(k, take(rect(10, 1, 3))); e != api.ErrBehind || n != 0 {
		t.Errorf("Apply: %d %d", n, e)
	}
	got := apply(t, k, take(rect(11, 1, 3)), fold(10, of(2)))
	if got.Log.Folded != 10 || got.Log.Base != of(2) || len(got.Log.Ops) != 1 || got.By != of(2) || got.Canvas.Tiles[0][0].R != 10 {
		t.Errorf("Apply: %v", got.Log)
	}
	saved, e := store.Save(d, k)
	if e != api.OK || disk.Head(saved) != 1 || len(saved.Files[3]) == 0 {
		t.Errorf("Save: %d", e)
	}
	// A fact is applied as its operation is inserted, and the second one of a Time can't be: that goes for what was saved, too.
	for name, x := range map[string]api.Disk{"saved": saved, "laid": lay(t, d, a, take(k.Log.Ops[0]), take(k.Log.Ops[1]))} {
		if opened, n, e := store.Open(x); e != api.ErrStore || n != 0 || !store.Same(opened, api.Kept{}) {
			t.Errorf("Open of what was %s: %d %d", name, n, e)
		}
	}
}

// P24.3
func TestFormat(t *testing.T) {
	for _, s := range [][2]int{{0, 1}, {1, 5}, {-1, 1}} {
		if d, k, e := store.Format(s[0], s[1]); e != api.ErrArg || !disk.Same(d, api.Disk{}) || !store.Same(k, api.Kept{}) {
			t.Errorf("Format(%v): %d", s, e)
		}
	}
	d, k, e := store.Format(2, 1)
	blank, _ := canvas.New(2, 1)
	if e != api.OK || !store.Same(k, api.Kept{Epoch: 1, Canvas: blank.Show()}) {
		t.Errorf("Format: %d", e)
	}
	s, _ := snap.Bytes(api.Snapshot{Canvas: blank.Show()})
	v, _ := codec.Vector(of())
	record, _ := journal.Record(slices.Concat([]byte{0, 0, 0, 0, 0, 0, 0, 1, 0}, v, s))
	if !disk.Same(d, api.Disk{Files: [4][]byte{record}}) {
		t.Errorf("Format: another disk")
	}
}

// P24.4
func TestLay(t *testing.T) {
	d, _ := format(t)
	laid := lay(t, d, a, b)
	fa, _ := store.Fact(a)
	fb, _ := store.Fact(b)
	want, _ := journal.Join(fa, fb)
	if got, _ := disk.Read(laid, 1); !bytes.Equal(got, want) || len(laid.Waits) != 2 {
		t.Errorf("Lay: %v", got)
	}
	turned := do(t, d, api.DiskOp{Kind: api.DkHead, File: 1})
	if got, _ := disk.Read(lay(t, turned, a), 3); len(got) == 0 {
		t.Errorf("Lay goes by another slot than that of the head that is seen")
	}
	if !disk.Same(lay(t, d), d) {
		t.Errorf("Lay of none")
	}
	third := do(t, d, api.DiskOp{Kind: api.DkHead, File: 2})
	for name, x := range map[string]struct {
		d api.Disk
		l []api.Fact
		e api.Errno
	}{"no disk": {api.Disk{Head: 9}, []api.Fact{{}}, api.ErrDisk}, "no fact": {d, []api.Fact{a, {}}, api.ErrArg}, "head 2": {third, []api.Fact{a}, api.ErrArg}, "down, no fact": {api.Disk{Down: true}, []api.Fact{{}}, api.ErrArg}} {
		if got, e := store.Lay(x.d, x.l...); e != x.e || !disk.Same(got, api.Disk{}) {
			t.Errorf("Lay of %s: %d", name, e)
		}
	}
	down := d
	down.Down = true
	if got, e := store.Lay(down, a); e != api.ErrDown || !disk.Same(got, down) {
		t.Errorf("Lay on what is down: %d", e)
	}
	armed, _ := disk.Arm(d, 2)
	got, e := store.Lay(armed, a, b)
	if one := lay(t, d, a); e != api.ErrDown || !got.Down || len(got.Waits) != 1 || !bytes.Equal(got.Waits[0].Bytes, one.Waits[0].Bytes) {
		t.Errorf("Lay on what falls: %d", e)
	}
	full := d
	full.Files[1] = make([]byte, api.MaxFile)
	if got, e := store.Lay(full, a); e != api.ErrFull || !disk.Same(got, api.Disk{}) {
		t.Errorf("Lay on what is full: %d", e)
	}
}

// P24.5
func TestSave(t *testing.T) {
	d, k := format(t)
	k = apply(t, k, a, b, site(8))
	k.Epoch, k.By = 5, of(1)
	saved, e := store.Save(lay(t, d, a), k)
	if e != api.OK || disk.Head(saved) != 1 || saved.Head != 1 || len(saved.Waits) != 0 {
		t.Fatalf("Save: %d", e)
	}
	v, _ := codec.Vector(of(1))
	s, _ := snap.Bytes(api.Snapshot{Canvas: k.Canvas})
	first, _ := journal.Record(slices.Concat([]byte{0, 0, 0, 0, 0, 0, 0, 5, 129}, v, s))
	fb, _ := store.Fact(b)
	second, _ := journal.Record(fb)
	if !bytes.Equal(saved.Files[2], first) || !bytes.Equal(saved.Files[3], second) || !bytes.Equal(saved.Files[0], d.Files[0]) {
		t.Errorf("Save: other files")
	}
	if got, n, e := store.Open(saved); e != api.OK || n != 1 || !store.Same(got, k) {
		t.Errorf("Open of what was saved: %d %d", n, e)
	}
	// The seven operations, one by one, as the fuse ends at each.
	for fuse := 1; fuse <= 7; fuse++ {
		armed, _ := disk.Arm(d, fuse)
		got, e := store.Save(armed, k)
		if e != api.ErrDown || !got.Down {
			t.Errorf("Save with a fuse of %d: %d", fuse, e)
		}
		if waits := []int{0, 1, 2, 3, 4, 0, 1}[fuse-1]; len(got.Waits) != waits {
			t.Errorf("with a fuse of %d %d wait", fuse, len(got.Waits))
		}
	}
	armed, _ := disk.Arm(d, 8)
	if got, e := store.Save(armed, k); e != api.OK || got.Fuse != 1 {
		t.Errorf("Save does not take 7 operations: %d %d", got.Fuse, e)
	}
	none := k
	none.Log = oplog.New()
	if got, e := store.Save(armed, none); e != api.OK || got.Fuse != 2 {
		t.Errorf("Save of no operations does not take 6: %d %d", got.Fuse, e)
	}
	back, e := store.Save(saved, none)
	if e != api.OK || back.Head != 0 || len(back.Files[1]) != 0 {
		t.Errorf("Save in the slot 0: %d", e)
	}
	third := do(t, d, api.DiskOp{Kind: api.DkHead, File: 3})
	for name, x := range map[string]struct {
		d api.Disk
		k api.Kept
		e api.Errno
	}{"no disk": {api.Disk{Head: 9}, api.Kept{}, api.ErrDisk}, "nothing kept": {third, api.Kept{}, api.ErrKept}, "head 3": {third, k, api.ErrArg}} {
		if got, e := store.Save(x.d, x.k); e != x.e || !disk.Same(got, api.Disk{}) {
			t.Errorf("Save of %s: %d", name, e)
		}
	}
}

// P24.6
func TestOpen(t *testing.T) {
	d, k := format(t)
	if got, n, e := store.Open(d); e != api.OK || n != 0 || !store.Same(got, k) {
		t.Errorf("Open: %d %d", n, e)
	}
	if got, n, e := store.Open(lay(t, d, a, b, c)); e != api.OK || n != 3 || !store.Same(got, apply(t, k, a, b, c)) {
		t.Errorf("Open with facts: %d %d", n, e)
	}
	torn, _ := disk.Fall(lay(t, d, a, b), 1, 3)
	if got, n, e := store.Open(torn); e != api.OK || n != 1 || !store.Same(got, apply(t, k, a)) {
		t.Errorf("Open of what was torn: %d %d", n, e)
	}
	file := func(at int, b []byte) api.Disk {
		x := lay(t, d)
		x.Files[at] = b
		return x
	}
	fa, _ := store.Fact(a)
	facts, _ := journal.Join(fa)
	twice, _ := journal.Join(fa, fa)
	noFact, _ := journal.Join([]byte{9})
	first, _, _ := journal.First(d.Files[0])
	change := func(at int, b byte) []byte {
		x := bytes.Clone(first)
		x[at] = b
		r, _ := journal.Record(x)
		return r
	}
	for name, x := range map[string]struct {
		d api.Disk
		e api.Errno
	}{
		"no disk": {api.Disk{Fuse: -1}, api.ErrDisk}, "a disk of nothing": {disk.New(), api.ErrStore}, "head 2": {do(t, d, api.DiskOp{Kind: api.DkHead, File: 2}), api.ErrStore}, "the other slot": {do(t, d, api.DiskOp{Kind: api.DkHead, File: 1}), api.ErrStore},
		"more behind the first": {file(0, append(bytes.Clone(d.Files[0]), facts...)), api.ErrStore}, "a byte more": {file(0, append(bytes.Clone(d.Files[0]), 0)), api.ErrStore}, "less": {file(0, d.Files[0][:50]), api.ErrStore},
		"epoch 0": {file(0, change(7, 0)), api.ErrStore}, "By": {file(0, change(9, 255)), api.ErrStore}, "a start above": {file(0, change(88, 1)), api.ErrStore}, "no canvas": {file(0, change(len(first)-3, 9)), api.ErrStore},
		"twice": {file(1, twice), api.ErrStore}, "no fact": {file(1, noFact), api.ErrStore},
	} {
		if got, n, e := store.Open(x.d); e != x.e || n != 0 || !store.Same(got, api.Kept{}) {
			t.Errorf("Open of %s: %d", name, e)
		}
	}
	if got, n, e := store.Open(file(1, append(facts, 1, 2, 3))); e != api.OK || n != 1 || !got.Sites[1] {
		t.Errorf("Open with a torn end: %d %d", n, e)
	}
	if got, _, e := store.Open(file(0, change(8, 255))); e != api.OK || got.Sites != [9]bool{false, true, true, true, true, true, true, true, true} {
		t.Errorf("Open with all sites: %d", e)
	}
}

// P24.7
func TestRise(t *testing.T) {
	d, k := format(t)
	laid := lay(t, d, a, b)
	up, kept, e := store.Rise(laid, 0)
	want := apply(t, k, a, b)
	want.Epoch = 2
	if e != api.OK || !store.Same(kept, want) || up.Fuse != 0 || up.Head != 1 {
		t.Errorf("Rise: %d %d", kept.Epoch, e)
	}
	if got, n, e := store.Open(up); e != api.OK || n != 1 || !store.Same(got, want) {
		t.Errorf("Open behind Rise: %d %d", n, e)
	}
	fallen, _ := disk.Fall(laid, 1, 3)
	up, kept, e = store.Rise(fallen, 9)
	if got, n, f := store.Open(up); e != api.OK || f != api.OK || n != 0 || got.Epoch != 2 || kept.Epoch != 2 || !got.Sites[1] || up.Down || up.Fuse != 3 {
		t.Errorf("Rise of what fell: %d %d %d", e, n, up.Fuse)
	}
	for fuse := 1; fuse <= 6; fuse++ {
		got, kept, e := store.Rise(fallen, fuse)
		if e != api.ErrDown || !got.Down || !store.Same(kept, api.Kept{}) {
			t.Errorf("Rise with a fuse of %d: %d", fuse, e)
		}
		if again, kept, e := store.Rise(got, 0); e != api.OK || kept.Epoch != 2 || again.Down {
			t.Errorf("Rise behind a fuse of %d: %d %d", fuse, kept.Epoch, e)
		}
	}
	if _, kept, e := store.Rise(d, api.MaxWaits); e != api.OK || kept.Epoch != 2 {
		t.Errorf("Rise with the longest fuse: %d", e)
	}
	last := k
	last.Epoch = most
	late, _ := store.Save(d, last)
	for name, x := range map[string]struct {
		d    api.Disk
		fuse int
		e    api.Errno
	}{"no disk": {api.Disk{Head: -1}, -1, api.ErrDisk}, "fuse -1": {disk.New(), -1, api.ErrArg}, "fuse": {d, api.MaxWaits + 1, api.ErrArg}, "nothing": {disk.New(), 0, api.ErrStore}, "nothing, down": {api.Disk{Down: true}, 0, api.ErrStore}, "late": {late, 1, api.ErrLate}} {
		if got, kept, e := store.Rise(x.d, x.fuse); e != x.e || !disk.Same(got, api.Disk{}) || !store.Same(kept, api.Kept{}) {
			t.Errorf("Rise of %s: %d", name, e)
		}
	}
}

// P24.8
func TestFact(t *testing.T) {
	o, _ := codec.Op(rect(1, 1, 1))
	v, _ := codec.Vector(of(1, 2))
	for _, x := range []struct {
		f api.Fact
		b []byte
	}{{a, []byte{1, 1}}, {site(8), []byte{1, 8}}, {b, append([]byte{2}, o...)}, {fold(most, of(1, 2)), slices.Concat([]byte{3, 64, 0, 0, 0, 0, 0, 0, 0}, v)}} {
		got, e := store.Fact(x.f)
		if e != api.OK || !bytes.Equal(got, x.b) {
			t.Errorf("Fact: %v, not %v, %d", got, x.b, e)
		}
		if f, e := store.Read(x.b); e != api.OK || !same(f, x.f) {
			t.Errorf("Read(%v): %v %d", x.b, f, e)
		}
		if f, e := store.Read(append(bytes.Clone(x.b), 0)); e != api.ErrArg || !same(f, api.Fact{}) {
			t.Errorf("Read with more behind: %d", e)
		}
		for n := range x.b {
			if f, e := store.Read(x.b[:n]); e != api.ErrArg || !same(f, api.Fact{}) {
				t.Errorf("Read of %d bytes: %d", n, e)
			}
		}
	}
	for name, f := range map[string]api.Fact{
		"nothing": {}, "kind 4": {Kind: 4}, "kind -1": {Kind: -1}, "site 0": site(0), "site 9": site(9), "site -1": site(-1), "no operation": take(api.Op{}), "time 0": fold(0, of()), "time": fold(most+1, of()), "by": fold(1, api.Vector{1}),
		"a site, a time": {Kind: api.FcSite, Site: 1, Time: 1}, "a site, an op": {Kind: api.FcSite, Site: 1, Op: api.Op{Kind: 3}}, "a site, by": {Kind: api.FcSite, Site: 1, By: of(1)}, "an op, a site": {Kind: api.FcOp, Site: 1, Op: rect(1, 1, 1)}, "an op, a time": {Kind: api.FcOp, Time: 1, Op: rect(1, 1, 1)},
		"a fold, a site": {Kind: api.FcFold, Site: 1, Time: 1}, "a fold, an op": {Kind: api.FcFold, Time: 1, Op: rect(1, 1, 1)},
	} {
		if got, e := store.Fact(f); e != api.ErrArg || got != nil {
			t.Errorf("Fact of %s: %d", name, e)
		}
	}
	for _, b := range [][]byte{{0, 1}, {4, 1}, {1, 0}, {1, 9}, slices.Concat([]byte{3}, make([]byte, 72)), slices.Concat([]byte{3, 65}, make([]byte, 71)), append([]byte{2, 9}, o[1:]...)} {
		if f, e := store.Read(b); e != api.ErrArg || !same(f, api.Fact{}) {
			t.Errorf("Read(%v): %d", b, e)
		}
	}
}

// P24.9
func TestWhateverFalls(t *testing.T) {
	r := rand.New(rand.NewSource(1))
	for range 60 {
		d, k := format(t)
		now, sure := k, 0 // what all facts come to; how many of them are there for good
		kept := []api.Kept{k}
		seqs := [9]uint64{}
		time := uint64(0)
		for range 30 {
			f := site(1 + r.Intn(3))
			if s := 1 + r.Intn(3); now.Sites[s] {
				time++
				f = take(rect(time, s, seqs[s]+1))
				if r.Intn(6) == 0 {
					f = fold(time-uint64(r.Intn(2)), oplog.Vector(now.Log))
				}
			}
			switch r.Intn(8) {
			case 0:
				d, sure = do(t, d, sync), len(kept)-1
			case 1:
				saved, e := store.Save(d, now)
				if e != api.OK {
					t.Fatal(e)
				}
				d, sure = saved, len(kept)-1
				if got, _, e := store.Open(d); e != api.OK || !store.Same(got, now) {
					t.Fatalf("saved, another one is opened: %d", e)
				}
			case 2:
				fallen, e := disk.Fall(d, r.Intn(4), r.Intn(40))
				if r.Intn(3) == 0 {
					armed, _ := disk.Arm(d, 1+r.Intn(6))
					fallen, e = store.Save(armed, now)
					if e == api.ErrDown {
						fallen, e = disk.Fall(fallen, r.Intn(8), r.Intn(40))
					}
				}
				if e != api.OK {
					t.Fatal(e)
				}
				if !fallen.Down {
					d, sure = fallen, len(kept)-1
					continue
				}
				up, got, e := store.Rise(fallen, r.Intn(6))
				for e == api.ErrDown {
					up, got, e = store.Rise(up, r.Intn(9))
				}
				if e != api.OK || got.Epoch <= now.Epoch {
					t.Fatalf("Rise: epoch %d behind %d, %d", got.Epoch, now.Epoch, e)
				}
				epoch := got.Epoch
				got.Epoch = 0
				at := slices.IndexFunc(kept, func(x api.Kept) bool { x.Epoch = 0; return store.Same(x, got) })
				if at < sure {
					t.Fatalf("what is found is no front: %d, of at least %d", at, sure)
				}
				got.Epoch = epoch
				d, now, kept, sure = up, got, kept[:at+1], at
				for s := range seqs {
					seqs[s] = oplog.Vector(now.Log)[s]
				}
				d, _ = disk.Arm(d, 0)
			default:
				next, _, e := store.Apply(now, f)
				if e != api.OK {
					continue
				}
				d, now = lay(t, d, f), next
				kept = append(kept, now)
				if f.Kind == api.FcOp {
					seqs[f.Op.Id.Site]++
				}
			}
		}
		if got, _, e := store.Open(d); e != api.OK || !store.Same(got, now) {
			t.Fatalf("Open: %d", e)
		}
	}
}
