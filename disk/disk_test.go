package disk_test

import (
	"bytes"
	"math"
	"math/rand"
	"slices"
	"testing"

	"gesso/api"
	"gesso/disk"
)

func add(file int, b ...byte) api.DiskOp {
	return api.DiskOp{Kind: api.DkAppend, File: file, Bytes: b}
}
func empty(file int) api.DiskOp { return api.DiskOp{Kind: api.DkEmpty, File: file} }
func head(file int) api.DiskOp  { return api.DiskOp{Kind: api.DkHead, File: file} }

var sync = api.DiskOp{Kind: api.DkSync}

func run(t *testing.T, d api.Disk, l ...api.DiskOp) api.Disk {
	t.Helper()
	for _, o := range l {
		var e api.Errno
		if d, e = disk.Do(d, o); e != api.OK {
			t.Fatalf("Do(%v): %d", o, e)
		}
	}
	return d
}

func read(t *testing.T, d api.Disk, file int) []byte {
	t.Helper()
	b, e := disk.Read(d, file)
	if e != api.OK || disk.Size(d, file) != len(b) {
		t.Fatalf("Read(%d): %d, Size %d", file, e, disk.Size(d, file))
	}
	return b
}

func example(t *testing.T) api.Disk {
	return run(t, disk.New(), add(0, 1, 2), sync, add(0, 3, 4), head(1))
}

func bad() map[string]api.Disk {
	big := make([]byte, api.MaxFile)
	return map[string]api.Disk{
		"head below": {Head: -1}, "head 4": {Head: 4}, "fuse below": {Fuse: -1}, "fuse too long": {Fuse: api.MaxWaits + 1}, "down, a fuse": {Down: true, Fuse: 1},
		"file too long": {Files: [4][]byte{2: make([]byte, api.MaxFile+1)}}, "too many wait": {Waits: slices.Repeat([]api.DiskOp{empty(0)}, api.MaxWaits+1)},
		"a sync waits": {Waits: []api.DiskOp{sync}}, "kind 0 waits": {Waits: []api.DiskOp{{}}}, "kind 5": {Waits: []api.DiskOp{{Kind: 5}}}, "append of nothing": {Waits: []api.DiskOp{add(0)}}, "bytes of a head": {Waits: []api.DiskOp{{Kind: api.DkHead, Bytes: []byte{1}}}},
		"file 4": {Waits: []api.DiskOp{add(4, 1)}}, "file -1": {Waits: []api.DiskOp{empty(-1)}}, "too long by what waits": {Files: [4][]byte{big}, Waits: []api.DiskOp{add(0, 1), empty(0)}},
	}
}

// P22.1
func TestCheck(t *testing.T) {
	if d := disk.New(); disk.Check(d) != api.OK || !disk.Same(d, api.Disk{}) {
		t.Errorf("New")
	}
	big := make([]byte, api.MaxFile)
	for name, d := range map[string]api.Disk{
		"full": {Files: [4][]byte{big, nil, nil, big}, Head: 3, Fuse: api.MaxWaits, Waits: slices.Repeat([]api.DiskOp{empty(1)}, api.MaxWaits)},
		"down": {Down: true, Waits: []api.DiskOp{add(0, 1), head(3)}}, "emptied, filled": {Files: [4][]byte{big}, Waits: []api.DiskOp{empty(0), add(0, big...)}},
	} {
		if disk.Check(d) != api.OK {
			t.Errorf("Check of %s", name)
		}
	}
	for name, d := range bad() {
		if disk.Check(d) != api.ErrDisk {
			t.Errorf("Check of %s", name)
		}
		_, a := disk.Do(d, api.DiskOp{})
		_, n, b := disk.Run(d)
		_, c := disk.Read(d, 9)
		_, e := disk.Arm(d, -1)
		_, f := disk.Fall(d, -1, 0)
		_, g := disk.Rise(d)
		if a != api.ErrDisk || b != api.ErrDisk || n != 0 || c != api.ErrDisk || e != api.ErrDisk || f != api.ErrDisk || g != api.ErrDisk || disk.Head(d) != 0 || disk.Size(d, 0) != 0 {
			t.Errorf("of %s: %d %d %d %d %d %d", name, a, b, c, e, f, g)
		}
	}
}

// P22.1
func TestSame(t *testing.T) {
	for name, f := range map[string]func(d *api.Disk){
		"file": func(d *api.Disk) { d.Files[0][1]++ }, "a file more": func(d *api.Disk) { d.Files[3] = []byte{0} }, "head": func(d *api.Disk) { d.Head = 2 }, "what waits": func(d *api.Disk) { d.Waits[0].Bytes[0]++ },
		"where": func(d *api.Disk) { d.Waits[1].File = 2 }, "kind": func(d *api.Disk) { d.Waits[1].Kind = api.DkEmpty }, "one less": func(d *api.Disk) { d.Waits = d.Waits[:1] }, "down": func(d *api.Disk) { d.Down = true }, "fuse": func(d *api.Disk) { d.Fuse++ },
	} {
		d := example(t)
		if f(&d); disk.Same(d, example(t)) || disk.Same(example(t), d) || !disk.Same(d, d) {
			t.Errorf("Same with another %s", name)
		}
	}
	if !disk.Same(example(t), example(t)) || !disk.Same(bad()["file 4"], bad()["file 4"]) || !disk.Same(api.Disk{}, api.Disk{Waits: []api.DiskOp{}, Files: [4][]byte{{}}}) {
		t.Errorf("Same of the same")
	}
}

// P22.2
func TestDo(t *testing.T) {
	d := example(t)
	if !disk.Same(d, api.Disk{Files: [4][]byte{{1, 2}}, Waits: []api.DiskOp{add(0, 3, 4), head(1)}}) {
		t.Errorf("Do: %v", d)
	}
	if s := run(t, d, sync); !disk.Same(s, api.Disk{Files: [4][]byte{{1, 2, 3, 4}}, Head: 1}) {
		t.Errorf("a sync: %v", s)
	}
	if s := run(t, d, add(1, 9), empty(0), add(0, 7), head(3), sync); !disk.Same(s, api.Disk{Files: [4][]byte{{7}, {9}}, Head: 3}) {
		t.Errorf("in order: %v", s)
	}
	big := make([]byte, api.MaxFile)
	full := run(t, disk.New(), add(2, big...))
	waits := api.Disk{Waits: slices.Repeat([]api.DiskOp{empty(0)}, api.MaxWaits)}
	down := api.Disk{Down: true, Waits: []api.DiskOp{head(2)}}
	for name, x := range map[string]struct {
		d api.Disk
		o api.DiskOp
		e api.Errno
	}{
		"nothing": {d, add(0), api.ErrArg}, "a sync of 1": {d, api.DiskOp{Kind: api.DkSync, File: 1}, api.ErrArg}, "a sync of bytes": {d, api.DiskOp{Kind: api.DkSync, Bytes: []byte{1}}, api.ErrArg}, "file 4": {d, head(4), api.ErrArg}, "file -1": {d, add(-1, 1), api.ErrArg},
		"kind 0": {d, api.DiskOp{}, api.ErrArg}, "kind 5": {d, api.DiskOp{Kind: 5}, api.ErrArg}, "kind -1": {d, api.DiskOp{Kind: math.MinInt}, api.ErrArg}, "bytes of an empty": {d, api.DiskOp{Kind: api.DkEmpty, Bytes: []byte{1}}, api.ErrArg}, "down, but nothing": {down, add(0), api.ErrArg},
		"a file too long": {full, add(2, 1), api.ErrFull}, "too many": {waits, empty(0), api.ErrFull}, "too many heads": {waits, head(0), api.ErrFull}, "all too long": {disk.New(), add(0, append(big, 1)...), api.ErrFull},
	} {
		if got, e := disk.Do(x.d, x.o); e != x.e || !disk.Same(got, api.Disk{}) {
			t.Errorf("Do of %s: %d", name, e)
		}
	}
	for _, o := range []api.DiskOp{sync, add(0, 1), head(2), add(0, append(big, 1)...)} {
		if got, e := disk.Do(down, o); e != api.ErrDown || !disk.Same(got, down) {
			t.Errorf("Do of what is down: %d", e)
		}
	}
	if got := run(t, full, add(1, 1), empty(2), add(2, 1)); disk.Size(got, 2) != 1 {
		t.Errorf("emptied, a file has room again")
	}
	if got := run(t, waits, sync, add(0, 1)); disk.Size(got, 0) != 1 {
		t.Errorf("synced, more can wait")
	}
}

// P22.2: the fuse.
func TestFuse(t *testing.T) {
	armed, e := disk.Arm(disk.New(), 2)
	if e != api.OK || armed.Fuse != 2 {
		t.Fatalf("Arm: %d", e)
	}
	one := run(t, armed, add(0, 1))
	if one.Fuse != 1 {
		t.Errorf("the fuse does not burn: %d", one.Fuse)
	}
	want := api.Disk{Down: true, Waits: []api.DiskOp{add(0, 1)}}
	for _, o := range []api.DiskOp{add(0, 2), sync, head(1), empty(3)} {
		if got, e := disk.Do(one, o); e != api.ErrDown || !disk.Same(got, want) {
			t.Errorf("Do of kind %d as the fuse ends: %v %d", o.Kind, got, e)
		}
	}
	for _, o := range []api.DiskOp{add(0), add(0, make([]byte, api.MaxFile)...)} {
		if got, e := disk.Do(one, o); e == api.ErrDown || e == api.OK || !disk.Same(got, api.Disk{}) {
			t.Errorf("an error goes ahead of the fuse: %d", e)
		}
	}
	up, e := disk.Rise(want)
	if b := read(t, up, 0); e != api.OK || len(b) != 0 {
		t.Errorf("what waited is not lost: %v %d", b, e)
	}
	if got := run(t, disk.New(), add(0, 1), sync); got.Fuse != 0 {
		t.Errorf("a fuse of 0 burns")
	}
	if got := run(t, api.Disk{Fuse: 5}, add(0, 1), sync, head(2)); got.Fuse != 2 {
		t.Errorf("a fuse of 5 behind three: %d", got.Fuse)
	}
}

// P22.3
func TestRun(t *testing.T) {
	d, n, e := disk.Run(disk.New(), add(0, 1, 2), sync, add(0, 3, 4), head(1))
	if e != api.OK || n != 4 || !disk.Same(d, example(t)) {
		t.Errorf("Run: %d %d", n, e)
	}
	if got, n, e := disk.Run(d); e != api.OK || n != 0 || !disk.Same(got, d) {
		t.Errorf("Run of none: %d %d", n, e)
	}
	if got, n, e := disk.Run(d, add(1, 1), add(1), add(1, 2)); e != api.ErrArg || n != 1 || !disk.Same(got, api.Disk{}) {
		t.Errorf("Run with an error: %d %d", n, e)
	}
	armed, _ := disk.Arm(d, 3)
	want := run(t, d, add(1, 1), head(2))
	want.Down = true
	if got, n, e := disk.Run(armed, add(1, 1), head(2), sync, add(1, 5)); e != api.ErrDown || n != 2 || !disk.Same(got, want) {
		t.Errorf("Run of what falls: %d %d", n, e)
	}
}

// P22.4
func TestRead(t *testing.T) {
	d := run(t, example(t), add(3, 7), empty(3), add(3, 8), head(0), head(2))
	for file, want := range [][]byte{{1, 2, 3, 4}, nil, nil, {8}} {
		if got := read(t, d, file); !bytes.Equal(got, want) {
			t.Errorf("Read(%d): %v", file, got)
		}
	}
	if disk.Head(d) != 2 || disk.Head(disk.New()) != 0 || disk.Head(api.Disk{Head: 3}) != 3 {
		t.Errorf("Head: %d", disk.Head(d))
	}
	for _, file := range []int{-1, 4, math.MaxInt, math.MinInt} {
		if b, e := disk.Read(d, file); e != api.ErrArg || b != nil || disk.Size(d, file) != 0 {
			t.Errorf("Read(%d): %d", file, e)
		}
	}
	b := read(t, d, 0)
	if b[0] = 9; d.Files[0][0] != 1 {
		t.Errorf("Read shares memory")
	}
}

// P22.5
func TestArm(t *testing.T) {
	d := example(t)
	for _, n := range []int{0, 1, api.MaxWaits} {
		if got, e := disk.Arm(d, n); e != api.OK || got.Fuse != n || disk.Check(got) != api.OK {
			t.Errorf("Arm(%d): %d", n, e)
		}
	}
	for _, n := range []int{-1, api.MaxWaits + 1, math.MaxInt, math.MinInt} {
		if got, e := disk.Arm(d, n); e != api.ErrArg || !disk.Same(got, api.Disk{}) {
			t.Errorf("Arm(%d): %d", n, e)
		}
	}
	if got, e := disk.Arm(api.Disk{Down: true}, 1); e != api.ErrDown || !disk.Same(got, api.Disk{}) {
		t.Errorf("Arm of what is down: %d", e)
	}
	if _, e := disk.Arm(api.Disk{Down: true}, -1); e != api.ErrArg {
		t.Errorf("Arm(-1) of what is down: %d", e)
	}
}

// P22.6
func TestFall(t *testing.T) {
	d := example(t)
	for _, x := range []struct {
		keep, torn int
		file       []byte
		head       int
	}{{0, 1, []byte{1, 2, 3}, 0}, {1, 0, []byte{1, 2, 3, 4}, 0}, {9, 9, []byte{1, 2, 3, 4}, 1}, {0, 0, []byte{1, 2}, 0}, {0, 9, []byte{1, 2, 3, 4}, 0}, {1, 9, []byte{1, 2, 3, 4}, 0}, {2, 0, []byte{1, 2, 3, 4}, 1}, {math.MaxInt, math.MaxInt, []byte{1, 2, 3, 4}, 1}} {
		keep := example(t)
		got, e := disk.Fall(d, x.keep, x.torn)
		if e != api.OK || !disk.Same(got, api.Disk{Files: [4][]byte{x.file}, Head: x.head, Down: true}) || !disk.Same(d, keep) {
			t.Errorf("Fall(%d, %d): %v %d", x.keep, x.torn, got, e)
		}
		up, e := disk.Rise(got)
		if got.Down = false; e != api.OK || !disk.Same(up, got) {
			t.Errorf("Rise: %d", e)
		}
	}
	for _, x := range [][2]int{{-1, 0}, {0, -1}, {math.MinInt, 5}} {
		if got, e := disk.Fall(d, x[0], x[1]); e != api.ErrArg || !disk.Same(got, api.Disk{}) {
			t.Errorf("Fall(%v): %d", x, e)
		}
	}
	armed, _ := disk.Arm(d, 7)
	if got, e := disk.Fall(armed, 9, 0); e != api.OK || got.Fuse != 0 || disk.Check(got) != api.OK {
		t.Errorf("Fall of what is armed: %d", e)
	}
	fallen := d
	fallen.Down = true
	if got, e := disk.Fall(fallen, 1, 0); e != api.OK || !disk.Same(got, api.Disk{Files: [4][]byte{{1, 2, 3, 4}}, Down: true}) {
		t.Errorf("Fall of what is down: %v %d", got, e)
	}
	if got, e := disk.Rise(d); e != api.ErrNone || !disk.Same(got, api.Disk{}) {
		t.Errorf("Rise of what is up: %d", e)
	}
}

// What is answered is new memory.
func TestMemory(t *testing.T) {
	d, o := example(t), add(1, 5)
	got := run(t, d, o)
	armed, _ := disk.Arm(d, 1)
	for _, x := range []api.Disk{got, armed} {
		x.Files[0][0], x.Waits[0].Bytes[0] = 77, 77
	}
	got.Waits[2].Bytes[0] = 77
	if d.Files[0][0] != 1 || d.Waits[0].Bytes[0] != 3 || o.Bytes[0] != 5 {
		t.Errorf("memory is shared")
	}
}

// P22.7
func TestFollows(t *testing.T) {
	r := rand.New(rand.NewSource(1))
	for range 500 {
		d := disk.New()
		var done []api.DiskOp
		synced, kept := d, true // kept: nothing was emptied, nor a head, since
		for range r.Intn(12) {
			o := []api.DiskOp{add(r.Intn(2), byte(r.Intn(9)), 1, 2), add(r.Intn(2), 3), empty(r.Intn(2)), head(r.Intn(4)), sync}[r.Intn(5)]
			before := read(t, d, 0)
			if d = run(t, d, o); o.Kind == api.DkSync {
				if after := read(t, d, 0); !bytes.Equal(before, after) {
					t.Fatalf("a sync changes what is seen")
				}
				synced, kept, done = d, true, nil
				continue
			}
			kept = kept && o.Kind == api.DkAppend
			done = append(done, o)
		}
		keep, torn := r.Intn(6), r.Intn(4)
		fallen, _ := disk.Fall(d, keep, torn)
		want := synced
		for i, o := range done {
			if i == keep {
				if o.Kind == api.DkAppend && torn > 0 {
					want = run(t, want, add(o.File, o.Bytes[:min(torn, len(o.Bytes))]...))
				}
				break
			}
			want = run(t, want, o)
		}
		for file := range 4 {
			if got := read(t, fallen, file); !bytes.Equal(got, read(t, want, file)) || disk.Head(fallen) != disk.Head(want) {
				t.Fatalf("what is left of a fall: %v", got)
			}
			if kept && !bytes.HasPrefix(read(t, fallen, file), read(t, synced, file)) {
				t.Fatalf("what was synced is gone")
			}
		}
	}
}
