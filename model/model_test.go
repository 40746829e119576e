package model_test

import (
	"math/rand"
	"slices"
	"testing"

	"gesso/api"
	"gesso/canvas"
	"gesso/model"
	"gesso/op"
	"gesso/oplog"
	"gesso/undo"
	"gesso/vector"
	"gesso/world"
)

const most = uint64(api.MaxTime)

var (
	red  = api.Color{R: 255, A: 255}
	blue = api.Color{B: 255, A: 255}
)

func of(n ...uint64) api.Vector {
	var v api.Vector
	copy(v[1:], n)
	return v
}

func dot(time uint64, site int, seq uint64, c api.Color) api.Op {
	return api.Op{Id: api.Id{Time: time, Site: site, Seq: seq}, Kind: api.OpRect, Color: c}
}

func issue(o api.Op) api.Note { return api.Note{Kind: api.NtIssue, Site: o.Id.Site, Op: o} }
func take(site int, o api.Op) api.Note {
	return api.Note{Kind: api.NtTake, Site: site, Op: o}
}
func write(o api.Op) api.Note { return api.Note{Kind: api.NtWrite, Op: o} }
func ack(site int, v api.Vector) api.Note {
	return api.Note{Kind: api.NtAck, Site: site, Vector: v}
}
func snap(site int, v api.Vector, time uint64) api.Note {
	return api.Note{Kind: api.NtSnap, Site: site, Vector: v, Time: time}
}
func fold(site int, v api.Vector, time uint64) api.Note {
	return api.Note{Kind: api.NtFold, Site: site, Vector: v, Time: time}
}
func rise(v api.Vector, epoch uint64) api.Note {
	return api.Note{Kind: api.NtRise, Vector: v, Epoch: epoch}
}

var (
	fall = api.Note{Kind: api.NtFall}
	a    = dot(1, 1, 1, red)
	b    = dot(2, 2, 1, blue)
	a2   = dot(3, 1, 2, red)
	// The beginnings: the sites 1 and 2 have begun with nothing.
	begun = []api.Note{snap(1, of(), 0), snap(2, of(), 0)}
)

// behind is notes behind the beginnings.
func behind(l ...api.Note) []api.Note { return append(slices.Clone(begun), l...) }

func ids(l []api.Op) []api.Id {
	var out []api.Id
	for _, o := range l {
		out = append(out, o.Id)
	}
	return out
}

func corner(c api.Canvas) api.Color {
	if len(c.Tiles) == 0 {
		return api.Color{}
	}
	return c.Tiles[0][0]
}

// P29.1
func TestCheck(t *testing.T) {
	good := []api.Note{issue(a), take(0, a), take(8, a), write(a), ack(1, of(most)), snap(8, of(), most), fold(0, of(), 0), fold(3, of(1), most), fall, rise(of(1), most), rise(of(), 0)}
	if model.Check(good) != api.OK || model.Check(nil) != api.OK {
		t.Errorf("Check of a history")
	}
	for _, n := range good {
		if model.Check([]api.Note{n}) != api.OK {
			t.Errorf("Check of %v", n)
		}
	}
	set := map[string]func(n *api.Note){
		"Site": func(n *api.Note) { n.Site = 4 }, "Op": func(n *api.Note) { n.Op = b }, "Vector": func(n *api.Note) { n.Vector[7]++ }, "Time": func(n *api.Note) { n.Time++ }, "Epoch": func(n *api.Note) { n.Epoch++ },
	}
	uses := map[int][]string{api.NtIssue: {"Site", "Op"}, api.NtTake: {"Site", "Op"}, api.NtWrite: {"Op"}, api.NtAck: {"Site", "Vector"}, api.NtSnap: {"Site", "Vector", "Time"}, api.NtFold: {"Site", "Vector", "Time"}, api.NtFall: {}, api.NtRise: {"Vector", "Epoch"}}
	for _, n := range []api.Note{issue(a), take(1, a), write(a), ack(1, of()), snap(1, of(), 0), fold(1, of(), 0), fall, rise(of(), 0)} {
		for name, f := range set {
			x := n
			f(&x)
			want := api.OK
			if !slices.Contains(uses[n.Kind], name) || n.Kind == api.NtIssue {
				want = api.ErrNotes // of an NtIssue: Op, and Site, are of another one then
			}
			if model.Check([]api.Note{x}) != want {
				t.Errorf("Check of kind %d with %s", n.Kind, name)
			}
		}
	}
	for name, n := range map[string]api.Note{
		"kind 0": {}, "kind 9": {Kind: 9}, "kind -1": {Kind: -1}, "issue of no op": {Kind: api.NtIssue, Site: 1}, "issue of 0": {Kind: api.NtIssue, Op: a}, "take of no op": {Kind: api.NtTake, Site: 1}, "take of 9": take(9, a), "take of -1": take(-1, a), "write of no op": {Kind: api.NtWrite}, "ack of 0": ack(0, of()), "ack of 9": ack(9, of()),
		"ack of no vector": ack(1, api.Vector{1}), "ack of too much": ack(1, of(most+1)), "snap of 0": snap(0, of(), 0), "snap too late": snap(1, of(), most+1), "snap of no vector": snap(1, api.Vector{1}, 0), "fold of 9": fold(9, of(), 1), "fold too late": fold(0, of(), most+1), "rise too late": rise(of(), most+1), "rise of no vector": rise(api.Vector{1}, 1),
		"an op that may not be": take(1, api.Op{Id: a.Id, Kind: api.OpRect, Size: 1}),
	} {
		l := append(behind(issue(a)), n)
		if model.Check(l) != api.ErrNotes {
			t.Errorf("Check of %s", name)
		}
		at, ok := model.Sound(l)
		v, up := model.Has(l, 1)
		c, e := model.Shows(l, 1, 9, 9)
		if at != 0 || ok || model.Issued(l) != nil || v != of() || up || model.Known(l, 1) != nil || e != api.ErrNotes || len(c.Tiles) != 0 || model.Acked(l) != of() || model.Written(l) != of() || model.Folded(l, 1) != 0 {
			t.Errorf("of %s something is told", name)
		}
	}
}

// P29.1
func TestSound(t *testing.T) {
	early := dot(1, 1, 2, red)
	other := dot(1, 1, 1, blue)
	red2 := dot(5, 1, 3, red)
	for name, x := range map[string]struct {
		l  []api.Note // behind the beginnings
		ok bool
	}{
		"nothing": {nil, true}, "issue, take": {[]api.Note{issue(a), take(2, a)}, true}, "take, issue": {[]api.Note{take(2, a)}, false}, "issue two": {[]api.Note{issue(a), issue(a2)}, true},
		"issue twice": {[]api.Note{issue(a), issue(a)}, false}, "issue the second": {[]api.Note{issue(a2)}, false}, "issue at one time": {[]api.Note{issue(a), issue(early)}, false}, "issue the third": {[]api.Note{issue(a), issue(red2)}, false}, "issue of who has not begun": {[]api.Note{issue(dot(1, 3, 1, red))}, false},
		"take another one": {[]api.Note{issue(a), take(2, other)}, false}, "take its own": {[]api.Note{issue(a), take(1, a)}, false}, "take of who has not begun": {[]api.Note{issue(a), take(3, a)}, false}, "take twice": {[]api.Note{issue(a), take(2, a), take(2, a)}, false}, "take the second": {[]api.Note{issue(a), issue(a2), take(2, a2)}, false}, "take both": {[]api.Note{issue(a), issue(a2), take(2, a), take(2, a2)}, true}, "take by the first site": {[]api.Note{issue(b), take(1, b)}, true}, "fold of the first, ahead of its beginning": {[]api.Note{snap(3, of(), 2), fold(4, of(), 3)}, false},
		"write": {[]api.Note{issue(a), write(a)}, true}, "write of none": {[]api.Note{write(a)}, false}, "write another one": {[]api.Note{issue(a), write(other)}, false}, "write again": {[]api.Note{issue(a), write(a), write(a)}, true}, "write the second": {[]api.Note{issue(a), issue(a2), write(a2)}, false}, "write of what is down": {[]api.Note{issue(a), fall, write(a)}, false}, "write the first again": {[]api.Note{issue(a), issue(a2), write(a), write(a2), write(a)}, true},
		"the server takes": {[]api.Note{issue(a), write(a), take(0, a)}, true}, "it takes what was not written": {[]api.Note{issue(a), take(0, a)}, false}, "it takes twice": {[]api.Note{issue(a), write(a), take(0, a), take(0, a)}, false}, "it takes, being down": {[]api.Note{issue(a), write(a), fall, take(0, a)}, false}, "it takes the second": {[]api.Note{issue(a), issue(a2), write(a), write(a2), take(0, a2)}, false}, "it takes another one": {[]api.Note{issue(a), write(a), take(0, other)}, false},
		"ack": {[]api.Note{issue(a), write(a), take(0, a), ack(2, of(1))}, true}, "ack of what was not taken": {[]api.Note{issue(a), write(a), ack(1, of(1))}, false}, "ack of nothing": {[]api.Note{ack(1, of())}, true}, "ack of who has not begun": {[]api.Note{ack(3, of())}, false}, "ack of what is down": {[]api.Note{issue(a), write(a), take(0, a), fall, ack(2, of(1))}, true},
		"snap": {[]api.Note{issue(a), write(a), take(0, a), snap(3, of(1), 9)}, true}, "snap twice": {[]api.Note{snap(1, of(), 0)}, false}, "snap of what was not taken": {[]api.Note{issue(a), snap(3, of(1), 9)}, false}, "snap of its own": {[]api.Note{issue(a), write(a), take(0, a), snap(3, of(0, 0, 1), 9)}, false}, "take behind snap": {[]api.Note{issue(a), write(a), take(0, a), snap(3, of(1), 9), issue(a2), take(3, a2)}, true}, "take ahead of snap's": {[]api.Note{issue(a), write(a), take(0, a), snap(3, of(1), 9), take(3, a)}, false},
		"fold": {[]api.Note{issue(a), take(2, a), fold(2, of(1), 1)}, true}, "fold without all": {[]api.Note{issue(a), fold(2, of(1), 1)}, false}, "fold to 0": {[]api.Note{fold(1, of(), 0)}, false}, "fold twice": {[]api.Note{fold(1, of(), 3), fold(1, of(), 3)}, false}, "fold on": {[]api.Note{fold(1, of(), 3), fold(1, of(), 4)}, true}, "fold of who has not begun": {[]api.Note{fold(3, of(), 1)}, false}, "fold to what it began with": {[]api.Note{snap(3, of(), 9), fold(3, of(), 9)}, false}, "fold above that": {[]api.Note{snap(3, of(), 9), fold(3, of(), 10)}, true},
		"the server folds": {[]api.Note{issue(a), write(a), take(0, a), fold(0, of(1), 1)}, true}, "it folds without all": {[]api.Note{issue(a), write(a), fold(0, of(1), 1)}, false}, "it folds back": {[]api.Note{fold(0, of(), 5), fold(0, of(), 4)}, false},
		"fall": {[]api.Note{fall}, true}, "fall twice": {[]api.Note{fall, fall}, false}, "rise of what is up": {[]api.Note{rise(of(), 2)}, false}, "fall, rise": {[]api.Note{fall, rise(of(), 2)}, true}, "rise in the same epoch": {[]api.Note{fall, rise(of(), 1)}, false}, "rise in a lesser one": {[]api.Note{fall, rise(of(), 5), fall, rise(of(), 4)}, false}, "rise in one that was": {[]api.Note{fall, rise(of(), 5), fall, rise(of(), 5)}, false},
		"rise with nothing": {[]api.Note{issue(a), write(a), fall, rise(of(), 2)}, true}, "rise with what was written": {[]api.Note{issue(a), write(a), fall, rise(of(1), 2)}, true}, "rise with more": {[]api.Note{issue(a), fall, rise(of(1), 2)}, false}, "rise without what it had": {[]api.Note{issue(a), write(a), take(0, a), fall, rise(of(), 2)}, false}, "rise, take": {[]api.Note{issue(a), write(a), fall, rise(of(1), 2), take(0, a)}, false},
		"rise, and written again": {[]api.Note{issue(a), write(a), fall, rise(of(), 2), write(a), take(0, a)}, true},
	} {
		l := behind(x.l...)
		at, ok := model.Sound(l)
		if ok != x.ok || ok && at != len(l) || !ok && at != len(l)-1 {
			t.Errorf("Sound of %s: %d of %d, %t", name, at, len(l), ok)
		}
		if !ok && at >= 2 && at < len(l) { // what is behind does not count
			if again, ok := model.Sound(append(l, fall)); again != at || ok {
				t.Errorf("Sound of %s with more behind: %d", name, again)
			}
			if _, e := model.Shows(l, 1, 9, 9); e != api.ErrNotes || model.Issued(l) != nil || model.Written(l) != of() {
				t.Errorf("of %s something is told: %d", name, e)
			}
		}
	}
	if at, ok := model.Sound(nil); at != 0 || !ok {
		t.Errorf("Sound of nothing: %d %t", at, ok)
	}
}

// P29.2, P29.3
func TestKnown(t *testing.T) {
	l := behind(issue(b), issue(a), take(2, a), issue(a2))
	if got := ids(model.Issued(l)); !slices.Equal(got, []api.Id{b.Id, a.Id, a2.Id}) {
		t.Errorf("Issued: %v", got)
	}
	for site, want := range map[int][]api.Id{1: {a.Id, a2.Id}, 2: {a.Id, b.Id}, 0: nil, 3: nil, 9: nil, -1: nil} {
		if got := ids(model.Known(l, site)); !slices.Equal(got, want) {
			t.Errorf("Known(%d): %v", site, got)
		}
	}
	for _, x := range []struct {
		site  int
		v     api.Vector
		begun bool
		c     api.Color
		e     api.Errno
	}{{1, of(2), true, red, api.OK}, {2, of(1, 1), true, blue, api.OK}, {0, of(), true, api.Color{}, api.OK}, {3, of(), false, api.Color{}, api.ErrNone}, {9, of(), false, api.Color{}, api.ErrNone}, {-1, of(), false, api.Color{}, api.ErrNone}} {
		if v, ok := model.Has(l, x.site); v != x.v || ok != x.begun {
			t.Errorf("Has(%d): %v %t", x.site, v, ok)
		}
		if c, e := model.Shows(l, x.site, 1, 1); e != x.e || corner(c) != x.c || e == api.OK && len(c.Tiles) != 1 {
			t.Errorf("Shows(%d): %v %d", x.site, corner(c), e)
		}
	}
	for _, s := range [][2]int{{0, 1}, {1, 5}} {
		if _, e := model.Shows(l, 9, s[0], s[1]); e != api.ErrArg {
			t.Errorf("Shows of %v: %d", s, e)
		}
	}
	up := behind(issue(a), write(a), take(0, a))
	if c, e := model.Shows(up, 0, 2, 1); e != api.OK || corner(c) != red || c.Wide != 2 {
		t.Errorf("Shows of the server: %d", e)
	}
	if _, e := model.Shows(append(up, fall), 0, 1, 1); e != api.ErrNone {
		t.Errorf("Shows of what is down: %d", e)
	}
	if _, ok := model.Has(append(up, fall), 0); ok {
		t.Errorf("Has of what is down")
	}
	if v, ok := model.Has(behind(issue(a), write(a), fall, rise(of(1), 2)), 0); v != of(1) || !ok {
		t.Errorf("Has behind a rise: %v %t", v, ok)
	}
	undone := behind(issue(a), take(2, a), issue(api.Op{Id: api.Id{Time: 2, Site: 2, Seq: 1}, Kind: api.OpUndo, Target: a.Id}))
	if c, _ := model.Shows(undone, 2, 1, 1); corner(c) != (api.Color{}) {
		t.Errorf("what is undone shows")
	}
	if c, _ := model.Shows(undone, 1, 1, 1); corner(c) != red {
		t.Errorf("what another one has undone does not show")
	}
	stamped := dot(1, 1, 1, red)
	stamped.Kind, stamped.Color, stamped.Stamp = api.OpStamp, api.Color{}, api.Stamp{Wide: 1, High: 1, Pixels: []api.Color{red}}
	x := behind(issue(stamped))
	model.Issued(x)[0].Stamp.Pixels[0] = blue
	model.Known(x, 1)[0].Stamp.Pixels[0] = blue
	if x[2].Op.Stamp.Pixels[0] != red {
		t.Errorf("memory is shared")
	}
}

// P29.4
func TestAcked(t *testing.T) {
	l := behind(issue(a), issue(b), write(a), write(b), take(0, a), ack(1, of(1)), take(0, b), ack(2, of(0, 1)), ack(1, of()), fold(0, of(1), 4), fold(2, of(), 3), write(a), snap(3, of(1), 7))
	for _, x := range []struct {
		sites []int
		want  api.Vector
	}{{nil, of(1, 1)}, {[]int{1}, of(1)}, {[]int{2}, of(0, 1)}, {[]int{2, 1}, of(1, 1)}, {[]int{3}, of()}, {[]int{0, 9, -1}, of()}} {
		if got := model.Acked(l, x.sites...); got != x.want {
			t.Errorf("Acked(%v): %v", x.sites, got)
		}
	}
	if got := model.Written(l); got != of(1, 1) {
		t.Errorf("Written: %v", got)
	}
	for site, want := range map[int]uint64{0: 4, 1: 0, 2: 3, 3: 7, 4: 0, 9: 0, -1: 0} {
		if got := model.Folded(l, site); got != want {
			t.Errorf("Folded(%d): %d", site, got)
		}
	}
	if got := model.Written(behind(issue(a), issue(a2), write(a), write(a2), fall, rise(of(), 2), write(a))); got != of(2) {
		t.Errorf("Written again: %v", got)
	}
}

// drawn is an event that may happen to a world.
func drawn(r *rand.Rand, w *world.World) api.Event {
	site := 1 + r.Intn(w.Sites())
	parcels := len(w.Net().Parcels)
	switch r.Intn(18) {
	case 0:
		return api.Event{Kind: api.EvJoin, Site: site}
	case 1, 2, 3:
		o := api.Op{Kind: api.OpWash, X: r.Intn(8), Y: r.Intn(8), X2: r.Intn(8), Y2: r.Intn(8), Color: api.Color{R: byte(r.Intn(256)), A: 128}}
		if l := w.Seat(site).Log.Ops; len(l) > 0 && r.Intn(3) == 0 {
			o = api.Op{Kind: api.OpUndo + r.Intn(2), Target: l[r.Intn(len(l))].Id}
		}
		return api.Event{Kind: api.EvCommand, Site: site, Op: o}
	case 4, 5, 6:
		return api.Event{Kind: api.EvTick, Site: site}
	case 7, 8:
		return api.Event{Kind: api.EvTick}
	case 9:
		return api.Event{Kind: api.EvTrick, Trick: api.Trick{Kind: 2 + r.Intn(3), At: r.Intn(1 + parcels), Bit: r.Intn(200), Mask: r.Uint32()}}
	case 10:
		return []api.Event{{Kind: api.EvArm, N: r.Intn(12)}, {Kind: api.EvFall, N: r.Intn(3), M: r.Intn(30)}, {Kind: api.EvSettle, N: r.Intn(4)}, {Kind: api.EvSettle}, {Kind: api.EvRise, N: r.Intn(12)}, {Kind: api.EvRise}}[r.Intn(6)]
	}
	return api.Event{Kind: api.EvTake, N: r.Intn(1 + parcels/2)}
}

// quiet lets all tick, and all arrive.
func quiet(w *world.World) {
	arrive := func() {
		for len(w.Net().Parcels) > 0 {
			w.Do(api.Event{Kind: api.EvTake})
		}
	}
	for site := 1; site <= w.Sites(); site++ {
		w.Do(api.Event{Kind: api.EvTick, Site: site})
	}
	arrive()
	w.Do(api.Event{Kind: api.EvTick})
	arrive()
}

// P29.5, W1 to W4: what happens to a world may have happened, and all show what they have to.
func TestWorlds(t *testing.T) {
	folded, risen := 0, 0
	for seed := range 8 {
		r := rand.New(rand.NewSource(int64(seed)))
		w, _ := world.New(1, 1, 3)
		for range 400 {
			if w.Do(drawn(r, w)); r.Intn(8) == 0 {
				quiet(w)
			}
			l := w.Notes()
			if at, ok := model.Sound(l); !ok {
				t.Fatalf("seed %d: not sound at %d: %v", seed, at, l[at])
			}
			for site := 0; site <= 3; site++ {
				shown, ok := w.Shows(site)
				v := oplog.Vector(w.Seat(site).Log)
				time := w.Seat(site).Log.Folded
				if site == 0 {
					shown, ok = w.Serves()
					v = oplog.Vector(w.Kept().Log)
					time = max(w.Kept().Log.Folded, model.Folded(l, 0))
				}
				has, begun := model.Has(l, site)
				if begun != ok || ok && has != v {
					t.Fatalf("seed %d: %d has %v, by the notes %v", seed, site, v, has)
				}
				if !ok {
					continue
				}
				want, e := model.Shows(l, site, 1, 1)
				if e != api.OK || !canvas.Alike(want, shown) {
					t.Fatalf("seed %d: %d shows something else", seed, site)
				}
				if site > 0 && model.Folded(l, site) != time {
					t.Fatalf("seed %d: %d has folded to %d", seed, site, time)
				}
			}
			server, up := model.Has(l, 0)
			if !vector.Covers(model.Written(l), model.Acked(l)) || up && !vector.Covers(server, model.Acked(l)) {
				t.Fatalf("seed %d: what was heard of is gone", seed)
			}
			for site := 1; site <= 3; site++ {
				if s := w.Seat(site); up && s.Log.Folded > w.Kept().Log.Folded {
					t.Fatalf("seed %d: a client folds ahead", seed)
				}
			}
			if len(w.Net().Parcels) > api.MaxNet {
				t.Fatalf("seed %d: too many parcels", seed)
			}
		}
		l := w.Notes()
		for _, n := range l {
			if n.Kind == api.NtFold {
				folded++
			}
			if n.Kind == api.NtRise {
				risen++
			}
		}
		for n := range l {
			if at, ok := model.Sound(l[:n]); at != n || !ok {
				t.Fatalf("a front is not sound")
			}
		}
		known := model.Known(l, 1)
		blank, _ := canvas.New(1, 1)
		want, e := undo.Paint(blank, api.Log{Ops: known})
		if c, ok := w.Shows(1); ok && (e != api.OK || !canvas.Alike(c, want.Show())) {
			t.Fatalf("Known paints something else: %d", e)
		}
		if len(known) > 0 && !op.Same(known[0], slices.MinFunc(known, func(a, b api.Op) int { return int(a.Id.Time) - int(b.Id.Time) })) {
			t.Fatalf("Known does not rise")
		}
	}
	if folded == 0 || risen == 0 {
		t.Errorf("%d folds, %d rises: the worlds are too calm", folded, risen)
	}
}
