package world_test

import (
	"math/rand"
	"slices"
	"testing"

	"gesso/api"
	"gesso/canvas"
	"gesso/crc"
	"gesso/frame"
	"gesso/net"
	"gesso/op"
	"gesso/oplog"
	"gesso/store"
	"gesso/undo"
	"gesso/vector"
	"gesso/world"
)

var red = api.Color{R: 255, A: 255}

func of(n ...uint64) api.Vector {
	var v api.Vector
	copy(v[1:], n)
	return v
}

func id(time uint64, site int, seq uint64) api.Id { return api.Id{Time: time, Site: site, Seq: seq} }

func join(site int) api.Event { return api.Event{Kind: api.EvJoin, Site: site} }
func tick(site int) api.Event { return api.Event{Kind: api.EvTick, Site: site} }
func take(n int) api.Event    { return api.Event{Kind: api.EvTake, N: n} }
func command(site int, o api.Op) api.Event {
	return api.Event{Kind: api.EvCommand, Site: site, Op: o}
}
func rect(x int) api.Op { return api.Op{Kind: api.OpRect, X: x, X2: x, Color: red} }

func made(t *testing.T, sites int) *world.World {
	t.Helper()
	w, e := world.New(1, 1, sites)
	if e != api.OK {
		t.Fatal(e)
	}
	return w
}

// do lets events happen, none of which may have an error.
func do(t *testing.T, w *world.World, l ...api.Event) {
	t.Helper()
	for _, x := range l {
		if out := w.Do(x); len(out) != 1 || out[0].Err != api.OK {
			t.Fatalf("Do of %v: %v", x, out)
		}
	}
}

// all lets all parcels arrive.
func all(t *testing.T, w *world.World) {
	t.Helper()
	for len(w.Net().Parcels) > 0 {
		do(t, w, take(0))
	}
}

// round lets all tick, and all arrive.
func round(t *testing.T, w *world.World) {
	t.Helper()
	for site := 1; site <= w.Sites(); site++ {
		do(t, w, tick(site))
	}
	all(t, w)
	do(t, w, tick(0))
	all(t, w)
}

// ready is a world whose sites are all ready.
func ready(t *testing.T, sites int) *world.World {
	t.Helper()
	w := made(t, sites)
	for site := 1; site <= sites; site++ {
		do(t, w, join(site))
	}
	round(t, w)
	round(t, w)
	return w
}

func same(a, b api.Note) bool {
	return a.Kind == b.Kind && a.Site == b.Site && op.Same(a.Op, b.Op) && a.Vector == b.Vector && a.Time == b.Time && a.Epoch == b.Epoch
}

// check holds the notes behind some against what they have to be.
func check(t *testing.T, w *world.World, from int, want ...api.Note) {
	t.Helper()
	if got := w.Notes()[from:]; !slices.EqualFunc(got, want, same) {
		t.Errorf("notes: %v, not %v", got, want)
	}
}

func with(o api.Op, i api.Id) api.Op {
	o.Id = i
	return o
}

// P28.1, P28.3 to P28.5
func TestNew(t *testing.T) {
	for _, x := range [][3]int{{0, 1, 1}, {1, 5, 1}, {1, 1, 0}, {1, 1, 9}, {1, 1, -1}} {
		if w, e := world.New(x[0], x[1], x[2]); e != api.ErrArg || w != nil {
			t.Errorf("New(%v): %d", x, e)
		}
	}
	w, e := world.New(2, 1, 8)
	if e != api.OK || w.Sites() != 8 || !w.Up() || w.Kept().Epoch != 1 || w.Front() != (api.Frontier{}) || !net.Same(w.Net(), net.New()) || len(w.Notes()) != 0 {
		t.Errorf("New: %d", e)
	}
	blank, _ := canvas.New(2, 1)
	if c, ok := w.Serves(); !ok || !canvas.Alike(c, blank.Show()) {
		t.Errorf("Serves")
	}
	for _, site := range []int{0, 9, -1} {
		if s := w.Seat(site); s.Site != 0 || s.Phase != 0 {
			t.Errorf("Seat(%d): %v", site, s)
		}
		if _, ok := w.Shows(site); ok {
			t.Errorf("Shows(%d)", site)
		}
	}
	for site := 1; site <= 8; site++ {
		if s := w.Seat(site); s.Site != site || s.Phase != api.ClOut {
			t.Errorf("Seat(%d): %v", site, s)
		}
	}
	var none *world.World
	if out := none.Do(join(1), api.Event{}); !slices.Equal(out, []api.Outcome{{Err: api.ErrNil}, {Err: api.ErrNil}}) {
		t.Errorf("Do of nil: %v", out)
	}
	_, ok := none.Serves()
	_, shows := none.Shows(1)
	if none.Sites() != 0 || none.Seat(1).Site != 0 || shows || none.Up() || !store.Same(none.Kept(), api.Kept{}) || none.Front() != (api.Frontier{}) || ok || !net.Same(none.Net(), api.Net{}) || len(none.Notes()) != 0 {
		t.Errorf("a nil world tells something")
	}
}

// P28.2
func TestExamples(t *testing.T) {
	w := made(t, 1)
	do(t, w, join(1), tick(1), take(0), tick(0))
	if len(w.Net().Parcels) != 2 || len(w.Notes()) != 0 {
		t.Errorf("J T A S: %d, %v", len(w.Net().Parcels), w.Notes())
	}
	if do(t, w, take(0)); len(w.Notes()) != 0 {
		t.Errorf("then A: %v", w.Notes())
	}
	do(t, w, take(0))
	if w.Seat(1).Phase != api.ClReady {
		t.Errorf("then A A: %d", w.Seat(1).Phase)
	}
	check(t, w, 0, api.Note{Kind: api.NtSnap, Site: 1})
	out := w.Do(command(1, rect(2)), tick(1), take(0), take(0), tick(0))
	if !slices.Equal(out, []api.Outcome{{Id: id(1, 1, 1)}, {}, {}, {}, {}}) {
		t.Errorf("a command: %v", out)
	}
	o := with(rect(2), id(1, 1, 1))
	check(t, w, 1, api.Note{Kind: api.NtIssue, Site: 1, Op: o}, api.Note{Kind: api.NtWrite, Op: o}, api.Note{Kind: api.NtTake, Op: o})
	do(t, w, take(0))
	check(t, w, 4, api.Note{Kind: api.NtAck, Site: 1, Vector: of(1)})
	do(t, w, api.Event{Kind: api.EvFall}, api.Event{Kind: api.EvRise})
	check(t, w, 5, api.Note{Kind: api.NtFall}, api.Note{Kind: api.NtRise, Vector: of(1), Epoch: 2})
	if out := w.Do(api.Event{Kind: 10}); out[0].Err != api.ErrArg {
		t.Errorf("kind 10: %v", out)
	}
}

// P28.2
func TestErrors(t *testing.T) {
	w := ready(t, 2)
	trick := func(kind, at int) api.Event {
		return api.Event{Kind: api.EvTrick, Trick: api.Trick{Kind: kind, At: at}}
	}
	kept, notes := w.Kept(), len(w.Notes())
	for name, x := range map[string]struct {
		v api.Event
		e api.Errno
	}{
		"kind 0": {api.Event{}, api.ErrArg}, "kind -1": {api.Event{Kind: -1}, api.ErrArg}, "kind 10": {api.Event{Kind: 10}, api.ErrArg}, "join of 0": {join(0), api.ErrArg}, "join of 3": {join(3), api.ErrArg}, "join of -1": {join(-1), api.ErrArg}, "command of 0": {command(0, rect(1)), api.ErrArg}, "command of 3": {command(3, rect(1)), api.ErrArg},
		"tick of 3": {tick(3), api.ErrArg}, "tick of -1": {tick(-1), api.ErrArg}, "a taking trick": {trick(api.TrTake, 0), api.ErrArg}, "a trick of kind 5": {trick(5, 0), api.ErrArg}, "a trick at none": {trick(api.TrDrop, 0), api.ErrNone}, "take of none": {take(0), api.ErrNone}, "take at -1": {take(-1), api.ErrNone},
		"join again": {join(1), api.ErrThere}, "no operation": {command(1, api.Op{}), api.ErrArg}, "a target of none": {command(1, api.Op{Kind: api.OpUndo, Target: id(1, 1, 1)}), api.ErrNone}, "settle of nothing": {api.Event{Kind: api.EvSettle, N: 0}, api.ErrNone}, "settle": {api.Event{Kind: api.EvSettle, N: -1}, api.ErrArg}, "arm": {api.Event{Kind: api.EvArm, N: -1}, api.ErrArg},
		"fall": {api.Event{Kind: api.EvFall, M: -1}, api.ErrArg}, "rise of what is up": {api.Event{Kind: api.EvRise}, api.ErrThere},
	} {
		if out := w.Do(x.v); len(out) != 1 || out[0] != (api.Outcome{Err: x.e}) {
			t.Errorf("Do of %s: %v", name, out)
		}
	}
	if !store.Same(w.Kept(), kept) || len(w.Notes()) != notes {
		t.Errorf("errors change something")
	}
	do(t, w, api.Event{Kind: api.EvArm, Site: 77, N: 1})
	if out := w.Do(tick(0)); out[0].Err != api.ErrDown || w.Up() {
		t.Errorf("a tick that lets the disk fall: %v", out)
	}
	check(t, w, notes, api.Note{Kind: api.NtFall})
	for _, x := range []api.Event{tick(0), {Kind: api.EvSettle}, {Kind: api.EvArm}} {
		if out := w.Do(x); out[0].Err != api.ErrDown {
			t.Errorf("of what is down: %v", out)
		}
	}
	do(t, w, tick(1))
	if out := w.Do(take(0)); out[0].Err != api.ErrDown || len(w.Net().Parcels) != 0 {
		t.Errorf("a parcel to what is down: %v", out)
	}
	do(t, w, api.Event{Kind: api.EvFall, Site: -3})
	if _, ok := w.Serves(); ok || !store.Same(w.Kept(), api.Kept{}) || w.Front() != (api.Frontier{}) {
		t.Errorf("what is down tells something")
	}
	if out := w.Do(api.Event{Kind: api.EvRise, N: 2}); out[0].Err != api.ErrDown || w.Up() {
		t.Errorf("a rise that falls: %v", out)
	}
	check(t, w, notes+1)
	do(t, w, api.Event{Kind: api.EvRise})
	check(t, w, notes+1, api.Note{Kind: api.NtRise, Epoch: 2})
}

// P28.2: what arrives, or does not.
func TestTricks(t *testing.T) {
	w := ready(t, 1)
	do(t, w, tick(1))
	n, _, _ := net.Do(w.Net(), api.Trick{Kind: api.TrTwice})
	do(t, w, api.Event{Kind: api.EvTrick, Trick: api.Trick{Kind: api.TrTwice}})
	if !net.Same(w.Net(), n) || len(n.Parcels) != 2 {
		t.Errorf("TrTwice")
	}
	do(t, w, api.Event{Kind: api.EvTrick, Site: 44, Trick: api.Trick{Kind: api.TrSpoil, At: 1, Bit: 3, Mask: 1}})
	if out := w.Do(take(1)); out[0].Err != api.ErrSum {
		t.Errorf("a spoilt one: %v", out)
	}
	do(t, w, api.Event{Kind: api.EvTrick, Trick: api.Trick{Kind: api.TrDrop}}, tick(0))
	b := w.Net().Parcels[0].Bytes
	if f, e := frame.Read(b); e != api.OK || f.Kind != api.FrState || w.Net().Parcels[0].To != 1 {
		t.Errorf("what the server sends: %d", e)
	}
	do(t, w, api.Event{Kind: api.EvTrick, Trick: api.Trick{Kind: api.TrSpoil, Bit: 1, Mask: 1}})
	notes := len(w.Notes())
	if out := w.Do(take(0)); out[0].Err != api.ErrSum || w.Seat(1).Bad != 1 || len(w.Notes()) != notes {
		t.Errorf("a spoilt one to a client: %v", out)
	}
	got := w.Net()
	do(t, w, tick(1))
	if got.Parcels = append(got.Parcels, api.Parcel{}); len(w.Net().Parcels) != 1 {
		t.Errorf("Net shares memory")
	}
	x := w.Net()
	if x.Parcels[0].Bytes[0]++; net.Same(x, w.Net()) {
		t.Errorf("Net shares bytes")
	}
}

// Notes of two that paint, and fold.
func TestNotes(t *testing.T) {
	w := ready(t, 2)
	from := len(w.Notes())
	do(t, w, command(1, rect(1)), command(2, rect(1)))
	a, b := with(rect(1), id(1, 1, 1)), with(rect(1), id(1, 2, 1))
	check(t, w, from, api.Note{Kind: api.NtIssue, Site: 1, Op: a}, api.Note{Kind: api.NtIssue, Site: 2, Op: b})
	round(t, w)
	check(t, w, from+2, api.Note{Kind: api.NtWrite, Op: a}, api.Note{Kind: api.NtWrite, Op: b}, api.Note{Kind: api.NtTake, Op: a}, api.Note{Kind: api.NtTake, Op: b},
		api.Note{Kind: api.NtAck, Site: 1, Vector: of(1, 1)}, api.Note{Kind: api.NtTake, Site: 1, Op: b}, api.Note{Kind: api.NtAck, Site: 2, Vector: of(1, 1)}, api.Note{Kind: api.NtTake, Site: 2, Op: a})
	c1, _ := w.Shows(1)
	c2, _ := w.Shows(2)
	if s, ok := w.Serves(); !ok || !canvas.Alike(c1, c2) || !canvas.Alike(c1, s) || c1.Tiles[0][1] != red {
		t.Errorf("they do not show the same")
	}
	do(t, w, api.Event{Kind: api.EvSettle})
	if w.Front().Proposed != 1 {
		t.Errorf("Front: %v", w.Front())
	}
	from = len(w.Notes())
	round(t, w)
	round(t, w)
	acks := func(site int) api.Note { return api.Note{Kind: api.NtAck, Site: site, Vector: of(1, 1)} }
	check(t, w, from, acks(1), acks(2), api.Note{Kind: api.NtFold, Time: 1, Vector: of(1, 1)}, acks(1), api.Note{Kind: api.NtFold, Site: 1, Time: 1, Vector: of(1, 1)}, acks(2), api.Note{Kind: api.NtFold, Site: 2, Time: 1, Vector: of(1, 1)})
	if k := w.Kept(); k.Log.Folded != 1 || len(w.Seat(2).Log.Ops) != 0 {
		t.Errorf("it is not folded")
	}
}

// Who hears that all is folded is told what the server has, and folds.
func TestToldFold(t *testing.T) {
	w := ready(t, 2)
	do(t, w, command(1, rect(1)), tick(1))
	all(t, w)
	do(t, w, tick(0))
	all(t, w)
	do(t, w, api.Event{Kind: api.EvSettle})
	round(t, w)
	do(t, w, tick(1), tick(2))
	all(t, w)
	do(t, w, tick(0)) // folded: a state to 1, a state to 2
	from := len(w.Notes())
	all(t, w)
	check(t, w, from, api.Note{Kind: api.NtAck, Site: 1, Vector: of(1)}, api.Note{Kind: api.NtFold, Site: 1, Time: 1, Vector: of(1)}, api.Note{Kind: api.NtAck, Site: 2, Vector: of(1)}, api.Note{Kind: api.NtFold, Site: 2, Time: 1, Vector: of(1)})
}

// P28.2: of a frame on which the server falls all that could be laid is written.
func TestFallWriting(t *testing.T) {
	w := ready(t, 1)
	for i := range 3 {
		do(t, w, command(1, rect(i)))
	}
	do(t, w, tick(1), take(0), api.Event{Kind: api.EvArm, N: 2})
	from := len(w.Notes())
	if out := w.Do(take(0)); out[0].Err != api.ErrDown {
		t.Fatalf("it does not fall: %v", out)
	}
	var want []api.Note
	for i := range 3 {
		want = append(want, api.Note{Kind: api.NtWrite, Op: with(rect(i), id(uint64(i+1), 1, uint64(i+1)))})
	}
	check(t, w, from, append(want, api.Note{Kind: api.NtFall})...)
	do(t, w, api.Event{Kind: api.EvFall, N: 1}, api.Event{Kind: api.EvRise})
	check(t, w, from+4, api.Note{Kind: api.NtRise, Vector: of(1), Epoch: 2})
}

// What the server refuses it has not written.
func TestStale(t *testing.T) {
	w := ready(t, 1)
	do(t, w, command(1, rect(1)), tick(1), api.Event{Kind: api.EvFall}, api.Event{Kind: api.EvRise})
	from := len(w.Notes())
	for range 2 {
		if out := w.Do(take(0)); out[0].Err != api.ErrStale {
			t.Errorf("of the epoch that was: %v", out)
		}
	}
	check(t, w, from)
}

// P28.2: what waits already is not written again, when the server falls by a frame that has it, too.
func TestFallWritingAgain(t *testing.T) {
	w := ready(t, 1)
	do(t, w, command(1, rect(0)), tick(1), take(0), take(0), command(1, rect(1)), tick(1), take(0), api.Event{Kind: api.EvArm, N: 1})
	from := len(w.Notes())
	if out := w.Do(take(0)); out[0].Err != api.ErrDown {
		t.Fatalf("it does not fall: %v", out)
	}
	check(t, w, from, api.Note{Kind: api.NtWrite, Op: with(rect(1), id(2, 1, 2))}, api.Note{Kind: api.NtFall})
}

// P28.2: of a frame of several operations those are taken that it had not.
func TestTakesSeveral(t *testing.T) {
	w := ready(t, 2)
	var want []api.Note
	for i := range 3 {
		do(t, w, command(1, rect(i)))
		want = append(want, api.Note{Kind: api.NtTake, Site: 2, Op: with(rect(i), id(uint64(i+1), 1, uint64(i+1)))})
	}
	do(t, w, tick(2), tick(1))
	all(t, w)
	do(t, w, tick(0), tick(0)) // the same operations to 2, twice
	from := len(w.Notes())
	for len(w.Net().Parcels) > 0 {
		at, ok := net.First(w.Net(), 2)
		if !ok {
			break
		}
		do(t, w, take(at))
	}
	acked := api.Note{Kind: api.NtAck, Site: 2, Vector: of(3)}
	check(t, w, from, slices.Concat([]api.Note{acked}, want, []api.Note{acked})...)
}

// drawn is an event that may happen to a world.
func drawn(r *rand.Rand, w *world.World) api.Event {
	site := 1 + r.Intn(w.Sites())
	parcels := len(w.Net().Parcels)
	switch r.Intn(16) {
	case 0:
		return join(site)
	case 1, 2, 3:
		o := api.Op{Kind: api.OpWash, X: r.Intn(8), Y: r.Intn(8), X2: r.Intn(8), Y2: r.Intn(8), Color: api.Color{R: byte(r.Intn(256)), A: 128}}
		if l := w.Seat(site).Log.Ops; len(l) > 0 && r.Intn(3) == 0 {
			o = api.Op{Kind: api.OpUndo + r.Intn(2), Target: l[r.Intn(len(l))].Id}
		}
		return command(site, o)
	case 4, 5, 6:
		return tick(site)
	case 7, 8:
		return tick(0)
	case 9:
		return api.Event{Kind: api.EvTrick, Trick: api.Trick{Kind: 2 + r.Intn(3), At: r.Intn(1 + parcels), Bit: r.Intn(200), Mask: r.Uint32()}}
	case 10:
		switch r.Intn(5) {
		case 0:
			return api.Event{Kind: api.EvArm, N: r.Intn(12)}
		case 1:
			return api.Event{Kind: api.EvFall, N: r.Intn(3), M: r.Intn(30)}
		case 2:
			return api.Event{Kind: api.EvSettle, N: r.Intn(4)}
		}
		return api.Event{Kind: api.EvRise, N: r.Intn(12)}
	}
	return take(r.Intn(1 + parcels/2))
}

// P28.6
func TestFollows(t *testing.T) {
	for seed := range 12 {
		r := rand.New(rand.NewSource(int64(seed)))
		w, other := made(t, 3), made(t, 3)
		last := make([]api.Seat, 4)
		epoch := uint64(1)
		acked := of()
		var notes []api.Note
		for range 350 {
			x := drawn(r, w)
			if a, b := w.Do(x), other.Do(x); a[0] != b[0] {
				t.Fatalf("the same events come to others: %v, %v", a, b)
			}
			if l := w.Notes(); len(l) < len(notes) || !slices.EqualFunc(l[:len(notes)], notes, same) {
				t.Fatalf("notes are taken back")
			} else {
				notes = l
			}
			for site := 1; site <= 3; site++ {
				s := w.Seat(site)
				if s.Floor < last[site].Floor || !vector.Covers(oplog.Vector(s.Log), oplog.Vector(last[site].Log)) {
					t.Fatalf("a Floor, or a vector, falls")
				}
				last[site] = s
				c, ok := w.Shows(site)
				if ok != (s.Phase == api.ClReady) {
					t.Fatalf("Shows(%d): %t", site, ok)
				}
				if ok {
					base, _ := canvas.Of(s.Base)
					want, _ := undo.Paint(base, s.Log)
					if !canvas.Alike(c, want.Show()) {
						t.Fatalf("%d shows something else", site)
					}
					acked, _ = vector.Join(acked, s.Acked)
				}
			}
			if !w.Up() {
				continue
			}
			k := w.Kept()
			if k.Epoch < epoch || !vector.Covers(oplog.Vector(k.Log), acked) {
				t.Fatalf("what was acknowledged is gone, or the epoch falls: %v, %v", oplog.Vector(k.Log), acked)
			}
			epoch = k.Epoch
		}
		if !slices.EqualFunc(other.Notes(), notes, same) || !net.Same(w.Net(), other.Net()) {
			t.Fatalf("the same events come to others")
		}
		for _, p := range w.Net().Parcels {
			if _, e := crc.Open(p.Bytes); (e == api.OK) == p.Spoilt {
				t.Fatalf("a parcel: %d", e)
			}
		}
		notes[0].Kind = 99
		if w.Notes()[0].Kind == 99 {
			t.Fatalf("Notes shares memory")
		}
	}
}
