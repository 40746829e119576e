package quiet_test

import (
	"math"
	"math/rand"
	"slices"
	"testing"

	"gesso/api"
	"gesso/canvas"
	"gesso/model"
	"gesso/net"
	"gesso/oplog"
	"gesso/quiet"
	"gesso/world"
)

func of(n ...uint64) api.Vector {
	var v api.Vector
	copy(v[1:], n)
	return v
}

func made(t *testing.T, wide, high, sites int) *world.World {
	t.Helper()
	w, e := world.New(wide, high, sites)
	if e != api.OK {
		t.Fatal(e)
	}
	return w
}

func do(t *testing.T, w *world.World, l ...api.Event) {
	t.Helper()
	for _, x := range l {
		if out := w.Do(x); out[0].Err != api.OK {
			t.Fatalf("Do of %v: %v", x, out)
		}
	}
}

func join(site int) api.Event { return api.Event{Kind: api.EvJoin, Site: site} }

func command(site int) api.Event {
	return api.Event{Kind: api.EvCommand, Site: site, Op: api.Op{Kind: api.OpRect, X: site, Color: api.Color{R: 255, A: 255}}}
}

// ready is a calm world whose sites are all ready.
func ready(t *testing.T, sites int) *world.World {
	t.Helper()
	w := made(t, 1, 1, sites)
	for site := 1; site <= sites; site++ {
		do(t, w, join(site))
	}
	if _, e := quiet.Settle(w); e != api.OK {
		t.Fatalf("Settle: %d", e)
	}
	return w
}

// P30.1 to P30.5
func TestExamples(t *testing.T) {
	w := made(t, 1, 1, 2)
	if n, e := quiet.Round(w); !quiet.Calm(w) || quiet.Look(w) != (api.Mood{Up: true, Rounds: 4}) || n != 0 || e != api.OK {
		t.Errorf("a new world: %v, %d %d", quiet.Look(w), n, e)
	}
	do(t, w, join(1))
	if m := quiet.Look(w); m != (api.Mood{Up: true, Joining: 1, Rounds: 6}) || quiet.Calm(w) || !slices.Equal(quiet.Odd(w), []int{1}) {
		t.Errorf("1 joins: %v", m)
	}
	if n, e := quiet.Round(w); n != 3 || e != api.OK || len(quiet.Odd(w)) != 0 {
		t.Errorf("a round: %d %d, %v", n, e, quiet.Odd(w))
	}
	do(t, w, command(1))
	if m := quiet.Look(w); quiet.Calm(w) || m != (api.Mood{Up: true, Lacks: 1, Rounds: 5}) || quiet.Issued(w) != of(1) || !slices.Equal(quiet.Odd(w), []int{1}) {
		t.Errorf("1 gets a command: %v", m)
	}
	if n, e := quiet.Settle(w); n != 1 || e != api.OK || !quiet.Calm(w) {
		t.Errorf("Settle: %d %d", n, e)
	}
	if n, e := quiet.Settle(w); n != 0 || e != api.OK {
		t.Errorf("Settle of what is calm: %d %d", n, e)
	}
	for _, n := range []int{-1, 101, math.MaxInt, math.MinInt} {
		if got, e := quiet.Rounds(w, n); got != 0 || e != api.ErrArg {
			t.Errorf("Rounds(%d): %d %d", n, got, e)
		}
	}
	if n, e := quiet.Rounds(w, 0); n != 0 || e != api.OK {
		t.Errorf("Rounds(0): %d %d", n, e)
	}
	if n, e := quiet.Rounds(w, 100); n != 200 || e != api.OK {
		t.Errorf("Rounds(100): %d %d", n, e)
	}
	if got := quiet.Odd(w, 9, 0, -1); len(got) != 0 {
		t.Errorf("Odd(9): %v", got)
	}
}

// P30.1: a round is these events.
func TestRound(t *testing.T) {
	r := rand.New(rand.NewSource(1))
	for range 40 {
		w, other := made(t, 1, 1, 3), made(t, 1, 1, 3)
		for range 60 {
			x := drawn(r, w)
			w.Do(x)
			other.Do(x)
		}
		want := 0
		arrive := func() {
			for len(other.Net().Parcels) > 0 {
				other.Do(api.Event{Kind: api.EvTake})
				want++
			}
		}
		if other.Up() {
			other.Do(api.Event{Kind: api.EvArm})
		}
		arrive()
		for site := 1; site <= 3; site++ {
			other.Do(api.Event{Kind: api.EvTick, Site: site})
		}
		arrive()
		if !other.Up() {
			other.Do(api.Event{Kind: api.EvRise})
		}
		other.Do(api.Event{Kind: api.EvTick})
		arrive()
		got, e := quiet.Round(w)
		if e != api.OK || got != want || len(w.Notes()) != len(other.Notes()) || !net.Same(w.Net(), other.Net()) || oplog.Vector(w.Kept().Log) != oplog.Vector(other.Kept().Log) || w.Kept().Epoch != other.Kept().Epoch || w.Front() != other.Front() {
			t.Fatalf("a round is another one: %d arrived, not %d, %d", got, want, e)
		}
		for site := 1; site <= 3; site++ {
			if a, b := w.Seat(site), other.Seat(site); a.Bad != b.Bad || a.Floor != b.Floor || a.Epoch != b.Epoch || a.Acked != b.Acked || !oplog.Same(a.Log, b.Log) {
				t.Fatalf("a round is another one to %d", site)
			}
		}
	}
}

// P30.2
func TestLook(t *testing.T) {
	w := ready(t, 3)
	for range 5 {
		do(t, w, command(1))
	}
	do(t, w, command(2))
	if m := quiet.Look(w); m != (api.Mood{Up: true, Lacks: 6, Rounds: 6}) || quiet.Issued(w) != of(5, 1) {
		t.Errorf("Look: %v", m)
	}
	do(t, w, api.Event{Kind: api.EvTick, Site: 1})
	if m := quiet.Look(w); m.Under != 2 || quiet.Calm(w) {
		t.Errorf("under way: %v", m)
	}
	quiet.Settle(w)
	do(t, w, api.Event{Kind: api.EvSettle})
	if m := quiet.Look(w); m != (api.Mood{Up: true, Folding: true, Rounds: 4}) || quiet.Calm(w) || len(quiet.Odd(w)) != 0 {
		t.Errorf("proposed: %v", m)
	}
	do(t, w, api.Event{Kind: api.EvFall})
	if m := quiet.Look(w); m != (api.Mood{Lacks: 6, Rounds: 6}) || quiet.Calm(w) || len(quiet.Odd(w)) != 0 {
		t.Errorf("down: %v", m)
	}
	other := made(t, 2, 1, 8)
	do(t, other, join(1), join(2))
	if m := quiet.Look(other); m != (api.Mood{Up: true, Joining: 2, Rounds: 7}) {
		t.Errorf("two join 2 by 1 tiles: %v", m)
	}
	do(t, other, api.Event{Kind: api.EvFall})
	if m := quiet.Look(other); m != (api.Mood{Joining: 2, Rounds: 25}) || quiet.Calm(other) {
		t.Errorf("two join what is down: %v", m)
	}
	big := made(t, 4, 4, 1)
	do(t, big, join(1))
	if m := quiet.Look(big); m.Rounds != 25 {
		t.Errorf("one joins 4 by 4 tiles: %v", m)
	}
}

// P30.2 to P30.5: a client that joins lacks all; one that has not heard what the server has is odd.
func TestOdd(t *testing.T) {
	w := ready(t, 2)
	late := made(t, 1, 1, 3)
	do(t, late, join(1), join(2))
	quiet.Settle(late)
	do(t, late, command(1), command(1))
	quiet.Settle(late)
	do(t, late, join(3))
	if m := quiet.Look(late); m.Lacks != 2 || m.Joining != 1 || m.Rounds != 7 || !slices.Equal(quiet.Odd(late), []int{3}) || !slices.Equal(quiet.Odd(late, 2, 3, 1, 3), []int{3, 3}) {
		t.Errorf("who joins late: %v, %v", m, quiet.Odd(late))
	}
	do(t, w, command(1), command(2))
	if got := quiet.Odd(w, 2, 9, 1); !slices.Equal(got, []int{2, 1}) {
		t.Errorf("Odd: %v", got)
	}
	take := api.Event{Kind: api.EvTake}
	tick := func(site int) api.Event { return api.Event{Kind: api.EvTick, Site: site} }
	one := ready(t, 1)
	do(t, one, command(1), tick(1), take, take, tick(0))
	drop := api.Event{Kind: api.EvTrick, Trick: api.Trick{Kind: api.TrDrop}}
	do(t, one, drop)
	if m := quiet.Look(one); m != (api.Mood{Up: true, Rounds: 4}) || !slices.Equal(quiet.Odd(one), []int{1}) || quiet.Calm(one) {
		t.Errorf("who has not heard that the server has it: %v, %v", m, quiet.Odd(one))
	}
	// Folded by the server, and not by the client.
	quiet.Settle(one)
	do(t, one, api.Event{Kind: api.EvSettle}, tick(0), take, tick(1), take, tick(0), drop)
	if m := quiet.Look(one); one.Kept().Log.Folded != 1 || m != (api.Mood{Up: true, Rounds: 4}) || !slices.Equal(quiet.Odd(one), []int{1}) || quiet.Calm(one) {
		t.Errorf("who has not folded: %v, %v", m, quiet.Odd(one))
	}
}

func TestNil(t *testing.T) {
	n, e := quiet.Round(nil)
	m, f := quiet.Rounds(nil, 101)
	k, g := quiet.Settle(nil)
	if n != 0 || m != 0 || k != 0 || e != api.ErrNil || f != api.ErrNil || g != api.ErrNil || quiet.Issued(nil) != of() || quiet.Look(nil) != (api.Mood{}) || quiet.Calm(nil) || quiet.Odd(nil) != nil || quiet.Odd(nil, 1) != nil {
		t.Errorf("of a nil world something is told")
	}
}

// drawn is an event that may happen to a world.
func drawn(r *rand.Rand, w *world.World) api.Event {
	site := 1 + r.Intn(w.Sites())
	parcels := len(w.Net().Parcels)
	switch r.Intn(18) {
	case 0:
		return api.Event{Kind: api.EvJoin, Site: site}
	case 1, 2, 3:
		o := api.Op{Kind: api.OpWash, X: r.Intn(8), Y: r.Intn(8), X2: r.Intn(8), Y2: r.Intn(8), Color: api.Color{R: byte(r.Intn(256)), A: 128}}
		if l := w.Seat(site).Log.Ops; len(l) > 0 && r.Intn(3) == 0 {
			o = api.Op{Kind: api.OpUndo + r.Intn(2), Target: l[r.Intn(len(l))].Id}
		}
		return api.Event{Kind: api.EvCommand, Site: site, Op: o}
	case 4, 5, 6:
		return api.Event{Kind: api.EvTick, Site: site}
	case 7, 8:
		return api.Event{Kind: api.EvTick}
	case 9:
		return api.Event{Kind: api.EvTrick, Trick: api.Trick{Kind: 2 + r.Intn(3), At: r.Intn(1 + parcels), Bit: r.Intn(200), Mask: r.Uint32()}}
	case 10:
		return []api.Event{{Kind: api.EvArm, N: r.Intn(12)}, {Kind: api.EvFall, N: r.Intn(3), M: r.Intn(30)}, {Kind: api.EvSettle, N: r.Intn(4)}, {Kind: api.EvSettle}, {Kind: api.EvRise, N: r.Intn(12)}, {Kind: api.EvRise}}[r.Intn(6)]
	}
	return api.Event{Kind: api.EvTake, N: r.Intn(1 + parcels/2)}
}

// checkCalm holds a calm world against what it has to be.
func checkCalm(t *testing.T, w *world.World) {
	t.Helper()
	serves, ok := w.Serves()
	if !ok {
		t.Fatalf("it is calm, and the server is down")
	}
	l := w.Notes()
	v := oplog.Vector(w.Kept().Log)
	if v != quiet.Issued(w) {
		t.Fatalf("the server has %v of %v", v, quiet.Issued(w))
	}
	for site := 1; site <= w.Sites(); site++ {
		c, ok := w.Shows(site)
		if !ok {
			continue
		}
		want, e := model.Shows(l, site, serves.Wide, serves.High)
		if s := w.Seat(site); !canvas.Alike(c, serves) || e != api.OK || !canvas.Alike(want, c) || oplog.Vector(s.Log) != v || s.Acked != v || s.Log.Folded != w.Kept().Log.Folded || len(s.Log.Ops) != len(w.Kept().Log.Ops) {
			t.Fatalf("%d shows something else, or has another vector: %d", site, e)
		}
	}
}

// P30.6, W5, W6
func TestSettles(t *testing.T) {
	for seed := range 60 {
		r := rand.New(rand.NewSource(int64(seed)))
		w := made(t, 1+r.Intn(2), 1+r.Intn(2), 1+r.Intn(4))
		for range 3 {
			for range r.Intn(150) {
				w.Do(drawn(r, w))
			}
			most := quiet.Look(w).Rounds
			if n, e := quiet.Settle(w); e != api.OK || n > most || !quiet.Calm(w) {
				t.Fatalf("seed %d: Settle: %d of %d, %d; %v, odd: %v", seed, n, most, e, quiet.Look(w), quiet.Odd(w))
			}
			checkCalm(t, w)
			was, _ := w.Serves()
			quiet.Round(w)
			if now, _ := w.Serves(); !canvas.Alike(was, now) || !quiet.Calm(w) {
				t.Fatalf("seed %d: a round more changes something", seed)
			}
			checkCalm(t, w)
			above := r.Intn(5)
			if w.Do(api.Event{Kind: api.EvSettle, N: above})[0].Err != api.OK {
				continue
			}
			proposed := w.Front().Proposed
			if n, e := quiet.Settle(w); e != api.OK || n > 4 || w.Kept().Log.Folded != proposed {
				t.Fatalf("seed %d: what is proposed is not folded: %d %d", seed, n, e)
			}
			if now, _ := w.Serves(); !canvas.Alike(was, now) || len(w.Kept().Log.Ops) > above {
				t.Fatalf("seed %d: folded, something else is shown", seed)
			}
			checkCalm(t, w)
		}
	}
}
