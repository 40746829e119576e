package frontier_test

import (
	"math"
	"math/rand"
	"slices"
	"testing"

	"gesso/api"
	"gesso/frontier"
	"gesso/oplog"
)

const most = uint64(api.MaxTime)

func of(n ...uint64) api.Vector {
	var v api.Vector
	copy(v[1:], n)
	return v
}

func rect(time uint64, site int, seq uint64) api.Op {
	return api.Op{Id: api.Id{Time: time, Site: site, Seq: seq}, Kind: api.OpRect}
}

// logOf is a log of operations of these times.
func logOf(t *testing.T, times ...uint64) api.Log {
	t.Helper()
	l := oplog.New()
	for i, time := range times {
		var e api.Errno
		if l, _, e = oplog.Insert(l, rect(time, 1, uint64(i+1))); e != api.OK {
			t.Fatal(e)
		}
	}
	return l
}

// two is a frontier with the sites 1 and 2 registered.
func two(t *testing.T) api.Frontier {
	t.Helper()
	return registered(t, frontier.New(), 1, 2)
}

func registered(t *testing.T, f api.Frontier, sites ...int) api.Frontier {
	t.Helper()
	for _, site := range sites {
		var e api.Errno
		if f, e = frontier.Register(f, site); e != api.OK {
			t.Fatalf("Register(%d): %d", site, e)
		}
	}
	return f
}

func heard(t *testing.T, f api.Frontier, site int, floor, seq uint64, has api.Vector) api.Frontier {
	t.Helper()
	f, e := frontier.Hear(f, site, api.Pledge{In: true, Floor: floor, FloorSeq: seq, Has: has})
	if e != api.OK {
		t.Fatalf("Hear(%d): %d", site, e)
	}
	return f
}

func bad() map[string]api.Frontier {
	in := func(p api.Pledge) api.Frontier {
		var f api.Frontier
		f.Sites[3] = p
		return f
	}
	var zero api.Frontier
	zero.Sites[0].In = true
	low := in(api.Pledge{In: true, Floor: 4})
	low.Folded = 5
	return map[string]api.Frontier{
		"folded too late": {Folded: most + 1}, "no By": {By: api.Vector{1}}, "By too great": {By: of(most + 1)},
		"proposed too low": {Folded: 5, Proposed: 5}, "proposed lower": {Folded: 5, Proposed: 4}, "proposed too late": {Proposed: most + 1},
		"site 0": zero, "floor below": low, "floor too late": in(api.Pledge{In: true, Floor: most + 1}), "seq too great": in(api.Pledge{In: true, FloorSeq: most + 1}),
		"has": in(api.Pledge{In: true, Has: api.Vector{1}}), "not in, a floor": in(api.Pledge{Floor: 1}), "not in, a seq": in(api.Pledge{FloorSeq: 1}), "not in, has": in(api.Pledge{Has: of(1)}),
	}
}

// P18.1
func TestCheck(t *testing.T) {
	if f := frontier.New(); f != (api.Frontier{}) || frontier.Check(f) != api.OK {
		t.Errorf("New: %v", f)
	}
	good := api.Frontier{Folded: 5, By: of(1, most), Proposed: 6}
	good.Sites[8] = api.Pledge{In: true, Floor: most, FloorSeq: most, Has: of(most)}
	good.Sites[1] = api.Pledge{In: true, Floor: 5}
	if frontier.Check(api.Frontier{Folded: most}) != api.OK || frontier.Check(api.Frontier{Proposed: most}) != api.OK {
		t.Errorf("Check at MaxTime")
	}
	if frontier.Check(good) != api.OK {
		t.Errorf("Check of a good one")
	}
	for name, f := range bad() {
		if frontier.Check(f) != api.ErrFront {
			t.Errorf("Check of %s", name)
		}
		no := api.Log{Ops: []api.Op{{}}}
		_, a := frontier.Register(f, 99)
		_, b := frontier.Propose(f, no, -1)
		_, c := frontier.Hear(f, 99, api.Pledge{})
		_, d := frontier.Fold(f, api.Vector{1})
		_, e := frontier.Rise(f)
		_, ok := frontier.Ready(f, of(9, 9, 9))
		if a != api.ErrFront || b != api.ErrFront || c != api.ErrFront || d != api.ErrFront || e != api.ErrFront || ok || frontier.Waits(f, of()) != nil || frontier.Sites(f) != nil || frontier.Sites(f, 3) != nil {
			t.Errorf("of %s: %d %d %d %d %d", name, a, b, c, d, e)
		}
	}
}

// P18.2
func TestRegister(t *testing.T) {
	f := two(t)
	if f.Sites[1] != (api.Pledge{In: true}) || f.Sites[2] != (api.Pledge{In: true}) || f.Sites[3].In {
		t.Errorf("Register: %v", f)
	}
	for _, x := range []struct {
		site int
		e    api.Errno
	}{{0, api.ErrArg}, {9, api.ErrArg}, {-1, api.ErrArg}, {math.MaxInt, api.ErrArg}, {1, api.ErrThere}} {
		if got, e := frontier.Register(f, x.site); e != x.e || got != (api.Frontier{}) {
			t.Errorf("Register(%d): %d", x.site, e)
		}
	}
	for _, x := range []struct{ folded, proposed, floor uint64 }{{5, 0, 5}, {5, 9, 9}, {0, 9, 9}} {
		f := registered(t, api.Frontier{Folded: x.folded, Proposed: x.proposed}, 8)
		if f.Sites[8] != (api.Pledge{In: true, Floor: x.floor}) || frontier.Check(f) != api.OK {
			t.Errorf("Register: %v", f.Sites[8])
		}
	}
}

// P18.3
func TestPropose(t *testing.T) {
	f, l := two(t), logOf(t, 3, 5, 8)
	for above, want := range map[int]uint64{0: 8, 1: 5, 2: 3} {
		if got, e := frontier.Propose(f, l, above); e != api.OK || got.Proposed != want || frontier.Check(got) != api.OK {
			t.Errorf("Propose(%d): %d %d", above, got.Proposed, e)
		}
	}
	proposed, _ := frontier.Propose(f, l, 1)
	folded := f
	folded.Folded, folded.Sites[1].Floor, folded.Sites[2].Floor = 5, 5, 5
	no := api.Log{Ops: []api.Op{{}}}
	for _, x := range []struct {
		f     api.Frontier
		l     api.Log
		above int
		e     api.Errno
	}{
		{f, l, 3, api.ErrNone}, {f, l, math.MaxInt, api.ErrNone}, {f, oplog.New(), 0, api.ErrNone}, {f, l, -1, api.ErrArg}, {f, l, math.MinInt, api.ErrArg}, {proposed, l, 1, api.ErrThere}, {proposed, l, 9, api.ErrThere}, {proposed, l, -1, api.ErrArg},
		{proposed, no, -1, api.ErrLog}, {folded, l, 1, api.ErrNone}, {folded, l, 2, api.ErrNone}, {folded, l, 0, api.OK},
	} {
		if got, e := frontier.Propose(x.f, x.l, x.above); e != x.e || e != api.OK && got != (api.Frontier{}) {
			t.Errorf("Propose(%d): %d, not %d", x.above, e, x.e)
		}
	}
}

// P18.3: of a log in which operations of one site have one Time.
func TestProposeOneTime(t *testing.T) {
	f, l := two(t), api.Log{Ops: []api.Op{rect(3, 1, 1), rect(5, 1, 2), rect(5, 1, 3)}}
	for above, want := range map[int]uint64{0: 5, 1: 5, 2: 3} {
		if got, e := frontier.Propose(f, l, above); e != api.OK || got.Proposed != want {
			t.Errorf("Propose(%d): %d %d", above, got.Proposed, e)
		}
	}
}

// P18.4
func TestHear(t *testing.T) {
	f := heard(t, two(t), 1, 5, 2, of(2, 1))
	if f.Sites[1] != (api.Pledge{In: true, Floor: 5, FloorSeq: 2, Has: of(2, 1)}) || f.Sites[2] != (api.Pledge{In: true}) {
		t.Errorf("Hear: %v", f.Sites[1])
	}
	for _, x := range []struct {
		floor, seq uint64
		has        api.Vector
		want       api.Pledge
	}{
		{5, 9, of(1, 3), api.Pledge{In: true, Floor: 5, FloorSeq: 2, Has: of(2, 3)}},
		{4, 9, of(), api.Pledge{In: true, Floor: 5, FloorSeq: 2, Has: of(2, 1)}},
		{6, 1, of(9), api.Pledge{In: true, Floor: 6, FloorSeq: 1, Has: of(9, 1)}},
		{most, most, of(0, 0, 4), api.Pledge{In: true, Floor: most, FloorSeq: most, Has: of(2, 1, 4)}},
	} {
		if got := heard(t, f, 1, x.floor, x.seq, x.has); got.Sites[1] != x.want {
			t.Errorf("Hear: %v, not %v", got.Sites[1], x.want)
		}
	}
	low := registered(t, api.Frontier{Folded: 7}, 1)
	if got := heard(t, low, 1, 3, 4, of(1)); got.Sites[1] != (api.Pledge{In: true, Floor: 7, Has: of(1)}) {
		t.Errorf("Hear of a Floor below Folded: %v", got.Sites[1])
	}
	in := api.Pledge{In: true}
	for _, x := range []struct {
		site int
		p    api.Pledge
		e    api.Errno
	}{
		{0, in, api.ErrArg}, {9, in, api.ErrArg}, {-1, in, api.ErrArg}, {3, in, api.ErrNone}, {3, api.Pledge{}, api.ErrArg}, {1, api.Pledge{}, api.ErrArg}, {1, api.Pledge{Floor: 4}, api.ErrArg},
		{1, api.Pledge{In: true, Floor: most + 1}, api.ErrArg}, {1, api.Pledge{In: true, FloorSeq: most + 1}, api.ErrArg}, {1, api.Pledge{In: true, Has: api.Vector{1}}, api.ErrArg}, {1, api.Pledge{In: true, Has: of(most + 1)}, api.ErrArg},
	} {
		if got, e := frontier.Hear(f, x.site, x.p); e != x.e || got != (api.Frontier{}) {
			t.Errorf("Hear(%d, %v): %d", x.site, x.p, e)
		}
	}
}

// P18.5, P18.6
func TestReady(t *testing.T) {
	f, _ := frontier.Propose(two(t), logOf(t, 3, 5, 8), 1)
	if got := frontier.Waits(f, of(2, 1)); !slices.Equal(got, []int{1, 2}) {
		t.Errorf("Waits: %v", got)
	}
	f = heard(t, f, 1, 5, 2, of(2, 1))
	if got := frontier.Waits(f, of(2, 1)); !slices.Equal(got, []int{2}) {
		t.Errorf("Waits: %v", got)
	}
	if got := frontier.Waits(f, of(1, 1)); !slices.Equal(got, []int{1, 2}) {
		t.Errorf("Waits of a set of less: %v", got)
	}
	short := heard(t, f, 2, 6, 1, of(1, 1))
	if v, ok := frontier.Ready(short, of(2, 1)); ok || v != of() || !slices.Equal(frontier.Waits(short, of(2, 1)), []int{2}) {
		t.Errorf("Ready: %v", v)
	}
	f = heard(t, f, 2, 6, 1, of(2, 1))
	if v, ok := frontier.Ready(f, of(2, 1)); !ok || v != of(2, 1) || frontier.Waits(f, of(2, 1)) != nil {
		t.Errorf("Ready: %v %t", v, ok)
	}
	if v, ok := frontier.Ready(f, of(3, 4, 1)); !ok || v != of(2, 1) {
		t.Errorf("Ready of a greater set: %v %t", v, ok)
	}
	for _, set := range []api.Vector{of(2), of(1, 1), {1}, of(most+1, 9)} {
		if v, ok := frontier.Ready(f, set); ok || v != of() {
			t.Errorf("Ready(%v): %v", set, v)
		}
	}
	got, e := frontier.Fold(f, of(2, 1))
	want := f
	want.Folded, want.By, want.Proposed = 5, of(2, 1), 0
	if e != api.OK || got != want || frontier.Check(got) != api.OK {
		t.Errorf("Fold: %v %d", got, e)
	}
	if registered(t, got, 3).Sites[3].Floor != 5 {
		t.Errorf("Register behind Fold")
	}
	for _, x := range []struct {
		f   api.Frontier
		set api.Vector
		e   api.Errno
	}{{f, api.Vector{1}, api.ErrArg}, {f, of(2), api.ErrNone}, {got, of(9, 9), api.ErrNone}, {got, of(most + 1), api.ErrArg}} {
		if got, e := frontier.Fold(x.f, x.set); e != x.e || got != (api.Frontier{}) {
			t.Errorf("Fold(%v): %d", x.set, e)
		}
	}
	if _, ok := frontier.Ready(got, of(9, 9)); ok || frontier.Waits(got, of()) != nil || frontier.Waits(short, api.Vector{1}) != nil {
		t.Errorf("nothing is proposed, but something is told")
	}
	// A site that had issued more than all have: each has to have it.
	more := heard(t, f, 1, 9, 3, of(3, 1))
	if _, ok := frontier.Ready(more, of(3, 1)); ok || !slices.Equal(frontier.Waits(more, of(3, 1)), []int{2}) {
		t.Errorf("Ready, though one has less: %v", frontier.Waits(more, of(3, 1)))
	}
}

// P18.7
func TestRiseSites(t *testing.T) {
	f, _ := frontier.Propose(registered(t, two(t), 7), logOf(t, 3, 5, 8), 1)
	f = heard(t, f, 2, 6, 1, of(2, 1))
	f.Folded = 0
	got, e := frontier.Rise(f)
	want := api.Frontier{}
	want.Sites[1].In, want.Sites[2].In, want.Sites[7].In = true, true, true
	if e != api.OK || got != want {
		t.Errorf("Rise: %v %d", got, e)
	}
	high := registered(t, api.Frontier{Folded: 4, By: of(3), Proposed: 9}, 5)
	if got, _ := frontier.Rise(high); got.Proposed != 0 || got.Folded != 4 || got.By != of(3) || got.Sites[5] != (api.Pledge{In: true, Floor: 4}) {
		t.Errorf("Rise: %v", got)
	}
	for _, x := range []struct{ sites, want []int }{{nil, []int{1, 2, 7}}, {[]int{7, 3, 1}, []int{7, 1}}, {[]int{2, 2}, []int{2, 2}}, {[]int{0, 9, -1, math.MaxInt, math.MinInt}, nil}} {
		if got := frontier.Sites(f, x.sites...); !slices.Equal(got, x.want) {
			t.Errorf("Sites(%v): %v", x.sites, got)
		}
	}
}

// P18.8
func TestFollows(t *testing.T) {
	r := rand.New(rand.NewSource(1))
	l := logOf(t, 1, 2, 3, 4, 5, 6, 7, 8, 9)
	for range 500 {
		f := registered(t, frontier.New(), []int{1, 2, 3}[:r.Intn(4)]...)
		if r.Intn(3) > 0 {
			f, _ = frontier.Propose(f, l, r.Intn(9))
		}
		type said struct {
			site int
			p    api.Pledge
		}
		var all []said
		for range r.Intn(8) {
			// What one promises later is promised with no fewer issued.
			floor := uint64(r.Intn(10))
			all = append(all, said{1 + r.Intn(3), api.Pledge{In: true, Floor: floor, FloorSeq: floor / 2, Has: of(uint64(r.Intn(5)), uint64(r.Intn(5)), uint64(r.Intn(5)))}})
		}
		one, other := f, f
		hear := func(f api.Frontier, s said) api.Frontier {
			if g, e := frontier.Hear(f, s.site, s.p); e == api.OK {
				return g
			}
			return f
		}
		for _, s := range all {
			one = hear(one, s)
		}
		for _, at := range r.Perm(len(all)) {
			other = hear(hear(other, all[at]), all[at])
		}
		if one != other {
			t.Fatalf("heard in another order, or twice: %v, %v", one, other)
		}
		set := of(uint64(r.Intn(6)), uint64(r.Intn(6)), uint64(r.Intn(6)))
		_, ready := frontier.Ready(one, set)
		if ready != (one.Proposed > 0 && len(frontier.Waits(one, set)) == 0) {
			t.Errorf("Ready %t, Waits %v", ready, frontier.Waits(one, set))
		}
		if folded, e := frontier.Fold(one, set); ready != (e == api.OK) || ready && folded.Folded <= one.Folded {
			t.Errorf("Fold: %d", e)
		}
	}
}
