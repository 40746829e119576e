package vector_test

import (
	"math"
	"math/rand"
	"slices"
	"testing"

	"gesso/api"
	"gesso/vector"
)

const most = uint64(api.MaxTime)

func id(time uint64, site int, seq uint64) api.Id { return api.Id{Time: time, Site: site, Seq: seq} }

// of has the numbers of the sites, from 1 on.
func of(n ...uint64) api.Vector {
	var v api.Vector
	copy(v[1:], n)
	return v
}

var (
	v   = of(2, 3)
	bad = []api.Vector{{1}, of(most + 1), of(0, 0, 0, 0, 0, 0, 0, most+1), of(math.MaxUint64), {math.MaxUint64}}
)

func random(r *rand.Rand) api.Vector {
	var v api.Vector
	for site := 1; site <= 8; site++ {
		v[site] = uint64(r.Intn(4))
	}
	return v
}

// P13.1
func TestCheck(t *testing.T) {
	for _, x := range []api.Vector{{}, v, of(most, 0, 0, 0, 0, 0, 0, most)} {
		if vector.Check(x) != api.OK {
			t.Errorf("Check(%v)", x)
		}
	}
	for _, x := range bad {
		if vector.Check(x) != api.ErrVector {
			t.Errorf("Check(%v)", x)
		}
	}
}

// P13.1
func TestHasNext(t *testing.T) {
	for _, x := range []struct {
		i         api.Id
		has, next bool
	}{
		{id(9, 1, 2), true, false}, {id(9, 1, 1), true, false}, {id(9, 1, 3), false, true}, {id(9, 1, 4), false, false}, {id(1, 2, 3), true, false}, {id(1, 2, 4), false, true},
		{id(1, 8, 1), false, true}, {id(1, 8, 2), false, false}, {id(0, 1, 2), false, false}, {id(9, 0, 1), false, false}, {id(9, 9, 1), false, false}, {id(9, -1, 1), false, false}, {id(9, 1, 0), false, false}, {id(0, 1, 3), false, false}, {id(9, math.MaxInt, 1), false, false},
	} {
		if vector.Has(v, x.i) != x.has || vector.Next(v, x.i) != x.next {
			t.Errorf("%v: Has %t, Next %t", x.i, vector.Has(v, x.i), vector.Next(v, x.i))
		}
	}
	full := of(most)
	if !vector.Has(full, id(1, 1, most)) || vector.Next(full, id(1, 1, most)) || vector.Next(full, id(1, 1, most+1)) {
		t.Errorf("the last id")
	}
	for _, x := range bad {
		if vector.Has(x, id(1, 1, 1)) || vector.Next(x, id(1, 2, 1)) {
			t.Errorf("of %v something is told", x)
		}
	}
}

// P13.2
func TestWith(t *testing.T) {
	for _, x := range []struct {
		ids  []api.Id
		want api.Vector
		e    api.Errno
	}{
		{nil, v, api.OK},
		{[]api.Id{id(9, 1, 3), id(9, 2, 4)}, of(3, 4), api.OK},
		{[]api.Id{id(9, 1, 3), id(9, 1, 4), id(1, 8, 1)}, of(4, 3, 0, 0, 0, 0, 0, 1), api.OK},
		{[]api.Id{id(9, 1, 4)}, api.Vector{}, api.ErrGap},
		{[]api.Id{id(9, 1, 2)}, api.Vector{}, api.ErrThere},
		{[]api.Id{id(9, 1, 3), id(9, 1, 3)}, api.Vector{}, api.ErrThere},
		{[]api.Id{id(9, 1, 4), id(0, 0, 0)}, api.Vector{}, api.ErrGap},
		{[]api.Id{id(9, 1, 3), id(0, 1, 4), id(9, 1, 1)}, api.Vector{}, api.ErrId},
		{[]api.Id{id(9, 9, 1)}, api.Vector{}, api.ErrId},
	} {
		if got, e := vector.With(v, x.ids...); got != x.want || e != x.e {
			t.Errorf("With(%v) = %v %d", x.ids, got, e)
		}
	}
	for _, x := range bad {
		if got, e := vector.With(x, id(0, 0, 0)); got != (api.Vector{}) || e != api.ErrVector {
			t.Errorf("With of %v: %d", x, e)
		}
	}
}

// P13.2
func TestOf(t *testing.T) {
	if got, e := vector.Of(id(7, 1, 2), id(3, 1, 1), id(5, 2, 1)); got != of(2, 1) || e != api.OK {
		t.Errorf("Of: %v %d", got, e)
	}
	if got, e := vector.Of(); got != (api.Vector{}) || e != api.OK {
		t.Errorf("Of none: %v %d", got, e)
	}
	for _, x := range []struct {
		ids []api.Id
		e   api.Errno
	}{
		{[]api.Id{id(7, 1, 2)}, api.ErrGap}, {[]api.Id{id(7, 1, 1), id(3, 1, 2)}, api.ErrGap}, {[]api.Id{id(7, 1, 1), id(7, 1, 1)}, api.ErrThere},
		{[]api.Id{id(7, 1, 9), id(0, 1, 1)}, api.ErrId}, {[]api.Id{id(most+1, 1, 1), id(3, 1, 5)}, api.ErrGap},
	} {
		if got, e := vector.Of(x.ids...); got != (api.Vector{}) || e != x.e {
			t.Errorf("Of(%v) = %v %d", x.ids, got, e)
		}
	}
}

// P13.3, P13.5
func TestJoinMeet(t *testing.T) {
	join, e := vector.Join(v, of(5))
	meet, f := vector.Meet(v, of(5))
	if e != api.OK || f != api.OK || join != of(5, 3) || meet != of(2) {
		t.Errorf("Join %v, Meet %v", join, meet)
	}
	r := rand.New(rand.NewSource(1))
	for range 200 {
		l := []api.Vector{random(r), random(r), random(r)}[:1+r.Intn(3)]
		join, e := vector.Join(l[0], l[1:]...)
		meet, f := vector.Meet(l[0], l[1:]...)
		if e != api.OK || f != api.OK {
			t.Fatalf("Join %d, Meet %d", e, f)
		}
		for site := range join {
			high, low := l[0][site], l[0][site]
			for _, x := range l {
				high, low = max(high, x[site]), min(low, x[site])
			}
			if join[site] != high || meet[site] != low {
				t.Errorf("Join, Meet of %v: %v, %v", l, join, meet)
			}
		}
		for _, x := range l {
			if !vector.Covers(join, x) || !vector.Covers(x, meet) {
				t.Errorf("Join does not cover, or Meet is not covered")
			}
		}
	}
	for _, x := range bad {
		for _, do := range []func(api.Vector, ...api.Vector) (api.Vector, api.Errno){vector.Join, vector.Meet} {
			a, e := do(x, v)
			b, f := do(v, v, x)
			if e != api.ErrVector || f != api.ErrVector || a != b || a != (api.Vector{}) {
				t.Errorf("of %v: %d %d", x, e, f)
			}
		}
	}
}

// P13.4
func TestCovers(t *testing.T) {
	if !vector.Covers(v, of(0, 1)) || !vector.Covers(v, v) || vector.Covers(v, of(0, 4)) || vector.Covers(v, of(0, 0, 0, 0, 0, 0, 0, 1)) || vector.Covers(of(9), v) || !vector.Covers(v, of()) {
		t.Errorf("Covers")
	}
	b := of(5, 3, 0, 0, 0, 0, 0, 1)
	if got := vector.Lacks(v, b); !slices.Equal(got, []api.Stretch{{Site: 1, From: 3, To: 5}, {Site: 8, From: 1, To: 1}}) || vector.Many(v, b) != 4 {
		t.Errorf("Lacks: %v", got)
	}
	if vector.Lacks(v, v) != nil || vector.Many(v, v) != 0 || vector.Lacks(v, of(1, 1)) != nil {
		t.Errorf("Lacks of what is covered")
	}
	all := of(most, most, most, most, most, most, most, most)
	for _, x := range []struct {
		b    api.Vector
		want uint64
	}{{all, most}, {of(most), most}, {of(most, 1), most}, {of(most-1, 1), most}, {of(most-1, 0, 2), most}, {of(most-2, 1), most - 1}} {
		if got := vector.Many(of(), x.b); got != x.want {
			t.Errorf("Many of %v: %d", x.b, got)
		}
	}
	for _, x := range bad {
		if vector.Covers(x, of()) || vector.Covers(all, x) || vector.Lacks(of(), x) != nil || vector.Lacks(x, all) != nil || vector.Many(of(), x) != 0 || vector.Many(x, all) != 0 {
			t.Errorf("of %v something is told", x)
		}
	}
}

// P13.5
func TestFollows(t *testing.T) {
	r := rand.New(rand.NewSource(2))
	for range 300 {
		a, b := random(r), random(r)
		lacks := vector.Lacks(a, b)
		if vector.Covers(a, b) != (len(lacks) == 0) || (vector.Covers(a, b) && vector.Covers(b, a)) != (a == b) {
			t.Errorf("Covers(%v, %v)", a, b)
		}
		var ids []api.Id
		for _, s := range lacks {
			for seq := s.From; seq <= s.To; seq++ {
				ids = append(ids, id(9, s.Site, seq))
			}
		}
		if got, e := vector.With(a, ids...); e != api.OK || !vector.Covers(got, b) || uint64(len(ids)) != vector.Many(a, b) {
			t.Errorf("with what it lacks: %v %d", got, e)
		}
	}
}
