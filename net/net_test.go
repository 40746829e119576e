package net_test

import (
	"bytes"
	"math"
	"math/rand"
	"slices"
	"testing"

	"gesso/api"
	"gesso/crc"
	"gesso/net"
)

const most = uint64(api.MaxTime)

func parcel(to int, b ...byte) api.Parcel { return api.Parcel{To: to, Bytes: b} }

func same(a, b api.Parcel) bool {
	return a.To == b.To && a.Spoilt == b.Spoilt && bytes.Equal(a.Bytes, b.Bytes)
}

func sent(t *testing.T, l ...api.Parcel) api.Net {
	t.Helper()
	n, e := net.Send(net.New(), l...)
	if e != api.OK {
		t.Fatalf("Send: %d", e)
	}
	return n
}

func example(t *testing.T) api.Net { return sent(t, parcel(0, 1, 2), parcel(4, 3)) }

func full(t *testing.T) api.Net { return sent(t, slices.Repeat([]api.Parcel{parcel(1, 7)}, 64)...) }

func bad() map[string]api.Net {
	return map[string]api.Net{
		"too many": {Parcels: make([]api.Parcel, 65)}, "to 9": {Parcels: []api.Parcel{{}, {To: 9}}}, "to -1": {Parcels: []api.Parcel{{To: -1}}}, "too long": {Parcels: []api.Parcel{{Bytes: make([]byte, 8193)}}}, "lost": {Lost: most + 1},
	}
}

// P25.1
func TestCheckSame(t *testing.T) {
	if n := net.New(); !net.Same(n, api.Net{}) || net.Check(n) != api.OK {
		t.Errorf("New")
	}
	good := api.Net{Parcels: append(make([]api.Parcel, 62), api.Parcel{To: 8, Bytes: make([]byte, 8192)}, api.Parcel{Spoilt: true}), Lost: most}
	if net.Check(good) != api.OK {
		t.Errorf("Check of a good one")
	}
	for name, n := range bad() {
		if net.Check(n) != api.ErrNet || !net.Same(n, bad()[name]) {
			t.Errorf("Check of %s", name)
		}
		a, e := net.Send(n, api.Parcel{To: 99})
		b, p, f := net.Do(n, api.Trick{})
		c, l, m, g := net.Run(n, api.Trick{})
		d, k, h := net.Empty(n)
		_, ok := net.First(n, 0)
		if e != api.ErrNet || f != api.ErrNet || g != api.ErrNet || h != api.ErrNet || ok || m != 0 || l != nil || k != nil || !same(p, api.Parcel{}) || !net.Same(a, b) || !net.Same(c, d) || !net.Same(a, api.Net{}) || !net.Same(c, a) {
			t.Errorf("of %s: %d %d %d %d", name, e, f, g, h)
		}
	}
	for name, f := range map[string]func(n *api.Net){
		"lost": func(n *api.Net) { n.Lost++ }, "to": func(n *api.Net) { n.Parcels[1].To++ }, "bytes": func(n *api.Net) { n.Parcels[0].Bytes[1]++ }, "spoilt": func(n *api.Net) { n.Parcels[0].Spoilt = true }, "one less": func(n *api.Net) { n.Parcels = n.Parcels[:1] },
	} {
		n := example(t)
		if f(&n); net.Same(n, example(t)) || net.Same(example(t), n) {
			t.Errorf("Same with another %s", name)
		}
	}
}

// P25.2
func TestSend(t *testing.T) {
	n, e := net.Send(example(t), parcel(8), parcel(0, make([]byte, 8192)...))
	if e != api.OK || len(n.Parcels) != 4 || n.Lost != 0 || !same(n.Parcels[0], parcel(0, 1, 2)) || n.Parcels[2].To != 8 || len(n.Parcels[3].Bytes) != 8192 {
		t.Errorf("Send: %d", e)
	}
	for _, p := range []api.Parcel{{To: 9}, {To: -1}, {Bytes: make([]byte, 8193)}, {Spoilt: true}, {To: math.MaxInt}} {
		if got, e := net.Send(n, parcel(1), p); e != api.ErrArg || !net.Same(got, api.Net{}) {
			t.Errorf("Send of what may not be: %d", e)
		}
	}
	f := full(t)
	got, e := net.Send(f, parcel(1), parcel(2))
	if e != api.OK || len(got.Parcels) != 64 || got.Lost != 2 || f.Lost != 0 {
		t.Errorf("Send without room: %d %d", got.Lost, e)
	}
	got.Lost = most - 1
	if got, _ := net.Send(got, parcel(1), parcel(2)); got.Lost != most {
		t.Errorf("Lost at MaxTime: %d", got.Lost)
	}
	got, _ = net.Send(sent(t, slices.Repeat([]api.Parcel{parcel(1)}, 63)...), parcel(2, 1), parcel(3))
	if len(got.Parcels) != 64 || got.Parcels[63].To != 2 || got.Lost != 1 {
		t.Errorf("Send with room for one")
	}
}

// P25.3
func TestDo(t *testing.T) {
	n := example(t)
	spoilt, p, e := net.Do(n, api.Trick{Kind: api.TrSpoil, Bit: 0, Mask: 1})
	if e != api.OK || !same(p, api.Parcel{}) || !same(spoilt.Parcels[0], api.Parcel{Bytes: []byte{0, 2}, Spoilt: true}) || !same(n.Parcels[0], parcel(0, 1, 2)) {
		t.Errorf("TrSpoil: %v %d", spoilt.Parcels, e)
	}
	if _, _, e := net.Do(spoilt, api.Trick{Kind: api.TrSpoil, Bit: 0, Mask: 1}); e != api.ErrThere {
		t.Errorf("TrSpoil once more: %d", e)
	}
	if _, _, e := net.Do(spoilt, api.Trick{Kind: api.TrSpoil, Bit: -1, Mask: 1}); e != api.ErrThere {
		t.Errorf("TrSpoil of a spoilt one, wrongly: %d", e)
	}
	three, p, e := net.Do(spoilt, api.Trick{Kind: api.TrTwice})
	if e != api.OK || !same(p, api.Parcel{}) || len(three.Parcels) != 3 || !same(three.Parcels[2], spoilt.Parcels[0]) || !same(three.Parcels[1], parcel(4, 3)) {
		t.Errorf("TrTwice: %d", e)
	}
	two, p, e := net.Do(three, api.Trick{Kind: api.TrTake, At: 2})
	if e != api.OK || !same(p, api.Parcel{Bytes: []byte{0, 2}, Spoilt: true}) || !net.Same(two, spoilt) {
		t.Errorf("TrTake: %v %d", p, e)
	}
	one, p, e := net.Do(two, api.Trick{Kind: api.TrDrop})
	if e != api.OK || !same(p, api.Parcel{}) || len(one.Parcels) != 1 || one.Parcels[0].To != 4 || one.Lost != 0 {
		t.Errorf("TrDrop: %d", e)
	}
	for _, x := range []struct {
		t api.Trick
		e api.Errno
	}{
		{api.Trick{Kind: api.TrDrop, At: 9}, api.ErrNone}, {api.Trick{Kind: api.TrTake, At: 2}, api.ErrNone}, {api.Trick{Kind: api.TrTwice, At: -1}, api.ErrNone}, {api.Trick{Kind: api.TrSpoil, At: 2}, api.ErrNone}, {api.Trick{Kind: 5, At: 9}, api.ErrArg}, {api.Trick{}, api.ErrArg}, {api.Trick{Kind: -1}, api.ErrArg},
		{api.Trick{Kind: api.TrSpoil, Bit: 16, Mask: 1}, api.ErrArg}, {api.Trick{Kind: api.TrSpoil, Bit: 0}, api.ErrArg}, {api.Trick{Kind: api.TrTake, At: math.MinInt}, api.ErrNone},
	} {
		if got, p, e := net.Do(n, x.t); e != x.e || !net.Same(got, api.Net{}) || !same(p, api.Parcel{}) {
			t.Errorf("Do(%v): %d", x.t, e)
		}
	}
	f := full(t)
	if got, _, e := net.Do(f, api.Trick{Kind: api.TrTwice, At: 3}); e != api.OK || len(got.Parcels) != 64 || got.Lost != 1 {
		t.Errorf("TrTwice without room: %d %d", got.Lost, e)
	}
	if got, _, _ := net.Do(n, api.Trick{Kind: api.TrTake, At: 0}); !same(got.Parcels[0], parcel(4, 3)) || len(n.Parcels) != 2 || n.Parcels[0].To != 0 {
		t.Errorf("TrTake changes what it was handed")
	}
}

// P25.4
func TestRun(t *testing.T) {
	n, l, passed, e := net.Run(example(t), api.Trick{Kind: api.TrTwice}, api.Trick{Kind: 9}, api.Trick{Kind: api.TrTake, At: 1}, api.Trick{Kind: api.TrTake, At: 5}, api.Trick{Kind: api.TrTake, At: 0}, api.Trick{Kind: api.TrSpoil, Bit: 0, Mask: 1}, api.Trick{Kind: api.TrSpoil, Bit: 0, Mask: 1})
	if e != api.OK || passed != 3 || len(l) != 2 || !same(l[0], parcel(4, 3)) || !same(l[1], parcel(0, 1, 2)) || len(n.Parcels) != 1 || !n.Parcels[0].Spoilt {
		t.Errorf("Run: %v %d %d", l, passed, e)
	}
	if got, l, passed, e := net.Run(n); e != api.OK || passed != 0 || len(l) != 0 || !net.Same(got, n) {
		t.Errorf("Run of none: %d", e)
	}
	if _, l, _, _ := net.Run(example(t), api.Trick{Kind: api.TrDrop}, api.Trick{Kind: api.TrTwice}); len(l) != 0 {
		t.Errorf("what does not arrive is told: %v", l)
	}
	if _, l, _, _ := net.Run(sent(t, api.Parcel{}), api.Trick{Kind: api.TrTake}); len(l) != 1 {
		t.Errorf("an empty parcel to the server is not told")
	}
}

// P25.5
func TestFirstEmpty(t *testing.T) {
	n := sent(t, parcel(0, 1), parcel(4, 3), parcel(0, 2), parcel(4, 5))
	for to, want := range map[int]int{0: 0, 4: 1} {
		if at, ok := net.First(n, to); !ok || at != want {
			t.Errorf("First(%d): %d %t", to, at, ok)
		}
	}
	for _, to := range []int{1, 9, -1} {
		if at, ok := net.First(n, to); ok || at != 0 {
			t.Errorf("First(%d): %d", to, at)
		}
	}
	n.Lost = 5
	got, l, e := net.Empty(n)
	if e != api.OK || !net.Same(got, api.Net{Lost: 5}) || !slices.EqualFunc(l, n.Parcels, same) {
		t.Errorf("Empty: %d", e)
	}
	if l[0].Bytes[0] = 9; n.Parcels[0].Bytes[0] != 1 {
		t.Errorf("Empty shares memory")
	}
}

// What is answered is new memory.
func TestMemory(t *testing.T) {
	p := parcel(1, 5)
	n := sent(t, p)
	more, _ := net.Send(n, p)
	_, took, _ := net.Do(n, api.Trick{Kind: api.TrTake})
	two, _, _ := net.Do(n, api.Trick{Kind: api.TrTwice})
	took.Bytes[0], more.Parcels[0].Bytes[0], more.Parcels[1].Bytes[0], two.Parcels[0].Bytes[0] = 7, 7, 7, 7
	if p.Bytes[0] != 5 || n.Parcels[0].Bytes[0] != 5 || two.Parcels[1].Bytes[0] != 5 {
		t.Errorf("memory is shared")
	}
}

// P25.6
func TestFollows(t *testing.T) {
	r := rand.New(rand.NewSource(1))
	for range 60 {
		n := net.New()
		sentMany, twice, dropped, arrived := 0, 0, 0, 0
		for range 200 {
			if r.Intn(2) == 0 {
				n, _ = net.Send(n, parcel(r.Intn(9), crc.Seal([]byte{byte(r.Intn(256)), 9})...))
				sentMany++
				continue
			}
			trick := api.Trick{Kind: 1 + r.Intn(4), At: r.Intn(20), Bit: r.Intn(48), Mask: r.Uint32()}
			next, p, e := net.Do(n, trick)
			if e != api.OK {
				continue
			}
			n = next
			switch trick.Kind {
			case api.TrTake:
				arrived++
				if _, e := crc.Open(p.Bytes); (e == api.OK) == p.Spoilt {
					t.Fatalf("Spoilt %t, Open %d", p.Spoilt, e)
				}
			case api.TrDrop:
				dropped++
			case api.TrTwice:
				twice++
			}
			if net.Check(n) != api.OK || len(n.Parcels)+arrived+int(n.Lost) != sentMany+twice-dropped {
				t.Fatalf("%d under way, %d arrived, %d lost, of %d", len(n.Parcels), arrived, n.Lost, sentMany)
			}
		}
	}
}
