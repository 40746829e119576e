package script_test

import (
	"fmt"
	"math"
	"math/rand"
	"slices"
	"strings"
	"testing"

	"gesso/api"
	"gesso/crc"
	"gesso/ident"
	"gesso/op"
	"gesso/oplog"
	"gesso/runs"
	"gesso/script"
	"gesso/world"
)

var red = api.Color{R: 255, A: 255}

func lines(l ...string) string { return strings.Join(l, "\n") + "\n" }

func command(site int, o api.Op) api.Event {
	return api.Event{Kind: api.EvCommand, Site: site, Op: o}
}

func trick(kind, at, bit int, mask uint32) api.Event {
	return api.Event{Kind: api.EvTrick, Trick: api.Trick{Kind: kind, At: at, Bit: bit, Mask: mask}}
}

func of(l ...api.Event) api.Script {
	return api.Script{Wide: 2, High: 1, Sites: 3, Events: l}
}

// good is events that may be, and their lines.
func good() ([]api.Event, []string) {
	picture := api.Stamp{Wide: 2, High: 1, Pixels: []api.Color{red, {R: 1, G: 2, B: 3, A: 10}}}
	return []api.Event{
		{Kind: api.EvJoin, Site: 3}, {Kind: api.EvTick}, {Kind: api.EvTick, Site: 3}, {Kind: api.EvTake}, {Kind: api.EvTake, N: 9999},
		trick(api.TrDrop, 7, 0, 0), trick(api.TrTwice, 0, 0, 0), trick(api.TrSpoil, 1, 9999, math.MaxUint32), trick(api.TrSpoil, 0, 0, 0),
		{Kind: api.EvSettle, N: 4}, {Kind: api.EvArm, N: 10}, {Kind: api.EvRise}, {Kind: api.EvFall, N: 1, M: 9999},
		command(1, api.Op{Kind: api.OpBrush, X: -64, Y: 127, X2: 0, Y2: 10, Size: 15, Color: red}),
		command(2, api.Op{Kind: api.OpSquare, X: 1, Y: -1, X2: 2, Y2: -10, Color: api.Color{R: 0xab}}),
		command(3, api.Op{Kind: api.OpRect, X: 1, Y: 2, X2: 3, Y2: 4, Color: red}),
		command(3, api.Op{Kind: api.OpWash, Color: red}),
		command(1, api.Op{Kind: api.OpFill, X: 5, Y: 6, Size: 1020, Color: red}),
		command(1, api.Op{Kind: api.OpStamp, X: -5, Y: 6, Stamp: picture}),
		command(1, api.Op{Kind: api.OpUndo, Target: api.Id{Time: 7, Site: 8, Seq: 9}}),
		command(2, api.Op{Kind: api.OpRedo, Target: api.Id{Time: api.MaxTime, Site: 1, Seq: api.MaxTime}}),
	}, []string{
		"join 3", "tick 0", "tick 3", "take 0", "take 9999",
		"drop 7", "twice 0", "spoil 1 9999 4294967295", "spoil 0 0 0",
		"settle 4", "arm 10", "rise 0", "fall 1 9999",
		"brush 1 -64 127 0 10 15 ff0000ff",
		"square 2 1 -1 2 -10 0 ab000000",
		"rect 3 1 2 3 4 ff0000ff",
		"wash 3 0 0 0 0 ff0000ff",
		"fill 1 5 6 1020 ff0000ff",
		"stamp 1 -5 6 2 ff0000ff 0102030a",
		"undo 1 7.8.9",
		"redo 2 4611686018427387904.1.4611686018427387904",
	}
}

// P31.1
func TestCheck(t *testing.T) {
	events, _ := good()
	if script.Check(of(events...)) != api.OK || script.Check(of()) != api.OK || script.Check(api.Script{Wide: 4, High: 4, Sites: 8, Events: slices.Repeat(events[:1], 400)}) != api.OK {
		t.Errorf("Check of good ones")
	}
	for name, s := range map[string]api.Script{
		"nothing": {}, "wide": {Wide: 5, High: 1, Sites: 1}, "high": {Wide: 1, High: 0, Sites: 1}, "no sites": {Wide: 1, High: 1}, "nine sites": {Wide: 1, High: 1, Sites: 9}, "sites below": {Wide: 1, High: 1, Sites: -1}, "too many": of(slices.Repeat(events[:1], 401)...),
	} {
		if script.Check(s) != api.ErrScript {
			t.Errorf("Check of %s", name)
		}
	}
	o := api.Op{Kind: api.OpRect, Color: red}
	given := o
	given.Id = api.Id{Time: 1, Site: 1, Seq: 1}
	for name, x := range map[string]api.Event{
		"kind 0": {}, "kind 10": {Kind: 10}, "kind -1": {Kind: -1}, "join of 0": {Kind: api.EvJoin}, "join of 4": {Kind: api.EvJoin, Site: 4}, "command of 0": command(0, o), "command of 4": command(4, o), "tick of 4": {Kind: api.EvTick, Site: 4}, "tick of -1": {Kind: api.EvTick, Site: -1},
		"take of more": {Kind: api.EvTake, N: 10000}, "take of -1": {Kind: api.EvTake, N: -1}, "settle": {Kind: api.EvSettle, N: 10000}, "arm": {Kind: api.EvArm, N: -1}, "rise": {Kind: api.EvRise, N: math.MaxInt}, "fall N": {Kind: api.EvFall, N: 10000}, "fall M": {Kind: api.EvFall, M: 10000}, "fall M below": {Kind: api.EvFall, M: -1},
		"trick take": trick(api.TrTake, 0, 0, 0), "trick 0": trick(0, 0, 0, 0), "trick 5": trick(5, 0, 0, 0), "drop at": trick(api.TrDrop, 10000, 0, 0), "drop at -1": trick(api.TrDrop, -1, 0, 0), "drop, a bit": trick(api.TrDrop, 0, 1, 0), "twice, a mask": trick(api.TrTwice, 0, 0, 1), "spoil, bit": trick(api.TrSpoil, 0, 10000, 1), "spoil, bit below": trick(api.TrSpoil, 0, -1, 1),
		"join, N": {Kind: api.EvJoin, Site: 1, N: 1}, "join, M": {Kind: api.EvJoin, Site: 1, M: 1}, "join, an op": {Kind: api.EvJoin, Site: 1, Op: api.Op{Size: 1}}, "join, a trick": {Kind: api.EvJoin, Site: 1, Trick: api.Trick{At: 1}}, "take, a site": {Kind: api.EvTake, Site: 1}, "take, M": {Kind: api.EvTake, M: 1}, "tick, N": {Kind: api.EvTick, N: 1}, "a trick, a site": {Kind: api.EvTrick, Site: 1, Trick: api.Trick{Kind: api.TrDrop}}, "a trick, N": {Kind: api.EvTrick, N: 1, Trick: api.Trick{Kind: api.TrDrop}}, "a fall, a site": {Kind: api.EvFall, Site: 1},
		"an id": command(1, given), "no op": command(1, api.Op{}), "an op that may not be": command(1, api.Op{Kind: api.OpRect, X: 128}), "no target": command(1, api.Op{Kind: api.OpUndo}), "command, N": {Kind: api.EvCommand, Site: 1, Op: o, N: 1},
		"its own target": command(1, api.Op{Kind: api.OpUndo, Target: api.Id{Time: api.MaxTime, Site: 1, Seq: api.MaxTime}}),
	} {
		s := of(append(events[:3:3], x)...)
		if script.Check(s) != api.ErrScript {
			t.Errorf("Check of %s", name)
		}
		text, e := script.Print(s)
		played, f := script.Play(s)
		joined, g := script.Joined(of(events...), x)
		if e != api.ErrScript || f != api.ErrScript || g != api.ErrScript || text != "" || played != "" || !script.Same(joined, api.Script{}) {
			t.Errorf("of %s: %d %d %d", name, e, f, g)
		}
	}
}

// P31.1, P31.2, P31.5
func TestPrintParse(t *testing.T) {
	events, texts := good()
	for i, x := range events {
		want := lines("easel 2 1 3", texts[i])
		got, e := script.Print(of(x))
		if e != api.OK || got != want {
			t.Errorf("Print: %q, not %q, %d", got, want, e)
		}
		if s, at, e := script.Parse(want); e != api.OK || at != 0 || !script.Same(s, of(x)) {
			t.Errorf("Parse(%q): %v %d %d", want, s, at, e)
		}
	}
	all, _ := script.Print(of(events...))
	if all != lines(append([]string{"easel 2 1 3"}, texts...)...) {
		t.Errorf("Print of all: %q", all)
	}
	if s, at, e := script.Parse(all); e != api.OK || at != 0 || !script.Same(s, of(events...)) {
		t.Errorf("Parse of all: %d %d", at, e)
	}
	if s, at, e := script.Parse("easel 1 4 8\n"); e != api.OK || at != 0 || !script.Same(s, api.Script{Wide: 1, High: 4, Sites: 8}) {
		t.Errorf("Parse of no event: %d %d", at, e)
	}
	big := command(1, api.Op{Kind: api.OpStamp, Stamp: api.Stamp{Wide: 8, High: 8, Pixels: make([]api.Color, 64)}})
	long := of(slices.Repeat([]api.Event{big}, 200)...)
	if got, e := script.Print(long); e != api.ErrLong || got != "" {
		t.Errorf("Print of too long a one: %d", e)
	}
	if _, e := script.Play(long); e != api.OK {
		t.Errorf("Play of too long a one: %d", e)
	}
	one, _ := script.Print(of(big))
	per := len(one) - len("easel 2 1 3\n")
	many := (api.MaxText - len("easel 2 1 3\n")) / per
	fits := of(slices.Repeat([]api.Event{big}, many)...)
	left := api.MaxText - len("easel 2 1 3\n") - many*per
	for left >= 7 && len(fits.Events) < 400 {
		fits.Events, left = append(fits.Events, api.Event{Kind: api.EvTick}), left-7
	}
	text, e := script.Print(fits)
	if s, at, f := script.Parse(text); e != api.OK || f != api.OK || at != 0 || !script.Same(s, fits) || len(text) > api.MaxText {
		t.Errorf("Print, Parse of the longest: %d %d", e, f)
	}
	for i := len(fits.Events) - 1; left > 0; i-- { // take 0 has as many bytes as tick 0, take 1000 three more
		more := min(left, 3)
		fits.Events[i], left = api.Event{Kind: api.EvTake, N: []int{0, 10, 100, 1000}[more]}, left-more
	}
	if text, e := script.Print(fits); e != api.OK || len(text) != api.MaxText {
		t.Errorf("Print of just as many bytes: %d %d", len(text), e)
	}
	fits.Events[0].Op.X = 100
	if text, e := script.Print(fits); e != api.ErrLong || text != "" {
		t.Errorf("Print of a few bytes more: %d %d", len(text), e)
	}
	if s, at, e := script.Parse(strings.Repeat("x", api.MaxText+1)); e != api.ErrLong || at != 0 || !script.Same(s, api.Script{}) {
		t.Errorf("Parse of too long a text: %d %d", at, e)
	}
	if _, at, e := script.Parse(strings.Repeat("x", api.MaxText)); e != api.ErrScript || at != 0 {
		t.Errorf("Parse of as long a text as may be: %d %d", at, e)
	}
}

// P31.1
func TestSame(t *testing.T) {
	events, _ := good()
	a := of(events...)
	for name, f := range map[string]func(s *api.Script){
		"Wide": func(s *api.Script) { s.Wide++ }, "High": func(s *api.Script) { s.High++ }, "Sites": func(s *api.Script) { s.Sites++ }, "one less": func(s *api.Script) { s.Events = s.Events[1:] }, "Kind": func(s *api.Script) { s.Events[0].Kind++ }, "Site": func(s *api.Script) { s.Events[0].Site++ }, "N": func(s *api.Script) { s.Events[3].N++ }, "M": func(s *api.Script) { s.Events[12].M++ },
		"Op": func(s *api.Script) { s.Events[13].Op.X++ }, "Stamp": func(s *api.Script) { s.Events[18].Op.Stamp.Pixels[1].R++ }, "Trick": func(s *api.Script) { s.Events[7].Trick.Mask-- },
	} {
		other, _ := good()
		b := of(other...)
		if f(&b); script.Same(a, b) || script.Same(b, a) {
			t.Errorf("Same with another %s", name)
		}
	}
	if other, _ := good(); !script.Same(a, of(other...)) || !script.Same(api.Script{}, api.Script{Events: []api.Event{}}) {
		t.Errorf("Same of the same")
	}
}

// P31.2
func TestParseWrong(t *testing.T) {
	head := "easel 2 1 3\n"
	for _, x := range []string{"", "\n", "easel 1 1 1", "easel 5 1 1\n", "easel 1 0 1\n", "easel 1 1 9\n", "easel 1 1 0\n", "easel 1 1\n", "easel 1 1 1 1\n", "easel  1 1 1\n", " easel 1 1 1\n", "easel 1 1 1 \n", "easel 01 1 1\n", "easel 1 1 -1\n", "Easel 1 1 1\n", "tick 0\n", "easel 1 1 1\r\n", "easel +1 1 1\n", "easel 1 1 ١\n", "easel\t1 1 1\n", "x", "easel 1 1 1.0\n", "easel 4294967297 1 1\n", "easel 99999999999999999999 1 1\n", "easel 18446744073709551617 1 1\n"} {
		for _, more := range []string{"", "tick 0\n", "tick 0", "nonsense"} {
			if x == "" && more != "" || more != "" && !strings.HasSuffix(x, "\n") {
				continue
			}
			if s, at, e := script.Parse(x + more); e != api.ErrScript || at != 0 || !script.Same(s, api.Script{}) {
				t.Errorf("Parse(%q): %d %d", x+more, at, e)
			}
		}
	}
	for _, x := range []string{
		"\n", "tick 0", "tick 01\n", "tick 4\n", "tick -0\n", "tick -1\n", "tick\n", "tick 0 0\n", "tick  0\n", "tick 0 \n", " tick 0\n", "Tick 0\n", "tick 0\r\n", "tick 0x\n", "tick \n", "tick 1e0\n", "join 0\n", "join 4\n", "take 10000\n", "take -1\n", "take 00\n", "take\n", "drop 10000\n", "drop 1 0\n", "twice 1 0 0\n", "spoil 1 1\n", "spoil 1 1 4294967296\n", "spoil 1 1 -1\n", "spoil 1 1 01\n", "spoil 10000 1 1\n", "spoil 1 10000 1\n",
		"settle 10000\n", "arm -1\n", "rise\n", "rise 99999999999999999999999\n", "fall 1\n", "fall 1 10000\n", "fall 1 1 1\n", "undo 1 0.1.1\n", "undo 1 1.1\n", "undo 1\n", "undo 4 1.1.1\n", "undo 0 1.1.1\n", "redo 1 01.1.1\n", "undo 1 4611686018427387904.1.4611686018427387904\n",
		"brush 1 0 0 0 0 0\n", "brush 1 0 0 0 0 16 ff0000ff\n", "brush 1 0 0 0 0 0 FF0000FF\n", "brush 1 0 0 0 0 0 ff0000f\n", "brush 1 128 0 0 0 0 ff0000ff\n", "brush 1 -65 0 0 0 0 ff0000ff\n", "brush 1 -0 0 0 0 0 ff0000ff\n", "brush 1 -01 0 0 0 0 ff0000ff\n", "brush 1 --1 0 0 0 0 ff0000ff\n", "rect 1 0 0 0 0 0 ff0000ff\n", "rect 1 0 0 0 ff0000ff\n", "wash 4 0 0 0 0 ff0000ff\n", "fill 1 0 0 1021 ff0000ff\n", "fill 1 0 0 -1 ff0000ff\n",
		"stamp 1 0 0 2 ff0000ff\n", "stamp 1 0 0 2\n", "stamp 1 0 0 0 ff0000ff\n", "stamp 1 0 0 -1 ff0000ff\n", "stamp 1 0 0 1 ff0000ff \n", "stamp 1 0 0 9 " + strings.Repeat("ff0000ff ", 8) + "ff0000ff\n", "stamp 1 0 0 1 " + strings.Repeat("ff0000ff ", 8) + "ff0000ff\n", "stamp 1 0 0 4294967297 ff0000ff\n", "easel 1 1 1\n", "paint 1\n", "cut\n", "\xff 0\n",
	} {
		for _, front := range []string{"", "join 1\n", "tick 0\ntake 3\n"} {
			for _, more := range []string{"", "tick 0\n", "nonsense"} {
				text := head + front + x + more
				if !strings.HasSuffix(x, "\n") && more != "" {
					continue
				}
				if s, at, e := script.Parse(text); e != api.ErrScript || at != len(head)+len(front) || !script.Same(s, api.Script{}) {
					t.Errorf("Parse(%q): %d %d", text, at, e)
				}
				if out, at, e := script.Run(text); e != api.ErrScript || at != len(head)+len(front) || out != "" {
					t.Errorf("Run(%q): %d %d", text, at, e)
				}
			}
		}
	}
	full := head + strings.Repeat("tick 0\n", 400)
	if s, _, e := script.Parse(full); e != api.OK || len(s.Events) != 400 {
		t.Errorf("Parse of 400 events: %d", e)
	}
	for _, more := range []string{"tick 0\n", "tick 0", "nonsense\n"} {
		if _, at, e := script.Parse(full + more); e != api.ErrScript || at != len(full) {
			t.Errorf("Parse of 401 events: %d %d", at, e)
		}
	}
}

// transcript is what has to be told of a world, and of what its events came to.
func transcript(w *world.World, outs []api.Outcome) string {
	var b strings.Builder
	for _, o := range outs {
		fmt.Fprintf(&b, "%d", o.Err)
		if o.Id != (api.Id{}) {
			fmt.Fprintf(&b, " %s", ident.Text(o.Id))
		}
		b.WriteString("\n")
	}
	vector := func(l api.Log) string {
		v := oplog.Vector(l)
		return strings.ReplaceAll(strings.Trim(fmt.Sprint(v[1:]), "[]"), " ", ",")
	}
	sum := func(c api.Canvas, ok bool) string {
		if !ok {
			return "none"
		}
		r, _ := runs.Canvas(c)
		return fmt.Sprint(crc.Sum(r))
	}
	for site := 1; site <= w.Sites(); site++ {
		s := w.Seat(site)
		fmt.Fprintf(&b, "site %d %d %d %s %s\n", site, s.Phase, s.Log.Folded, vector(s.Log), sum(w.Shows(site)))
	}
	if k := w.Kept(); w.Up() {
		fmt.Fprintf(&b, "server %d %d %s %s\n", k.Epoch, k.Log.Folded, vector(k.Log), sum(w.Serves()))
	} else {
		b.WriteString("server down\n")
	}
	fmt.Fprintf(&b, "net %d %d\n", len(w.Net().Parcels), w.Net().Lost)
	return b.String()
}

// P31.3
func TestPlay(t *testing.T) {
	got, at, e := script.Run("easel 1 1 1\njoin 1\njoin 1\n")
	want := fmt.Sprintf("0\n5\nsite 1 1 0 0,0,0,0,0,0,0,0 none\nserver 1 0 0,0,0,0,0,0,0,0 %d\nnet 0 0\n", crc.Sum([]byte{1, 1, 0}))
	if e != api.OK || at != 0 || got != want {
		t.Errorf("Run: %q, not %q", got, want)
	}
	text := lines("easel 1 1 2", "join 1", "join 2", "tick 1", "tick 2", "take 0", "take 0", "tick 0", "take 0", "take 0", "take 0", "take 0", "rect 1 0 0 3 0 ff0000ff", "tick 1", "take 0", "take 0", "tick 0", "fall 0 0", "tick 0")
	got, _, e = script.Run(text)
	if e != api.OK || !strings.Contains(got, "0 1.1.1\n") || !strings.Contains(got, "\n321\nsite 1 2 0 1,0,0,0,0,0,0,0 ") || !strings.HasSuffix(got, "server down\nnet 3 0\n") {
		t.Errorf("Run: %q %d", got, e)
	}
	if got, at, e := script.Run(strings.Repeat("x", api.MaxText+1)); e != api.ErrLong || at != 0 || got != "" {
		t.Errorf("Run of too long a text: %d %d", at, e)
	}
}

// P31.4
func TestJoined(t *testing.T) {
	events, _ := good()
	a := of(events[:5]...)
	got, e := script.Joined(a, events[5:]...)
	if e != api.OK || !script.Same(got, of(events...)) || len(a.Events) != 5 {
		t.Errorf("Joined: %d", e)
	}
	if got, e := script.Joined(a); e != api.OK || !script.Same(got, a) {
		t.Errorf("Joined with none: %d", e)
	}
	for name, x := range map[string]struct {
		s api.Script
		l []api.Event
	}{"no script": {api.Script{}, nil}, "no event": {a, []api.Event{{}}}, "too many": {of(slices.Repeat(events[:1], 400)...), events[:1]}, "a site that there is not": {a, []api.Event{{Kind: api.EvTick, Site: 4}}}} {
		if got, e := script.Joined(x.s, x.l...); e != api.ErrScript || !script.Same(got, api.Script{}) {
			t.Errorf("Joined of %s: %d", name, e)
		}
	}
	stamped := of(events[18])
	joined, _ := script.Joined(stamped, events[18])
	joined.Events[0].Op.Stamp.Pixels[0].R, joined.Events[1].Op.Stamp.Pixels[0].R = 7, 8
	if stamped.Events[0].Op.Stamp.Pixels[0] != red || joined.Events[0].Op.Stamp.Pixels[0].R != 7 {
		t.Errorf("Joined shares memory")
	}
}

// drawn is an event of a script of three sites; it may come to anything.
func drawn(r *rand.Rand) api.Event {
	site := 1 + r.Intn(3)
	switch r.Intn(14) {
	case 0, 1:
		return api.Event{Kind: api.EvJoin, Site: site}
	case 2, 3:
		return command(site, api.Op{Kind: 1 + r.Intn(2), X: r.Intn(8), Y: r.Intn(8), X2: r.Intn(8), Y2: r.Intn(8), Size: r.Intn(3), Color: api.Color{R: byte(r.Intn(256)), A: 128}})
	case 4:
		return command(site, api.Op{Kind: api.OpUndo + r.Intn(2), Target: api.Id{Time: 1 + uint64(r.Intn(9)), Site: 1 + r.Intn(3), Seq: 1 + uint64(r.Intn(3))}})
	case 5:
		return []api.Event{trick(api.TrDrop, r.Intn(3), 0, 0), trick(api.TrTwice, r.Intn(3), 0, 0), trick(api.TrSpoil, r.Intn(3), r.Intn(99), r.Uint32()), {Kind: api.EvFall, N: r.Intn(3), M: r.Intn(9)}, {Kind: api.EvRise, N: r.Intn(9)}, {Kind: api.EvRise}, {Kind: api.EvArm, N: r.Intn(9)}, {Kind: api.EvSettle, N: r.Intn(3)}}[r.Intn(8)]
	case 6, 7, 8:
		return api.Event{Kind: api.EvTick, Site: r.Intn(4)}
	}
	return api.Event{Kind: api.EvTake, N: r.Intn(2)}
}

// P31.3, P31.5, W7
func TestFollows(t *testing.T) {
	for seed := range 25 {
		r := rand.New(rand.NewSource(int64(seed)))
		s := api.Script{Wide: 1, High: 1, Sites: 3}
		for range r.Intn(200) {
			s.Events = append(s.Events, drawn(r))
		}
		text, e := script.Print(s)
		back, at, f := script.Parse(text)
		again, g := script.Print(back)
		if e != api.OK || f != api.OK || g != api.OK || at != 0 || !script.Same(back, s) || again != text {
			t.Fatalf("seed %d: Parse of Print: %d %d %d", seed, e, f, g)
		}
		w, _ := world.New(1, 1, 3)
		want := transcript(w, w.Do(s.Events...))
		// The world has gone on by then: outcomes stand ahead of what it is.
		played, e := script.Play(s)
		run, _, f := script.Run(text)
		if e != api.OK || f != api.OK || played != run || played != want {
			t.Fatalf("seed %d: %q, not %q", seed, played, want)
		}
		more, _ := script.Joined(s, drawn(r))
		longer, _ := script.Play(more)
		front := strings.SplitAfter(played, "\n")[:len(s.Events)]
		if !strings.HasPrefix(longer, strings.Join(front, "")) {
			t.Fatalf("seed %d: with events more the lines ahead are others", seed)
		}
		for _, x := range s.Events {
			if x.Kind == api.EvCommand && x.Op.Id != (api.Id{}) || !op.Same(x.Op, op.Plain(x.Op)) {
				t.Fatalf("Play changes what it was handed")
			}
		}
	}
}
