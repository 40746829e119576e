package quiet

import (
	"iter"

	"gesso/api"
	"gesso/oplog"
	"gesso/vector"
	"gesso/world"
)

// What a snapshot's bytes are, at most: those beside the tiles, and those of a tile.
const (
	headBytes = 82
	tileBytes = 320
)

// The rounds that it takes when nothing is to be brought to anybody; and the most that are told.
const (
	leastRounds = 4
	allRounds   = 1_000_000
)

// looker looks at a world.
type looker struct{ *world.World }

// part is a part of a round: what happens, if it is to.
type part struct {
	when   func(l looker) bool
	events func(l looker) iter.Seq[api.Event]
}

// parts is what a round is.
func parts() [7]part {
	always := func(looker) bool { return true }
	return [...]part{
		{looker.Up, once(api.Event{Kind: api.EvArm})},
		{always, looker.arrivals},
		{always, looker.ticks},
		{always, looker.arrivals},
		{func(l looker) bool { return !l.Up() }, once(api.Event{Kind: api.EvRise})},
		{always, once(api.Event{Kind: api.EvTick})},
		{always, looker.arrivals},
	}
}

// once is what tells one event.
func once(x api.Event) func(l looker) iter.Seq[api.Event] {
	return func(looker) iter.Seq[api.Event] {
		return func(yield func(api.Event) bool) { yield(x) }
	}
}

// arrivals tells that a parcel arrives, without an end.
func (l looker) arrivals() iter.Seq[api.Event] {
	return func(yield func(api.Event) bool) {
		for yield(api.Event{Kind: api.EvTake}) {
		}
	}
}

// ticks tells that each client ticks.
func (l looker) ticks() iter.Seq[api.Event] {
	return func(yield func(api.Event) bool) {
		for _, site := range l.sites() {
			if !yield(api.Event{Kind: api.EvTick, Site: site}) {
				return
			}
		}
	}
}

// sites is all sites.
func (l looker) sites() []int {
	out := make([]int, 0, l.Sites())
	for site := 1; site <= l.Sites(); site++ {
		out = append(out, site)
	}
	return out
}

// round does a round, and tells how many parcels have arrived.
func (l looker) round() int {
	arrived := 0
	for _, p := range parts() {
		if !p.when(l) {
			continue
		}
	happening:
		for x := range p.events(l) {
			if x.Kind == api.EvTake {
				if len(l.Net().Parcels) == 0 {
					break happening
				}
				arrived++
			}
			l.Do(x)
		}
	}
	return arrived
}

// issued is what is issued.
func (l looker) issued() api.Vector {
	var v api.Vector
	for _, site := range l.sites() {
		v[site] = l.Seat(site).Clock.Seq
	}
	return v
}

// lacks is how many ids that are issued a client has not.
func (l looker) lacks(s api.Seat) uint64 {
	if s.Phase == api.ClOut {
		return 0
	}
	return vector.Many(oplog.Vector(s.Log), l.issued())
}

// serverLacks is how many of them the server has not; one that is down has nothing.
func (l looker) serverLacks() uint64 {
	return vector.Many(oplog.Vector(l.Kept().Log), l.issued())
}

// greatest is the greatest of what a row comes to; 0, if there is none.
func greatest[T any](row []T, come func(T) uint64) uint64 {
	most := uint64(0)
	for _, x := range row {
		most = max(most, come(x))
	}
	return most
}

// folding tells whether a fold is under way.
func (l looker) folding() bool {
	return l.Front().Proposed != 0 || greatest(l.sites(), func(site int) uint64 { return l.Seat(site).Told }) != 0
}

// joining is how many clients are joining.
func (l looker) joining() int {
	many := 0
	for _, site := range l.sites() {
		if l.Seat(site).Phase == api.ClJoining {
			many++
		}
	}
	return many
}

// upwards is how often a number goes into another one, rounded up.
func upwards(n, by uint64) uint64 { return (n + by - 1) / by }

// mood is the world's mood.
func (l looker) mood() api.Mood {
	m := api.Mood{Under: len(l.Net().Parcels), Joining: l.joining(), Up: l.Up(), Folding: l.folding()}
	clients := greatest(l.sites(), func(site int) uint64 { return l.lacks(l.Seat(site)) })
	m.Lacks = max(clients, l.serverLacks())
	rounds := leastRounds + upwards(m.Lacks, api.Batch)
	if m.Joining > 0 {
		tiles := uint64(api.MaxSide * api.MaxSide)
		if m.Up {
			tiles = uint64(len(l.Kept().Canvas.Tiles))
		}
		rounds += upwards(headBytes+tileBytes*tiles, api.ChunkBytes)
	}
	m.Rounds = int(min(rounds, allRounds))
	return m
}

// calm tells whether the world is calm.
func (l looker) calm() bool {
	return l.mood() == api.Mood{Up: true, Rounds: leastRounds} && len(l.odd(l.sites()...)) == 0
}

// odd is those of some sites whose clients are odd.
func (l looker) odd(sites ...int) []int {
	var out []int
	for _, site := range sites {
		if site >= 1 && site <= l.Sites() && l.isOdd(l.Seat(site)) {
			out = append(out, site)
		}
	}
	return out
}

// isOdd tells whether a client is odd.
func (l looker) isOdd(s api.Seat) bool {
	switch s.Phase {
	case api.ClJoining:
		return true
	case api.ClReady:
		return l.lacks(s) > 0 || s.Told != 0 || s.Acked != l.issued() || l.Up() && s.Log.Folded != l.Kept().Log.Folded
	}
	return false
}
