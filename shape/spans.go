package shape

import (
	"cmp"
	"iter"
	"maps"
	"slices"

	"gesso/api"
)

// each is what all of a row come to, one by one.
func each[T, U any](row []T, come func(T) U) []U {
	out := make([]U, 0, len(row))
	for _, x := range row {
		out = append(out, come(x))
	}
	return out
}

// reached tells whether a number is in reach.
func reached(n int) bool { return n >= api.MinReach && n <= api.MaxReach }

// Check tells whether it is a row of spans.
func Check(l []api.Span) api.Errno {
	for i, s := range l {
		if !reached(s.Y) || !reached(s.From) || !reached(s.To) || s.From > s.To {
			return api.ErrSpans
		}
		if i > 0 && !apart(l[i-1], s) {
			return api.ErrSpans
		}
	}
	return api.OK
}

// apart tells whether a span stands behind another one, and a place at least is between both.
func apart(ahead, s api.Span) bool {
	return s.Y > ahead.Y || s.Y == ahead.Y && s.From > ahead.To+1
}

// told tells the spans of a row; none, if it is no row of spans.
func told(l []api.Span) iter.Seq[api.Span] {
	return func(yield func(api.Span) bool) {
		if Check(l) != api.OK {
			return
		}
		for _, s := range l {
			if !yield(s) {
				return
			}
		}
	}
}

// gathered is the row of spans that has the places of all these, in whatever order they come.
func gathered(l []api.Span) []api.Span {
	rows := map[int][]api.Span{}
	for _, s := range l {
		rows[s.Y] = append(rows[s.Y], s)
	}
	var out []api.Span
	for _, y := range slices.Sorted(maps.Keys(rows)) {
		row := rows[y]
		slices.SortFunc(row, func(a, b api.Span) int { return cmp.Compare(a.From, b.From) })
		first := len(out)
		for _, s := range row {
			if last := len(out) - 1; last >= first && !apart(out[last], s) {
				out[last].To = max(out[last].To, s.To)
			} else {
				out = append(out, s)
			}
		}
	}
	return out
}

// Union is the row of spans that has the places of all rows.
func Union(rows ...[]api.Span) ([]api.Span, api.Errno) {
	var all []api.Span
	for _, l := range rows {
		if e := Check(l); e != api.OK {
			return nil, e
		}
		all = append(all, l...)
	}
	return gathered(all), api.OK
}

// Clip is the row of spans of those places that a box has, too.
func Clip(l []api.Span, box api.Box) ([]api.Span, api.Errno) {
	if e := Check(l); e != api.OK {
		return nil, e
	}
	var out []api.Span
	for _, s := range l {
		s.From, s.To = max(s.From, box.X), min(s.To, box.X2)
		if s.Y >= box.Y && s.Y <= box.Y2 && s.From <= s.To {
			out = append(out, s)
		}
	}
	return out, api.OK
}

// Has tells whether the row has the place.
func Has(l []api.Span, p api.Point) bool {
	has := false
seeking:
	for s := range told(l) {
		if s.Y > p.Y {
			break seeking
		}
		if s.Y == p.Y && s.From <= p.X && p.X <= s.To {
			has = true
			break seeking
		}
	}
	return has
}

// Count is how many places the row has.
func Count(l []api.Span) int {
	count := 0
	for s := range told(l) {
		count += s.To - s.From + 1
	}
	return count
}

// All tells the places of a row, row by row; the row is copied, as one may range later.
func All(l []api.Span) iter.Seq[api.Point] {
	spans := slices.Clone(l)
	return func(yield func(api.Point) bool) {
		for s := range told(spans) {
			for x := s.From; x <= s.To; x++ {
				if !yield(api.Point{X: x, Y: s.Y}) {
					return
				}
			}
		}
	}
}
