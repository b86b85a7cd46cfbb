package judge

import (
	"iter"
	"slices"

	"tideway/api"
	"tideway/span"
)

// ground is offsets, cut wherever a span begins or ends, so that a span covers each part wholly or not at all.
// To hold each span against all those ahead would take the square of their number.
type ground struct {
	cuts []int // rising: a part goes from one up to the next
	next []int // by part: itself while it is bare, else a later one that is no further than the next bare one
}

// fresh gives the places of those that sent something new, rising.
func fresh(l []api.Sent) iter.Seq[int] {
	return func(yield func(int) bool) {
		g := newGround(l)
		for i, x := range l {
			if g.add(offsets(x)) && !yield(i) {
				return
			}
		}
	}
}

// newGround answers the bare ground below a log.
func newGround(l []api.Sent) ground {
	var g ground
	for _, x := range l {
		if s := offsets(x); isPart(s) {
			g.cuts = append(g.cuts, s.From, s.To)
		}
	}
	slices.Sort(g.cuts)
	g.cuts = slices.Compact(g.cuts)
	for i := range g.cuts {
		g.next = append(g.next, i)
	}
	return g
}

// add covers a span of the log, and tells whether some of it was not covered.
func (g ground) add(s api.Span) bool {
	if !isPart(s) {
		// No row holds it: what it has of offsets, if any, is in no one ahead.
		return s.From < s.To
	}
	from, _ := slices.BinarySearch(g.cuts, s.From)
	to, _ := slices.BinarySearch(g.cuts, s.To)
	first := g.bare(from)
	for i := first; i < to; i = g.bare(i) {
		g.next[i] = i + 1
	}
	return first < to
}

// bare answers the first part that is not covered, from i on. Behind the last cut nothing ever is.
func (g ground) bare(i int) int {
	for g.next[i] != i {
		// The way is halved as it is gone, so that it stays short.
		g.next[i] = g.next[g.next[i]]
		i = g.next[i]
	}
	return i
}

// isPart tells whether a span has offsets, and all of them may be.
func isPart(s api.Span) bool { return span.Check([]api.Span{s}) == api.OK }
