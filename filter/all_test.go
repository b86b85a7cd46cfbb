package filter_test

import (
	"fmt"
	"math"
	"slices"
	"testing"

	"tideway/api"
	"tideway/filter"
)

// times and values are numbers about which a limit or the room of an int goes wrong.
func times() []int {
	return []int{math.MinInt, -top, -1, 0, 1, 2, 3, top / 2, top - 1, top, top + 1, math.MaxInt}
}

func values() []int {
	return []int{math.MinInt, -peak, -1, 0, 1, 2, 3, peak / 2, peak - 1, peak, peak + 1, math.MaxInt}
}

// mayBe follows P12.1's words, pair by pair.
func mayBe(l []api.Entry, most bool) bool {
	for i, x := range l {
		if x.At < 0 || x.At > top || x.V < 0 || x.V > peak {
			return false
		}
		for _, y := range l[i+1:] {
			if y.At <= x.At || most && y.V >= x.V || !most && y.V <= x.V {
				return false
			}
		}
	}
	return true
}

// wantPut follows P12.1's words, entry by entry.
func wantPut(l []api.Entry, at, v, window int, most bool) ([]api.Entry, api.Errno) {
	if !mayBe(l, most) || at < 0 || at > top || v < 0 || v > peak || window < 0 || window > top {
		return nil, api.ErrArg
	}
	var out []api.Entry
	for _, x := range l {
		if at <= x.At {
			return nil, api.ErrArg
		}
		if x.At+window < at || most && x.V <= v || !most && x.V >= v {
			continue
		}
		out = append(out, x)
	}
	return append(out, api.Entry{At: at, V: v}), api.OK
}

// asWanted asks that Check and Put answer as the words say, twice, and leave what is handed in, and what is behind it.
func asWanted(t *testing.T, l []api.Entry, at, v, window int, most bool) {
	t.Helper()
	name := fmt.Sprintf("%v, at %d, v %d, window %d, most %t", l, at, v, window, most)
	if (filter.Check(l, most) == api.OK) != mayBe(l, most) {
		t.Fatalf("%s: Check answers %d", name, filter.Check(l, most))
	}
	want, wantError := wantPut(l, at, v, window, most)
	whole := append(slices.Clone(l), row(71, 72, 73, 74)...)
	before := slices.Clone(whole)
	for range 2 {
		got, e := filter.Put(whole[:len(l)], at, v, window, most)
		if e != wantError || !slices.Equal(got, want) {
			t.Fatalf("%s: Put answers %v, %d, want %v, %d", name, got, e, want, wantError)
		}
	}
	if !slices.Equal(whole, before) {
		t.Fatalf("%s: what was handed in is now %v", name, whole)
	}
}

func TestAllEdges(t *testing.T) {
	for _, most := range []bool{true, false} {
		for _, at := range times() {
			for _, v := range values() {
				for _, window := range times() {
					asWanted(t, nil, at, v, window, most)
					for _, lastAt := range times() {
						for _, lastV := range values() {
							asWanted(t, row(lastAt, lastV), at, v, window, most)
						}
					}
				}
			}
		}
	}
}

func TestAllPairsAtEdges(t *testing.T) {
	for _, most := range []bool{true, false} {
		for _, firstAt := range times() {
			for _, lastAt := range times() {
				for _, firstV := range values() {
					for _, lastV := range values() {
						asWanted(t, row(firstAt, firstV, lastAt, lastV), top, 2, top-1, most)
						asWanted(t, row(firstAt, firstV, lastAt, lastV), 3, peak-1, 1, most)
					}
				}
			}
		}
	}
}

// smallRows answers all rows of up to three entries of small numbers, those that may not be too.
func smallRows() [][]api.Entry {
	out := [][]api.Entry{nil}
	for from, n := 0, 0; n < 3; n++ {
		to := len(out)
		for _, l := range out[from:to] {
			for at := range 4 {
				for v := range 3 {
					out = append(out, append(slices.Clone(l), api.Entry{At: at, V: v}))
				}
			}
		}
		from = to
	}
	return out
}

func TestAllSmall(t *testing.T) {
	for _, l := range smallRows() {
		for _, most := range []bool{true, false} {
			for at := 1; at < 6; at++ {
				for v := range 4 {
					for window := range 5 {
						asWanted(t, l, at, v, window, most)
					}
				}
			}
		}
	}
}

// P12.2

// put is one Put of a walk.
type put struct{ at, v int }

// extreme answers the greatest, or least, value among those at most window ago.
func extreme(puts []put, at, window int, most bool) int {
	var late []int
	for _, p := range puts {
		if at-p.at <= window {
			late = append(late, p.v)
		}
	}
	if most {
		return slices.Max(late)
	}
	return slices.Min(late)
}

// walk does Puts of one window one by one, and asks behind each for the best.
func walk(t *testing.T, puts []put, window int, most bool) {
	t.Helper()
	var l []api.Entry
	for i, p := range puts {
		var e api.Errno
		l, e = filter.Put(l, p.at, p.v, window, most)
		if e != api.OK || filter.Check(l, most) != api.OK {
			t.Fatalf("window %d, most %t, Puts %v: %v, %d", window, most, puts[:i+1], l, e)
		}
		want := extreme(puts[:i+1], p.at, window, most)
		if v, ok := filter.Best(l); v != want || !ok {
			t.Fatalf("window %d, most %t, Puts %v: Best is %d, %t, want %d", window, most, puts[:i+1], v, ok, want)
		}
	}
}

// walks does every walk of that many more Puts, each one to three later than the one ahead, of values 0 to 3.
func walks(t *testing.T, puts []put, at, more, window int, most bool) {
	t.Helper()
	if more == 0 {
		walk(t, puts, window, most)
		return
	}
	for later := 1; later <= 3; later++ {
		for v := range 4 {
			walks(t, append(slices.Clone(puts), put{at + later, v}), at+later, more-1, window, most)
		}
	}
}

func TestBestOfAllShortWalks(t *testing.T) {
	for _, most := range []bool{true, false} {
		for _, window := range []int{0, 1, 2, 3, 4, 7} {
			walks(t, nil, -1, 4, window, most)
		}
	}
}

func TestBestOfLongWalks(t *testing.T) {
	for _, most := range []bool{true, false} {
		for _, window := range []int{0, 1, 2, 5, 10, 40, 1000, top} {
			for step := range 30 {
				var puts []put
				for i, at := 0, step; i < 120; i++ {
					puts = append(puts, put{at, (i*i*(step+3) + 7*i) % 101})
					at += 1 + (i*step)%4
				}
				walk(t, puts, window, most)
			}
		}
	}
}

func TestBestAtTheEdges(t *testing.T) {
	puts := []put{{0, peak}, {1, 0}, {top / 2, 5}, {top/2 + 1, peak - 1}, {top - 1, peak}, {top, 1}}
	for _, most := range []bool{true, false} {
		for _, window := range []int{0, 1, 2, top / 2, top/2 + 1, top - 1, top} {
			walk(t, puts, window, most)
		}
	}
}

// Rows that rise or fall all along: all are kept, or one is.
func TestBestOfSteadyWalks(t *testing.T) {
	var up, down, flat []put
	for i := range 300 {
		up, down, flat = append(up, put{i, i}), append(down, put{i, 300 - i}), append(flat, put{i, 7})
	}
	for _, most := range []bool{true, false} {
		for _, window := range []int{0, 1, 17, 298, 299, 300} {
			walk(t, up, window, most)
			walk(t, down, window, most)
			walk(t, flat, window, most)
		}
	}
}
