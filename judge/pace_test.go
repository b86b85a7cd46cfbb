package judge_test

import (
	"math"
	"math/big"
	"slices"
	"testing"

	"tideway/api"
	"tideway/judge"
)

// mostEntries is how many entries Paced takes.
const mostEntries = 100000

// entries answers a list of times and values.
func entries(pairs ...int) []api.Entry {
	var l []api.Entry
	for i := 0; i < len(pairs); i += 2 {
		l = append(l, api.Entry{At: pairs[i], V: pairs[i+1]})
	}
	return l
}

// wantPaced asks whether a pace was kept.
func wantPaced(t *testing.T, name string, l []api.Entry, rate, burst int, want bool) {
	t.Helper()
	was := slices.Clone(l)
	if judge.Paced(l, rate, burst) != want {
		if len(l) > 20 {
			l = l[:20]
		}
		t.Errorf("%s: Paced of %v, rate %d, burst %d: not %v", name, l, rate, burst, want)
	}
	if !slices.Equal(l, was[:len(l)]) {
		t.Errorf("%s: Paced changed its entries", name)
	}
}

// P25.2: what may be.

func TestPacedLimits(t *testing.T) {
	for _, c := range []struct {
		name        string
		l           []api.Entry
		rate, burst int
		want        bool
	}{
		{"nothing", nil, 0, 0, true},
		{"nothing, at the limits", nil, fastest, size, true},
		{"nothing, rate below 0", nil, -1, 0, false},
		{"nothing, rate past its limit", nil, fastest + 1, 0, false},
		{"nothing, burst below 0", nil, 0, -1, false},
		{"nothing, burst past its limit", nil, 0, size + 1, false},
		{"the least rate", nil, math.MinInt, 5, false},
		{"the greatest rate", nil, math.MaxInt, 5, false},
		{"the least burst", nil, 5, math.MinInt, false},
		{"the greatest burst", nil, 5, math.MaxInt, false},
		{"one", entries(5, 5), 0, 5, true},
		{"one, rate below 0", entries(5, 5), -1, 5, false},
		{"one, at the greatest rate", entries(5, 5), fastest, 5, true},
		{"one, rate past its limit", entries(5, 5), fastest + 1, 5, false},
		{"one of nothing, burst below 0", entries(5, 0), 5, -1, false},
		{"one, at the greatest burst", entries(5, 5), 5, size, true},
		{"one, burst past its limit", entries(5, 5), 5, size + 1, false},
		{"V 0", entries(5, 0), 0, 0, true},
		{"V below 0", entries(5, -1), 5, 5, false},
		{"V at its limit", entries(5, size), 5, size, true},
		{"V one below its limit", entries(5, size-1), 5, size - 1, true},
		{"V past its limit", entries(0, 0, late, size+1), fastest, size, false},
		{"V past its limit ahead", entries(0, size+1, late, 0), fastest, size, false},
		{"the least V", entries(5, math.MinInt), 5, 5, false},
		{"the greatest V", entries(5, math.MaxInt), 5, size, false},
		{"At 0", entries(0, 5), 5, 5, true},
		{"At below 0", entries(-1, 0), 5, 5, false},
		{"At below 0 ahead", entries(-1, 0, 0, 0), 5, 5, false},
		{"At at its limit", entries(late, 5), 5, 5, true},
		{"At one below its limit", entries(late-1, 5), 5, 5, true},
		{"At past its limit", entries(late+1, 0), 5, 5, false},
		{"At past its limit behind", entries(0, 0, late+1, 0), 5, 5, false},
		{"the least At", entries(math.MinInt, 0), 5, 5, false},
		{"the greatest At", entries(math.MaxInt, 0), 5, 5, false},
		{"At stays", entries(7, 2, 7, 3), 5, 5, true},
		{"At falls", entries(7, 0, 6, 0), 5, 5, false},
		{"At falls at the end", entries(7, 0, 8, 0, 7, 0), 5, 5, false},
		{"At falls to 0", entries(7, 0, 0, 0), 5, 5, false},
	} {
		wantPaced(t, c.name, c.l, c.rate, c.burst, c.want)
	}
}

func TestPacedNumbers(t *testing.T) {
	for _, n := range []int{0, 1, 2, mostEntries - 1, mostEntries, mostEntries + 1} {
		l := make([]api.Entry, n, mostEntries+10)
		wantPaced(t, "values of 0", l, 0, 0, n <= mostEntries)
		for i := range l {
			l[i] = api.Entry{At: 3 * i, V: 3}
		}
		wantPaced(t, "a byte each microsecond", l, million, 3, n <= mostEntries)
		wantPaced(t, "a little less", l, million-1, 3, n < 2)
	}
}

// P25.2: each pair.

// pairOf answers entries of which one pair, and no other, is just at the pace of the rate and the burst told besides.
func pairOf(n, i, k, step int) (l []api.Entry, rate, burst int) {
	rate = 3 * million
	for j := range n {
		l = append(l, api.Entry{At: 100 + j*step})
	}
	given := 3 * step * (k - i)
	l[i].V += given + 5
	l[k].V += given + 7
	if i == k {
		l[i].V = 11
	}
	sum := 0
	for _, x := range l {
		sum += x.V
	}
	return l, rate, sum - given
}

func TestPacedPairs(t *testing.T) {
	for _, step := range []int{0, 1, 10} {
		for k := range 6 {
			for i := range k + 1 {
				l, rate, burst := pairOf(6, i, k, step)
				wantPaced(t, "just at the pace", l, rate, burst, true)
				wantPaced(t, "a burst of one less", l, rate, burst-1, false)
				l[i].V++
				wantPaced(t, "one more first", l, rate, burst, false)
				wantPaced(t, "and in the burst", l, rate, burst+1, true)
				l[i].V--
				l[k].V++
				wantPaced(t, "one more last", l, rate, burst, false)
				wantPaced(t, "and in the burst", l, rate, burst+1, true)
				if i == k || step == 0 {
					wantPaced(t, "any rate", l, 0, burst+1, true)
					continue
				}
				l[k].V--
				wantPaced(t, "a lower rate", l, rate-1, burst, false)
				for j := range l[:i+1] {
					l[j].At++
				}
				wantPaced(t, "less time", l, rate, burst, false)
				wantPaced(t, "less time, and more rate", l, rate+rate/(step*(k-i)), burst, false)
				wantPaced(t, "less time, and still more rate", l, 2*rate, burst, step*(k-i) >= 2)
			}
		}
	}
}

func TestPaced(t *testing.T) {
	for _, c := range []struct {
		name        string
		l           []api.Entry
		rate, burst int
		want        bool
	}{
		{"no burst", entries(0, 1), fastest, 0, false},
		{"no burst, later", entries(0, 0, 9, 1), fastest, 0, false},
		{"no rate", entries(0, 3, 9, 2), 0, 5, true},
		{"no rate, one more", entries(0, 3, late, 3), 0, 5, false},
		{"part of a byte", entries(0, 1, 1, 1), 500000, 1, false},
		{"part of a byte, longer", entries(0, 1, 2, 1), 500000, 1, true},
		{"parts of a byte count on", entries(0, 1, 3, 1, 4, 1), 500000, 1, false},
		{"and in a burst", entries(0, 2, 1, 0, 2, 1), 500000, 2, true},
		{"a lowest rate", entries(0, 1, million, 1), 1, 1, true},
		{"a lowest rate, a moment sooner", entries(0, 1, million-1, 1), 1, 1, false},
		{"a burst is not saved twice", entries(0, 0, 1000, 6, 1001, 6), million, 10, false},
		{"what was not used is lost", entries(0, 5, 100, 5, 100, 5, 100, 1), million, 10, false},
		{"just a burst behind a rest", entries(0, 5, 100, 5, 100, 5, 100, 0), million, 10, true},
		{"the first pair alone", entries(0, 6, 1, 6, 100, 0), million, 10, false},
		{"the middle alone", entries(0, 1, 50, 6, 51, 6, 100, 1), million, 10, false},
		{"the last alone", entries(0, 1, 50, 6, 100, 6, 101, 6), million, 10, false},
		{"each pair of two, but not all three", entries(0, 4, 1, 4, 2, 4), million, 9, false},
		{"all three", entries(0, 4, 1, 4, 2, 4), million, 10, true},
	} {
		wantPaced(t, c.name, c.l, c.rate, c.burst, c.want)
	}
}

// P25.2: no overflow.

func TestPacedAtTheGreatest(t *testing.T) {
	// The rate gives 2^85 millionths, and times that are products of 2 to the 64 or more.
	for _, at := range []int{late, late - 1, 1 << 44, 1 << 25, 1 << 24, 1 << 23, 1<<24 + 1} {
		wantPaced(t, "the greatest rate", entries(0, size, at, size), fastest, size, true)
		wantPaced(t, "the greatest rate, one more", entries(0, size, at, size, at, 1), fastest, size, false)
		wantPaced(t, "the greatest rate from late on", entries(late-at, size, late, size), fastest, size, true)
	}
	// A burst takes 976.5625 microseconds at the greatest rate.
	wantPaced(t, "a whole burst again", entries(0, size, 977, size), fastest, size, true)
	wantPaced(t, "a whole burst, too soon", entries(0, size, 976, size), fastest, size, false)

	l := make([]api.Entry, mostEntries)
	for i := range l {
		l[i].V = size
	}
	// The sums of these go beyond an int, and, modulo 2^64, come back to where they would be kept.
	wantPaced(t, "all at once", l, fastest, size, false)
	for n := range 100 {
		wantPaced(t, "many at once", l[:n*1000], fastest, size, n == 0)
	}
	for i := range l {
		l[i].At = 977 * i
	}
	wantPaced(t, "the greatest values", l, fastest, size, true)
	wantPaced(t, "the greatest values, a little more than the rate", l, fastest-1<<32, size, false)
	for i := range l {
		l[i].V -= 1 << 20
		l[i].At = 976 * i
	}
	wantPaced(t, "some less, that long", l, fastest, size, true)
	wantPaced(t, "some less, and less of a burst", l, fastest, size-1<<20, true)
	wantPaced(t, "one less than the values", l, fastest, size-1<<20-1, false)
	// Half a burst takes 488.28125 microseconds: what is owed grows with each, and is a burst behind 1737 of them.
	for i := range l {
		l[i].V, l[i].At = size/2, 488*i
	}
	for n := 1730; n < 1745; n++ {
		wantPaced(t, "a debt that grows", l[:n], fastest, size, n <= 1737)
	}
	wantPaced(t, "a debt that grows", l, fastest, size, false)
}

// wantPairs follows P25.2's words: all pairs, in numbers that have room for all.
func wantPairs(l []api.Entry, rate, burst int) bool {
	most := big.NewInt(0)
	for i := range l {
		sum := big.NewInt(int64(-burst))
		for k := i; k < len(l); k++ {
			sum.Add(sum, big.NewInt(int64(l[k].V)))
			left := new(big.Int).Mul(sum, big.NewInt(million))
			most.Mul(big.NewInt(int64(rate)), big.NewInt(int64(l[k].At-l[i].At)))
			if left.Cmp(most) > 0 {
				return false
			}
		}
	}
	return true
}

// wantPace follows P25.2's words, what may not be besides.
func wantPace(l []api.Entry, rate, burst int) bool {
	if rate < 0 || rate > fastest || burst < 0 || burst > size || len(l) > mostEntries {
		return false
	}
	for i, x := range l {
		if x.V < 0 || x.V > size || x.At < 0 || x.At > late || i > 0 && x.At < l[i-1].At {
			return false
		}
	}
	return wantPairs(l, rate, burst)
}

// P25.2: drawn entries.

// entries answers some, whose times and values go up to a length that is thrown.
func (d *dice) entries() []api.Entry {
	l := make([]api.Entry, d.below(12))
	now := d.of(0, 0, d.below(1000))
	wait, value := d.of(1, 5, 1000, 1<<30), d.of(2, 10, 1000, size)
	for i := range l {
		now += d.of(0, d.below(wait), d.below(wait))
		l[i] = api.Entry{At: now, V: d.below(value)}
	}
	return l
}

// wrong makes a number of some entries one that may not be, or is just at its limit.
func (d *dice) wrong(l []api.Entry) {
	if len(l) == 0 {
		return
	}
	i := d.below(len(l))
	if d.below(2) == 0 {
		l[i].V = d.of(-1, size, size+1, math.MinInt, math.MaxInt)
	} else {
		l[i].At = d.of(-1, 0, late, late+1, l[i].At-1, l[i].At+1, math.MinInt, math.MaxInt)
	}
}

// tight answers the least burst of which the pace of some entries is kept.
func tight(l []api.Entry, rate int) int {
	low, high := 0, size
	for low < high {
		mid := (low + high) / 2
		if wantPace(l, rate, mid) {
			high = mid
		} else {
			low = mid + 1
		}
	}
	return low
}

func TestPacedOfMany(t *testing.T) {
	t.Parallel()
	d := dice{3}
	kept := 0
	for range 30000 {
		l := d.entries()
		rate := d.of(0, 1, d.below(10), 300000, million, 7*million, d.below(1<<30), fastest, fastest-d.below(1000))
		if d.below(10) == 0 {
			d.wrong(l)
		}
		burst := tight(l, rate)
		for _, b := range []int{burst, burst - 1, burst + 1, d.below(size), size} {
			want := wantPace(l, rate, b)
			wantPaced(t, "drawn", l, rate, b, want)
			if want {
				kept++
			}
		}
	}
	if kept < 40000 || kept > 120000 {
		t.Errorf("%d of 150000 are kept", kept)
	}
}

// Long rows hold each pair too: one that is wide is found, though no shorter one within it breaks the pace.
func TestPacedWidePairs(t *testing.T) {
	t.Parallel()
	d := dice{4}
	for range 60 {
		l := make([]api.Entry, 2+d.below(150))
		now := 0
		for i := range l {
			l[i] = api.Entry{At: now, V: 100 + d.below(3)}
			now += 9 + d.below(3)
		}
		rate := 10*million + d.below(200000)
		burst := tight(l, rate)
		wantPaced(t, "wide", l, rate, burst, true)
		wantPaced(t, "wide, one less", l, rate, burst-1, false)
	}
}
