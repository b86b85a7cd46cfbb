package judge_test

import (
	"math"
	"slices"
	"testing"

	"tideway/api"
	"tideway/judge"
)

// The chapter's example, and rows of its functions by hand.

func TestExample(t *testing.T) {
	l := []api.Entry{{At: 0, V: 5}, {At: 1, V: 5}}
	if !judge.Paced(l, 4000000, 6) {
		t.Error("10 less 6 is 4")
	}
	if judge.Paced(l, 3999999, 6) || judge.Paced(l, 4000000, 5) {
		t.Error("a pace that was not kept")
	}
}

// P25.1: Prefix.

func TestPrefix(t *testing.T) {
	for _, c := range []struct {
		all, got string
		want     bool
	}{
		{"", "", true},
		{"tide", "", true},
		{"tide", "t", true},
		{"tide", "tid", true},
		{"tide", "tide", true},
		{"tide", "tidex", false},
		{"tide", "tide\x00", false},
		{"", "t", false},
		{"tide", "tie", false},
		{"tide", "tidf", false},
		{"tide", "xide", false},
		{"tide", "ide", false},
		{"tide", "x", false},
	} {
		if judge.Prefix([]byte(c.all), []byte(c.got)) != c.want {
			t.Errorf("Prefix of %q, %q: not %v", c.all, c.got, c.want)
		}
	}
	if !judge.Prefix(nil, nil) || !judge.Prefix([]byte("a"), nil) || judge.Prefix(nil, []byte("a")) {
		t.Error("Prefix of nil")
	}
}

// Room behind the end of a list is nobody's.
func TestPrefixTakesLengths(t *testing.T) {
	b := []byte("tideway")
	if judge.Prefix(b[:3], b[:4]) || !judge.Prefix(b[:3], b[:3]) {
		t.Error("Prefix goes beyond the end")
	}
	if string(b) != "tideway" {
		t.Error("Prefix changed its bytes")
	}
}

func TestPrefixOfEachLength(t *testing.T) {
	d := dice{1}
	all := d.bytes(300, 256)
	for n := range len(all) + 1 {
		got := slices.Clone(all[:n])
		if !judge.Prefix(all, got) || judge.Prefix(all[:n], append(slices.Clone(got), 0)) {
			t.Errorf("Prefix of %d bytes", n)
		}
		if n == 0 {
			continue
		}
		got[n-1]++
		if judge.Prefix(all, got) {
			t.Errorf("Prefix of %d bytes with the last one changed", n)
		}
	}
}

// P25.1: Count.

func TestCount(t *testing.T) {
	var l []api.Sent
	for _, why := range []api.Why{1, 2, 2, 3, 1, 4, 5, 5, 5, 1, 1, 0, 7, 7} {
		l = append(l, api.Sent{Why: why, From: -1})
	}
	want := map[api.Why]int{0: 1, 1: 4, 2: 2, 3: 1, 4: 1, 5: 3, 6: 0, 7: 2, -1: 0, math.MaxInt: 0, math.MinInt: 0}
	for why, n := range want {
		if got := judge.Count(l, why); got != n {
			t.Errorf("Count of %d: %d, want %d", why, got, n)
		}
		if judge.Count(nil, why) != 0 || judge.Count([]api.Sent{}, why) != 0 || judge.Count(l[:0], why) != 0 {
			t.Errorf("Count of %d in an empty log", why)
		}
	}
}

// P25.1: Cover.

func TestCover(t *testing.T) {
	for _, c := range []struct {
		name string
		log  []api.Sent
		want []api.Span
	}{
		{"nothing", nil, nil},
		{"one", log(3, 7), spans(3, 7)},
		{"one offset", log(0, 1), spans(0, 1)},
		{"twice", log(3, 7, 3, 7), spans(3, 7)},
		{"overlap", log(3, 7, 5, 9), spans(3, 9)},
		{"overlap, turned", log(5, 9, 3, 7), spans(3, 9)},
		{"touch", log(3, 7, 7, 9), spans(3, 9)},
		{"touch, turned", log(7, 9, 3, 7), spans(3, 9)},
		{"apart by one", log(3, 7, 8, 9), spans(3, 7, 8, 9)},
		{"apart, turned", log(8, 9, 3, 7), spans(3, 7, 8, 9)},
		{"within", log(3, 9, 5, 6), spans(3, 9)},
		{"around", log(5, 6, 3, 9), spans(3, 9)},
		{"the same beginning", log(3, 5, 3, 9, 3, 7), spans(3, 9)},
		{"the same end", log(5, 9, 3, 9, 7, 9), spans(3, 9)},
		{"a gap filled", log(0, 2, 6, 8, 2, 6), spans(0, 8)},
		{"a gap left", log(6, 8, 0, 2, 3, 5), spans(0, 2, 3, 5, 6, 8)},
		{"below 0", log(-1, 4, 6, 8), spans(6, 8)},
		{"below 0 wholly", log(-4, -1, 6, 8, -3, 0), spans(6, 8)},
		{"turned round", log(7, 3, 0, 2), spans(0, 2)},
		{"turned round about others", log(3, 5, 9, 0, 7, 8), spans(3, 5, 7, 8)},
		{"at the limit", log(most-2, most), spans(most-2, most)},
		{"past the limit", log(most-2, most+1, most-5, most-4), spans(most-5, most-4)},
		{"all beyond it", log(most, most+1, 1, 2), spans(1, 2)},
		{"no offset", log(4, 4), nil},
		{"no offset between", log(1, 3, 4, 4, 5, 7), spans(1, 3, 5, 7)},
		{"no offset at 0", log(0, 0, 2, 3), spans(2, 3)},
		{"no offset at the limit", log(most, most), nil},
		{"no offset beyond it", log(most+1, most+1, -1, -1, 2, 3), spans(2, 3)},
		{"all there is", log(0, most, 5, 6), spans(0, most)},
		{"the greatest", log(math.MinInt, math.MaxInt, math.MaxInt, math.MinInt, 0, math.MaxInt, math.MinInt, 4, 2, 4), spans(2, 4)},
	} {
		was := copied(c.log)
		if got := judge.Cover(c.log); !alike(got, c.want) {
			t.Errorf("%s: Cover of %v: %v, want %v", c.name, c.log, got, c.want)
		}
		if !alike(c.log, was) {
			t.Errorf("%s: Cover changed the log", c.name)
		}
	}
}

// P25.1: Fresh.

func TestFresh(t *testing.T) {
	for _, c := range []struct {
		name string
		log  []api.Sent
		want []int
	}{
		{"nothing", nil, nil},
		{"one", log(3, 7), []int{0}},
		{"all new", log(0, 3, 3, 7, 9, 12), []int{0, 1, 2}},
		{"all new, falling", log(9, 12, 3, 7, 0, 3), []int{0, 1, 2}},
		{"nothing new", log(3, 7, 3, 7, 4, 6, 3, 4, 6, 7), []int{0}},
		{"a part new, at its end", log(3, 7, 5, 9), []int{0, 1}},
		{"a part new, at its beginning", log(3, 7, 1, 5), []int{0, 1}},
		{"one offset new, at its end", log(3, 7, 3, 8), []int{0, 1}},
		{"one offset new, at its beginning", log(3, 7, 2, 7), []int{0, 1}},
		{"one offset new, within", log(3, 5, 6, 9, 3, 9, 3, 9), []int{0, 1, 2}},
		{"two together, which touch", log(3, 5, 5, 9, 4, 6, 3, 9), []int{0, 1}},
		{"around others", log(3, 4, 5, 6, 0, 9, 0, 9), []int{0, 1, 2}},
		{"a gap filled by two", log(0, 2, 8, 9, 2, 5, 4, 8, 0, 9), []int{0, 1, 2, 3}},
		{"no offset", log(4, 4, 3, 5, 4, 4), []int{1}},
		{"turned round", log(7, 3, 3, 7, 7, 3), []int{1}},
		{"what may not be ahead: below 0", log(-1, 4, 0, 4), []int{0, 1}},
		{"what may not be ahead: past the limit", log(most-2, most+1, most-2, most), []int{0, 1}},
		{"what may not be twice", log(-1, 4, -1, 4, most, most+1, most, most+1), []int{0, 1, 2, 3}},
		{"what may not be behind what may", log(0, 4, -1, 4, most-4, most, most-4, most+1), []int{0, 1, 2, 3}},
		{"wholly below 0", log(-4, -1, -3, 0), []int{0, 1}},
		{"without an offset, where none may be", log(-3, -3, most+1, most+1, -3, -4), nil},
		{"at the limit", log(most-1, most, most-2, most, most-2, most), []int{0, 1}},
		{"the greatest", log(math.MinInt, math.MaxInt, math.MaxInt, math.MinInt, 0, math.MaxInt, 0, most, 0, most), []int{0, 2, 3}},
	} {
		was := copied(c.log)
		if got := judge.Fresh(c.log); !alike(got, c.want) {
			t.Errorf("%s: Fresh of %v: %v, want %v", c.name, c.log, got, c.want)
		}
		if !alike(c.log, was) {
			t.Errorf("%s: Fresh changed the log", c.name)
		}
	}
}

// P25.1: Over.

// because answers a log with one sent for another reason.
func because(l []api.Sent, place int, why api.Why) []api.Sent {
	l[place].Why = why
	return l
}

func TestOver(t *testing.T) {
	three := func() []api.Sent { return log(0, 3, 3, 5, 5, 9) }
	for _, c := range []struct {
		name  string
		log   []api.Sent
		edges []int
		want  int
	}{
		{"nothing", nil, nil, -1},
		{"nothing, with edges", nil, []int{0, 0}, -1},
		{"within", three(), []int{9, 9, 9}, -1},
		{"just at the edges", three(), []int{3, 5, 9}, -1},
		{"one above the first", three(), []int{2, 5, 9}, 0},
		{"one above the second", three(), []int{3, 4, 9}, 1},
		{"one above the third", three(), []int{3, 5, 8}, 2},
		{"the first of several", three(), []int{3, 0, 0}, 1},
		{"all", three(), []int{0, 0, 0}, 0},
		{"below 0", three(), []int{9, 9, -1}, 2},
		{"the least", three(), []int{9, 9, math.MinInt}, 2},
		{"the greatest", three(), []int{math.MaxInt, math.MaxInt, math.MaxInt}, -1},
		{"no edges", three(), nil, -1},
		{"fewer edges, kept", three(), []int{3, 5}, -1},
		{"fewer edges, not kept", three(), []int{3, 4}, 1},
		{"more edges, kept", three(), []int{3, 5, 9, 0, 0}, -1},
		{"more edges, not kept", three(), []int{3, 5, 8, 0, 0}, 2},
		{"a persist probe beyond", because(three(), 1, api.WhyPersist), []int{3, 0, 9}, -1},
		{"another behind a persist probe", because(three(), 1, api.WhyPersist), []int{3, 0, 8}, 2},
		{"a persist probe sent it first", because(log(0, 3, 0, 3), 0, api.WhyPersist), []int{0, 0}, -1},
		{"again", because(three(), 1, api.WhyAgain), []int{3, 0, 9}, 1},
		{"a timeout", because(three(), 1, api.WhyTimeout), []int{3, 0, 9}, 1},
		{"a probe", because(three(), 1, api.WhyProbe), []int{3, 0, 9}, 1},
		{"no reason", because(three(), 1, 0), []int{3, 0, 9}, 1},
		{"one more than there is", because(three(), 1, api.WhyPersist+1), []int{3, 0, 9}, 1},
		{"not new", log(0, 9, 3, 5), []int{9, 0}, -1},
		{"not new, and one that is", log(0, 9, 3, 5, 8, 10), []int{9, 0, 9}, 2},
		{"a part is new", log(0, 9, 8, 10), []int{9, 9}, 1},
		{"new is ahead of the edge, To is beyond", log(5, 9, 3, 9), []int{9, 6}, 1},
		{"no offset", log(9, 9), []int{0}, -1},
		{"turned round", log(9, 8), []int{0}, -1},
		{"below 0 from the beginning", log(-1, 3, 0, 3), []int{3, 2}, 1},
		{"what may not be", log(-1, 3, most, most+1), []int{2, 0}, 0},
		{"past the limit", log(most, most+1), []int{most}, 0},
	} {
		was, edges := copied(c.log), slices.Clone(c.edges)
		if got := judge.Over(c.log, c.edges); got != c.want {
			t.Errorf("%s: Over of %v, %v: %d, want %d", c.name, c.log, c.edges, got, c.want)
		}
		if !alike(c.log, was) || !alike(c.edges, edges) {
			t.Errorf("%s: Over changed what it was handed", c.name)
		}
	}
}

// Edges behind the end of their list are nobody's.
func TestOverTakesLengths(t *testing.T) {
	edges := []int{9, 0, 0}
	if judge.Over(log(0, 3, 3, 5), edges[:1]) != -1 {
		t.Error("Over goes beyond the end of the edges")
	}
}

// R3: answers are new memory.

func TestRowsAreNew(t *testing.T) {
	l := log(8, 9, 0, 3, 5, 6, 2, 4)
	row, places := judge.Cover(l), judge.Fresh(l)
	spoil(row, api.Span{From: 7, To: 70})
	spoil(places, 77)
	if got := judge.Cover(l); !alike(got, spans(0, 4, 5, 6, 8, 9)) {
		t.Errorf("Cover of what was spoilt: %v", got)
	}
	if got := judge.Fresh(l); !alike(got, []int{0, 1, 2, 3}) {
		t.Errorf("Fresh of what was spoilt: %v", got)
	}
	if !alike(l, log(8, 9, 0, 3, 5, 6, 2, 4)) {
		t.Errorf("an answer is the log's memory: %v", l)
	}
}

// Long logs take no square of their number, in whichever order they stand.
func TestLongLogs(t *testing.T) {
	t.Parallel()
	const n = 300000
	d := dice{2}
	orders := [][]int{d.turn(n), d.turn(n), d.turn(n)}
	slices.Sort(orders[0])
	slices.Sort(orders[1])
	slices.Reverse(orders[1])
	for _, order := range orders {
		l := make([]api.Sent, 0, 2*n)
		for _, x := range order {
			l = append(l, at(2*x, 2*x+1))
		}
		if got := judge.Cover(l); len(got) != n || got[n-1] != (api.Span{From: 2*n - 2, To: 2*n - 1}) {
			t.Fatal("Cover of many that stand apart")
		}
		for _, x := range order {
			l = append(l, at(0, 2*x+2))
		}
		tops := 0
		top := 0
		for _, x := range order {
			if x+1 > top {
				top = x + 1
				tops++
			}
		}
		// Of those that begin at 0 each greatest one so far has a gap that none ahead had.
		if got := judge.Fresh(l); len(got) != n+tops {
			t.Fatalf("Fresh of many: %d, want %d", len(got), n+tops)
		}
		if got := judge.Cover(l); !alike(got, spans(0, 2*n)) {
			t.Fatal("Cover of many that fill all gaps")
		}
	}
}
