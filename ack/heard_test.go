package ack_test

import (
	"math"
	"slices"
	"testing"

	"tideway/ack"
	"tideway/api"
)

// P22.2: Win, Recent, Rtt

// The window is as it stands in the header, whatever stands there.
func TestWin(t *testing.T) {
	for _, win := range []int{0, 1, 65535, 65536, -1, math.MinInt, math.MaxInt} {
		s, want := segment(), heard(false)
		s.Win, want.Win = win, win
		is(t, "Win", usual(), s, want)
	}
}

func TestRtt(t *testing.T) {
	for _, x := range []int{0, 59, 60, 61, 80, 100} {
		for _, ecr := range firsts() {
			for _, d := range ahead() {
				for _, stamps := range []bool{false, true} {
					a, s := usual(), segment()
					a.Stamps, a.Now, s.Ecr, s.Ack = stamps, number(ecr, d), ecr, at(x)
					want := api.Heard{Counts: true, Ack: max(x, 60), Old: x < 60, At: 30, Win: 7}
					if stamps {
						want.Recent = 3
					}
					if stamps && x > 60 && d > 0 {
						want.Rtt = d
					}
					is(t, "Rtt", a, s, want)
				}
			}
		}
	}
}

func TestRttByHand(t *testing.T) {
	for _, c := range []struct {
		x        int
		now, ecr uint32
		rtt      int
	}{
		{80, 50, 40, 10},
		{80, 50, 49, 1},
		{80, 50, 50, 0},
		{80, 50, 51, 0},
		{80, 50, 60, 0},
		{80, 0, 4294967295, 1},
		{80, 4294967295, 0, 0},
		{80, 5, 4294967290, 11},
		{80, 4294967290, 5, 0},
		{80, 2147483647, 0, 2147483647},
		{80, 2147483648, 0, 0},
		{80, 2147483649, 0, 0},
		{80, 0, 2147483648, 0},
		{80, 0, 2147483649, 2147483647},
		{80, 0, 2147483647, 0},
		{61, 50, 40, 10},
		{60, 50, 40, 0},
		{59, 50, 40, 0},
		{0, 50, 40, 0},
		{100, 50, 40, 10},
	} {
		a, s := usual(), segment()
		a.Now, s.Ecr, s.Ack = c.now, c.ecr, at(c.x)
		if h := ack.Weigh(a, s); !h.Counts || h.Rtt != c.rtt {
			t.Errorf("%+v: %+v", c, h)
		}
	}
}

// P22.2: blocks

// Each case acknowledges up to x; Una is 60 and Next 100, and offset 75 is number 0.
type heap struct {
	name   string
	x      int
	blocks []pair
	twice  bool
	spans  []pair
}

// ask asks what is heard of blocks.
func (c heap) ask(t *testing.T) {
	t.Helper()
	s := segment(c.blocks...)
	s.Ack = at(c.x)
	want := api.Heard{Counts: true, Ack: max(c.x, 60), Old: c.x < 60, At: 30, Win: 7, Recent: 3, Twice: c.twice, Spans: row(c.spans...)}
	if c.x > 60 {
		want.Rtt = 60
	}
	is(t, c.name, usual(), s, want)
	before := usual()
	before.Sacks = false
	want.Twice, want.Spans = false, nil
	is(t, c.name+", without Sacks", before, s, want)
}

func TestTwice(t *testing.T) {
	for _, c := range []heap{
		{"none", 80, nil, false, nil},
		{"To one below x", 80, []pair{{70, 79}}, true, nil},
		{"To at x", 80, []pair{{70, 80}}, true, nil},
		{"To one above x", 80, []pair{{70, 81}}, false, nil},
		{"To at x, by one", 80, []pair{{79, 80}}, true, nil},
		{"From at x", 80, []pair{{80, 81}}, false, []pair{{80, 81}}},
		{"across the turn", 80, []pair{{74, 76}}, true, nil},
		{"up to the turn", 80, []pair{{74, 75}}, true, nil},
		{"from the turn on", 80, []pair{{75, 76}}, true, nil},
		{"below Una", 80, []pair{{50, 55}}, true, nil},
		{"across Una", 80, []pair{{50, 65}}, true, nil},
		{"from the first offset on", 80, []pair{{0, 60}}, true, nil},
		{"below the first offset", 80, []pair{{-9, -5}}, true, nil},
		{"across the first offset", 80, []pair{{-9, 5}}, true, nil},
		{"all of it", 80, []pair{{0, 80}}, true, nil},
		{"all of it, and one more", 80, []pair{{0, 81}}, false, nil},

		{"From one below To", 80, []pair{{70, 71}}, true, nil},
		{"From at To", 80, []pair{{70, 70}}, false, nil},
		{"From one above To", 80, []pair{{71, 70}}, false, nil},
		{"From at To, at x", 80, []pair{{80, 80}}, false, nil},
		{"From one above To, To at x", 80, []pair{{81, 80}}, false, nil},
		{"turned round, far", 80, []pair{{200, 70}}, false, nil},

		{"x at Una, To at it", 60, []pair{{50, 60}}, true, nil},
		{"x at Una, To one above it", 60, []pair{{50, 61}}, false, nil},
		{"x below Una, To at x", 50, []pair{{40, 50}}, true, nil},
		{"x below Una, To one above x", 50, []pair{{40, 51}}, false, nil},
		{"x below Una, To at Una", 50, []pair{{50, 60}}, false, nil},
		{"x below Una, above Una", 50, []pair{{60, 61}}, false, []pair{{60, 61}}},
		{"x at 0, To at it", 0, []pair{{-1, 0}}, true, nil},
		{"x at 0, To one above it", 0, []pair{{0, 1}}, false, nil},
		{"x at Next", 100, []pair{{90, 100}}, true, nil},
		{"x at Next, To one above it", 100, []pair{{90, 101}}, false, nil},

		{"the second one alone is below x", 80, []pair{{90, 95}, {70, 75}}, false, []pair{{90, 95}}},
		{"both are below x", 80, []pair{{70, 75}, {60, 65}}, true, nil},
		{"the first one is below x, the second one is not", 80, []pair{{70, 75}, {90, 95}}, true, []pair{{90, 95}}},
	} {
		c.ask(t)
	}
}

// The first block within the second one.
func TestTwiceWithin(t *testing.T) {
	whole := []pair{{85, 95}}
	for _, c := range []heap{
		{"well within", 80, []pair{{87, 90}, {85, 95}}, true, whole},
		{"the same", 80, []pair{{85, 95}, {85, 95}}, true, whole},
		{"From at its From", 80, []pair{{85, 90}, {85, 95}}, true, whole},
		{"To at its To", 80, []pair{{90, 95}, {85, 95}}, true, whole},
		{"From one below its From", 80, []pair{{84, 90}, {85, 95}}, false, []pair{{84, 95}}},
		{"To one above its To", 80, []pair{{90, 96}, {85, 95}}, false, []pair{{85, 96}}},
		{"From one above, To one below", 80, []pair{{86, 94}, {85, 95}}, true, whole},
		{"beyond it on both sides", 80, []pair{{84, 96}, {85, 95}}, false, []pair{{84, 96}}},
		{"one of it", 80, []pair{{85, 86}, {85, 95}}, true, whole},
		{"behind it, touching", 80, []pair{{95, 96}, {85, 95}}, false, []pair{{85, 96}}},
		{"ahead of it, touching", 80, []pair{{84, 85}, {85, 95}}, false, []pair{{84, 95}}},
		{"apart", 80, []pair{{97, 98}, {85, 95}}, false, []pair{{85, 95}, {97, 98}}},
		{"within the third one", 80, []pair{{87, 90}, {97, 98}, {85, 95}}, false, []pair{{85, 95}, {97, 98}}},
		{"the second one within the first", 80, []pair{{85, 95}, {87, 90}}, false, whole},
		{"the second one within the third", 80, []pair{{97, 98}, {87, 90}, {85, 95}}, false, []pair{{85, 95}, {97, 98}}},

		{"within one that is no span: beyond Next", 80, []pair{{87, 90}, {85, 101}}, true, nil},
		{"within one that is no span: across x", 80, []pair{{87, 90}, {79, 95}}, true, nil},
		{"both beyond Next", 80, []pair{{102, 103}, {101, 104}}, true, nil},
		{"across x, within", 80, []pair{{75, 85}, {70, 90}}, true, nil},

		{"empty, alone", 80, []pair{{90, 90}}, false, nil},
		{"empty, well within", 80, []pair{{90, 90}, {85, 95}}, true, whole},
		{"empty, at its From", 80, []pair{{85, 85}, {85, 95}}, true, whole},
		{"empty, at its To", 80, []pair{{95, 95}, {85, 95}}, true, whole},
		{"empty, one below its From", 80, []pair{{84, 84}, {85, 95}}, false, whole},
		{"empty, one above its To", 80, []pair{{96, 96}, {85, 95}}, false, whole},
		{"empty, the second one too", 80, []pair{{90, 90}, {90, 90}}, true, nil},
		{"empty, below x", 80, []pair{{70, 70}, {85, 95}}, false, whole},
		{"turned round, alone", 80, []pair{{90, 88}}, false, nil},
		{"turned round, well within", 80, []pair{{90, 88}, {85, 95}}, true, whole},
		{"turned round, To below its From", 80, []pair{{90, 84}, {85, 95}}, true, whole},
		{"turned round, From one below its From", 80, []pair{{84, 83}, {85, 95}}, false, whole},
		{"turned round, To one above its To", 80, []pair{{97, 96}, {85, 95}}, false, whole},
		{"turned round, below x", 80, []pair{{71, 70}, {85, 95}}, false, whole},
		{"within one that is turned round", 80, []pair{{90, 88}, {90, 88}}, true, nil},
		{"not within one that is turned round", 80, []pair{{88, 90}, {90, 88}}, false, []pair{{88, 90}}},
	} {
		c.ask(t)
	}
}

func TestSpans(t *testing.T) {
	for _, c := range []heap{
		{"From one below Ack", 80, []pair{{79, 85}}, false, nil},
		{"From at Ack", 80, []pair{{80, 85}}, false, []pair{{80, 85}}},
		{"From one above Ack", 80, []pair{{81, 85}}, false, []pair{{81, 85}}},
		{"From one below Una, x below it", 50, []pair{{59, 65}}, false, nil},
		{"From at Una, x below it", 50, []pair{{60, 65}}, false, []pair{{60, 65}}},
		{"From one above Una, x below it", 50, []pair{{61, 65}}, false, []pair{{61, 65}}},
		{"From at x, x below Una", 50, []pair{{50, 65}}, false, nil},
		{"From one below Una, x at it", 60, []pair{{59, 65}}, false, nil},
		{"From at Una, x at it", 60, []pair{{60, 65}}, false, []pair{{60, 65}}},

		{"From one below To", 80, []pair{{90, 91}}, false, []pair{{90, 91}}},
		{"From at To", 80, []pair{{90, 90}}, false, nil},
		{"From one above To", 80, []pair{{91, 90}}, false, nil},
		{"all turned round", 80, []pair{{100, 80}}, false, nil},

		{"To one below Next", 80, []pair{{90, 99}}, false, []pair{{90, 99}}},
		{"To at Next", 80, []pair{{90, 100}}, false, []pair{{90, 100}}},
		{"To one above Next", 80, []pair{{90, 101}}, false, nil},
		{"all that is not acknowledged", 80, []pair{{80, 100}}, false, []pair{{80, 100}}},
		{"and one below it", 80, []pair{{79, 100}}, false, nil},
		{"and one above it", 80, []pair{{80, 101}}, false, nil},
		{"from Next on", 80, []pair{{100, 101}}, false, nil},
		{"across the turn", 60, []pair{{74, 76}}, false, []pair{{74, 76}}},
		{"up to the turn", 60, []pair{{74, 75}}, false, []pair{{74, 75}}},
		{"from the turn on", 60, []pair{{75, 76}}, false, []pair{{75, 76}}},

		{"apart, in order", 80, []pair{{82, 84}, {86, 88}, {90, 92}}, false, []pair{{82, 84}, {86, 88}, {90, 92}}},
		{"apart, by one", 80, []pair{{82, 84}, {85, 88}}, false, []pair{{82, 84}, {85, 88}}},
		{"touching", 80, []pair{{82, 84}, {84, 88}}, false, []pair{{82, 88}}},
		{"touching, turned", 80, []pair{{84, 88}, {82, 84}}, false, []pair{{82, 88}}},
		{"overlapping", 80, []pair{{82, 86}, {84, 88}}, false, []pair{{82, 88}}},
		{"overlapping, turned", 80, []pair{{84, 88}, {82, 86}}, false, []pair{{82, 88}}},
		{"the second one within the first", 80, []pair{{82, 88}, {84, 86}}, false, []pair{{82, 88}}},
		{"the first one twice, the first time left out", 80, []pair{{82, 88}, {82, 88}}, true, []pair{{82, 88}}},
		{"another twice", 80, []pair{{90, 92}, {82, 88}, {82, 88}}, false, []pair{{82, 88}, {90, 92}}},
		{"all of them filled by one", 80, []pair{{82, 84}, {86, 88}, {90, 92}, {81, 93}}, false, []pair{{81, 93}}},
		{"the gap between two", 80, []pair{{82, 84}, {88, 90}, {84, 88}}, false, []pair{{82, 90}}},
		{"many", 80, []pair{{98, 99}, {96, 97}, {94, 95}, {92, 93}, {90, 91}, {88, 89}}, false,
			[]pair{{88, 89}, {90, 91}, {92, 93}, {94, 95}, {96, 97}, {98, 99}}},

		{"the first one left out", 80, []pair{{70, 75}, {82, 84}, {86, 88}}, true, []pair{{82, 84}, {86, 88}}},
		{"the first one left out, whole in another than the second", 80, []pair{{86, 87}, {85, 88}, {82, 84}}, true, []pair{{82, 84}, {85, 88}}},
		{"another below x", 80, []pair{{82, 84}, {70, 75}, {86, 88}}, false, []pair{{82, 84}, {86, 88}}},
		{"the last one below x", 80, []pair{{82, 84}, {86, 88}, {70, 75}}, false, []pair{{82, 84}, {86, 88}}},
		{"another across x", 80, []pair{{82, 84}, {86, 88}, {70, 85}}, false, []pair{{82, 84}, {86, 88}}},
		{"another empty", 80, []pair{{82, 84}, {85, 85}, {86, 88}}, false, []pair{{82, 84}, {86, 88}}},
		{"another turned round", 80, []pair{{82, 84}, {95, 90}, {86, 88}}, false, []pair{{82, 84}, {86, 88}}},
		{"another beyond Next", 80, []pair{{82, 84}, {90, 101}, {86, 88}}, false, []pair{{82, 84}, {86, 88}}},
		{"none of many", 80, []pair{{79, 84}, {90, 101}, {86, 86}, {70, 75}}, false, nil},
		{"x at Next", 100, []pair{{100, 101}, {99, 100}, {100, 100}}, false, nil},
	} {
		c.ask(t)
	}
}

// In every order of blocks the row is the same, as long as the first one did not come twice.
func TestSpansInAnyOrder(t *testing.T) {
	all := []pair{{81, 83}, {83, 85}, {87, 90}, {89, 92}, {96, 98}}
	want := []pair{{81, 85}, {87, 92}, {96, 98}}
	count := 0
	var order func(done, left []pair)
	order = func(done, left []pair) {
		if len(left) == 0 {
			count++
			heap{"any order", 80, done, false, want}.ask(t)
			// And once more behind one that came twice.
			heap{"any order", 80, slices.Concat([]pair{{60, 61}}, done), true, want}.ask(t)
		}
		for i := range left {
			order(append(slices.Clone(done), left[i]), slices.Concat(left[:i], left[i+1:]))
		}
	}
	order(nil, all)
	if count != 120 {
		t.Errorf("%d orders", count)
	}
}

// About the last offset, and the end behind it.
func TestSpansAtTheEnd(t *testing.T) {
	for _, c := range []struct {
		name     string
		next, x  int
		from, to int
		twice    bool
		span     bool
	}{
		{"To one below the last offset", far, last - 9, last - 5, last - 1, false, true},
		{"To at the last offset", far, last - 9, last - 5, last, false, true},
		{"To one above the last offset, at Next", far, last - 9, last - 5, far, false, false},
		{"To two above the last offset", far, last - 9, last - 5, far + 1, false, false},
		{"To at the last offset, Next there", last, last - 9, last - 5, last, false, true},
		{"To one above it, Next at it", last, last - 9, last - 5, far, false, false},
		{"To at the last offset, Next ahead of it", last - 1, last - 9, last - 5, last, false, false},
		{"all but the end", far, last - 9, last - 9, last, false, true},
		{"the end alone", far, last - 9, last, far, false, false},
		{"twice, the end in it", far, far, last - 5, far, true, false},
		{"twice, the end not in it", far, last, last - 5, last, true, false},
		{"not twice, for the end", far, last, last - 5, far, false, false},
	} {
		for _, first := range append(firsts(), iss) {
			a := api.Asked{Una: last - 9, Next: c.next, Iss: first, Sacks: true}
			s := api.Segment{Flags: api.Ack, Ack: number(first, c.x), Sacks: blocks(first, pair{c.from, c.to})}
			want := api.Heard{Counts: true, Ack: c.x, Twice: c.twice}
			if c.span {
				want.Spans = row(pair{c.from, c.to})
			}
			is(t, c.name, a, s, want)
		}
	}
}

// Blocks far from Una: as their numbers are ahead of Una's or behind it, by less than 2^31 or by just that.
func TestBlocksFarFromUna(t *testing.T) {
	for _, una := range []int{half + 5, turn, 1 << 40, last - turn} {
		for _, c := range []struct {
			name     string
			from, to int // less Una
			twice    bool
			span     bool
		}{
			{"up to 2^31 - 1 ahead", 1, half - 1, false, true},
			{"the farthest one ahead", half - 2, half - 1, false, true},
			{"up to 2^31 ahead: that is behind", 1, half, false, false},
			{"from 2^31 ahead on: that is behind", half, half + 5, true, false},
			{"up to 2^31 ahead, by one: that is turned round", half - 1, half, false, false},
			{"from 2^31 behind on", -half, -half + 5, true, false},
			{"from 2^31 behind up to Una", -half, 0, true, false},
			{"from one more behind: that is ahead", -half - 1, -5, false, false},
			{"up to 2^31 behind: that is turned round", -half - 1, -half, false, false},
			{"2^32 ahead: that is here", turn + 1, turn + 5, false, true},
			{"2^32 behind: that is here", -turn + 1, -turn + 5, false, true},
		} {
			for _, first := range append(firsts(), iss) {
				a := api.Asked{Una: una, Next: una + turn, Iss: first, Sacks: true}
				s := api.Segment{Flags: api.Ack, Ack: number(first, una), Sacks: blocks(first, pair{una + c.from, una + c.to})}
				want := api.Heard{Counts: true, Ack: una, Twice: c.twice}
				if c.span {
					want.Spans = row(pair{una + (c.from+turn)%turn, una + (c.to+turn)%turn})
				}
				is(t, c.name, a, s, want)
			}
		}
	}
}

// The offsets of blocks are those nearest to Una, not to what is acknowledged.
func TestBlocksByUna(t *testing.T) {
	una := 1 << 40
	a := api.Asked{Una: una, Next: una + turn, Iss: 9, Sacks: true}
	x := una + half - 10
	s := api.Segment{Flags: api.Ack, Ack: number(9, x), Sacks: blocks(9, pair{x + 1, x + 20})}
	is(t, "To is ahead of x, and behind Una", a, s, api.Heard{Counts: true, Ack: x})
	s.Sacks = blocks(9, pair{x + 1, x + 9})
	is(t, "To is ahead of both", a, s, api.Heard{Counts: true, Ack: x, Spans: row(pair{x + 1, x + 9})})
	s.Sacks = blocks(9, pair{x + 11, x + 20})
	is(t, "all of it is ahead of x, and behind Una", a, s, api.Heard{Counts: true, Ack: x, Twice: true})
}

// Nothing hangs on the blocks but Twice and Spans, and nothing on them without Sacks.
func TestBlocksAlone(t *testing.T) {
	for _, l := range [][]pair{nil, {{0, 0}}, {{1, 0}}, {{0, turn - 1}}, {{70, 75}}, {{90, 95}}, {{90, 92}, {85, 95}}, {{70, 75}, {90, 95}}} {
		for x := -1; x <= 101; x++ {
			a, s := usual(), segment()
			s.Ack = at(x)
			want := ack.Weigh(a, s)
			s.Sacks = blocks(iss, l...)
			got := ack.Weigh(a, s)
			got.Twice, got.Spans = false, nil
			if !same(got, want) {
				t.Errorf("x %d, %v: %+v, want %+v", x, l, got, want)
			}
			a.Sacks = false
			is(t, "without Sacks", a, s, want)
		}
	}
}

// R2, R3: what is handed in stays as it was, and the same call answers the same, whatever becomes of what it answered.
func TestHandedIn(t *testing.T) {
	behind := blocks(iss, pair{90, 92}, pair{85, 95}, pair{70, 75}, pair{95, 97}, pair{81, 82}, pair{87, 88}, pair{1, 2})
	before := slices.Clone(behind)
	a, s := usual(), segment()
	s.Sacks, s.Data = behind[:5], []byte("abc")
	want := heard(true, pair{81, 82}, pair{85, 97})
	for range 3 {
		h := ack.Weigh(a, s)
		if !same(h, want) || !slices.Equal(behind, before) || string(s.Data) != "abc" {
			t.Fatalf("%+v, %v", h, behind)
		}
		other := ack.Weigh(a, s)
		for i := range h.Spans {
			h.Spans[i] = api.Span{}
		}
		_ = append(h.Spans[:0], row(pair{1, 2}, pair{3, 4}, pair{5, 6})...)
		if !same(other, want) {
			t.Fatalf("another answer: %+v", other)
		}
	}
}
