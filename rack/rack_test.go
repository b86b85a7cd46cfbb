package rack_test

import (
	"math"
	"slices"
	"testing"

	"tideway/api"
	"tideway/rack"
)

const (
	top  = api.MaxTime // of the times that are handed in
	kept = 1 << 51     // of offsets, and of what a state keeps
)

// is asks that a state is the wanted one, and that there was no error.
func is(t *testing.T, name string, got api.Rack, e api.Errno, want api.Rack) {
	t.Helper()
	if e != api.OK || got != want {
		t.Errorf("%s: %+v, %d, want %+v", name, got, e, want)
	}
}

// refused asks that a call answered an error, and nothing besides.
func refused(t *testing.T, name string, got api.Rack, e api.Errno, want api.Errno) {
	t.Helper()
	if e != want || got != (api.Rack{}) {
		t.Errorf("%s: %+v, %d, want error %d", name, got, e, want)
	}
}

// marked asks that Mark answered those records and that number, and no error.
func marked(t *testing.T, name string, got []api.Rec, left int, e api.Errno, want []api.Rec, wantLeft int) {
	t.Helper()
	if e != api.OK || left != wantLeft || !slices.Equal(got, want) {
		t.Errorf("%s: %+v, %d, error %d, want %+v, %d", name, got, left, e, want, wantLeft)
	}
}

// The chapter's example.
func TestExample(t *testing.T) {
	k := api.Rack{Sent: 100, End: 20, Rtt: 50, Mult: 1}
	l := []api.Rec{{To: 10, Sent: 90, Tx: 1}}
	got, left, e := rack.Mark(k, l, 160, 0)
	marked(t, "wait 0", got, left, e, []api.Rec{{To: 10, Sent: 90, Tx: 1, Lost: true}}, 0)
	got, left, e = rack.Mark(k, l, 160, 30)
	marked(t, "wait 30", got, left, e, l, 10)
}

// P13.1: New

func TestNew(t *testing.T) {
	k := rack.New()
	if k != (api.Rack{Sent: 0, End: 0, Rtt: 0, Seen: false, Fack: 0, Mult: 1, Rounds: 0, Last: 0}) {
		t.Errorf("New() = %+v", k)
	}
	if e := rack.Check(k); e != api.OK {
		t.Errorf("Check(New()) = %d", e)
	}
	k.Mult = 9
	if rack.New().Mult != 1 {
		t.Error("two states know of one another")
	}
}

// P13.1: Check

// state is a state, and whether it may be.
type state struct {
	name string
	k    api.Rack
	may  bool
}

// states are states with each field about its edges.
func states() []state {
	l := []state{
		{"fresh", api.Rack{Mult: 1}, true},
		{"the zero value", api.Rack{}, false},
		{"ordinary", api.Rack{Sent: 100, End: 20, Rtt: 50, Fack: 30, Mult: 2, Rounds: 16, Last: 40}, true},
		{"ordinary, Seen", api.Rack{Sent: 100, End: 20, Rtt: 50, Seen: true, Fack: 30, Mult: 2, Rounds: 16, Last: 40}, true},
		{"End above Fack", api.Rack{End: 20, Fack: 10, Mult: 1}, true},
		{"Mult above 1 without Rounds", api.Rack{Mult: 7}, true},
		{"Rounds with Mult 1", api.Rack{Mult: 1, Rounds: 7}, true},
		{"all greatest", api.Rack{Sent: kept, End: kept, Rtt: kept, Seen: true, Fack: kept, Mult: 255, Rounds: 16, Last: kept}, true},
		{"all one above", api.Rack{Sent: kept + 1, End: kept + 1, Rtt: kept + 1, Fack: kept + 1, Mult: 256, Rounds: 17, Last: kept + 1}, false},
		{"all far below 0", api.Rack{Sent: math.MinInt, End: math.MinInt, Rtt: math.MinInt, Fack: math.MinInt, Mult: math.MinInt, Rounds: math.MinInt, Last: math.MinInt}, false},
	}
	for _, f := range []struct {
		name      string
		low, high int
		set       func(k *api.Rack, n int)
	}{
		{"Sent", 0, kept, func(k *api.Rack, n int) { k.Sent = n }},
		{"End", 0, kept, func(k *api.Rack, n int) { k.End = n }},
		{"Rtt", 0, kept, func(k *api.Rack, n int) { k.Rtt = n }},
		{"Fack", 0, kept, func(k *api.Rack, n int) { k.Fack = n }},
		{"Last", 0, kept, func(k *api.Rack, n int) { k.Last = n }},
		{"Mult", 1, 255, func(k *api.Rack, n int) { k.Mult = n }},
		{"Rounds", 0, 16, func(k *api.Rack, n int) { k.Rounds = n }},
	} {
		for _, c := range []struct {
			name string
			n    int
			may  bool
		}{
			{"far below", math.MinInt, false},
			{"one below the least", f.low - 1, false},
			{"the least", f.low, true},
			{"one above the least", f.low + 1, true},
			{"one below the greatest", f.high - 1, true},
			{"the greatest", f.high, true},
			{"one above the greatest", f.high + 1, false},
			{"far above", math.MaxInt, false},
		} {
			k := api.Rack{Sent: 100, End: 20, Rtt: 50, Fack: 30, Mult: 2, Rounds: 3, Last: 40}
			f.set(&k, c.n)
			l = append(l, state{f.name + " " + c.name, k, c.may})
		}
	}
	return l
}

func TestCheck(t *testing.T) {
	for _, c := range states() {
		want := api.ErrState
		if c.may {
			want = api.OK
		}
		if got := rack.Check(c.k); got != want {
			t.Errorf("%s: Check(%+v) = %d, want %d", c.name, c.k, got, want)
		}
	}
}

// P13.1: what all calls refuse

func TestOtherStatesAreRefused(t *testing.T) {
	fine := api.Rec{From: 10, To: 20, Sent: 5, Tx: 1}
	for _, c := range states() {
		if c.may {
			_, e1 := rack.Given(c.k, fine, 9, 1)
			_, e2 := rack.Reorder(c.k, 1, 1, true, 0)
			_, e3 := rack.Again(c.k, 1, 1)
			_, e4 := rack.Calm(c.k)
			_, _, e5 := rack.Mark(c.k, []api.Rec{fine}, 9, 1)
			if got := [5]api.Errno{e1, e2, e3, e4, e5}; got != ([5]api.Errno{}) {
				t.Errorf("%s: errors %d", c.name, got)
			}
			continue
		}
		// Arguments that may be, and arguments that are refused too: the state's error comes first.
		for _, n := range []int{9, -1, math.MinInt, math.MaxInt} {
			x := api.Rec{From: n, To: n, Sent: 5, Tx: n}
			k, e := rack.Given(c.k, x, n, n)
			refused(t, c.name+": Given", k, e, api.ErrState)
			if later, e := rack.Reorder(c.k, n, n, true, n); later != 0 || e != api.ErrState {
				t.Errorf("%s: Reorder %d, %d", c.name, later, e)
			}
			k, e = rack.Again(c.k, n, n)
			refused(t, c.name+": Again", k, e, api.ErrState)
			k, e = rack.Calm(c.k)
			refused(t, c.name+": Calm", k, e, api.ErrState)
			for _, l := range [][]api.Rec{nil, {}, {x}, {fine, x}} {
				if row, left, e := rack.Mark(c.k, l, n, n); len(row) != 0 || left != 0 || e != api.ErrState {
					t.Errorf("%s: Mark %+v, %d, %d", c.name, row, left, e)
				}
			}
		}
	}
}

// given is a number, and whether it may be.
type given struct {
	n   int
	may bool
}

// upTo are numbers about the edges of those from 0 to high.
func upTo(high int) []given {
	return []given{{math.MinInt, false}, {-1, false}, {0, true}, {1, true}, {high - 1, true}, {high, true},
		{high + 1, false}, {math.MaxInt, false}}
}

// says asks that a call was refused by ErrArg, or that it was not, as c says.
func says(t *testing.T, name string, c given, e api.Errno) {
	t.Helper()
	if c.may && e != api.OK || !c.may && e != api.ErrArg {
		t.Errorf("%s %d: error %d", name, c.n, e)
	}
}

func TestTimes(t *testing.T) {
	k := rack.New()
	for _, c := range upTo(top) {
		got, e := rack.Given(k, api.Rec{To: 1, Tx: 1}, c.n, 5)
		says(t, "Given: now", c, e)
		if !c.may {
			refused(t, "Given: now", got, e, api.ErrArg)
		}
		got, e = rack.Given(k, api.Rec{To: 1, Tx: 1}, 5, c.n)
		says(t, "Given: low", c, e)
		if !c.may {
			refused(t, "Given: low", got, e, api.ErrArg)
		}
		// Also where the answer does not hang on them.
		for _, seen := range []bool{false, true} {
			for _, calm := range []bool{false, true} {
				for _, sacked := range []int{0, 3} {
					k.Seen = seen
					later, e := rack.Reorder(k, c.n, 5, calm, sacked)
					says(t, "Reorder: low", c, e)
					if !c.may && later != 0 {
						t.Errorf("Reorder: low %d: %d", c.n, later)
					}
					later, e = rack.Reorder(k, 25, c.n, calm, sacked)
					says(t, "Reorder: srtt", c, e)
					if !c.may && later != 0 {
						t.Errorf("Reorder: srtt %d: %d", c.n, later)
					}
				}
			}
		}
		for _, l := range [][]api.Rec{nil, {{To: 1, Tx: 1}}, {{To: 1, Tx: 1, Sacked: true}}} {
			row, left, e := rack.Mark(k, l, c.n, 5)
			says(t, "Mark: now", c, e)
			if !c.may && (len(row) != 0 || left != 0) {
				t.Errorf("Mark: now %d: %+v, %d", c.n, row, left)
			}
			row, left, e = rack.Mark(k, l, 5, c.n)
			says(t, "Mark: wait", c, e)
			if !c.may && (len(row) != 0 || left != 0) {
				t.Errorf("Mark: wait %d: %+v, %d", c.n, row, left)
			}
		}
	}
}

func TestOffsets(t *testing.T) {
	for _, c := range upTo(kept) {
		for _, last := range []int{0, 50, kept} {
			k := api.Rack{Mult: 1, Last: last}
			got, e := rack.Again(k, c.n, 5)
			says(t, "Again: una", c, e)
			if !c.may {
				refused(t, "Again: una", got, e, api.ErrArg)
			}
			got, e = rack.Again(k, 5, c.n)
			says(t, "Again: next", c, e)
			if !c.may {
				refused(t, "Again: next", got, e, api.ErrArg)
			}
		}
	}
	// A next below una is none of what is refused.
	got, e := rack.Again(rack.New(), 9, 5)
	is(t, "Again: next below una", got, e, api.Rack{Mult: 2, Last: 5, Rounds: 16})
}

// record is a record at time 50, and whether it may be.
type record struct {
	name string
	x    api.Rec
	may  bool
}

// records have each field about its edges.
func records() []record {
	var l []record
	for _, c := range upTo(kept) {
		l = append(l, record{"From", api.Rec{From: c.n, To: 20, Sent: 30, Tx: 1}, c.may},
			record{"To", api.Rec{From: 10, To: c.n, Sent: 30, Tx: 1}, c.may})
	}
	for _, c := range upTo(50) {
		l = append(l, record{"Sent", api.Rec{From: 10, To: 20, Sent: c.n, Tx: 1}, c.may})
	}
	for _, c := range []given{{math.MinInt, false}, {-1, false}, {0, false}, {1, true}, {2, true}, {math.MaxInt, true}} {
		l = append(l, record{"Tx", api.Rec{From: 10, To: 20, Sent: 30, Tx: c.n}, c.may})
	}
	return append(l,
		record{"From at To", api.Rec{From: 20, To: 20, Tx: 1}, true},
		record{"From above To", api.Rec{From: 21, To: 20, Tx: 1}, true},
		record{"Again without Lost", api.Rec{From: 10, To: 20, Tx: 1, Again: true}, true},
		record{"Sacked and Lost", api.Rec{From: 10, To: 20, Tx: 1, Sacked: true, Lost: true}, true},
		record{"numbers of layer 17 below 0", api.Rec{From: 10, To: 20, Tx: 1, Given: -1, GivenAt: -1, FirstAt: -1}, true},
		record{"numbers of layer 17 far above", api.Rec{From: 10, To: 20, Tx: 1, Given: math.MaxInt, GivenAt: math.MaxInt, FirstAt: math.MaxInt}, true},
		record{"the zero value", api.Rec{}, false})
}

func TestRecords(t *testing.T) {
	fine := api.Rec{From: 3, To: 4, Sent: 2, Tx: 1}
	for _, k := range []api.Rack{rack.New(), {Sent: 40, End: 30, Rtt: 5, Seen: true, Fack: 99, Mult: 3, Rounds: 2, Last: 7}} {
		for _, c := range records() {
			want := api.ErrArg
			if c.may {
				want = api.OK
			}
			got, e := rack.Given(k, c.x, 50, 0)
			if e != want || !c.may && got != (api.Rack{}) {
				t.Errorf("%s: Given %+v: %+v, %d", c.name, c.x, got, e)
			}
			// Marks change nothing of what is refused, wherever it stands.
			sacked, lost := c.x, c.x
			sacked.Sacked, lost.Lost = true, true
			for _, x := range []api.Rec{c.x, sacked, lost} {
				for at := range 4 {
					l := []api.Rec{fine, fine, fine}
					l = slices.Insert(l, at, x)
					row, left, e := rack.Mark(k, l, 50, 1)
					if e != want || !c.may && (len(row) != 0 || left != 0) {
						t.Errorf("%s: Mark %+v at %d: %+v, %d, %d", c.name, x, at, row, left, e)
					}
				}
			}
		}
	}
}

// P13.2: Given

func TestGiven(t *testing.T) {
	base := api.Rack{Sent: 100, End: 20, Rtt: 50, Fack: 30, Mult: 3, Rounds: 4, Last: 7}
	with := func(change func(k *api.Rack)) api.Rack {
		k := base
		change(&k)
		return k
	}
	seen := with(func(k *api.Rack) { k.Seen = true })
	for _, c := range []struct {
		name     string
		k        api.Rack
		x        api.Rec
		now, low int
		want     api.Rack
	}{
		{"the first one", rack.New(), api.Rec{From: 0, To: 10, Sent: 5, Tx: 1}, 45, 40, api.Rack{Sent: 5, End: 10, Rtt: 40, Fack: 10, Mult: 1}},
		{"the first one, at 0", rack.New(), api.Rec{From: 0, To: 10, Sent: 0, Tx: 1}, 0, 0, api.Rack{End: 10, Fack: 10, Mult: 1}},
		{"nothing but place 0", rack.New(), api.Rec{Tx: 1}, 7, 0, rack.New()},

		{"To one below Fack, once", base, api.Rec{From: 5, To: 29, Sent: 99, Tx: 1}, 200, 0, seen},
		{"To at Fack, once", base, api.Rec{From: 5, To: 30, Sent: 99, Tx: 1}, 200, 0, base},
		{"To one above Fack, once", base, api.Rec{From: 5, To: 31, Sent: 99, Tx: 1}, 200, 0, with(func(k *api.Rack) { k.Fack = 31 })},
		{"To one below Fack, twice", base, api.Rec{From: 5, To: 29, Sent: 99, Tx: 2}, 200, 0, base},
		{"To at Fack, twice", base, api.Rec{From: 5, To: 30, Sent: 99, Tx: 2}, 200, 0, base},
		{"To one above Fack, twice", base, api.Rec{From: 5, To: 31, Sent: 99, Tx: 2}, 200, 0, with(func(k *api.Rack) { k.Fack = 31 })},
		{"From far below Fack, To above it", base, api.Rec{From: 0, To: 90, Sent: 99, Tx: 1}, 200, 0, with(func(k *api.Rack) { k.Fack = 90 })},
		{"seen stays seen, once", seen, api.Rec{From: 5, To: 30, Sent: 99, Tx: 1}, 200, 0, seen},
		{"seen stays seen, twice", seen, api.Rec{From: 5, To: 29, Sent: 99, Tx: 2}, 200, 0, seen},
		{"seen, and sent last", base, api.Rec{From: 5, To: 29, Sent: 150, Tx: 1}, 200, 0,
			with(func(k *api.Rack) { k.Seen, k.Sent, k.End, k.Rtt = true, 150, 29, 50 })},

		{"one below low, once", base, api.Rec{From: 5, To: 40, Sent: 161, Tx: 1}, 200, 40,
			with(func(k *api.Rack) { k.Fack, k.Sent, k.End, k.Rtt = 40, 161, 40, 39 })},
		{"at low, once", base, api.Rec{From: 5, To: 40, Sent: 160, Tx: 1}, 200, 40,
			with(func(k *api.Rack) { k.Fack, k.Sent, k.End, k.Rtt = 40, 160, 40, 40 })},
		{"one below low, twice", base, api.Rec{From: 5, To: 40, Sent: 161, Tx: 2}, 200, 40, with(func(k *api.Rack) { k.Fack = 40 })},
		{"at low, twice", base, api.Rec{From: 5, To: 40, Sent: 160, Tx: 2}, 200, 40,
			with(func(k *api.Rack) { k.Fack, k.Sent, k.End, k.Rtt = 40, 160, 40, 40 })},
		{"one above low, twice", base, api.Rec{From: 5, To: 40, Sent: 159, Tx: 2}, 200, 40,
			with(func(k *api.Rack) { k.Fack, k.Sent, k.End, k.Rtt = 40, 159, 40, 41 })},
		{"one below low, very often", base, api.Rec{From: 5, To: 40, Sent: 161, Tx: math.MaxInt}, 200, 40, with(func(k *api.Rack) { k.Fack = 40 })},
		{"at low, very often", base, api.Rec{From: 5, To: 40, Sent: 160, Tx: math.MaxInt}, 200, 40,
			with(func(k *api.Rack) { k.Fack, k.Sent, k.End, k.Rtt = 40, 160, 40, 40 })},
		{"sent now, twice, low 0", base, api.Rec{From: 5, To: 40, Sent: 200, Tx: 2}, 200, 0,
			with(func(k *api.Rack) { k.Fack, k.Sent, k.End, k.Rtt = 40, 200, 40, 0 })},
		{"sent now, twice, low 1", base, api.Rec{From: 5, To: 40, Sent: 200, Tx: 2}, 200, 1, with(func(k *api.Rack) { k.Fack = 40 })},
		{"below low, twice, sent ahead", base, api.Rec{From: 5, To: 10, Sent: 90, Tx: 2}, 100, 40, base},
		{"below low, twice, To below Fack", seen, api.Rec{From: 5, To: 10, Sent: 190, Tx: 2}, 200, 40, seen},

		{"Sent one below", base, api.Rec{From: 5, To: 40, Sent: 99, Tx: 1}, 200, 0, with(func(k *api.Rack) { k.Fack = 40 })},
		{"Sent one above", base, api.Rec{From: 5, To: 40, Sent: 101, Tx: 1}, 200, 0,
			with(func(k *api.Rack) { k.Fack, k.Sent, k.End, k.Rtt = 40, 101, 40, 99 })},
		{"Sent one above, To below End", base, api.Rec{From: 5, To: 10, Sent: 101, Tx: 2}, 200, 0,
			with(func(k *api.Rack) { k.Sent, k.End, k.Rtt = 101, 10, 99 })},
		{"the same Sent, To one below End", base, api.Rec{From: 5, To: 19, Sent: 100, Tx: 2}, 200, 0, base},
		{"the same Sent, To at End", base, api.Rec{From: 5, To: 20, Sent: 100, Tx: 2}, 200, 0, base},
		{"the same Sent, To one above End", base, api.Rec{From: 5, To: 21, Sent: 100, Tx: 2}, 200, 0,
			with(func(k *api.Rack) { k.End, k.Rtt = 21, 100 })},
		{"the same Sent, From above End", base, api.Rec{From: 25, To: 20, Sent: 100, Tx: 2}, 200, 0, base},

		{"now below the state's Sent", base, api.Rec{From: 5, To: 40, Sent: 9, Tx: 1}, 10, 0, with(func(k *api.Rack) { k.Fack = 40 })},
		{"the greatest of all", api.Rack{Sent: top - 1, End: kept, Fack: kept, Mult: 255, Rounds: 16, Last: kept}, api.Rec{From: kept, To: kept, Sent: top, Tx: 1}, top, top,
			api.Rack{Sent: top, End: kept, Fack: kept, Mult: 255, Rounds: 16, Last: kept}},
		{"the longest time", rack.New(), api.Rec{To: kept, Tx: 1}, top, top, api.Rack{End: kept, Rtt: top, Fack: kept, Mult: 1}},
		{"a state's Sent above all times", api.Rack{Sent: kept, Mult: 1}, api.Rec{To: 5, Sent: top, Tx: 1}, top, 0, api.Rack{Sent: kept, Fack: 5, Mult: 1}},
	} {
		got, e := rack.Given(c.k, c.x, c.now, c.low)
		is(t, c.name, got, e, c.want)
		// What the peer and layer 17 say of it does not count here.
		x := c.x
		x.Fin, x.Sacked, x.Lost, x.Again, x.Given, x.GivenAt, x.FirstAt, x.Idle = true, true, true, true, 7, 8, 9, true
		got, e = rack.Given(c.k, x, c.now, c.low)
		is(t, c.name+", with marks", got, e, c.want)
	}
}

// P13.3: Reorder

func TestReorder(t *testing.T) {
	for _, c := range []struct {
		name      string
		seen      bool
		mult      int
		low, srtt int
		calm      bool
		sacked    int
		want      int
	}{
		{"not seen, calm, none", false, 1, 100, 80, true, 0, 25},
		{"not seen, calm, 2", false, 1, 100, 80, true, 2, 25},
		{"not seen, calm, 3", false, 1, 100, 80, true, 3, 0},
		{"not seen, calm, 4", false, 1, 100, 80, true, 4, 0},
		{"not seen, calm, far below 0", false, 1, 100, 80, true, math.MinInt, 25},
		{"not seen, calm, far above", false, 1, 100, 80, true, math.MaxInt, 0},
		{"not seen, not calm, none", false, 1, 100, 80, false, 0, 0},
		{"not seen, not calm, 2", false, 1, 100, 80, false, 2, 0},
		{"not seen, not calm, 3", false, 1, 100, 80, false, 3, 0},
		{"not seen, not calm, 4", false, 1, 100, 80, false, 4, 0},
		{"seen, calm, 2", true, 1, 100, 80, true, 2, 25},
		{"seen, calm, 3", true, 1, 100, 80, true, 3, 25},
		{"seen, calm, 4", true, 1, 100, 80, true, 4, 25},
		{"seen, not calm, 2", true, 1, 100, 80, false, 2, 25},
		{"seen, not calm, 3", true, 1, 100, 80, false, 3, 25},
		{"seen, not calm, 4", true, 1, 100, 80, false, 4, 25},

		{"by 4: 0", true, 1, 0, 80, true, 0, 0},
		{"by 4: 3", true, 1, 3, 80, true, 0, 0},
		{"by 4: 4", true, 1, 4, 80, true, 0, 1},
		{"by 4: 7", true, 1, 7, 80, true, 0, 1},
		{"by 4: 3 times 5", true, 3, 5, 80, true, 0, 3},
		{"by 4: 7 times 7", true, 7, 7, 80, true, 0, 12},
		{"by 4: 2 times 7", true, 2, 7, 80, true, 0, 3},
		{"by 4: 4 times 101", true, 4, 101, 180, true, 0, 101},

		{"one below srtt", true, 1, 100, 26, true, 0, 25},
		{"at srtt", true, 1, 100, 25, true, 0, 25},
		{"one above srtt", true, 1, 100, 24, true, 0, 24},
		{"far above srtt", true, 255, 1000000, 24, true, 0, 24},
		{"srtt 0", true, 255, 1000000, 0, true, 0, 0},
		{"not seen, above srtt", false, 255, 1000000, 24, true, 2, 24},
		{"low 0", false, 255, 0, 24, true, 2, 0},

		{"the greatest", true, 255, top, top, true, 0, top},
		{"the greatest low", true, 1, top, top, true, 0, top / 4},
		{"the greatest low, 3 times", true, 3, top - 1, top, true, 0, 3*(top/4) - 1},
		{"the greatest low, 4 times", true, 4, top, top, true, 0, top},
		{"the greatest low, 5 times", true, 5, top, top, true, 0, top},
		{"the greatest Mult", true, 255, 1001, top, true, 0, 63813},
	} {
		k := api.Rack{Sent: 1, End: 2, Rtt: 3, Seen: c.seen, Fack: 4, Mult: c.mult, Rounds: 5, Last: 6}
		if got, e := rack.Reorder(k, c.low, c.srtt, c.calm, c.sacked); got != c.want || e != api.OK {
			t.Errorf("%s: %d, %d, want %d", c.name, got, e, c.want)
		}
	}
}

// P13.3: Again

func TestAgain(t *testing.T) {
	for _, c := range []struct {
		name                   string
		mult, rounds, last     int
		una, next              int
		wantMult, want, atLast int
	}{
		{"fresh", 1, 0, 0, 0, 70, 2, 16, 70},
		{"una one below Last", 3, 5, 40, 39, 70, 3, 16, 40},
		{"una at Last", 3, 5, 40, 40, 70, 4, 16, 70},
		{"una one above Last", 3, 5, 40, 41, 70, 4, 16, 70},
		{"una far below Last", 3, 5, kept, 0, 70, 3, 16, kept},
		{"all at 2^51", 3, 5, kept, kept, kept, 4, 16, kept},
		{"Mult 254", 254, 5, 40, 40, 70, 255, 16, 70},
		{"Mult 255", 255, 5, 40, 40, 70, 255, 16, 70},
		{"Mult 254, una below Last", 254, 5, 40, 39, 70, 254, 16, 40},
		{"Mult 255, una below Last", 255, 5, 40, 39, 70, 255, 16, 40},
		{"Rounds 0", 3, 0, 40, 40, 70, 4, 16, 70},
		{"Rounds 16", 3, 16, 40, 40, 70, 4, 16, 70},
		{"Rounds 0, una below Last", 3, 0, 40, 39, 70, 3, 16, 40},
		{"Rounds 16, una below Last", 3, 16, 40, 39, 70, 3, 16, 40},
		{"next 0", 3, 5, 40, 40, 0, 4, 16, 0},
		{"next at Last", 3, 5, 40, 40, 40, 4, 16, 40},
	} {
		k := api.Rack{Sent: 1, End: 2, Rtt: 3, Seen: true, Fack: 4, Mult: c.mult, Rounds: c.rounds, Last: c.last}
		want := k
		want.Mult, want.Rounds, want.Last = c.wantMult, c.want, c.atLast
		got, e := rack.Again(k, c.una, c.next)
		is(t, c.name, got, e, want)
		k.Seen, want.Seen = false, false
		got, e = rack.Again(k, c.una, c.next)
		is(t, c.name+", not seen", got, e, want)
	}
}

// P13.3: Calm

func TestCalm(t *testing.T) {
	for _, c := range []struct {
		mult, rounds, wantMult, wantRounds int
	}{
		{1, 0, 1, 0}, {2, 0, 1, 0}, {255, 0, 1, 0},
		{1, 1, 1, 0}, {2, 1, 1, 0}, {255, 1, 1, 0},
		{1, 2, 1, 1}, {2, 2, 2, 1}, {255, 2, 255, 1},
		{1, 16, 1, 15}, {2, 16, 2, 15}, {255, 16, 255, 15},
	} {
		k := api.Rack{Sent: 1, End: 2, Rtt: 3, Seen: true, Fack: 4, Mult: c.mult, Rounds: c.rounds, Last: 6}
		want := k
		want.Mult, want.Rounds = c.wantMult, c.wantRounds
		got, e := rack.Calm(k)
		is(t, "Calm", got, e, want)
		k.Seen, want.Seen = false, false
		got, e = rack.Calm(k)
		is(t, "Calm, not seen", got, e, want)
	}
}

func TestWidenedWaitOutlivesSixteen(t *testing.T) {
	k, e := rack.Again(rack.New(), 0, 9)
	is(t, "Again", k, e, api.Rack{Mult: 2, Rounds: 16, Last: 9})
	for i := 1; i <= 20; i++ {
		want := api.Rack{Mult: 2, Rounds: 16 - i, Last: 9}
		if i >= 16 {
			want = api.Rack{Mult: 1, Last: 9}
		}
		k, e = rack.Calm(k)
		is(t, "Calm", k, e, want)
	}
}

// P13.4: Mark

func TestMarkOne(t *testing.T) {
	k := api.Rack{Sent: 100, End: 20, Rtt: 50, Mult: 1}
	for _, c := range []struct {
		name      string
		x         api.Rec
		now, wait int
		lost      bool
		left      int
	}{
		{"Sent one below, To below End", api.Rec{To: 10, Sent: 99, Tx: 1}, 900, 0, true, 0},
		{"Sent one below, To above End", api.Rec{To: 30, Sent: 99, Tx: 1}, 900, 0, true, 0},
		{"the same Sent, To one below End", api.Rec{To: 19, Sent: 100, Tx: 1}, 900, 0, true, 0},
		{"the same Sent, To at End", api.Rec{To: 20, Sent: 100, Tx: 1}, 900, 0, false, 0},
		{"the same Sent, To one above End", api.Rec{To: 21, Sent: 100, Tx: 1}, 900, 0, false, 0},
		{"the same Sent, To 0", api.Rec{Sent: 100, Tx: 1}, 900, 0, true, 0},
		{"the same Sent, From above End", api.Rec{From: 40, To: 19, Sent: 100, Tx: 1}, 900, 0, true, 0},
		{"Sent one above, To below End", api.Rec{To: 10, Sent: 101, Tx: 1}, 900, 0, false, 0},
		{"Sent one above, To above End", api.Rec{To: 30, Sent: 101, Tx: 1}, 900, 0, false, 0},
		{"Sent now", api.Rec{To: 10, Sent: 900, Tx: 1}, 900, 0, false, 0},

		{"one below now", api.Rec{To: 10, Sent: 90, Tx: 1}, 141, 0, true, 0},
		{"at now", api.Rec{To: 10, Sent: 90, Tx: 1}, 140, 0, true, 0},
		{"one above now", api.Rec{To: 10, Sent: 90, Tx: 1}, 139, 0, false, 1},
		{"with wait, one below now", api.Rec{To: 10, Sent: 90, Tx: 1}, 148, 7, true, 0},
		{"with wait, at now", api.Rec{To: 10, Sent: 90, Tx: 1}, 147, 7, true, 0},
		{"with wait, one above now", api.Rec{To: 10, Sent: 90, Tx: 1}, 146, 7, false, 1},
		{"far above now", api.Rec{To: 10, Sent: 90, Tx: 1}, 90, 70, false, 120},
		{"the same Sent, above now", api.Rec{To: 19, Sent: 100, Tx: 1}, 120, 0, false, 30},
		{"at End, above now", api.Rec{To: 20, Sent: 100, Tx: 1}, 120, 0, false, 0},
		{"sent behind, above now", api.Rec{To: 10, Sent: 101, Tx: 1}, 120, 0, false, 0},
		{"the longest wait", api.Rec{To: 10, Sent: 90, Tx: 1}, 160, top, false, top - 20},
		{"the longest wait, at the last time", api.Rec{To: 10, Sent: 0, Tx: 1}, top, top, false, 50},
		{"the last time", api.Rec{To: 10, Sent: 90, Tx: 1}, top, top - 140, true, 0},
		{"the last time, one more", api.Rec{To: 10, Sent: 90, Tx: 1}, top, top - 139, false, 1},
		{"sent very often", api.Rec{To: 10, Sent: 90, Tx: math.MaxInt}, 160, 0, true, 0},
	} {
		want := c.x
		want.Lost = c.lost
		got, left, e := rack.Mark(k, []api.Rec{c.x}, c.now, c.wait)
		marked(t, c.name, got, left, e, []api.Rec{want}, c.left)
		// What else the state keeps does not count here.
		other := api.Rack{Sent: 100, End: 20, Rtt: 50, Seen: true, Fack: 1, Mult: 255, Rounds: 16, Last: 3}
		got, left, e = rack.Mark(other, []api.Rec{c.x}, c.now, c.wait)
		marked(t, c.name+", another state", got, left, e, []api.Rec{want}, c.left)
	}
}

func TestMarkGreatest(t *testing.T) {
	k := api.Rack{Sent: kept, End: kept, Rtt: kept, Mult: 1}
	l := []api.Rec{{From: kept, To: kept, Sent: top, Tx: 1}, {Tx: 1}}
	got, left, e := rack.Mark(k, l, top, top)
	marked(t, "all greatest", got, left, e, l, kept+top)
	k.Rtt = 0
	got, left, e = rack.Mark(k, l, top, 0)
	marked(t, "no Rtt", got, left, e, []api.Rec{{From: kept, To: kept, Sent: top, Tx: 1, Lost: true}, {Tx: 1, Lost: true}}, 0)
	k.Rtt = top + 1
	got, left, e = rack.Mark(k, l[1:], top, 0)
	marked(t, "an Rtt above all times", got, left, e, l[1:], 1)
}

func TestMarkNone(t *testing.T) {
	for _, l := range [][]api.Rec{nil, {}} {
		for _, k := range []api.Rack{rack.New(), {Sent: 100, End: 20, Rtt: 50, Mult: 1}} {
			got, left, e := rack.Mark(k, l, 5, 7)
			marked(t, "no records", got, left, e, nil, 0)
		}
	}
	l := []api.Rec{{To: 10, Tx: 1}, {From: 10, To: 20, Sent: 3, Tx: 2}}
	got, left, e := rack.Mark(rack.New(), l, 900, 0)
	marked(t, "nothing was delivered", got, left, e, l, 0)
}

func TestMarkByMarks(t *testing.T) {
	k := api.Rack{Sent: 100, End: 20, Rtt: 50, Mult: 1}
	for _, c := range []struct {
		name                string
		sacked, lost, again bool
		counts              bool
	}{
		{"none", false, false, false, true},
		{"Lost", false, true, false, false},
		{"Again", false, false, true, true},
		{"Lost with Again", false, true, true, true},
		{"Sacked", true, false, false, false},
		{"Sacked, Lost", true, true, false, false},
		{"Sacked, Again", true, false, true, false},
		{"Sacked, Lost with Again", true, true, true, false},
	} {
		x := api.Rec{From: 5, To: 10, Fin: true, Sent: 90, Tx: 3, Sacked: c.sacked, Lost: c.lost, Again: c.again,
			Given: -7, GivenAt: math.MaxInt, FirstAt: 9, Idle: true}
		after, more := x, 0
		if c.counts {
			after.Lost, after.Again, more = true, false, 30
		}
		got, left, e := rack.Mark(k, []api.Rec{x}, 160, 0)
		marked(t, c.name, got, left, e, []api.Rec{after}, 0)
		got, left, e = rack.Mark(k, []api.Rec{x}, 110, 0)
		marked(t, c.name+", still to go", got, left, e, []api.Rec{x}, more)
	}
}

func TestMarkSeveral(t *testing.T) {
	k := api.Rack{Sent: 100, End: 50, Rtt: 50, Mult: 1}
	l := []api.Rec{
		{From: 0, To: 10, Sent: 70, Tx: 1},                           // over: 120
		{From: 10, To: 20, Sent: 95, Tx: 1},                          // 15 to go
		{From: 20, To: 30, Sent: 99, Tx: 2, Lost: true, Again: true}, // 19 to go
		{From: 30, To: 40, Sent: 80, Tx: 1},                          // over: at now
		{From: 40, To: 50, Sent: 100, Tx: 1, Sacked: true},           // the peer has it
		{From: 50, To: 60, Sent: 97, Tx: 1},                          // 17 to go
		{From: 60, To: 70, Sent: 100, Tx: 1},                         // sent behind
		{From: 70, To: 80, Sent: 130, Tx: 1},                         // sent behind
		{From: 80, To: 90, Sent: 100, Tx: 1, Lost: true},             // lost already
		{From: 90, To: 99, Sent: 60, Tx: 2, Lost: true, Again: true}, // over: 110
	}
	want := slices.Clone(l)
	want[0].Lost, want[3].Lost, want[9].Again = true, true, false
	got, left, e := rack.Mark(k, l, 130, 0)
	marked(t, "some over, some to go", got, left, e, want, 19)

	// In any order the same are lost, and the same is left.
	slices.Reverse(l)
	slices.Reverse(want)
	got, left, e = rack.Mark(k, l, 130, 0)
	marked(t, "the other way round", got, left, e, want, 19)

	want[4].Lost, want[7].Again, want[8].Lost = true, false, true
	got, left, e = rack.Mark(k, l, 149, 0)
	marked(t, "all over", got, left, e, want, 0)

	got, left, e = rack.Mark(k, l, 130, 60)
	marked(t, "none over", got, left, e, l, 79)
}

// P13.5: Probe

func TestProbe(t *testing.T) {
	const far = math.MaxInt
	for _, c := range []struct {
		name      string
		srtt, rto int
		one       bool
		want      int
	}{
		{"ordinary", 100000, 900000, false, 200000},
		{"ordinary, one", 100000, 900000, true, 400000},

		{"srtt -1", -1, far, false, 1000000},
		{"srtt -1, one", -1, far, true, 1000000},
		{"srtt 0", 0, far, false, 1000000},
		{"srtt 0, one", 0, far, true, 1000000},
		{"srtt 1", 1, far, false, 2},
		{"srtt 1, one", 1, far, true, 200002},
		{"srtt 2^51 less 1", kept - 1, far, false, 2*kept - 2},
		{"srtt 2^51", kept, far, false, 2 * kept},
		{"srtt 2^51, one", kept, far, true, 2*kept + 200000},
		{"srtt 2^51 and one", kept + 1, far, false, far},
		{"srtt 2^51 and one, one", kept + 1, far, true, far},
		{"srtt 2^51 and one, rto small", kept + 1, 5, true, 5},
		{"srtt far below 0", math.MinInt, far, false, 1000000},
		{"srtt far above", far, far, false, far},
		{"srtt far above, one", far, far, true, far},
		{"srtt far above, rto 7", far, 7, true, 7},

		{"one below rto", 50, 101, false, 100},
		{"at rto", 50, 100, false, 100},
		{"one above rto", 50, 99, false, 99},
		{"one below rto, one", 50, 200101, true, 200100},
		{"at rto, one", 50, 200100, true, 200100},
		{"one above rto, one", 50, 200099, true, 200099},
		{"no srtt, one below rto", 0, 1000001, false, 1000000},
		{"no srtt, at rto", 0, 1000000, false, 1000000},
		{"no srtt, one above rto", 0, 999999, false, 999999},
		{"no srtt, one above rto, one", 0, 999999, true, 999999},
		{"no srtt, rto 0", 0, 0, false, 0},
		{"no srtt, rto -1", -9, -1, true, -1},
		{"srtt, rto 0", 50, 0, false, 0},
		{"srtt, rto -1", 50, -1, true, -1},
		{"rto far below 0", 50, math.MinInt, false, math.MinInt},
		{"no srtt, rto far below 0", 0, math.MinInt, true, math.MinInt},
		{"srtt far above, rto far below 0", far, math.MinInt, true, math.MinInt},
		{"srtt 2^51, rto far below 0", kept, math.MinInt, true, math.MinInt},
		{"srtt 2^51, at rto", kept, 2 * kept, false, 2 * kept},
		{"srtt 2^51, one above rto", kept, 2*kept - 1, false, 2*kept - 1},
		{"srtt 2^51, one, above rto", kept, 2*kept + 1, true, 2*kept + 1},
	} {
		if got := rack.Probe(c.srtt, c.rto, c.one); got != c.want {
			t.Errorf("%s: Probe(%d, %d, %v) = %d, want %d", c.name, c.srtt, c.rto, c.one, got, c.want)
		}
	}
}
