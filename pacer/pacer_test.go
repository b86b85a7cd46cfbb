package pacer_test

import (
	"math"
	"testing"

	"tideway/api"
	"tideway/pacer"
)

const (
	size    = api.MaxSize
	late    = api.MaxTime
	fastest = api.MaxRate
	million = 1000000
)

// usual is a bucket that holds 10 bytes, has 4 and a half, and gets 3 tokens a microsecond.
func usual() api.Pacer { return api.Pacer{Rate: 3, Burst: 10, Tokens: 4500000, Last: 100} }

// is asks that a bucket is the wanted one, that it may be, and that there was no error.
func is(t *testing.T, name string, got api.Pacer, e api.Errno, want api.Pacer) {
	t.Helper()
	if e != api.OK || got != want {
		t.Errorf("%s: %+v, %d, want %+v", name, got, e, want)
	}
	if e := pacer.Check(got); e != api.OK {
		t.Errorf("%s: what is answered: error %d", name, e)
	}
}

// refused asks that a call answered an error, and nothing besides.
func refused(t *testing.T, name string, got api.Pacer, e api.Errno, want api.Errno) {
	t.Helper()
	if e != want || got != (api.Pacer{}) {
		t.Errorf("%s: %+v, %d, want error %d", name, got, e, want)
	}
}

// number is one that is asked, and whether it may be.
type number struct {
	name string
	n    int
	may  bool
}

// about answers the numbers about two limits.
func about(least, last int) []number {
	return []number{
		{"the least int", math.MinInt, false},
		{"one below the least", least - 1, false},
		{"the least", least, true},
		{"one above the least", least + 1, true},
		{"one below the last", last - 1, true},
		{"the last", last, true},
		{"one above the last", last + 1, false},
		{"the greatest int", math.MaxInt, false},
	}
}

// state is a bucket, and whether it may be.
type state struct {
	name string
	p    api.Pacer
	may  bool
}

// states answers buckets each of whose fields stands about its limits in turn; all else in them may be.
func states() []state {
	l := []state{{"usual", usual(), true}, {"zero", api.Pacer{}, false}}
	add := func(field string, x number, p api.Pacer) { l = append(l, state{field + ": " + x.name, p, x.may}) }
	for _, x := range about(1, fastest) {
		p := usual()
		p.Rate = x.n
		add("Rate", x, p)
	}
	for _, x := range about(1, size) {
		p := usual()
		p.Burst, p.Tokens = x.n, 1
		add("Burst", x, p)
	}
	for _, burst := range []int{1, 2, 10, size - 1, size} {
		for _, x := range about(-size*million, burst*million) {
			p := usual()
			p.Burst, p.Tokens = burst, x.n
			add("Tokens", x, p)
		}
	}
	for _, x := range about(0, late) {
		p := usual()
		p.Last = x.n
		add("Last", x, p)
	}
	return l
}

// wrong answers those buckets that may not be.
func wrong() []state {
	var l []state
	for _, c := range states() {
		if !c.may {
			l = append(l, c)
		}
	}
	return l
}

// The chapter's example.
func TestExample(t *testing.T) {
	p, e := pacer.New(1000000, 10, 0)
	is(t, "New", p, e, api.Pacer{Rate: 1000000, Burst: 10, Tokens: 10000000})
	p, e = pacer.Take(p, 10)
	is(t, "Take", p, e, api.Pacer{Rate: 1000000, Burst: 10})
	if at, e := pacer.When(p, 5); at != 5 || e != api.OK {
		t.Errorf("When: %d, %d, want 5", at, e)
	}
}

// P20.1: Check

func TestCheck(t *testing.T) {
	for _, c := range states() {
		want := api.OK
		if !c.may {
			want = api.ErrState
		}
		if e := pacer.Check(c.p); e != want {
			t.Errorf("%s: %+v: %d, want %d", c.name, c.p, e, want)
		}
	}
}

// The limits of Tokens in plain numbers; they go by Burst.
func TestCheckTokens(t *testing.T) {
	for _, c := range []struct {
		burst, tokens int
		may           bool
	}{
		{1, -1073741824000001, false},
		{1, -1073741824000000, true},
		{1, -1, true},
		{1, 0, true},
		{1, 1000000, true},
		{1, 1000001, false},
		{7, 7000000, true},
		{7, 7000001, false},
		{size, -1073741824000001, false},
		{size, -1073741824000000, true},
		{size, 1073741824000000, true},
		{size, 1073741824000001, false},
	} {
		e := pacer.Check(api.Pacer{Rate: 1, Burst: c.burst, Tokens: c.tokens})
		if (e == api.OK) != c.may || e != api.OK && e != api.ErrState {
			t.Errorf("%+v: %d", c, e)
		}
	}
}

// P20.1: New

func TestNew(t *testing.T) {
	for _, c := range []struct{ rate, burst, now, tokens int }{
		{1000000, 10, 0, 10000000},
		{1, 1, 0, 1000000},
		{1, 1, late, 1000000},
		{fastest, size, late, 1073741824000000},
		{3, 4000, 55, 4000000000},
	} {
		p, e := pacer.New(c.rate, c.burst, c.now)
		is(t, "New", p, e, api.Pacer{Rate: c.rate, Burst: c.burst, Tokens: c.tokens, Last: c.now})
	}
}

func TestNewRefuses(t *testing.T) {
	for _, rate := range about(1, fastest) {
		for _, burst := range about(1, size) {
			for _, now := range about(0, late) {
				p, e := pacer.New(rate.n, burst.n, now.n)
				name := "rate " + rate.name + ", burst " + burst.name + ", now " + now.name
				if rate.may && burst.may && now.may {
					is(t, name, p, e, api.Pacer{Rate: rate.n, Burst: burst.n, Tokens: burst.n * million, Last: now.n})
				} else {
					refused(t, name, p, e, api.ErrArg)
				}
			}
		}
	}
}

// P20.1: what all calls but New refuse. ErrState comes first, whatever number comes with such a bucket.
func TestStateFirst(t *testing.T) {
	for _, c := range wrong() {
		for _, n := range []int{math.MinInt, -1, 0, 1, 100, size, size + 1, fastest, late, late + 1, math.MaxInt} {
			p, e := pacer.Fill(c.p, n)
			refused(t, "Fill: "+c.name, p, e, api.ErrState)
			p, e = pacer.Take(c.p, n)
			refused(t, "Take: "+c.name, p, e, api.ErrState)
			p, e = pacer.Set(c.p, n)
			refused(t, "Set: "+c.name, p, e, api.ErrState)
			if at, e := pacer.When(c.p, n); at != 0 || e != api.ErrState {
				t.Errorf("When: %s: %d, %d", c.name, at, e)
			}
			if pacer.May(c.p, n) {
				t.Errorf("May: %s, %d", c.name, n)
			}
		}
	}
}

// All others are taken by all calls.
func TestStatesThatMayBe(t *testing.T) {
	for _, c := range states() {
		if !c.may {
			continue
		}
		if _, e := pacer.Fill(c.p, c.p.Last); e != api.OK {
			t.Errorf("Fill: %s: error %d", c.name, e)
		}
		if _, e := pacer.When(c.p, 1); e != api.OK {
			t.Errorf("When: %s: error %d", c.name, e)
		}
		if _, e := pacer.Set(c.p, 1); e != api.OK {
			t.Errorf("Set: %s: error %d", c.name, e)
		}
		want := api.ErrArg
		if pacer.May(c.p, 0) {
			want = api.OK
		}
		if _, e := pacer.Take(c.p, 0); e != want || pacer.May(c.p, 0) != (c.p.Tokens >= 0) {
			t.Errorf("Take: %s: error %d", c.name, e)
		}
	}
}

// P20.2: Fill

func TestFill(t *testing.T) {
	for _, c := range []struct {
		name                             string
		rate, burst, tokens, last, later int
		want                             int
	}{
		{"at once", 3, 10, 4500000, 100, 0, 4500000},
		{"a microsecond", 3, 10, 4500000, 100, 1, 4500003},
		{"some time", 3, 10, 4500000, 100, 1000, 4503000},
		{"one token short of full", 1, 10, 4500000, 100, 5499999, 9999999},
		{"just full", 1, 10, 4500000, 100, 5500000, 10000000},
		{"a token too many", 1, 10, 4500000, 100, 5500001, 10000000},
		{"past full by a rate that does not fit", 7, 10, 9999999, 100, 1, 10000000},
		{"full already", 3, 10, 10000000, 100, 1, 10000000},
		{"full already, at once", 3, 10, 10000000, 100, 0, 10000000},
		{"owed, still", 3, 10, -4500000, 100, 1000, -4497000},
		{"owed, just paid", 5, 10, -4500000, 100, 900000, 0},
		{"owed, paid and more", 5, 10, -4500000, 100, 1000000, 500000},
		{"all that may be owed", fastest, size, -size * million, 0, 1, -1073741824000000 + 1099511627776},
		{"all that may be owed, paid", 1, 1, -size * million, 0, 1073741824000000, 0},
		{"all that may be owed, a full one later", 1, 1, -size * million, 0, 1073741824000000 + 1000000, 1000000},
		{"the greatest, just short of full", fastest, size, -size * million, 0, 1953, -1073741824000000 + 1953*fastest},
		{"the greatest, full", fastest, size, -size * million, 0, 1954, 1073741824000000},
		{"the product is the greatest that an int has", 1 << 33, size, 0, 0, 1<<30 - 1, 1073741824000000},
		{"the product is one more than an int has", 1 << 33, size, 0, 0, 1 << 30, 1073741824000000},
		{"the same, owed", 1 << 33, size, -size * million, 0, 1 << 30, 1073741824000000},
		{"the product is below 0 by 64 bits", 1 << 33, size, 5, 0, 1<<30 + 1, 1073741824000000},
		{"the product is 0 by 64 bits", 1 << 34, size, 5, 0, 1 << 30, 1073741824000000},
		{"the product is 1 by 64 bits", 274177, size, 5, 0, 67280421310721, 1073741824000000},
		{"all of the time", 1, size, 0, 0, late, 1073741824000000},
		{"all of the time at the greatest rate", fastest, size, -size * million, 0, late, 1073741824000000},
		{"all of the time at the greatest rate, a small one", fastest, 1, -size * million, 0, late, 1000000},
		{"the last microsecond", 3, 10, 0, late - 1, 1, 3},
		{"at MaxTime already", 3, 10, 7, late, 0, 7},
	} {
		p, e := pacer.Fill(api.Pacer{Rate: c.rate, Burst: c.burst, Tokens: c.tokens, Last: c.last}, c.last+c.later)
		is(t, c.name, p, e, api.Pacer{Rate: c.rate, Burst: c.burst, Tokens: c.want, Last: c.last + c.later})
	}
}

func TestFillRefuses(t *testing.T) {
	for _, last := range []int{0, 1, 100, late - 1, late} {
		p := usual()
		p.Last = last
		for _, c := range []number{
			{"the least int", math.MinInt, false},
			{"-1", -1, false},
			{"one below Last", last - 1, false},
			{"Last", last, true},
			{"MaxTime", late, true},
			{"one above MaxTime", late + 1, false},
			{"the greatest int", math.MaxInt, false},
		} {
			got, e := pacer.Fill(p, c.n)
			if c.may && (e != api.OK || got.Last != c.n) {
				t.Errorf("Last %d, %s: %+v, %d", last, c.name, got, e)
			}
			if !c.may {
				refused(t, c.name, got, e, api.ErrArg)
			}
		}
	}
}

// P20.2: May, Take

// leaves are buckets and sizes, and whether so much may leave.
var leaves = []struct {
	name          string
	burst, tokens int
	n             int
	may           bool
}{
	{"one token below", 10, 4999999, 5, false},
	{"just enough", 10, 5000000, 5, true},
	{"one token above", 10, 5000001, 5, true},
	{"nothing, of 0", 10, 0, 0, true},
	{"nothing, of one token", 10, 1, 0, true},
	{"nothing, owed a token", 10, -1, 0, false},
	{"nothing, of a full one", 10, 10000000, 0, true},
	{"one byte, of 0", 10, 0, 1, false},
	{"one byte, owed all", 10, -size * million, 1, false},
	{"nothing, owed all", 10, -size * million, 0, false},
	{"a burst, of a full one", 10, 10000000, 10, true},
	{"a burst, of one short by a token", 10, 9999999, 10, false},
	{"one more than a burst, of a full one", 10, 10000000, 11, true},
	{"one more than a burst, of one short by a token", 10, 9999999, 11, false},
	{"MaxSize, of a full one", 10, 10000000, size, true},
	{"MaxSize, of one short by a token", 10, 9999999, size, false},
	{"MaxSize, of the least full one", 1, 1000000, size, true},
	{"MaxSize, of a full one that has as much", size, size * million, size, true},
	{"MaxSize, of one that has a token less", size, size*million - 1, size, false},
	{"one less, of one that has a token less", size, size*million - 1, size - 1, true},
	{"one more than MaxSize, of a full one", 10, 10000000, size + 1, false},
	{"one more than MaxSize, of the greatest full one", size, size * million, size + 1, false},
	{"-1", 10, 5000000, -1, false},
	{"-1, of a full one", 10, 10000000, -1, false},
	{"the least int, of a full one", 10, 10000000, math.MinInt, false},
	{"the greatest int, of a full one", 10, 10000000, math.MaxInt, false},
	{"a product that is 0 by 64 bits", 10, 5000000, 1 << 58, false},
}

func TestMay(t *testing.T) {
	for _, c := range leaves {
		for _, last := range []int{0, 100, late} {
			for _, rate := range []int{1, 3, fastest} {
				p := api.Pacer{Rate: rate, Burst: c.burst, Tokens: c.tokens, Last: last}
				if got := pacer.May(p, c.n); got != c.may {
					t.Errorf("%s: %v", c.name, got)
				}
			}
		}
	}
}

func TestTake(t *testing.T) {
	for _, c := range leaves {
		p := api.Pacer{Rate: 3, Burst: c.burst, Tokens: c.tokens, Last: 100}
		got, e := pacer.Take(p, c.n)
		if !c.may {
			refused(t, c.name, got, e, api.ErrArg)
			continue
		}
		p.Tokens = c.tokens - c.n*million
		is(t, c.name, got, e, p)
	}
}

// What is left, in plain numbers; it is below 0 where more than a burst left.
func TestTakeLeaves(t *testing.T) {
	for _, c := range []struct{ burst, tokens, n, want int }{
		{10, 4500000, 0, 4500000},
		{10, 4500000, 4, 500000},
		{10, 10000000, 10, 0},
		{10, 10000000, 11, -1000000},
		{10, 10000000, 25, -15000000},
		{1, 1000000, size, -1073741823000000},
		{size, size * million, size, 0},
	} {
		p, e := pacer.Take(api.Pacer{Rate: 3, Burst: c.burst, Tokens: c.tokens, Last: 100}, c.n)
		is(t, "Take", p, e, api.Pacer{Rate: 3, Burst: c.burst, Tokens: c.want, Last: 100})
	}
}

// P20.2: When

func TestWhen(t *testing.T) {
	for _, c := range []struct {
		name                         string
		rate, burst, tokens, last, n int
		want                         int
	}{
		{"may already", 3, 10, 4500000, 100, 4, 100},
		{"nothing", 3, 10, 0, 100, 0, 100},
		{"just enough", 3, 10, 4000000, 100, 4, 100},
		{"a token is missing", 3, 10, 3999999, 100, 4, 101},
		{"two tokens, rate 1", 1, 10, 3999998, 100, 4, 102},
		{"as many as the rate", 3, 10, 3999997, 100, 4, 101},
		{"one more than the rate", 3, 10, 3999996, 100, 4, 102},
		{"divisible", 5, 10, 4500000, 100, 5, 100100},
		{"divisible but for one token more", 5, 10, 4499999, 100, 5, 100101},
		{"divisible but for one token less", 5, 10, 4500001, 100, 5, 100100},
		{"not divisible", 3, 10, 4500000, 100, 5, 166767},
		{"a burst", 1, 10, 4500000, 100, 10, 5500100},
		{"one more than a burst", 1, 10, 4500000, 100, 11, 5500100},
		{"MaxSize, more than a burst", 1, 10, 4500000, 100, size, 5500100},
		{"more than a burst, full", 1, 10, 10000000, 100, size, 100},
		{"a burst, full", 1, 10, 10000000, 100, 10, 100},
		{"a burst, short by a token", 1, 10, 9999999, 100, 10, 101},
		{"more than a burst, short by a token", 3, 10, 9999999, 100, 11, 101},
		{"nothing, owed a token", 3, 10, -1, 100, 0, 101},
		{"nothing, owed as many as the rate", 3, 10, -3, 100, 0, 101},
		{"nothing, owed one more", 3, 10, -4, 100, 0, 102},
		{"some, owed some", 1, 10, -4500000, 100, 4, 8500100},
		{"all is owed, rate 1", 1, size, -size * million, 0, size, late},
		{"all is owed, rate 2", 2, size, -size * million, 0, size, 1073741824000000},
		{"all is owed, the greatest rate", fastest, size, -size * million, 0, size, 1954},
		{"the greatest rate, a token", fastest, 10, 3999999, 100, 4, 101},
		{"the greatest rate, one more than it", fastest, size, -fastest - 1, 100, 0, 102},
		{"the greatest rate, as many", fastest, size, -fastest, 100, 0, 101},
		{"one ahead of MaxTime", 1, 10, 3999999, late - 2, 4, late - 1},
		{"just MaxTime", 1, 10, 3999999, late - 1, 4, late},
		{"one past MaxTime", 1, 10, 3999998, late - 1, 4, late},
		{"at MaxTime, may already", 1, 10, 4000000, late, 4, late},
		{"at MaxTime, may not", 1, 10, 3999999, late, 4, late},
		{"far past MaxTime", 1, size, -size * million, late - 1, size, late},
	} {
		p := api.Pacer{Rate: c.rate, Burst: c.burst, Tokens: c.tokens, Last: c.last}
		if at, e := pacer.When(p, c.n); at != c.want || e != api.OK {
			t.Errorf("%s: %d, %d, want %d", c.name, at, e, c.want)
		}
	}
}

func TestWhenRefuses(t *testing.T) {
	for _, p := range []api.Pacer{usual(), {Rate: 3, Burst: 10, Tokens: 10000000}, {Rate: 1, Burst: size, Tokens: size * million, Last: late}} {
		for _, c := range about(0, size) {
			at, e := pacer.When(p, c.n)
			if c.may && (e != api.OK || at < p.Last) {
				t.Errorf("%s: %d, %d", c.name, at, e)
			}
			if !c.may && (e != api.ErrArg || at != 0) {
				t.Errorf("%s: %d, %d", c.name, at, e)
			}
		}
	}
}

// P20.2: Set

func TestSet(t *testing.T) {
	for _, c := range states() {
		if !c.may {
			continue
		}
		for _, x := range about(1, fastest) {
			p, e := pacer.Set(c.p, x.n)
			if !x.may {
				refused(t, x.name, p, e, api.ErrArg)
				continue
			}
			is(t, x.name, p, e, api.Pacer{Rate: x.n, Burst: c.p.Burst, Tokens: c.p.Tokens, Last: c.p.Last})
		}
	}
}

// A new rate counts from Last on, as no time has passed for the bucket since.
func TestSetThenFill(t *testing.T) {
	p, e := pacer.Set(usual(), 7)
	is(t, "Set", p, e, api.Pacer{Rate: 7, Burst: 10, Tokens: 4500000, Last: 100})
	p, e = pacer.Fill(p, 110)
	is(t, "Fill", p, e, api.Pacer{Rate: 7, Burst: 10, Tokens: 4500070, Last: 110})
	if at, e := pacer.When(p, 5); at != 110+71419 || e != api.OK {
		t.Errorf("When: %d, %d", at, e)
	}
}
