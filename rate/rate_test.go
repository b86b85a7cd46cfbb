package rate_test

import (
	"math"
	"slices"
	"testing"

	"tideway/api"
	"tideway/rate"
)

const (
	top  = api.MaxTime
	size = api.MaxSize
)

// ordinary is a sampler that may be, with its four numbers apart.
func ordinary() api.Rate { return api.Rate{Given: 500, GivenAt: 40, FirstAt: 30, IdleTo: 700} }

// record is a record that may be, with its numbers apart.
func record() api.Rec {
	return api.Rec{From: 100, To: 110, Sent: 20, Tx: 1, Given: 300, GivenAt: 15, FirstAt: 12}
}

// whole asks that a call of Given answered that sampler and that Sample, and no error.
func whole(t *testing.T, name string, q api.Rate, s api.Sample, e api.Errno, wantQ api.Rate, wantS api.Sample) {
	t.Helper()
	if e != api.OK || q != wantQ || s != wantS {
		t.Errorf("%s: %+v, %+v, %d, want %+v, %+v", name, q, s, e, wantQ, wantS)
	}
}

// sent asks that a call of Sent answered that sampler and that record, and no error.
func sent(t *testing.T, name string, q api.Rate, x api.Rec, e api.Errno, wantQ api.Rate, wantX api.Rec) {
	t.Helper()
	if e != api.OK || q != wantQ || x != wantX {
		t.Errorf("%s: %+v, %+v, %d, want %+v, %+v", name, q, x, e, wantQ, wantX)
	}
}

// refusedByAll asks that Sent and Given answer an error for a record, and nothing besides: Given wherever it stands.
func refusedByAll(t *testing.T, name string, q api.Rate, x api.Rec, now, low int, want api.Errno) {
	t.Helper()
	for _, none := range []bool{false, true} {
		if gotQ, gotX, e := rate.Sent(q, x, now, none); e != want || gotQ != (api.Rate{}) || gotX != (api.Rec{}) {
			t.Errorf("%s: Sent(%+v, %+v, %d, %v) = %+v, %+v, %d, want error %d", name, q, x, now, none, gotQ, gotX, e, want)
		}
	}
	for _, l := range among(x) {
		if gotQ, s, e := rate.Given(q, l, now, low); e != want || gotQ != (api.Rate{}) || s != (api.Sample{}) {
			t.Errorf("%s: Given(%+v, %+v, %d, %d) = %+v, %+v, %d, want error %d", name, q, l, now, low, gotQ, s, e, want)
		}
	}
}

// among are rows with a record alone, first, in the middle and last.
func among(x api.Rec) [][]api.Rec {
	y := record()
	return [][]api.Rec{{x}, {x, y}, {x, y, y}, {y, x, y}, {y, x}, {y, y, x}}
}

// The chapter's example.
func TestExample(t *testing.T) {
	q, x, e := rate.Sent(api.Rate{}, api.Rec{To: 1000, Tx: 1}, 0, true)
	sent(t, "Sent", q, x, e, api.Rate{}, api.Rec{To: 1000, Tx: 1})
	q, s, e := rate.Given(q, []api.Rec{x}, 1000, 0)
	whole(t, "Given", q, s, e, api.Rate{Given: 1000, GivenAt: 1000},
		api.Sample{Now: 1000, Acked: 1000, Rtt: 1000, Rate: 1000000, Given: 1000})
}

// P17.1: Check

// sampler is a sampler, and whether it may be.
type sampler struct {
	name string
	q    api.Rate
	may  bool
}

// edge is a number about the edges of those from 0 to high, and whether it is one of them.
type edge struct {
	name string
	n    int
	may  bool
}

// edges are the numbers about both ends of those from 0 to high.
func edges(high int) []edge {
	return []edge{
		{"far below 0", math.MinInt, false},
		{"-high", -high, false},
		{"-1", -1, false},
		{"0", 0, true},
		{"1", 1, true},
		{"one below the greatest", high - 1, true},
		{"the greatest", high, true},
		{"one above the greatest", high + 1, false},
		{"far above", math.MaxInt, false},
	}
}

// samplers are samplers with each field about its edges.
func samplers() []sampler {
	l := []sampler{
		{"the zero value", api.Rate{}, true},
		{"ordinary", ordinary(), true},
		{"GivenAt ahead of FirstAt", api.Rate{GivenAt: 3, FirstAt: 9}, true},
		{"IdleTo below Given", api.Rate{Given: 9, IdleTo: 3}, true},
		{"all greatest", api.Rate{Given: top, GivenAt: top, FirstAt: top, IdleTo: top}, true},
		{"all one above", api.Rate{Given: top + 1, GivenAt: top + 1, FirstAt: top + 1, IdleTo: top + 1}, false},
		{"all -1", api.Rate{Given: -1, GivenAt: -1, FirstAt: -1, IdleTo: -1}, false},
	}
	for _, f := range []struct {
		name string
		set  func(q *api.Rate, n int)
	}{
		{"Given", func(q *api.Rate, n int) { q.Given = n }},
		{"GivenAt", func(q *api.Rate, n int) { q.GivenAt = n }},
		{"FirstAt", func(q *api.Rate, n int) { q.FirstAt = n }},
		{"IdleTo", func(q *api.Rate, n int) { q.IdleTo = n }},
	} {
		for _, c := range edges(top) {
			q := ordinary()
			f.set(&q, c.n)
			l = append(l, sampler{f.name + " " + c.name, q, c.may})
		}
	}
	return l
}

func TestCheck(t *testing.T) {
	for _, c := range samplers() {
		want := api.ErrState
		if c.may {
			want = api.OK
		}
		if got := rate.Check(c.q); got != want {
			t.Errorf("%s: Check(%+v) = %d, want %d", c.name, c.q, got, want)
		}
	}
}

// P17.1: what all calls refuse

func TestOtherSamplersAreRefused(t *testing.T) {
	for _, c := range samplers() {
		if c.may {
			continue
		}
		refusedByAll(t, c.name, c.q, record(), 50, 10, api.ErrState)
		refusedByAll(t, c.name+", now too", c.q, record(), -1, 10, api.ErrState)
		refusedByAll(t, c.name+", record too", c.q, api.Rec{From: -1}, 50, 10, api.ErrState)
		refusedByAll(t, c.name+", all too", c.q, api.Rec{Sent: top + 1}, top+1, -1, api.ErrState)
		for _, low := range []int{-1, top + 1} {
			if q, s, e := rate.Given(c.q, nil, 50, low); e != api.ErrState || q != (api.Rate{}) || s != (api.Sample{}) {
				t.Errorf("%s: Given of none: %+v, %+v, %d", c.name, q, s, e)
			}
		}
		for _, pipe := range []int{-1, 0, 5, size, size + 1} {
			if q, e := rate.Idle(c.q, pipe); e != api.ErrState || q != (api.Rate{}) {
				t.Errorf("%s: Idle(%+v, %d) = %+v, %d", c.name, c.q, pipe, q, e)
			}
		}
	}
}

func TestOtherSamplersMayBe(t *testing.T) {
	for _, c := range samplers() {
		if !c.may {
			continue
		}
		if _, _, e := rate.Sent(c.q, record(), 50, false); e != api.OK {
			t.Errorf("%s: Sent: %d", c.name, e)
		}
		if _, _, e := rate.Given(c.q, []api.Rec{record()}, 50, 10); e != api.OK {
			t.Errorf("%s: Given: %d", c.name, e)
		}
		if _, e := rate.Idle(c.q, 10); e != api.OK {
			t.Errorf("%s: Idle: %d", c.name, e)
		}
	}
}

func TestNow(t *testing.T) {
	for _, c := range edges(top) {
		if !c.may {
			refusedByAll(t, "now "+c.name, ordinary(), record(), c.n, 10, api.ErrArg)
			if q, s, e := rate.Given(ordinary(), nil, c.n, 10); e != api.ErrArg || q != (api.Rate{}) || s != (api.Sample{}) {
				t.Errorf("now %s: Given of none: %+v, %+v, %d", c.name, q, s, e)
			}
			continue
		}
		q, x, e := rate.Sent(ordinary(), record(), c.n, true)
		wantX := record()
		wantX.Given, wantX.GivenAt, wantX.FirstAt, wantX.Idle = 500, c.n, c.n, true
		sent(t, "now "+c.name, q, x, e, api.Rate{Given: 500, GivenAt: c.n, FirstAt: c.n, IdleTo: 700}, wantX)
		q, s, e := rate.Given(ordinary(), nil, c.n, 10)
		whole(t, "now "+c.name, q, s, e, ordinary(), api.Sample{Now: c.n, Given: 500})
		q, s, e = rate.Given(ordinary(), []api.Rec{record()}, c.n, 10)
		if e != api.OK || s.Now != c.n || q.GivenAt != c.n || s.Rtt != max(0, c.n-20) {
			t.Errorf("now %s: %+v, %+v, %d", c.name, q, s, e)
		}
	}
}

func TestLow(t *testing.T) {
	for _, c := range edges(top) {
		for _, l := range [][]api.Rec{nil, {record()}, {record(), record()}} {
			q, s, e := rate.Given(ordinary(), l, 50, c.n)
			if c.may && e != api.OK {
				t.Errorf("low %s: error %d", c.name, e)
			}
			if !c.may && (e != api.ErrArg || q != (api.Rate{}) || s != (api.Sample{})) {
				t.Errorf("low %s: %+v, %+v, %d", c.name, q, s, e)
			}
		}
	}
}

// odd is a record, and whether it may be.
type odd struct {
	name string
	x    api.Rec
	may  bool
}

// odds are records with each field about its edges.
func odds() []odd {
	l := []odd{
		{"ordinary", record(), true},
		{"the zero value", api.Rec{}, true},
		{"all marks, far Tx", api.Rec{To: 5, Tx: math.MaxInt, Fin: true, Sacked: true, Lost: true, Again: true, Idle: true}, true},
		{"Tx far below 0", api.Rec{To: 5, Tx: math.MinInt}, true},
		{"all greatest", api.Rec{From: math.MaxInt - size, To: math.MaxInt, Sent: top, Given: top, GivenAt: top, FirstAt: top}, true},
		{"From and To far above", api.Rec{From: math.MaxInt, To: math.MaxInt}, true},
		{"To far above", api.Rec{To: math.MaxInt}, false},
		{"From far above", api.Rec{From: math.MaxInt, To: 5}, false},
		{"From far below", api.Rec{From: math.MinInt, To: 5}, false},
		{"From far below, To far above", api.Rec{From: math.MinInt, To: math.MaxInt}, false},
		{"From and To far below", api.Rec{From: math.MinInt, To: math.MinInt}, false},
		{"To far below", api.Rec{From: 5, To: math.MinInt}, false},
		{"From -1, To -1", api.Rec{From: -1, To: -1}, false},
		{"From -1, To 5", api.Rec{From: -1, To: 5}, false},
		{"From 0, To 5", api.Rec{From: 0, To: 5}, true},
	}
	for _, from := range []int{0, 1, 100, size, api.MaxOffset} {
		for _, c := range []edge{{"one below", -1, false}, {"at", 0, true}, {"one above", 1, true},
			{"MaxSize above", size, true}, {"one more than MaxSize above", size + 1, false}} {
			x := record()
			x.From, x.To = from, from+c.n
			l = append(l, odd{"To " + c.name + " From", x, c.may})
		}
	}
	for _, f := range []struct {
		name string
		set  func(x *api.Rec, n int)
	}{
		{"Given", func(x *api.Rec, n int) { x.Given = n }},
		{"GivenAt", func(x *api.Rec, n int) { x.GivenAt = n }},
		{"FirstAt", func(x *api.Rec, n int) { x.FirstAt = n }},
		{"Sent", func(x *api.Rec, n int) { x.Sent = n }},
	} {
		for _, c := range edges(top) {
			x := record()
			f.set(&x, c.n)
			l = append(l, odd{f.name + " " + c.name, x, c.may})
		}
	}
	return l
}

func TestRecords(t *testing.T) {
	for _, c := range odds() {
		if !c.may {
			refusedByAll(t, c.name, ordinary(), c.x, 50, 10, api.ErrArg)
			continue
		}
		for _, none := range []bool{false, true} {
			if _, _, e := rate.Sent(ordinary(), c.x, 50, none); e != api.OK {
				t.Errorf("%s: Sent: %d", c.name, e)
			}
		}
		for _, l := range among(c.x) {
			if q, _, e := rate.Given(ordinary(), l, 50, 10); e != api.OK || rate.Check(q) != api.OK {
				t.Errorf("%s: Given(%+v): %+v, %d", c.name, l, q, e)
			}
		}
	}
}

// P17.2

func TestSent(t *testing.T) {
	x := api.Rec{From: 100, To: 110, Fin: true, Sent: 20, Tx: 3, Sacked: true, Lost: true, Again: true,
		Given: 1, GivenAt: 2, FirstAt: 3, Idle: true}
	bare := api.Rec{From: 100, To: 110, Sent: 20, Tx: 1}
	for _, c := range []struct {
		name   string
		q      api.Rate
		none   bool
		wantQ  api.Rate
		isIdle bool
	}{
		{"some on their way", api.Rate{Given: 500, GivenAt: 40, FirstAt: 30}, false, api.Rate{Given: 500, GivenAt: 40, FirstAt: 30}, false},
		{"none on its way", api.Rate{Given: 500, GivenAt: 40, FirstAt: 30}, true, api.Rate{Given: 500, GivenAt: 77, FirstAt: 77}, false},
		{"some, IdleTo 1", api.Rate{Given: 500, GivenAt: 40, FirstAt: 30, IdleTo: 1}, false, api.Rate{Given: 500, GivenAt: 40, FirstAt: 30, IdleTo: 1}, true},
		{"none, IdleTo 1", api.Rate{Given: 500, GivenAt: 40, FirstAt: 30, IdleTo: 1}, true, api.Rate{Given: 500, GivenAt: 77, FirstAt: 77, IdleTo: 1}, true},
		{"some, IdleTo greatest", api.Rate{IdleTo: top}, false, api.Rate{IdleTo: top}, true},
		{"none, IdleTo greatest", api.Rate{IdleTo: top}, true, api.Rate{GivenAt: 77, FirstAt: 77, IdleTo: top}, true},
		{"some, from the beginning", api.Rate{}, false, api.Rate{}, false},
		{"none, from the beginning", api.Rate{}, true, api.Rate{GivenAt: 77, FirstAt: 77}, false},
		{"some, later than now", api.Rate{Given: 3, GivenAt: 99, FirstAt: 98}, false, api.Rate{Given: 3, GivenAt: 99, FirstAt: 98}, false},
		{"none, later than now", api.Rate{Given: 3, GivenAt: 99, FirstAt: 98}, true, api.Rate{Given: 3, GivenAt: 77, FirstAt: 77}, false},
		{"some, greatest", api.Rate{Given: top, GivenAt: top, FirstAt: top}, false, api.Rate{Given: top, GivenAt: top, FirstAt: top}, false},
		{"none, greatest", api.Rate{Given: top, GivenAt: top, FirstAt: top}, true, api.Rate{Given: top, GivenAt: 77, FirstAt: 77}, false},
	} {
		for _, y := range []api.Rec{x, bare} {
			want := y
			want.Given, want.GivenAt, want.FirstAt, want.Idle = c.wantQ.Given, c.wantQ.GivenAt, c.wantQ.FirstAt, c.isIdle
			q, got, e := rate.Sent(c.q, y, 77, c.none)
			sent(t, c.name, q, got, e, c.wantQ, want)
		}
	}
}

// P17.3: Given

func TestGivenOfNone(t *testing.T) {
	room := []api.Rec{record()}
	for _, q := range []api.Rate{{}, ordinary(), {Given: 9, GivenAt: 8, FirstAt: 7, IdleTo: 9}, {Given: top, GivenAt: top, FirstAt: top, IdleTo: top}} {
		for _, now := range []int{0, 1, 50, top} {
			for _, low := range []int{0, 10, top} {
				for _, l := range [][]api.Rec{nil, {}, room[:0]} {
					got, s, e := rate.Given(q, l, now, low)
					whole(t, "none", got, s, e, q, api.Sample{Now: now, Given: q.Given})
				}
			}
		}
	}
}

func TestGivenOfOne(t *testing.T) {
	x := api.Rec{From: 100, To: 350, Sent: 1000, Tx: 1, Given: 400, GivenAt: 900, FirstAt: 800, Idle: true}
	q, s, e := rate.Given(ordinary(), []api.Rec{x}, 1600, 10)
	whole(t, "ordinary", q, s, e, api.Rate{Given: 750, GivenAt: 1600, FirstAt: 1000},
		api.Sample{Now: 1600, Acked: 250, Rtt: 600, Rate: 500000, Idle: true, Given: 750, Before: 400})
	x.Fin, x.Sacked, x.Lost, x.Again, x.Idle = true, true, true, true, false
	q, s, e = rate.Given(ordinary(), []api.Rec{x}, 1600, 10)
	whole(t, "other marks", q, s, e, api.Rate{Given: 750, GivenAt: 1600, FirstAt: 1000},
		api.Sample{Now: 1600, Acked: 250, Rtt: 600, Rate: 500000, Given: 750, Before: 400})
	x.To = x.From
	q, s, e = rate.Given(ordinary(), []api.Rec{x}, 1600, 10)
	whole(t, "no bytes", q, s, e, api.Rate{Given: 500, GivenAt: 1600, FirstAt: 1000, IdleTo: 700},
		api.Sample{Now: 1600, Rtt: 600, Rate: 142857, Given: 500, Before: 400})
}

func TestWhichOneCounts(t *testing.T) {
	a := api.Rec{From: 0, To: 10, Sent: 101, Tx: 1, Given: 5, GivenAt: 90, FirstAt: 80}
	b := api.Rec{From: 10, To: 30, Sent: 102, Tx: 1, Given: 6, GivenAt: 91, FirstAt: 81, Idle: true}
	c := api.Rec{From: 30, To: 60, Sent: 103, Tx: 2, Given: 6, GivenAt: 92, FirstAt: 82}
	d := api.Rec{From: 60, To: 100, Sent: 99, Tx: 1, Given: 7, GivenAt: 93, FirstAt: 83, Idle: true}
	z := api.Rec{From: 200, To: 200, Sent: 98, Tx: 1}
	y := api.Rec{From: 200, To: 201, Sent: 97, Tx: 1}
	for _, r := range []struct {
		name string
		l    []api.Rec
		one  api.Rec
	}{
		{"greatest last", []api.Rec{a, b, d}, d},
		{"greatest in the middle", []api.Rec{a, d, b}, d},
		{"greatest first", []api.Rec{d, a, b}, d},
		{"two the same, last", []api.Rec{a, b, c}, c},
		{"two the same, the other way round", []api.Rec{a, c, b}, b},
		{"two the same, first and last", []api.Rec{b, a, c}, c},
		{"two the same, then a lesser one", []api.Rec{b, c, a}, c},
		{"two the same, both behind a greater one", []api.Rec{d, b, c}, d},
		{"all the same", []api.Rec{b, b, c, b}, b},
		{"all Given 0", []api.Rec{y, z}, z},
		{"all Given 0, the other way round", []api.Rec{z, y}, y},
		{"Given 0 behind others", []api.Rec{a, z}, a},
		{"without bytes", []api.Rec{d, z, a}, d},
		{"Sent later counts for nothing", []api.Rec{c, d}, d},
	} {
		bytes := 0
		for _, x := range r.l {
			bytes += x.To - x.From
		}
		want := api.Sample{Now: 110, Acked: bytes, Idle: r.one.Idle, Given: 1000 + bytes, Before: r.one.Given}
		if r.one.Tx == 1 {
			want.Rtt = 110 - r.one.Sent
		}
		want.Rate = (1000 + bytes - r.one.Given) * 1000000 / max(110-r.one.GivenAt, r.one.Sent-r.one.FirstAt)
		q, s, e := rate.Given(api.Rate{Given: 1000, GivenAt: 60, FirstAt: 50}, r.l, 110, 0)
		whole(t, r.name, q, s, e, api.Rate{Given: 1000 + bytes, GivenAt: 110, FirstAt: r.one.Sent}, want)
	}
}

func TestGivenAtMostMaxTime(t *testing.T) {
	for _, c := range []struct {
		name         string
		given, bytes int
		want         int
	}{
		{"one below", top - 11, 10, top - 1},
		{"at", top - 10, 10, top},
		{"one past", top - 9, 10, top},
		{"far past", top, size, top},
		{"from there, nothing", top, 0, top},
		{"one below, by MaxSize", top - size - 1, size, top - 1},
		{"at, by MaxSize", top - size, size, top},
		{"one past, by MaxSize", top - size + 1, size, top},
	} {
		q, s, e := rate.Given(api.Rate{Given: c.given}, []api.Rec{{To: c.bytes, Sent: 3, FirstAt: 3, GivenAt: 9, Tx: 2}}, 9, 0)
		whole(t, c.name, q, s, e, api.Rate{Given: c.want, GivenAt: 9, FirstAt: 3}, api.Sample{Now: 9, Acked: c.bytes, Given: c.want})
		// Of several the rest is cut off likewise.
		half := c.bytes / 2
		q, s, e = rate.Given(api.Rate{Given: c.given}, []api.Rec{{To: half, Tx: 2, GivenAt: 9}, {From: half, To: c.bytes, Tx: 2, GivenAt: 9}}, 9, 0)
		whole(t, c.name+", two", q, s, e, api.Rate{Given: c.want, GivenAt: 9}, api.Sample{Now: 9, Acked: c.bytes, Given: c.want})
	}
}

// MaxTime is so much that 2^20 of the greatest records make it up.
func TestAckedAtMostMaxTime(t *testing.T) {
	l := make([]api.Rec, top/size)
	for i := range l {
		l[i] = api.Rec{From: i * size, To: (i + 1) * size, Tx: 2, Sent: 1, GivenAt: 5, FirstAt: 5, Given: 4}
	}
	last := &l[len(l)-1]
	for _, c := range []struct{ cut, want int }{{1, top - 1}, {0, top}} {
		last.From = (len(l)-1)*size + c.cut
		q, s, e := rate.Given(api.Rate{}, l, 5, 0)
		whole(t, "many", q, s, e, api.Rate{Given: c.want, GivenAt: 5, FirstAt: 1}, api.Sample{Now: 5, Acked: c.want, Given: c.want, Before: 4})
		q, s, e = rate.Given(api.Rate{Given: 7}, l, 5, 0)
		whole(t, "many, and 7", q, s, e, api.Rate{Given: top, GivenAt: 5, FirstAt: 1}, api.Sample{Now: 5, Acked: c.want, Given: top, Before: 4})
	}
	for _, bytes := range []int{0, 1, size} {
		more := append(slices.Clone(l), api.Rec{To: bytes, Sent: 2, GivenAt: 5, FirstAt: 5, Given: 4})
		q, s, e := rate.Given(api.Rate{}, more, 5, 0)
		whole(t, "one more", q, s, e, api.Rate{Given: top, GivenAt: 5, FirstAt: 2}, api.Sample{Now: 5, Acked: top, Given: top, Before: 4})
	}
}

func TestIdleToEnds(t *testing.T) {
	for _, c := range []struct {
		name                 string
		given, bytes, idleTo int
		want                 int
	}{
		{"two below", 100, 8, 110, 110},
		{"one below", 100, 9, 110, 110},
		{"at", 100, 10, 110, 110},
		{"one above", 100, 11, 110, 0},
		{"far above", 100, size, 110, 0},
		{"above from the beginning", 120, 0, 110, 0},
		{"at from the beginning", 110, 0, 110, 110},
		{"0", 100, 10, 0, 0},
		{"0 of 0", 0, 0, 0, 0},
		{"1, nothing", 0, 0, 1, 1},
		{"1, one", 0, 1, 1, 1},
		{"1, two", 0, 2, 1, 0},
		{"greatest", top, size, top, top},
		{"one below the greatest", top - 1, 1, top - 1, 0},
	} {
		for _, isIdle := range []bool{false, true} {
			x := api.Rec{To: c.bytes, Sent: 3, GivenAt: 9, Idle: isIdle}
			q, s, e := rate.Given(api.Rate{Given: c.given, IdleTo: c.idleTo}, []api.Rec{x}, 9, 10)
			given := min(c.given+c.bytes, top)
			whole(t, c.name, q, s, e, api.Rate{Given: given, GivenAt: 9, FirstAt: 3, IdleTo: c.want},
				api.Sample{Now: 9, Acked: c.bytes, Given: given, Idle: isIdle})
		}
	}
}

func TestRtt(t *testing.T) {
	for _, c := range []struct{ tx, sent, now, want int }{
		{0, 20, 50, 0},
		{1, 20, 50, 30},
		{2, 20, 50, 0},
		{-1, 20, 50, 0},
		{math.MaxInt, 20, 50, 0},
		{1, 50, 49, 0},
		{1, 50, 50, 0},
		{1, 50, 51, 1},
		{0, 50, 51, 0},
		{2, 50, 51, 0},
		{2, 50, 49, 0},
		{1, 0, top, top},
		{1, top, 0, 0},
		{1, top, top, 0},
		{1, top - 1, top, 1},
		{2, 0, top, 0},
	} {
		x := api.Rec{To: 5, Sent: c.sent, Tx: c.tx, Given: 9, GivenAt: top, FirstAt: top}
		q, s, e := rate.Given(api.Rate{}, []api.Rec{x}, c.now, top)
		whole(t, "Rtt", q, s, e, api.Rate{Given: 5, GivenAt: c.now, FirstAt: c.sent},
			api.Sample{Now: c.now, Acked: 5, Rtt: c.want, Given: 5, Before: 9})
	}
}

// speedOf is a call of Given with one record of bytes, and the Rate that it must answer.
type speedOf struct {
	name                   string
	given, bytes, before   int
	sent, firstAt, givenAt int
	now, low               int
	want                   int
}

// askSpeed asks the Rates of calls, with one record and with one that does not count ahead of it, or behind.
func askSpeed(t *testing.T, calls []speedOf) {
	t.Helper()
	for _, c := range calls {
		x := api.Rec{To: c.bytes, Sent: c.sent, Tx: 2, Given: c.before, GivenAt: c.givenAt, FirstAt: c.firstAt}
		want := api.Sample{Now: c.now, Acked: c.bytes, Rate: c.want, Given: min(c.given+c.bytes, top), Before: c.before}
		after := api.Rate{Given: want.Given, GivenAt: c.now, FirstAt: c.sent}
		rows := [][]api.Rec{{x}}
		if c.before > 0 {
			other := api.Rec{Sent: 1, Tx: 1, Given: c.before - 1, GivenAt: 2, FirstAt: 3, Idle: true}
			rows = append(rows, []api.Rec{other, x}, []api.Rec{x, other})
		}
		for _, l := range rows {
			// The sampler's own times count for nothing.
			for _, at := range []int{0, 7, top} {
				q, s, e := rate.Given(api.Rate{Given: c.given, GivenAt: at, FirstAt: top - at}, l, c.now, c.low)
				whole(t, c.name, q, s, e, after, want)
			}
		}
	}
}

func TestSpeed(t *testing.T) {
	askSpeed(t, []speedOf{
		{"sending took longer", 1000, 100, 600, 80, 30, 60, 100, 0, 10000000},
		{"delivering took longer", 1000, 100, 600, 80, 70, 50, 100, 0, 10000000},
		{"both took as long", 1000, 100, 600, 80, 30, 50, 100, 0, 10000000},
		{"sending took one more", 1000, 100, 590, 81, 30, 50, 100, 0, 10000000},
		{"delivering took one more", 1000, 100, 590, 80, 30, 49, 100, 0, 10000000},
		{"Sent at FirstAt", 1000, 100, 600, 80, 80, 50, 100, 0, 10000000},
		{"Sent below FirstAt", 1000, 100, 600, 80, 90, 50, 100, 0, 10000000},
		{"Sent far below FirstAt", 1000, 100, 600, 0, top, 50, 100, 0, 10000000},
		{"now at GivenAt", 1000, 100, 600, 80, 30, 100, 100, 0, 10000000},
		{"now below GivenAt", 1000, 100, 600, 80, 30, 110, 100, 0, 10000000},
		{"now far below GivenAt", 1000, 100, 600, 80, 30, top, 0, 0, 10000000},
		{"now below Sent", 1000, 100, 600, 80, 30, 5, 10, 0, 10000000},

		{"t 0 by both", 1000, 100, 600, 80, 80, 100, 100, 0, 0},
		{"t 0, the other below", 1000, 100, 600, 80, 80, 101, 100, 0, 0},
		{"t 0, the other one below", 1000, 100, 600, 80, 81, 100, 100, 0, 0},
		{"t below 0", 1000, 100, 600, 80, 81, 101, 100, 0, 0},
		{"t far below 0", 1000, 100, 600, 0, top, top, 0, 0, 0},
		{"t 1 by sending", 1000, 100, 600, 81, 80, 100, 100, 0, 500000000},
		{"t 1 by delivering", 1000, 100, 600, 80, 80, 99, 100, 0, 500000000},
		{"t greatest by sending", 1 << 30, 0, 0, top, 0, 100, 100, 0, 0},
		{"t greatest, Given greatest", top, 0, 0, top, 0, 100, 100, top, 1000000},
		{"t greatest by delivering", top, 0, 0, 80, 80, 0, top, top, 1000000},

		{"t one below low", 1000, 100, 600, 80, 70, 50, 100, 51, 0},
		{"t at low", 1000, 100, 600, 80, 70, 50, 100, 50, 10000000},
		{"t one above low", 1000, 100, 600, 80, 70, 50, 100, 49, 10000000},
		{"t by sending one below low", 1000, 100, 600, 80, 30, 60, 100, 51, 0},
		{"t by sending at low", 1000, 100, 600, 80, 30, 60, 100, 50, 10000000},
		{"low greatest", 1000, 100, 600, 80, 30, 60, 100, top, 0},
		{"t 1, low 1", 1000, 100, 600, 80, 80, 99, 100, 1, 500000000},
		{"t 1, low 2", 1000, 100, 600, 80, 80, 99, 100, 2, 0},
		{"t 0, low 1", 1000, 100, 600, 80, 80, 100, 100, 1, 0},

		{"Given two above Before", 1000, 100, 1098, 80, 70, 50, 100, 0, 40000},
		{"Given one above Before", 1000, 100, 1099, 80, 70, 50, 100, 0, 20000},
		{"Given at Before", 1000, 100, 1100, 80, 70, 50, 100, 0, 0},
		{"Given one below Before", 1000, 100, 1101, 80, 70, 50, 100, 0, 0},
		{"Given far below Before", 1000, 100, top, 80, 70, 50, 100, 0, 0},
		{"Given cut off at Before", top, 100, top, 80, 70, 50, 100, 0, 0},
		{"Given cut off one above Before", top - 5, 100, top - 1, 80, 70, 50, 100, 0, 20000},
		{"all of it from the beginning", 0, 100, 0, 80, 70, 50, 100, 0, 2000000},
		{"no bytes", 1000, 0, 600, 80, 70, 50, 100, 0, 8000000},

		{"a third", 0, 100, 0, 80, 80, 97, 100, 0, 33333333},
		{"two thirds", 0, 200, 0, 80, 80, 97, 100, 0, 66666666},
		{"one by seven", 0, 1, 0, 80, 80, 93, 100, 0, 142857},
		{"less than 1", 0, 1, 0, 0, 0, 0, 1000001, 0, 0},
		{"just 1", 0, 1, 0, 0, 0, 0, 1000000, 0, 1},
		{"just below 2", 0, 1, 0, 0, 0, 0, 500001, 0, 1},

		// 2^63 by 1000000 is 9223372036854.78: one byte more is more than an int.
		{"the greatest that is not cut off", 9223372036854, 0, 0, 80, 80, 99, 100, 0, 9223372036854000000},
		{"the least that is cut off", 9223372036855, 0, 0, 80, 80, 99, 100, 0, math.MaxInt},
		{"the greatest that is not cut off, t 2", 18446744073709, 0, 0, 80, 80, 98, 100, 0, 9223372036854500000},
		{"the least that is cut off, t 2", 18446744073710, 0, 0, 80, 80, 98, 100, 0, math.MaxInt},
		{"all of MaxTime", top, 0, 0, 80, 80, 99, 100, 0, math.MaxInt},
		{"all of MaxTime, t 122", top, 0, 0, 0, 0, 0, 122, 0, math.MaxInt},
		{"all of MaxTime, t 123", top, 0, 0, 0, 0, 0, 123, 0, 9153657779208325203},
	})
}

// P17.3: Idle

func TestIdle(t *testing.T) {
	for _, c := range []struct {
		name              string
		given, pipe, want int
	}{
		{"both 0", 0, 0, 1},
		{"pipe 1", 0, 1, 1},
		{"Given 1", 1, 0, 1},
		{"both 1", 1, 1, 2},
		{"pipe 2", 0, 2, 2},
		{"both more", 500, 70, 570},
		{"Given alone", 500, 0, 500},
		{"pipe alone", 0, 70, 70},
		{"pipe one below MaxSize", 500, size - 1, size + 499},
		{"pipe MaxSize", 500, size, size + 500},
		{"one below MaxTime", top - 11, 10, top - 1},
		{"at MaxTime", top - 10, 10, top},
		{"one past MaxTime", top - 9, 10, top},
		{"one below MaxTime, by MaxSize", top - size - 1, size, top - 1},
		{"at MaxTime, by MaxSize", top - size, size, top},
		{"one past MaxTime, by MaxSize", top - size + 1, size, top},
		{"far past MaxTime", top, size, top},
		{"Given MaxTime alone", top, 0, top},
	} {
		for _, before := range []int{0, 1, 570, 9999, top} {
			q, e := rate.Idle(api.Rate{Given: c.given, GivenAt: 40, FirstAt: 30, IdleTo: before}, c.pipe)
			if want := (api.Rate{Given: c.given, GivenAt: 40, FirstAt: 30, IdleTo: c.want}); e != api.OK || q != want {
				t.Errorf("%s: %+v, %d, want %+v", c.name, q, e, want)
			}
		}
	}
}

func TestIdleRefuses(t *testing.T) {
	for _, c := range edges(size) {
		q, e := rate.Idle(ordinary(), c.n)
		if c.may && e != api.OK {
			t.Errorf("pipe %s: error %d", c.name, e)
		}
		if !c.may && (e != api.ErrArg || q != (api.Rate{})) {
			t.Errorf("pipe %s: %+v, %d", c.name, q, e)
		}
	}
}

// The application had nothing more: what is sent then says so, until all of it was delivered and one byte more.
func TestIdleAndBack(t *testing.T) {
	q, x, _ := rate.Sent(api.Rate{}, api.Rec{To: 10, Tx: 1}, 5, true)
	q, e := rate.Idle(q, 10)
	if e != api.OK || q.IdleTo != 10 || x.Idle {
		t.Fatalf("%+v, %+v, %d", q, x, e)
	}
	q, y, _ := rate.Sent(q, api.Rec{From: 10, To: 20, Sent: 6, Tx: 1}, 6, false)
	q, s, _ := rate.Given(q, []api.Rec{x}, 9, 0)
	if !y.Idle || s.Idle || q.IdleTo != 10 {
		t.Fatalf("%+v, %+v, %+v", q, y, s)
	}
	q, s, _ = rate.Given(q, []api.Rec{y}, 10, 0)
	if !s.Idle || q.IdleTo != 0 {
		t.Fatalf("%+v, %+v", q, s)
	}
	_, z, _ := rate.Sent(q, api.Rec{From: 20, To: 30, Tx: 1}, 11, true)
	if z.Idle {
		t.Errorf("%+v", z)
	}
}

// R3: what is handed in stays as it was, behind the end of a row, too.
func TestWhatIsHandedInStays(t *testing.T) {
	all := []api.Rec{record(), {From: 5, To: 9, Given: 300}, {To: 4, Given: 2, Idle: true}, {To: 3, Given: 999}}
	before := slices.Clone(all)
	q := ordinary()
	for n := range len(all) + 1 {
		if _, _, e := rate.Given(q, all[:n], 50, 0); e != api.OK {
			t.Fatal(e)
		}
		if !slices.Equal(all, before) || q != ordinary() {
			t.Fatalf("%d records: %+v, %+v", n, q, all)
		}
	}
	all[3].Sent = -1
	before = slices.Clone(all)
	if _, _, e := rate.Given(q, all, 50, 0); e != api.ErrArg || !slices.Equal(all, before) {
		t.Errorf("refused: %+v, %d", all, e)
	}
	if _, s, e := rate.Given(q, all[:3], 50, 0); e != api.OK || s.Acked != 18 {
		t.Errorf("what is behind the end counts: %+v, %d", s, e)
	}
}
