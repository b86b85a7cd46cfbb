package rate_test

import (
	"math"
	"math/big"
	"testing"

	"tideway/api"
	"tideway/rate"
)

// dice throws numbers that look like chance and are the same each time.
type dice struct{ state uint64 }

// below answers a number from 0 on, below n.
func (d *dice) below(n int) int {
	d.state = d.state*6364136223846793005 + 1442695040888963407
	return int(d.state>>33) % n
}

// long answers a number of any length, from 0 to most.
func (d *dice) long(most int) int {
	return (d.below(1<<31)<<20 + d.below(1<<20)) % (most + 1) >> d.below(50)
}

// goes tells whether a number is from 0 to high.
func goes(n, high int) bool { return 0 <= n && n <= high }

// mayBe follows P17.1's words.
func mayBe(q api.Rate) bool {
	return goes(q.Given, top) && goes(q.GivenAt, top) && goes(q.FirstAt, top) && goes(q.IdleTo, top)
}

// far answers b less a in numbers that have room for all.
func far(a, b int) *big.Int { return new(big.Int).Sub(big.NewInt(int64(b)), big.NewInt(int64(a))) }

// recMayBe follows P17.1's words.
func recMayBe(x api.Rec) bool {
	if x.From < 0 || x.To < x.From || far(x.From, x.To).Cmp(big.NewInt(size)) > 0 {
		return false
	}
	return goes(x.Given, top) && goes(x.GivenAt, top) && goes(x.FirstAt, top) && goes(x.Sent, top)
}

// cut answers a number, at most another.
func cut(x *big.Int, most int) int {
	if x.Cmp(big.NewInt(int64(most))) > 0 {
		return most
	}
	return int(x.Int64())
}

// theOne follows P17.3's words: its place among records, of which there is one at least.
func theOne(l []api.Rec) int {
	greatest := l[0].Given
	for _, x := range l {
		if x.Given > greatest {
			greatest = x.Given
		}
	}
	place := 0
	for i, x := range l {
		if x.Given == greatest {
			place = i
		}
	}
	return place
}

// wantGiven follows P17.3's words for arguments that may be.
func wantGiven(q api.Rate, l []api.Rec, now, low int) (api.Rate, api.Sample) {
	if len(l) == 0 {
		return q, api.Sample{Now: now, Given: q.Given}
	}
	bytes := new(big.Int)
	for _, x := range l {
		bytes.Add(bytes, far(x.From, x.To))
	}
	one := l[theOne(l)]
	s := api.Sample{Now: now, Acked: cut(bytes, top), Before: one.Given, Idle: one.Idle}
	s.Given = cut(bytes.Add(bytes, big.NewInt(int64(q.Given))), top)
	if one.Tx == 1 && now > one.Sent {
		s.Rtt = now - one.Sent
	}
	t := far(one.FirstAt, one.Sent)
	if other := far(one.GivenAt, now); other.Cmp(t) > 0 {
		t = other
	}
	if t.Sign() > 0 && t.Cmp(big.NewInt(int64(low))) >= 0 && s.Given > s.Before {
		x := far(s.Before, s.Given)
		x.Mul(x, big.NewInt(1000000))
		s.Rate = cut(x.Div(x, t), math.MaxInt)
	}
	after := api.Rate{Given: s.Given, GivenAt: now, FirstAt: one.Sent, IdleTo: q.IdleTo}
	if s.Given > q.IdleTo {
		after.IdleTo = 0
	}
	return after, s
}

// askGiven asks one call of Given against the words.
func askGiven(t *testing.T, q api.Rate, l []api.Rec, now, low int) {
	t.Helper()
	fit := goes(now, top) && goes(low, top)
	for _, x := range l {
		fit = fit && recMayBe(x)
	}
	want, wantS, wantE := api.Rate{}, api.Sample{}, api.OK
	switch {
	case !mayBe(q):
		wantE = api.ErrState
	case !fit:
		wantE = api.ErrArg
	default:
		want, wantS = wantGiven(q, l, now, low)
	}
	got, s, e := rate.Given(q, l, now, low)
	if got != want || s != wantS || e != wantE {
		t.Fatalf("Given(%+v, %+v, %d, %d) = %+v, %+v, %d, want %+v, %+v, %d", q, l, now, low, got, s, e, want, wantS, wantE)
	}
	if e == api.OK && !mayBe(got) {
		t.Fatalf("Given(%+v, %+v, %d, %d) = %+v, which may not be", q, l, now, low, got)
	}
}

// askSent asks one call of Sent against the words.
func askSent(t *testing.T, q api.Rate, x api.Rec, now int, none bool) {
	t.Helper()
	want, wantX, wantE := api.Rate{}, api.Rec{}, api.OK
	switch {
	case !mayBe(q):
		wantE = api.ErrState
	case !goes(now, top) || !recMayBe(x):
		wantE = api.ErrArg
	default:
		want, wantX = q, x
		if none {
			want.FirstAt, want.GivenAt = now, now
		}
		wantX.Given, wantX.GivenAt, wantX.FirstAt = want.Given, want.GivenAt, want.FirstAt
		wantX.Idle = q.IdleTo != 0
	}
	got, gotX, e := rate.Sent(q, x, now, none)
	if got != want || gotX != wantX || e != wantE {
		t.Fatalf("Sent(%+v, %+v, %d, %v) = %+v, %+v, %d, want %+v, %+v, %d", q, x, now, none, got, gotX, e, want, wantX, wantE)
	}
	if e == api.OK && (!mayBe(got) || !recMayBe(gotX)) {
		t.Fatalf("Sent(%+v, %+v, %d, %v) = %+v, %+v, which may not be", q, x, now, none, got, gotX)
	}
}

// few are times about the limits.
func few() []int { return []int{math.MinInt, -1, 0, 1, top - 1, top, top + 1, math.MaxInt} }

func TestCheckEverywhere(t *testing.T) {
	for _, given := range few() {
		for _, givenAt := range few() {
			for _, firstAt := range few() {
				for _, idleTo := range few() {
					q := api.Rate{Given: given, GivenAt: givenAt, FirstAt: firstAt, IdleTo: idleTo}
					if e := rate.Check(q); e != api.OK && e != api.ErrState || (e == api.OK) != mayBe(q) {
						t.Fatalf("Check(%+v) = %d", q, e)
					}
				}
			}
		}
	}
}

func TestSentEverywhere(t *testing.T) {
	for _, c := range samplers() {
		for _, o := range odds() {
			for _, now := range few() {
				askSent(t, c.q, o.x, now, false)
				askSent(t, c.q, o.x, now, true)
			}
		}
	}
}

func TestGivenEverywhere(t *testing.T) {
	for _, c := range samplers() {
		for _, o := range odds() {
			for _, l := range among(o.x) {
				for _, now := range few() {
					for _, low := range []int{-1, 0, 1, top, top + 1} {
						askGiven(t, c.q, l, now, low)
					}
				}
			}
		}
	}
}

func TestIdleEverywhere(t *testing.T) {
	for _, c := range samplers() {
		for _, pipe := range []int{math.MinInt, -1, 0, 1, 2, 199, 200, 201, size - 1, size, size + 1, top, math.MaxInt} {
			want, wantE := api.Rate{}, api.OK
			switch {
			case !mayBe(c.q):
				wantE = api.ErrState
			case !goes(pipe, size):
				wantE = api.ErrArg
			default:
				want = c.q
				want.IdleTo = cut(far(-pipe, c.q.Given), top)
				if want.IdleTo < 1 {
					want.IdleTo = 1
				}
			}
			if got, e := rate.Idle(c.q, pipe); got != want || e != wantE {
				t.Fatalf("Idle(%+v, %d) = %+v, %d, want %+v, %d", c.q, pipe, got, e, want, wantE)
			}
		}
	}
}

// All small numbers of one record, so that each is the lesser, the same and the greater.
func TestSmallGiven(t *testing.T) {
	for sent := range 4 {
		for firstAt := range 4 {
			for givenAt := range 4 {
				for before := range 4 {
					for bytes := range 3 {
						x := api.Rec{From: 7, To: 7 + bytes, Sent: sent, Tx: before % 3, Given: before, GivenAt: givenAt, FirstAt: firstAt}
						for now := range 4 {
							for low := range 4 {
								for given := range 3 {
									askGiven(t, api.Rate{Given: given, GivenAt: 9, FirstAt: 8, IdleTo: low}, []api.Rec{x}, now, low)
								}
							}
						}
					}
				}
			}
		}
	}
}

// All rows of up to four records whose Givens are small: which one counts.
func TestSmallRows(t *testing.T) {
	for n := range 5 {
		rows := 1
		for range n {
			rows *= 4
		}
		for row := range rows {
			var l []api.Rec
			for i := range n {
				l = append(l, api.Rec{From: i, To: 2 * i, Sent: 10 + i, Tx: 1 + i%2, Given: row >> (2 * i) & 3, GivenAt: i, FirstAt: 2 * i, Idle: i%3 == 0})
			}
			askGiven(t, api.Rate{Given: 5, GivenAt: 7, FirstAt: 6, IdleTo: 8}, l, 20, 0)
		}
	}
}

// thrown answers a record that mostly may be.
func thrown(d *dice) api.Rec {
	from := d.long(api.MaxOffset)
	x := api.Rec{From: from, To: from + d.long(size), Fin: d.below(2) == 0, Sent: d.long(top), Tx: d.below(4),
		Sacked: d.below(2) == 0, Lost: d.below(2) == 0, Again: d.below(2) == 0,
		Given: d.long(top), GivenAt: d.long(top), FirstAt: d.long(top), Idle: d.below(2) == 0}
	if d.below(50) == 0 {
		x.To = x.From - 1
	}
	return x
}

// Numbers of all lengths, thrown.
func TestThrown(t *testing.T) {
	d := &dice{1}
	for range 100000 {
		q := api.Rate{Given: d.long(top), GivenAt: d.long(top), FirstAt: d.long(top), IdleTo: d.long(top) * d.below(2)}
		var l []api.Rec
		for range d.below(6) {
			l = append(l, thrown(d))
		}
		askGiven(t, q, l, d.long(top), d.long(top))
		askSent(t, q, thrown(d), d.long(top), d.below(2) == 0)
	}
}

// Rows of calls, each with what the ones ahead answered.
func TestWalks(t *testing.T) {
	d := &dice{5}
	for range 500 {
		var q api.Rate
		var way []api.Rec
		now, from := 0, 0
		for range 60 {
			now += d.below(5)
			switch d.below(4) {
			case 0, 1:
				x := api.Rec{From: from, To: from + d.below(20), Sent: now, Tx: 1 + d.below(2)}
				askSent(t, q, x, now, len(way) == 0)
				q, x, _ = rate.Sent(q, x, now, len(way) == 0)
				way, from = append(way, x), x.To
			case 2:
				n := d.below(len(way) + 1)
				askGiven(t, q, way[:n], now, d.below(9))
				q, _, _ = rate.Given(q, way[:n], now, 0)
				way = way[n:]
			case 3:
				q, _ = rate.Idle(q, d.below(30))
			}
			if rate.Check(q) != api.OK {
				t.Fatalf("a walk led to %+v", q)
			}
		}
	}
}

// P17.4

// path delivers segments of a size, one each gap, a delay behind their sending; a heap of them is told together.
type path struct {
	size, gap, delay, heap int
}

// rig is a sampler, and what is on its way.
type rig struct {
	q   api.Rate
	way []api.Rec
	end int
}

// send sends a segment of a size.
func (r *rig) send(t *testing.T, size, now int) {
	t.Helper()
	q, x, e := rate.Sent(r.q, api.Rec{From: r.end, To: r.end + size, Sent: now, Tx: 1}, now, len(r.way) == 0)
	if e != api.OK {
		t.Fatal(e)
	}
	r.q, r.way, r.end = q, append(r.way, x), x.To
}

// take has the first n of those on their way delivered, and answers the Sample. That nothing came, told behind it, must
// not count.
func (r *rig) take(t *testing.T, n, now int) api.Sample {
	t.Helper()
	q, s, e := rate.Given(r.q, r.way[:n], now, 0)
	if e != api.OK {
		t.Fatal(e)
	}
	r.q, r.way = q, r.way[n:]
	for later := range 3 {
		q, empty, e := rate.Given(r.q, nil, now+later, 0)
		if e != api.OK || empty != (api.Sample{Now: now + later, Given: r.q.Given}) {
			t.Fatalf("nothing came: %+v, %d", empty, e)
		}
		r.q = q
	}
	return s
}

// even asks that a path is sampled at its rate, from the second round on, and never above it; segments are sent as
// evenly as they are delivered.
func even(t *testing.T, p path, n int) {
	t.Helper()
	var r rig
	sent, given := 0, 0
	fair := p.size * 1000000 / p.gap
	for given+p.heap <= n {
		due := (given+p.heap-1)*p.gap + p.delay
		for sent < n && sent*p.gap < due {
			r.send(t, p.size, sent*p.gap)
			sent++
		}
		first := r.way[p.heap-1].Given == 0
		s := r.take(t, p.heap, due)
		given += p.heap
		if s.Rate > fair || !first && s.Rate != fair {
			t.Fatalf("%+v: number %d: %+v, want Rate %d", p, given, s, fair)
		}
		if s.Rtt != p.delay || s.Acked != p.heap*p.size || s.Given != given*p.size {
			t.Fatalf("%+v: number %d: %+v", p, given, s)
		}
	}
}

func TestEvenPaths(t *testing.T) {
	for _, size := range []int{1, 7, 8, 1000, 1460, api.MaxData} {
		for _, gap := range []int{1, 3, 10, 997, 1000, 1000003} {
			for _, delay := range []int{gap, gap + 1, 2*gap - 1, 2 * gap, 5*gap + gap/2, 40 * gap} {
				for _, heap := range []int{1, 2, 3, 10} {
					for _, n := range []int{1, 2, 10, 61, 200} {
						even(t, path{size, gap, delay, heap}, n)
					}
				}
			}
		}
	}
}

// A window that is sent at once, and then one segment for each that was delivered: once the first ones, which went out
// in a heap, are through, the path is sampled at its rate; and ahead of that never above it.
func TestWindowOnAnEvenPath(t *testing.T) {
	for _, size := range []int{1, 7, 1000, api.MaxData} {
		for _, gap := range []int{1, 3, 1000, 1000003} {
			for _, delay := range []int{gap, gap + 1, 3 * gap, 7*gap + gap/2} {
				for _, window := range []int{8, 9, 20} {
					var r rig
					for range window {
						r.send(t, size, 0)
					}
					fair := size * 1000000 / gap
					for i := range 10 * window {
						now := delay + i*gap
						s := r.take(t, 1, now)
						r.send(t, size, now)
						if s.Rate > fair || i >= 2*window && s.Rate != fair {
							t.Fatalf("size %d, gap %d, delay %d, window %d: number %d: %+v, want Rate %d", size, gap, delay, window, i, s, fair)
						}
					}
				}
			}
		}
	}
}

// A pause in which nothing is on its way does not count: behind it the path is sampled at its rate, as from the
// beginning.
func TestPauseOnAnEvenPath(t *testing.T) {
	var r rig
	now := 0
	for range 20 {
		begin := now
		for sent, given := 0, 0; given < 40; given++ {
			now = begin + given*100 + 700
			for ; sent < 40 && begin+sent*100 < now; sent++ {
				r.send(t, 1000, begin+sent*100)
			}
			s := r.take(t, 1, now)
			if s.Rate > 10000000 || given >= 7 && s.Rate != 10000000 {
				t.Fatalf("number %d from %d: %+v", given, begin, s)
			}
		}
		now += 123456789
	}
}

// Acknowledgements that are held back and come in a heap do not make the path look faster than it was sent to.
func TestHeldBackAcknowledgements(t *testing.T) {
	d := &dice{3}
	for range 300 {
		var r rig
		now, next := 0, 0
		for range 200 {
			now += d.below(300)
			for ; next*100 <= now; next++ {
				r.send(t, 1000, next*100)
			}
			n := 0
			for n < len(r.way) && r.way[n].Sent+500 <= now {
				n++
			}
			told := d.below(n + 1)
			if told == 0 {
				continue
			}
			if s := r.take(t, told, now); s.Rate > 10000000 {
				t.Fatalf("sent at 10000000 bytes a second: %+v", s)
			}
		}
	}
}

// R4: two samplers know nothing of one another, and the same call answers the same.
func TestTwoSamplers(t *testing.T) {
	l := []api.Rec{record(), {To: 4, Given: 2}}
	q, s, e := rate.Given(ordinary(), l, 50, 0)
	if _, _, e := rate.Given(api.Rate{Given: 3}, l[:1], 80, 0); e != api.OK {
		t.Fatal(e)
	}
	if _, e := rate.Idle(api.Rate{Given: 3}, 9); e != api.OK {
		t.Fatal(e)
	}
	again, s2, e2 := rate.Given(ordinary(), l, 50, 0)
	if q != again || s != s2 || e != e2 {
		t.Errorf("%+v, %+v, %d, then %+v, %+v, %d", q, s, e, again, s2, e2)
	}
}
