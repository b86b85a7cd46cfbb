package pacer_test

import (
	"math"
	"math/big"
	"testing"

	"tideway/api"
	"tideway/pacer"
)

// dice throws numbers that look like chance and are the same each time.
type dice struct{ state uint64 }

// below answers a number from 0 on, below n.
func (d *dice) below(n int) int {
	d.state = d.state*6364136223846793005 + 1442695040888963407
	return int(d.state>>33) % n
}

// upTo answers a number of any length, from 0 to most.
func (d *dice) upTo(most int) int {
	return (d.below(1<<31)<<20 + d.below(1<<20)) % (most + 1) >> d.below(50)
}

// from answers a number of any length, from low to high.
func (d *dice) from(low, high int) int {
	if d.below(2) == 0 {
		return low + d.upTo(high-low)
	}
	return high - d.upTo(high-low)
}

// bucket answers one that may be.
func (d *dice) bucket() api.Pacer {
	p := api.Pacer{Rate: d.from(1, fastest), Burst: d.from(1, size), Last: d.from(0, late)}
	p.Tokens = d.from(-size*million, p.Burst*million)
	return p
}

// bigs answers numbers that have room for all.
func bigs(n int) *big.Int { return big.NewInt(int64(n)) }

// product answers a times b in numbers that have room for all.
func product(a, b int) *big.Int { return new(big.Int).Mul(bigs(a), bigs(b)) }

// goes tells whether a number is from low to high.
func goes(n, low, high int) bool { return low <= n && n <= high }

// mayBe follows P20.1's words.
func mayBe(p api.Pacer) bool {
	if !goes(p.Rate, 1, fastest) || !goes(p.Burst, 1, size) || !goes(p.Last, 0, late) {
		return false
	}
	return goes(p.Tokens, -size*million, p.Burst*million)
}

// tokensAt follows P20.2's words: what p has once it is Filled at a time.
func tokensAt(p api.Pacer, now int) int {
	x := product(p.Rate, now-p.Last)
	x.Add(x, bigs(p.Tokens))
	if x.Cmp(product(p.Burst, million)) > 0 {
		return p.Burst * million
	}
	return int(x.Int64())
}

// enough follows P20.2's words: whether n bytes may leave where p has so many tokens.
func enough(p api.Pacer, tokens, n int) bool {
	return bigs(tokens).Cmp(product(n, million)) >= 0 || tokens == p.Burst*million
}

// wantMay follows P20.2's words.
func wantMay(p api.Pacer, n int) bool {
	return mayBe(p) && goes(n, 0, size) && enough(p, p.Tokens, n)
}

// wantWhen follows P20.2's words: it halves the time left until but one moment is.
func wantWhen(p api.Pacer, n int) int {
	low, high := p.Last, late
	for low < high {
		mid := (low + high) / 2
		if enough(p, tokensAt(p, mid), n) {
			high = mid
		} else {
			low = mid + 1
		}
	}
	return low
}

// askBucket asks what a call that answers a bucket answered against the words; fit tells whether its number may be.
func askBucket(t *testing.T, name string, p api.Pacer, n int, fit bool, got api.Pacer, e api.Errno, want api.Pacer) {
	t.Helper()
	wantE := api.OK
	switch {
	case !mayBe(p):
		want, wantE = api.Pacer{}, api.ErrState
	case !fit:
		want, wantE = api.Pacer{}, api.ErrArg
	}
	if got != want || e != wantE {
		t.Fatalf("%s(%+v, %d) = %+v, %d, want %+v, %d", name, p, n, got, e, want, wantE)
	}
	if e == api.OK && (!mayBe(got) || pacer.Check(got) != api.OK) {
		t.Fatalf("%s(%+v, %d) = %+v, which may not be", name, p, n, got)
	}
}

// askFill asks one call of Fill against the words.
func askFill(t *testing.T, p api.Pacer, now int) {
	t.Helper()
	want, fit := p, goes(now, p.Last, late)
	if mayBe(p) && fit {
		want.Tokens, want.Last = tokensAt(p, now), now
	}
	got, e := pacer.Fill(p, now)
	askBucket(t, "Fill", p, now, fit, got, e, want)
}

// askTake asks one call of May, and one of Take, against the words.
func askTake(t *testing.T, p api.Pacer, n int) {
	t.Helper()
	want, may := p, wantMay(p, n)
	if may {
		want.Tokens -= n * million
	}
	if got := pacer.May(p, n); got != may {
		t.Fatalf("May(%+v, %d) = %v", p, n, got)
	}
	got, e := pacer.Take(p, n)
	askBucket(t, "Take", p, n, may, got, e, want)
}

// askSet asks one call of Set against the words.
func askSet(t *testing.T, p api.Pacer, rate int) {
	t.Helper()
	want := p
	want.Rate = rate
	got, e := pacer.Set(p, rate)
	askBucket(t, "Set", p, rate, goes(rate, 1, fastest), got, e, want)
}

// askWhen asks one call of When against the words, and what May says at the time that it answers, and ahead of that.
func askWhen(t *testing.T, p api.Pacer, n int) {
	t.Helper()
	want, wantE := 0, api.OK
	switch {
	case !mayBe(p):
		wantE = api.ErrState
	case !goes(n, 0, size):
		wantE = api.ErrArg
	default:
		want = wantWhen(p, n)
	}
	at, e := pacer.When(p, n)
	if at != want || e != wantE {
		t.Fatalf("When(%+v, %d) = %d, %d, want %d, %d", p, n, at, e, want, wantE)
	}
	if e != api.OK {
		return
	}
	if q, e := pacer.Fill(p, at); e != api.OK || !pacer.May(q, n) && at < late {
		t.Fatalf("When(%+v, %d) = %d, but then it may not: %+v, %d", p, n, at, q, e)
	}
	if at > p.Last {
		if q, e := pacer.Fill(p, at-1); e != api.OK || pacer.May(q, n) {
			t.Fatalf("When(%+v, %d) = %d, but it may a microsecond ahead of it: %+v, %d", p, n, at, q, e)
		}
	}
}

// askAll asks all calls with one number.
func askAll(t *testing.T, p api.Pacer, n int) {
	t.Helper()
	askFill(t, p, n)
	askTake(t, p, n)
	askSet(t, p, n)
	askWhen(t, p, n)
}

// few are numbers about all limits.
func few() []int {
	return []int{
		math.MinInt, -size*million - 1, -size * million, -million, -1, 0, 1, 2, 9, 10, 11, million - 1, million, million + 1,
		10*million - 1, 10 * million, 10*million + 1, size - 1, size, size + 1, fastest - 1, fastest, fastest + 1,
		late - 1, late, late + 1, size*million - 1, size * million, size*million + 1, math.MaxInt,
	}
}

func TestEverywhere(t *testing.T) {
	for _, rate := range []int{-1, 0, 1, 2, fastest, fastest + 1, math.MinInt, math.MaxInt} {
		for _, burst := range []int{-1, 0, 1, 10, size, size + 1, math.MinInt, math.MaxInt} {
			for _, last := range []int{-1, 0, 1, 100, late - 1, late, late + 1, math.MinInt, math.MaxInt} {
				for _, tokens := range few() {
					p := api.Pacer{Rate: rate, Burst: burst, Tokens: tokens, Last: last}
					if e := pacer.Check(p); e != api.OK && e != api.ErrState || (e == api.OK) != mayBe(p) {
						t.Fatalf("Check(%+v) = %d", p, e)
					}
					for _, n := range few() {
						askAll(t, p, n)
					}
				}
			}
		}
	}
}

func TestStates(t *testing.T) {
	for _, c := range states() {
		for _, n := range few() {
			askAll(t, c.p, n)
		}
	}
}

// New everywhere.
func TestNewEverywhere(t *testing.T) {
	for _, rate := range few() {
		for _, burst := range few() {
			for _, now := range few() {
				want, wantE := api.Pacer{Rate: rate, Burst: burst, Tokens: burst * million, Last: now}, api.OK
				if !goes(rate, 1, fastest) || !goes(burst, 1, size) || !goes(now, 0, late) {
					want, wantE = api.Pacer{}, api.ErrArg
				}
				if got, e := pacer.New(rate, burst, now); got != want || e != wantE {
					t.Fatalf("New(%d, %d, %d) = %+v, %d, want %+v, %d", rate, burst, now, got, e, want, wantE)
				}
			}
		}
	}
}

// All small numbers of tokens about whole bytes, so that all that a quotient leaves over comes.
func TestSmall(t *testing.T) {
	for rate := 1; rate <= 7; rate++ {
		for burst := 1; burst <= 3; burst++ {
			for whole := -2; whole <= burst; whole++ {
				for part := -8; part <= 8; part++ {
					p := api.Pacer{Rate: rate, Burst: burst, Tokens: whole*million + part, Last: 50}
					for n := range 5 {
						askTake(t, p, n)
						askWhen(t, p, n)
						askFill(t, p, 48+n)
						askSet(t, p, n)
					}
				}
			}
		}
	}
}

// Products and sums that are near the bounds of an int, and far beyond them.
func TestLongProducts(t *testing.T) {
	for bits := 40; bits <= 90; bits++ {
		for short := max(0, bits-50); short <= min(40, bits); short++ {
			for _, near := range []int{-1, 0, 1} {
				rate, time := 1<<short+near, 1<<(bits-short)
				for _, burst := range []int{1, 1000, size} {
					for _, tokens := range []int{-size * million, -1, 0, burst * million} {
						p := api.Pacer{Rate: rate, Burst: burst, Tokens: tokens}
						for _, now := range []int{time - 1, time, time + 1} {
							askFill(t, p, now)
						}
					}
				}
			}
		}
	}
}

// Numbers of all lengths, thrown.
func TestThrown(t *testing.T) {
	d := &dice{3}
	for range 20000 {
		p := d.bucket()
		askFill(t, p, d.from(p.Last, late))
		askSet(t, p, d.from(1, fastest))
		for _, n := range []int{d.from(0, size), max(p.Tokens, 0) / million, max(p.Tokens, 0)/million + 1, p.Burst, p.Burst + d.below(3) - 1} {
			askTake(t, p, n)
			askWhen(t, p, n)
		}
		if full := (api.Pacer{Rate: p.Rate, Burst: p.Burst, Tokens: p.Burst * million, Last: p.Last}); d.below(3) == 0 {
			askTake(t, full, d.from(0, size))
			askWhen(t, full, d.from(0, size))
		}
	}
}

// R3, R4: what is handed in stays as it was, two buckets know nothing of one another, and the same call answers the same.
func TestTheSameAgain(t *testing.T) {
	for _, c := range states() {
		first, firstE := pacer.Take(c.p, 1)
		at, atE := pacer.When(c.p, 7)
		other := usual()
		for n := range 5 {
			other, _ = pacer.Fill(other, 100+n*million)
			other, _ = pacer.Take(other, n)
			other, _ = pacer.Set(other, 1+n)
		}
		again, againE := pacer.Take(c.p, 1)
		at2, at2E := pacer.When(c.p, 7)
		if first != again || firstE != againE || at != at2 || atE != at2E {
			t.Errorf("%s: %+v, %d, %d, %d, then %+v, %d, %d, %d", c.name, first, firstE, at, atE, again, againE, at2, at2E)
		}
	}
}
