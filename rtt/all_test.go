package rtt_test

import (
	"math"
	"math/big"
	"testing"

	"tideway/api"
	"tideway/rtt"
)

// edges are numbers about which a limit, a quotient or the room of an int goes wrong.
func edges() []int {
	return []int{math.MinInt, -api.MaxTime, -1, 0, 1, 2, 3, 7, 249, 250, 251, 1000, 1001, 999999, 1000000, 1000001,
		60000000, api.MaxTime/2 + 1, api.MaxTime - 1, api.MaxTime, api.MaxTime + 1, math.MaxInt}
}

// mayBe follows P11.1's words.
func mayBe(r api.Rtt) bool {
	return 1 <= r.Low && r.Low <= r.High && r.High <= api.MaxTime && r.Low <= r.Rto && r.Rto <= r.High &&
		0 <= r.Srtt && r.Srtt <= api.MaxTime && 0 <= r.Var && r.Var <= api.MaxTime
}

// by answers (times a and b) by n, downwards, in numbers that have room for all.
func by(times, a, b, n int) int {
	x := new(big.Int).Mul(big.NewInt(int64(times)), big.NewInt(int64(a)))
	x.Add(x, big.NewInt(int64(b)))
	return int(x.Div(x, big.NewInt(int64(n))).Int64())
}

// wantRto follows P11.2's words for what Calm makes of an estimator that may be.
func wantRto(r api.Rtt) int {
	x := 1000000
	if r.Srtt != 0 {
		x = r.Srtt + 1000
		if 4*r.Var > 1000 {
			x = r.Srtt + 4*r.Var
		}
	}
	if x < r.Low {
		return r.Low
	}
	if x > r.High {
		return r.High
	}
	return x
}

// wantSample follows P11.2's words for an estimator and a time that may be.
func wantSample(r api.Rtt, t int) api.Rtt {
	switch {
	case r.Srtt == 0:
		r.Srtt, r.Var = t, by(0, 0, t, 2)
	case t > r.Srtt:
		r.Srtt, r.Var = by(7, r.Srtt, t, 8), by(3, r.Var, t-r.Srtt, 4)
	default:
		r.Srtt, r.Var = by(7, r.Srtt, t, 8), by(3, r.Var, r.Srtt-t, 4)
	}
	if r.Srtt < 1 {
		r.Srtt = 1
	}
	r.Rto = wantRto(r)
	return r
}

// likely answers estimators that may be, of numbers about the edges.
func likely() []api.Rtt {
	var l []api.Rtt
	for _, low := range edges() {
		for _, high := range edges() {
			for _, rto := range []int{low, high} {
				for _, srtt := range edges() {
					for _, vari := range edges() {
						if r := (api.Rtt{Srtt: srtt, Var: vari, Rto: rto, Low: low, High: high}); mayBe(r) {
							l = append(l, r)
						}
					}
				}
			}
		}
	}
	return l
}

func TestCheckEverywhere(t *testing.T) {
	few := []int{math.MinInt, -1, 0, 1, 2, 1000, api.MaxTime, api.MaxTime + 1, math.MaxInt}
	for _, low := range edges() {
		for _, high := range edges() {
			for _, rto := range edges() {
				for _, srtt := range few {
					for _, vari := range few {
						r := api.Rtt{Srtt: srtt, Var: vari, Rto: rto, Low: low, High: high}
						if e := rtt.Check(r); e != api.OK && e != api.ErrState || (e == api.OK) != mayBe(r) {
							t.Fatalf("Check(%+v) = %d", r, e)
						}
					}
				}
			}
		}
	}
}

func TestNewEverywhere(t *testing.T) {
	for _, low := range edges() {
		for _, high := range edges() {
			want, wantE := api.Rtt{}, api.ErrArg
			if 1 <= low && low <= high && high <= api.MaxTime {
				want, wantE = api.Rtt{Low: low, High: high}, api.OK
				want.Rto = wantRto(want)
			}
			if got, e := rtt.New(low, high); got != want || e != wantE {
				t.Errorf("New(%d, %d) = %+v, %d, want %+v, %d", low, high, got, e, want, wantE)
			}
		}
	}
}

func TestSampleEverywhere(t *testing.T) {
	for _, r := range likely() {
		for _, at := range edges() {
			want, wantE := api.Rtt{}, api.ErrArg
			if at >= 1 && at <= api.MaxTime {
				want, wantE = wantSample(r, at), api.OK
			}
			got, e := rtt.Sample(r, at)
			if got != want || e != wantE {
				t.Fatalf("Sample(%+v, %d) = %+v, %d, want %+v, %d", r, at, got, e, want, wantE)
			}
			if e == api.OK && !mayBe(got) {
				t.Fatalf("Sample(%+v, %d) = %+v, which may not be", r, at, got)
			}
		}
	}
}

func TestBackAndCalmEverywhere(t *testing.T) {
	for _, r := range likely() {
		want := r
		want.Rto = wantRto(r)
		if got, e := rtt.Calm(r); got != want || e != api.OK || !mayBe(got) {
			t.Fatalf("Calm(%+v) = %+v, %d, want %+v", r, got, e, want)
		}
		want.Rto = r.Rto + r.Rto
		if want.Rto > r.High {
			want.Rto = r.High
		}
		if got, e := rtt.Back(r); got != want || e != api.OK || !mayBe(got) {
			t.Fatalf("Back(%+v) = %+v, %d, want %+v", r, got, e, want)
		}
	}
}

// All small numbers, so that all that is left over by a quotient comes.
func TestSmallSamples(t *testing.T) {
	for srtt := range 41 {
		for vari := range 21 {
			for at := 1; at <= 41; at++ {
				r := api.Rtt{Srtt: srtt, Var: vari, Rto: 1, Low: 1, High: 1030}
				if got, e := rtt.Sample(r, at); e != api.OK || got != wantSample(r, at) {
					t.Fatalf("Sample(%+v, %d) = %+v, %d, want %+v", r, at, got, e, wantSample(r, at))
				}
			}
		}
	}
}

// P11.3

// walk does all calls one behind the other, in all orders, and asks what must hold behind each: least and greatest are
// of the samples so far.
func walk(t *testing.T, r api.Rtt, least, greatest, steps int) {
	if r.Rto < r.Low || r.Rto > r.High {
		t.Fatalf("Rto is not from Low to High: %+v", r)
	}
	if rtt.Check(r) != api.OK {
		t.Fatalf("%+v may not be", r)
	}
	if greatest == 0 && r.Srtt != 0 || greatest > 0 && (r.Srtt < least || r.Srtt > greatest) {
		t.Fatalf("Srtt is not from %d to %d: %+v", least, greatest, r)
	}
	if steps == 0 {
		return
	}
	for _, at := range []int{1, 2, 9, 1003, 400000, 70000000, api.MaxTime - 1, api.MaxTime} {
		got, e := rtt.Sample(r, at)
		fine(t, "Sample", e)
		walk(t, got, min(least, at), max(greatest, at), steps-1)
	}
	got, e := rtt.Back(r)
	fine(t, "Back", e)
	walk(t, got, least, greatest, steps-1)
	got, e = rtt.Calm(r)
	fine(t, "Calm", e)
	walk(t, got, least, greatest, steps-1)
}

func TestWalks(t *testing.T) {
	for _, c := range [][2]int{{1, 1}, {1, api.MaxTime}, {200000, 60000000}, {1000, 2000}, {2000000, 2000001}, {api.MaxTime, api.MaxTime}} {
		walk(t, fresh(t, c[0], c[1]), api.MaxTime, 0, 5)
	}
}

// Many samples, one behind the other, between two ends.
func TestSrttStaysBetween(t *testing.T) {
	for _, c := range [][2]int{{1, 2}, {1, 9}, {7, 7}, {1000, 1015}, {40000, 90000}, {1, api.MaxTime}, {api.MaxTime - 3, api.MaxTime}} {
		r := fresh(t, 1, api.MaxTime)
		least, greatest := api.MaxTime, 0
		draw := uint64(1)
		for range 3000 {
			draw = draw*6364136223846793005 + 1442695040888963407
			at := c[0] + int(draw>>12)%(c[1]-c[0]+1)
			least, greatest = min(least, at), max(greatest, at)
			var e api.Errno
			r, e = rtt.Sample(r, at)
			fine(t, "Sample", e)
			if r.Srtt < least || r.Srtt > greatest || r.Rto < r.Low || r.Rto > r.High {
				t.Fatalf("samples from %d to %d: %+v", least, greatest, r)
			}
		}
	}
}

func TestLikeSamplesBringVarDown(t *testing.T) {
	for _, at := range []int{1, 2, 3, 8, 999, 1000, 100000, 60000001, api.MaxTime - 1, api.MaxTime} {
		r := fresh(t, 1, api.MaxTime)
		was := api.MaxTime
		for range 200 {
			var e api.Errno
			r, e = rtt.Sample(r, at)
			fine(t, "Sample", e)
			if r.Srtt != at || r.Var > was || r.Var == was && was > 0 {
				t.Fatalf("samples of %d: Var was %d, now %+v", at, was, r)
			}
			was = r.Var
		}
		if want := min(at+1000, api.MaxTime); r.Var != 0 || r.Rto != want {
			t.Errorf("samples of %d: %+v, want Var 0, Rto %d", at, r, want)
		}
	}
}

// From elsewhere Srtt comes within 7 of the samples, as far as a quotient by 8 is rounded down, and Var no further off.
func TestLikeSamplesFromElsewhere(t *testing.T) {
	for _, srtt := range []int{1, 5, 1000, 100000, api.MaxTime} {
		for _, vari := range []int{0, 1, 50000, api.MaxTime} {
			for _, at := range []int{1, 2, 30, 99999, 100000, 60000000, api.MaxTime} {
				r := api.Rtt{Srtt: srtt, Var: vari, Rto: 5, Low: 1, High: api.MaxTime}
				for range 600 {
					r, _ = rtt.Sample(r, at)
				}
				if r.Srtt > at || r.Srtt < at-7 || r.Var > 7 {
					t.Errorf("Srtt %d, Var %d, many samples of %d: %+v", srtt, vari, at, r)
				}
			}
		}
	}
}

// R4: two estimators know nothing of one another, and the same call on the same one answers the same.
func TestTwoEstimators(t *testing.T) {
	a, b := fresh(t, 200000, 60000000), fresh(t, 5, 50)
	first, e := rtt.Sample(a, 100000)
	fine(t, "Sample", e)
	_, e = rtt.Sample(b, 7)
	fine(t, "Sample", e)
	_, e = rtt.Back(b)
	fine(t, "Back", e)
	second, e := rtt.Sample(a, 100000)
	is(t, "the same again", second, e, first)
	is(t, "the other", b, api.OK, api.Rtt{Rto: 50, Low: 5, High: 50})
}
