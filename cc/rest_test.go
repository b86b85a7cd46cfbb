package cc_test

import (
	"math"
	"testing"

	"tideway/api"
	"tideway/cc"
)

// P19.2: Rest

// rest is a call of Rest, and the window and the threshold that must be behind it.
type rest struct {
	name                string
	mss, cwnd, ssthresh int
	idle, rto, used     int
	wantCwnd, wantSs    int
}

// askRests asks each call of Reno and of CUBIC, all of whose other fields stay.
func askRests(t *testing.T, l []rest) {
	t.Helper()
	for _, a := range l {
		for _, c := range []api.Cc{usualReno(), usualCubic(), with(usualCubic(), "Epoch", -1), with(usualReno(), "Acc", size)} {
			c = with(c, "Mss", a.mss, "Cwnd", a.cwnd, "Ssthresh", a.ssthresh)
			got, e := cc.Rest(c, a.idle, a.rto, a.used)
			is(t, a.name, got, e, with(c, "Cwnd", a.wantCwnd, "Ssthresh", a.wantSs))
		}
	}
}

func TestRestAboutOneTimeout(t *testing.T) {
	askRests(t, []rest{
		{"no time", 10, 1000, 20, 0, 1000, 0, 1000, 20},
		{"a little time", 10, 1000, 20, 1, 1000, 0, 1000, 20},
		{"one below rto", 10, 1000, 20, 999, 1000, 0, 1000, 20},
		{"at rto", 10, 1000, 20, 1000, 1000, 0, 1000, 20},
		{"one above rto", 10, 1000, 20, 1001, 1000, 0, 500, 750},
		{"rto 1, idle 0", 10, 1000, 20, 0, 1, 0, 1000, 20},
		{"rto 1, idle 1", 10, 1000, 20, 1, 1, 0, 1000, 20},
		{"rto 1, idle 2", 10, 1000, 20, 2, 1, 0, 250, 750},
		{"rto 0, idle 0", 10, 1000, 20, 0, 0, 0, 1000, 20},
		{"rto 0, idle 1", 10, 1000, 20, 1, 0, 0, 1000, 20},
		{"rto 0, idle the greatest", 10, 1000, 20, late, 0, 0, 1000, 20},
		{"rto the greatest", 10, 1000, 20, late, late, 0, 1000, 20},
		{"rto one below the greatest", 10, 1000, 20, late, late - 1, 0, 500, 750},
		{"rto the greatest, idle 0", 10, 1000, 20, 0, late, 0, 1000, 20},
	})
}

func TestRestHalvesForEachTimeout(t *testing.T) {
	askRests(t, []rest{
		{"one below two", 1, 1000, 20, 1999, 1000, 0, 500, 750},
		{"two", 1, 1000, 20, 2000, 1000, 0, 250, 750},
		{"one above two", 1, 1000, 20, 2001, 1000, 0, 250, 750},
		{"one below three", 1, 1000, 20, 2999, 1000, 0, 250, 750},
		{"three", 1, 1000, 20, 3000, 1000, 0, 125, 750},
		{"four, downwards", 1, 1000, 20, 4000, 1000, 0, 62, 750},
		{"five, downwards", 1, 1000, 20, 5000, 1000, 0, 31, 750},
		{"six, downwards", 1, 1000, 20, 6000, 1000, 0, 15, 750},
		{"nine", 1, 1000, 20, 9000, 1000, 0, 2, 750},
		{"one of an odd one", 1, 1001, 20, 1001, 1000, 0, 500, 750},
		{"two of 1003", 1, 1003, 20, 2000, 1000, 0, 250, 752},
		{"of 7", 1, 7, 20, 2, 1, 0, 2, 20},

		{"one below 19", 1, size, 20, 18999, 1000, 0, 4096, 805306368},
		{"19", 1, size, 20, 19000, 1000, 0, 2048, 805306368},
		{"one below 20", 1, size, 20, 19999, 1000, 0, 2048, 805306368},
		{"20", 1, size, 20, 20000, 1000, 0, 1024, 805306368},
		{"one above 20", 1, size, 20, 20001, 1000, 0, 1024, 805306368},
		{"one below 21", 1, size, 20, 20999, 1000, 0, 1024, 805306368},
		{"21", 1, size, 20, 21000, 1000, 0, 1024, 805306368},
		{"22", 1, size, 20, 22000, 1000, 0, 1024, 805306368},
		{"64", 1, size, 20, 64000, 1000, 0, 1024, 805306368},
		{"2^32 and one", 1, size, 20, 1<<32 + 1, 1, 0, 1024, 805306368},
		{"the most", 1, size, 20, late, 1, 0, 1024, 805306368},
		{"20 of one below MaxSize", 1, size - 1, 20, 20000, 1000, 0, 1023, 805306367},
		{"the most of 2000000", 1, 2000000, 20, late, 1, 0, 2, 1500000},
		{"the most of 3145728", 1, 3145728, 20, late, 1, 0, 3, 2359296},
	})
}

func TestRestKeepsWhatWasUsed(t *testing.T) {
	askRests(t, []rest{
		{"used -, 2 Mss", 10, 1000, 20, 9000, 1000, 0, 20, 750},
		{"used one below 2 Mss", 10, 1000, 20, 9000, 1000, 19, 20, 750},
		{"used 2 Mss", 10, 1000, 20, 9000, 1000, 20, 20, 750},
		{"used one above 2 Mss", 10, 1000, 20, 9000, 1000, 21, 21, 750},
		{"used one below what is left", 10, 1000, 20, 2000, 1000, 249, 250, 750},
		{"used what is left", 10, 1000, 20, 2000, 1000, 250, 250, 750},
		{"used one above what is left", 10, 1000, 20, 2000, 1000, 251, 251, 750},
		{"used one below Cwnd", 10, 1000, 20, 2000, 1000, 999, 999, 750},
		{"used Cwnd", 10, 1000, 20, 2000, 1000, 1000, 1000, 750},
		{"used one above Cwnd", 10, 1000, 20, 2000, 1000, 1001, 1000, 750},
		{"used MaxSize", 10, 1000, 20, 2000, 1000, size, 1000, 750},
		{"used much, at rto", 10, 1000, 20, 1000, 1000, 500, 1000, 20},
		{"used much, the most", 10, 1000, 20, late, 1, 700, 700, 750},
		{"what is left one below 2 Mss", 10, 39, 20, 1001, 1000, 0, 20, 29},
		{"what is left 2 Mss", 10, 40, 20, 1001, 1000, 0, 20, 30},
		{"what is left one above 2 Mss", 10, 42, 20, 1001, 1000, 0, 21, 31},
		{"Cwnd at Mss", 10, 10, 20, 1001, 1000, 0, 10, 20},
		{"Cwnd at Mss, used more", 10, 10, 20, 1001, 1000, 50, 10, 20},
		{"Cwnd one above Mss", 10, 11, 20, 9000, 1000, 0, 11, 20},
		{"Cwnd one below 2 Mss", 10, 19, 20, 9000, 1000, 0, 19, 20},
		{"Cwnd one below 2 Mss, used it", 10, 19, 20, 9000, 1000, 19, 19, 20},
		{"Cwnd at 2 Mss", 10, 20, 20, 9000, 1000, 0, 20, 20},
		{"Cwnd at 2 Mss, used more", 10, 20, 20, 9000, 1000, 21, 20, 20},
		{"Cwnd one above 2 Mss", 10, 21, 20, 9000, 1000, 0, 20, 20},
		{"Mss 1, Cwnd 1", 1, 1, 2, 9000, 1000, 0, 1, 2},
		{"Mss 1, Cwnd 2", 1, 2, 2, 9000, 1000, 0, 2, 2},
		{"Mss 1, Cwnd 3", 1, 3, 2, 9000, 1000, 0, 2, 2},
		{"the greatest Mss", most, size, 2 * most, late, 1, 0, 2 * most, 805306368},
		{"the greatest Mss, Cwnd at it", most, most, 2 * most, late, 1, 0, most, 2 * most},
		{"Cwnd MaxSize, used MaxSize", 10, size, 20, late, 1, size, size, 805306368},
		{"Cwnd MaxSize, used one below", 10, size, 20, late, 1, size - 1, size - 1, 805306368},
	})
}

func TestRestRaisesSsthresh(t *testing.T) {
	askRests(t, []rest{
		{"far below", 10, 1000, 20, 1001, 1000, 0, 500, 750},
		{"one below", 10, 1000, 749, 1001, 1000, 0, 500, 750},
		{"at", 10, 1000, 750, 1001, 1000, 0, 500, 750},
		{"one above", 10, 1000, 751, 1001, 1000, 0, 500, 751},
		{"at Cwnd", 10, 1000, 1000, 1001, 1000, 0, 500, 1000},
		{"MaxSize", 10, 1000, size, 1001, 1000, 0, 500, size},
		{"Cwnd 1001", 10, 1001, 20, 1001, 1000, 0, 500, 750},
		{"Cwnd 1002", 10, 1002, 20, 1001, 1000, 0, 501, 751},
		{"Cwnd 1003", 10, 1003, 20, 1001, 1000, 0, 501, 752},
		{"Cwnd 1004", 10, 1004, 20, 1001, 1000, 0, 502, 753},
		{"Cwnd 1003, one below", 10, 1003, 751, 1001, 1000, 0, 501, 752},
		{"Cwnd MaxSize", 10, size, 20, 1001, 1000, 0, size / 2, 805306368},
		{"Cwnd one below MaxSize", 10, size - 1, 20, 1001, 1000, 0, size/2 - 1, 805306367},
		{"both MaxSize", 10, size, size, 1001, 1000, 0, size / 2, size},
		{"used all of Cwnd", 10, 1000, 20, 1001, 1000, 1000, 1000, 750},
		{"more timeouts, of Cwnd as it was", 10, 1000, 20, 5000, 1000, 0, 31, 750},
	})
}

// BBR rests on its own.
func TestRestOfBbr(t *testing.T) {
	for _, x := range right() {
		if !isBbr(x.c) {
			continue
		}
		for _, args := range [][3]int{{0, 0, 0}, {1001, 1000, 0}, {5000, 1000, 0}, {late, 1, 0}, {late, 1, size}, {late, late, size}, {5, 0, 9}} {
			got, e := cc.Rest(x.c, args[0], args[1], args[2])
			is(t, x.name+": Rest", got, e, x.c)
		}
	}
}

func TestRestRefuses(t *testing.T) {
	for _, x := range right() {
		for _, n := range []int{math.MinInt, -late, -2, -1, late + 1, late + 2, math.MaxInt} {
			for _, args := range [][3]int{{n, 1000, 0}, {5000, n, 0}, {n, n, 0}, {n, n, n}, {n, 0, 0}, {0, n, 0}} {
				got, e := cc.Rest(x.c, args[0], args[1], args[2])
				refused(t, x.name+": Rest", got, e, api.ErrArg)
			}
		}
		for _, n := range []int{math.MinInt, -size, -2, -1, size + 1, size + 2, late, math.MaxInt} {
			for _, args := range [][3]int{{5000, 1000, n}, {0, 0, n}, {1000, 1000, n}, {5, 0, n}} {
				got, e := cc.Rest(x.c, args[0], args[1], args[2])
				refused(t, x.name+": Rest, used", got, e, api.ErrArg)
			}
		}
	}
}

func TestRestTakes(t *testing.T) {
	for _, x := range right() {
		for _, idle := range []int{0, 1, size + 1, late - 1, late} {
			for _, rto := range []int{0, 1, size + 1, late - 1, late} {
				for _, used := range []int{0, 1, 79, 80, 81, size - 1, size} {
					got, e := cc.Rest(x.c, idle, rto, used)
					fine(t, x.name+": Rest", e)
					fine(t, x.name+": what is answered", cc.Check(got))
				}
			}
		}
	}
}

// P19.2: Limit

func TestLimit(t *testing.T) {
	for _, c := range usuals() {
		for _, a := range []struct{ mss, cwnd, want int }{
			{10, 0, 10}, {10, 1, 10}, {10, 8, 10}, {10, 9, 10}, {10, 10, 10}, {10, 11, 11}, {10, 19, 19}, {10, 20, 20},
			{10, 79, 79}, {10, 80, 80}, {10, 81, 81}, {10, 5000, 5000}, {10, size - 1, size - 1}, {10, size, size},
			{1, 0, 1}, {1, 1, 1}, {1, 2, 2}, {most, 0, most}, {most, most - 1, most}, {most, most, most}, {most, most + 1, most + 1}, {most, size, size},
		} {
			for _, cwnd := range []int{a.mss, a.mss + 1, a.mss + 70, size} {
				from := with(c, "Mss", a.mss, "Cwnd", cwnd)
				if !isBbr(c) {
					from = with(from, "Ssthresh", max(c.Ssthresh, 2*a.mss))
				}
				got, e := cc.Limit(from, a.cwnd)
				is(t, "Limit", got, e, with(from, "Cwnd", a.want))
			}
		}
	}
}

// All else stays, whatever it is.
func TestLimitOfAll(t *testing.T) {
	for _, x := range right() {
		for _, cwnd := range []int{0, 1, 79, 80, 81, size} {
			got, e := cc.Limit(x.c, cwnd)
			is(t, x.name+": Limit", got, e, with(x.c, "Cwnd", max(cwnd, x.c.Mss)))
		}
		for _, cwnd := range []int{math.MinInt, -size, -2, -1, size + 1, size + 2, late, math.MaxInt} {
			got, e := cc.Limit(x.c, cwnd)
			refused(t, x.name+": Limit", got, e, api.ErrArg)
		}
	}
}
