package cc_test

import (
	"math"
	"testing"

	"tideway/api"
	"tideway/cc"
)

// P19.3

// pace is a call of Pace, and what it must answer.
type pace struct {
	name        string
	c           api.Cc
	srtt, floor int
	want        int
}

func askPaces(t *testing.T, l []pace) {
	t.Helper()
	for _, a := range l {
		fine(t, a.name, cc.Check(a.c))
		if got := cc.Pace(a.c, a.srtt, a.floor); got != a.want {
			t.Errorf("%s: Pace(%+v, %d, %d) = %d, want %d", a.name, a.c, a.srtt, a.floor, got, a.want)
		}
	}
}

// window answers c with its window and threshold set.
func window(c api.Cc, cwnd, ssthresh int) api.Cc { return with(c, "Cwnd", cwnd, "Ssthresh", ssthresh) }

// windowed are the two kinds that go by their window always.
func windowed() []api.Cc { return []api.Cc{usualReno(), usualCubic()} }

// unrated answers a BBR that knows no rate.
func unrated(cwnd int) api.Cc { return with(rates(usualBbr()), "Cwnd", cwnd) }

func TestPaceOfWhatMayNotBe(t *testing.T) {
	for _, x := range wrong() {
		for _, srtt := range []int{math.MinInt, -1, 0, 1, 100000, late, late + 1, math.MaxInt} {
			for _, floor := range []int{math.MinInt, -1, 0, 1, 5000, fastest, fastest + 1, math.MaxInt} {
				if got := cc.Pace(x.c, srtt, floor); got != 0 {
					t.Errorf("%s: Pace(%d, %d) = %d, want 0", x.name, srtt, floor, got)
				}
			}
		}
	}
}

func TestPaceAboutSsthresh(t *testing.T) {
	for _, c := range windowed() {
		askPaces(t, []pace{
			{"Cwnd far below", window(c, 1000, size), 100000, 0, 20000},
			{"Cwnd two below", window(c, 998, 1000), 100000, 0, 19960},
			{"Cwnd one below", window(c, 999, 1000), 100000, 0, 19980},
			{"Cwnd at", window(c, 1000, 1000), 100000, 0, 12000},
			{"Cwnd one above", window(c, 1001, 1000), 100000, 0, 12012},
			{"Cwnd far above", window(c, 1000, 20), 100000, 0, 12000},
			{"both MaxSize", window(c, size, size), 1000000, 0, 1288490188},
			{"one below MaxSize", window(c, size-1, size), 1000000, 0, 2147483646},
		})
	}
}

func TestPaceOfTimes(t *testing.T) {
	for _, c := range windowed() {
		askPaces(t, []pace{
			{"far below 0", window(c, 80, 70), math.MinInt, 0, 96000},
			{"-1", window(c, 80, 70), -1, 0, 96000},
			{"0", window(c, 80, 70), 0, 0, 96000},
			{"1", window(c, 80, 70), 1, 0, 96000000},
			{"2", window(c, 80, 70), 2, 0, 48000000},
			{"7, downwards", window(c, 80, 70), 7, 0, 13714285},
			{"7, below Ssthresh", window(c, 80, 81), 7, 0, 22857142},
			{"999", window(c, 80, 70), 999, 0, 96096},
			{"1000", window(c, 80, 70), 1000, 0, 96000},
			{"0, below Ssthresh", window(c, 80, 81), 0, 0, 160000},
			{"just 2", window(c, 80, 70), 48000000, 0, 2},
			{"just below 2", window(c, 80, 70), 48000001, 0, 1},
			{"just 1", window(c, 80, 70), 96000000, 0, 1},
			{"just below 1", window(c, 80, 70), 96000001, 0, 1},
			{"MaxTime", window(c, 80, 70), late, 0, 1},
			{"half MaxTime, much", window(c, size-1, size), late / 2, 0, 3},
			{"MaxTime, much", window(c, size-1, size), late, 0, 1},
			{"the greatest, much", window(c, size-1, size), math.MaxInt, 0, 1},
		})
	}
}

// Of a BBR without a rate the greatest window is paced at 2 at MaxTime, so that a longer time would be told.
func TestPaceAtTheGreatestTime(t *testing.T) {
	askPaces(t, []pace{
		{"half MaxTime", unrated(size), late / 2, 0, 5},
		{"one below MaxTime", unrated(size), late - 1, 0, 2},
		{"MaxTime", unrated(size), late, 0, 2},
		{"one above MaxTime", unrated(size), late + 1, 0, 2},
		{"twice MaxTime", unrated(size), 2 * late, 0, 2},
		{"a time whose hundredfold is no int", unrated(size), math.MaxInt / 50, 0, 2},
		{"the greatest", unrated(size), math.MaxInt, 0, 2},
	})
}

func TestPaceOfBbrWithoutARate(t *testing.T) {
	for mode := 1; mode <= 4; mode++ {
		for phase := range 8 {
			c := with(unrated(80), "Mode", mode, "Phase", phase)
			zero := with(rates(usualBbr(), 50, 0), "Mode", mode, "Phase", phase)
			askPaces(t, []pace{
				{"no rate", c, 100000, 0, 2312},
				{"no rate, short", c, 7, 0, 33028571},
				{"no rate, srtt 0", c, 0, 0, 231200},
				{"no rate, srtt far below 0", c, math.MinInt, 0, 231200},
				{"no rate, floor", c, 100000, 2313, 2313},
				{"no rate, Cwnd MaxSize", with(c, "Cwnd", size), 1000000, 0, 3103113871},
				{"a rate of 0", zero, 100000, 0, 2312},
			})
		}
	}
	c, e := cc.New(api.Bbr, 100, 10)
	fine(t, "New", e)
	askPaces(t, []pace{{"New", c, 100000, 0, 28900}})
}

func TestPaceOfBbr(t *testing.T) {
	for _, srtt := range []int{math.MinInt, -1, 0, 1, 7, 100000, late, late + 1, math.MaxInt} {
		c := rates(usualBbr(), 45, 12345, 48, 77)
		askPaces(t, []pace{
			{"Startup", with(c, "Mode", 1), srtt, 0, 35677},
			{"Drain", with(c, "Mode", 2), srtt, 0, 4320},
			{"ProbeBw, up", with(c, "Phase", 0), srtt, 0, 15431},
			{"ProbeBw, down", with(c, "Phase", 1), srtt, 0, 9258},
			{"ProbeBw, even", with(c, "Phase", 2), srtt, 0, 12345},
			{"ProbeBw, the last phase", with(c, "Phase", 7), srtt, 0, 12345},
			{"ProbeRtt", with(c, "Mode", 4), srtt, 0, 12345},
			{"ProbeRtt in another phase", with(c, "Mode", 4, "Phase", 0), srtt, 0, 12345},
			{"another window", with(c, "Cwnd", size), srtt, 0, 12345},
			{"no MinRtt", with(c, "MinRtt", 0), srtt, 0, 12345},
			{"another Full", with(c, "Full", 5), srtt, 0, 12345},
			{"a rate of 1", rates(c, 48, 1), srtt, 0, 1},
			{"3, Drain", with(rates(c, 48, 3), "Mode", 2), srtt, 0, 1},
			{"1, Startup", with(rates(c, 48, 1), "Mode", 1), srtt, 0, 2},
			{"2, ProbeBw, down", with(rates(c, 48, 2), "Phase", 1), srtt, 0, 1},
		})
	}
}

// Where gain and rate are above 0 and their answer is not, the window tells the pace.
func TestPaceOfBbrOfLittle(t *testing.T) {
	c := usualBbr()
	askPaces(t, []pace{
		{"1, Drain", with(rates(c, 48, 1), "Mode", 2), 100000, 0, 2312},
		{"2, Drain", with(rates(c, 48, 2), "Mode", 2), 100000, 0, 2312},
		{"3, Drain", with(rates(c, 48, 3), "Mode", 2), 100000, 0, 1},
		{"1, ProbeBw, down", with(rates(c, 48, 1), "Phase", 1), 100000, 0, 2312},
		{"1, ProbeBw, up", with(rates(c, 48, 1), "Phase", 0), 100000, 0, 1},
		{"1, ProbeBw, even", rates(c, 48, 1), 100000, 0, 1},
		{"1, Drain, MaxTime", with(rates(c, 48, 1), "Mode", 2), late, 0, 1},
	})
}

func TestPaceAboutTheFloor(t *testing.T) {
	drained := with(unrated(80), "Mode", 2)
	// Each of them alone is at 12000, but the last one, which is at 0.
	for _, c := range []api.Cc{window(usualReno(), 1000, 20), window(usualCubic(), 1000, 20), rates(usualBbr(), 48, 12000)} {
		askPaces(t, []pace{
			{"far below 0", c, 100000, math.MinInt, 12000},
			{"-1", c, 100000, -1, 12000},
			{"0", c, 100000, 0, 12000},
			{"1", c, 100000, 1, 12000},
			{"one below the pace", c, 100000, 11999, 12000},
			{"at the pace", c, 100000, 12000, 12000},
			{"one above the pace", c, 100000, 12001, 12001},
			{"one below MaxRate", c, 100000, fastest - 1, fastest - 1},
			{"at MaxRate", c, 100000, fastest, fastest},
			{"one above MaxRate", c, 100000, fastest + 1, fastest},
			{"far above MaxRate", c, 100000, math.MaxInt, fastest},
		})
	}
	for _, c := range []api.Cc{usualReno(), usualCubic(), drained} {
		askPaces(t, []pace{
			{"0 alone, far below 0", c, late, math.MinInt, 1},
			{"0 alone, -1", c, late, -1, 1},
			{"0 alone, 0", c, late, 0, 1},
			{"0 alone, 1", c, late, 1, 1},
			{"0 alone, 2", c, late, 2, 2},
			{"0 alone, MaxRate", c, late, fastest, fastest},
			{"0 alone, one above MaxRate", c, late, fastest + 1, fastest},
		})
	}
}

func TestPaceAboutMaxRate(t *testing.T) {
	for _, c := range windowed() {
		askPaces(t, []pace{
			{"just below", window(c, 549755813, size), 1000, 0, 1099511626000},
			{"just above", window(c, 549755814, size), 1000, 0, fastest},
			{"just below, short", window(c, 549755, size), 1, 0, 1099510000000},
			{"just above, short", window(c, 549756, size), 1, 0, fastest},
			{"just below, in avoidance", window(c, 916259689, 20), 1000, 0, 1099511626800},
			{"just above, in avoidance", window(c, 916259690, 20), 1000, 0, fastest},
			{"just above, srtt 0", window(c, 916259690, 20), 0, 0, fastest},
			{"the greatest", window(c, size, 20), 1, 0, fastest},
			{"the greatest, floor too", window(c, size, 20), 1, math.MaxInt, fastest},
		})
	}
	b := usualBbr()
	up := with(b, "Phase", 0)
	askPaces(t, []pace{
		{"BBR without a rate, just below", unrated(380453), 1, 0, 1099509170000},
		{"BBR without a rate, just above", unrated(380454), 1, 0, fastest},
		{"BBR, one below", rates(b, 48, fastest-1), 1, 0, fastest - 1},
		{"BBR, at", rates(b, 48, fastest), 1, 0, fastest},
		{"BBR, one below, by its gain", rates(up, 48, 879609302220), 1, 0, fastest - 1},
		{"BBR, at, by its gain", rates(up, 48, 879609302221), 1, 0, fastest},
		{"BBR, one above, by its gain", rates(up, 48, 879609302222), 1, 0, fastest},
		{"BBR, far above", with(rates(b, 48, fastest), "Mode", 1), late, 0, fastest},
		{"BBR, the greatest by little", with(rates(b, 48, fastest), "Mode", 2), late, 0, 384829069721},
	})
}

// The pace hangs on nothing else of Reno's and CUBIC's.
func TestPaceOfOthers(t *testing.T) {
	for _, f := range []string{"Acc", "Wmax", "Epoch", "K", "West", "Start"} {
		for _, x := range []int{0, 1, 3333, 777777} {
			askPaces(t, []pace{{f, with(window(usualCubic(), 1000, 20), f, x), 100000, 0, 12000}})
		}
	}
	for _, mss := range []int{1, 10, 35} {
		askPaces(t, []pace{{"Mss", with(window(usualReno(), 1000, 70), "Mss", mss), 100000, 0, 12000}})
	}
}
