package bbr_test

import (
	"math"
	"slices"
	"testing"

	"tideway/api"
	"tideway/bbr"
)

// P18.3: Acked

// step is a call of Acked, and what must be behind it.
type step struct {
	name string
	c    api.Cc
	s    api.Sample
	want api.Cc
}

// behind are entries that stand behind the end of what is handed in.
func behind() []api.Entry { return entries(71, 72, 73, 74, 75, 76) }

// acked calls Acked with a row that has room behind its end, and asks that neither is written into, nor shared by the
// answer.
func acked(t *testing.T, name string, c api.Cc, s api.Sample) (api.Cc, api.Errno) {
	t.Helper()
	handed := append(slices.Clone(c.Bw), behind()...)
	before := slices.Clone(handed)
	c.Bw = handed[:len(c.Bw)]
	got, e := bbr.Acked(c, s)
	own := slices.Clone(got.Bw)
	clear(got.Bw[:cap(got.Bw)])
	if !slices.Equal(handed, before) {
		t.Errorf("%s: what was handed in is now %v, was %v", name, handed, before)
	}
	got.Bw = own
	return got, e
}

func askSteps(t *testing.T, l []step) {
	t.Helper()
	for _, a := range l {
		got, e := acked(t, a.name, a.c, a.s)
		is(t, a.name, got, e, a.want)
	}
}

// now is sample's time.
const now = 6*second + 50

func TestNothingNew(t *testing.T) {
	for _, s := range []api.Sample{sample(), idle(sample()), told("Flight", 0), told("Flight", size), told("Given", 0), told("Before", 0)} {
		got, e := acked(t, "nothing new", usual(), s)
		is(t, "nothing new", got, e, usual())
	}
}

// Step 1: rounds.

func TestRounds(t *testing.T) {
	u := usual()
	next := with(u, "Round", 51, "NextAt", 9500)
	askSteps(t, []step{
		{"Before one below NextAt", u, told("Before", 8999), u},
		{"Before at NextAt", u, told("Before", 9000), next},
		{"Before one above NextAt", u, told("Before", 9001), next},
		{"Before above Given", u, told("Before", 9501), next},
		{"Before the greatest", u, told("Before", late), next},
		{"idle", u, idle(told("Before", 9000)), next},
		{"Given 0", u, told("Before", 9000, "Given", 0), with(u, "Round", 51, "NextAt", 0)},
		{"Given below NextAt", u, told("Before", 9000, "Given", 8999), with(u, "Round", 51, "NextAt", 8999)},
		{"Given the greatest", u, told("Before", 9000, "Given", late), with(u, "Round", 51, "NextAt", late)},
		{"NextAt 0", with(u, "NextAt", 0), told("Before", 0), next},
		{"NextAt one, Before 0", with(u, "NextAt", 1), told("Before", 0), with(u, "NextAt", 1)},
		{"NextAt the greatest", with(u, "NextAt", late), told("Before", late), next},
		{"NextAt the greatest, Before below", with(u, "NextAt", late), told("Before", late-1), with(u, "NextAt", late)},
		{"Round two below the greatest", with(u, "Round", late-2), told("Before", 9000), with(next, "Round", late-1)},
		{"Round one below the greatest", with(u, "Round", late-1), told("Before", 9000), with(next, "Round", late)},
		{"Round the greatest", with(u, "Round", late), told("Before", 9000), with(next, "Round", late)},
		{"Round 0", with(row(u, 0, 1000000), "Round", 0), told("Before", 9000), with(row(next, 0, 1000000), "Round", 1)},
	})
}

// Step 2: rates.

func TestRates(t *testing.T) {
	u := usual()
	askSteps(t, []step{
		{"0", u, told("Rate", 0), u},
		{"1", u, told("Rate", 1), row(u, 45, 1000000, 48, 900000, 50, 1)},
		{"below the last", u, told("Rate", 899999), row(u, 45, 1000000, 48, 900000, 50, 899999)},
		{"at the last", u, told("Rate", 900000), row(u, 45, 1000000, 50, 900000)},
		{"above the last", u, told("Rate", 900001), row(u, 45, 1000000, 50, 900001)},
		{"below the first", u, told("Rate", 999999), row(u, 45, 1000000, 50, 999999)},
		{"at the first", u, told("Rate", 1000000), row(u, 50, 1000000)},
		{"above the first", u, told("Rate", 1000001), row(u, 50, 1000001)},
		{"far above", u, told("Rate", 2000000), row(u, 50, 2000000)},
		{"one below MaxRate", u, told("Rate", fastest-1), row(u, 50, fastest-1)},
		{"MaxRate", u, told("Rate", fastest), row(u, 50, fastest)},
		{"one above MaxRate", u, told("Rate", fastest+1), row(u, 50, fastest)},
		{"the greatest", u, told("Rate", math.MaxInt), row(u, 50, fastest)},
		{"the first of all", with(row(u), "Cwnd", 40), told("Rate", 500), with(row(u, 50, 500), "Cwnd", 40)},
		{"in a new round", u, told("Rate", 5, "Before", 9000), with(row(u, 45, 1000000, 48, 900000, 51, 5), "Round", 51, "NextAt", 9500)},
	})
}

func TestIdleRates(t *testing.T) {
	u, none := usual(), with(row(usual()), "Cwnd", 40)
	old := row(u, 30, 1000000, 48, 900000)
	askSteps(t, []step{
		{"0", u, idle(told("Rate", 0)), u},
		{"1", u, idle(told("Rate", 1)), u},
		{"above the last", u, idle(told("Rate", 950000)), u},
		{"one below Bandwidth", u, idle(told("Rate", 999999)), u},
		{"at Bandwidth", u, idle(told("Rate", 1000000)), row(u, 50, 1000000)},
		{"one above Bandwidth", u, idle(told("Rate", 1000001)), row(u, 50, 1000001)},
		{"above MaxRate", u, idle(told("Rate", math.MaxInt)), row(u, 50, fastest)},
		{"above MaxRate, Bandwidth at it", row(u, 9, fastest), idle(told("Rate", fastest+1)), row(u, 50, fastest)},
		{"none yet, 0", none, idle(told("Rate", 0)), none},
		{"none yet, 1", none, idle(told("Rate", 1)), row(none, 50, 1)},
		{"none yet, 0, not idle", none, told("Rate", 0), none},
		{"below one that is older than the window", old, idle(told("Rate", 999999)), old},
		{"at one that is older than the window", old, idle(told("Rate", 1000000)), row(u, 50, 1000000)},
		{"below one of this round", row(u, 50, 1000000), idle(told("Rate", 999999)), row(u, 50, 1000000)},
	})
}

// Of a round there is one rate, the greatest.
func TestRatesOfOneRound(t *testing.T) {
	u := usual()
	two := row(u, 45, 1000000, 50, 900000)
	end := with(u, "Round", late)
	askSteps(t, []step{
		{"the old one greater by far", two, told("Rate", 1), two},
		{"the old one greater", two, told("Rate", 899999), two},
		{"the same", two, told("Rate", 900000), two},
		{"the old one lesser", two, told("Rate", 900001), row(u, 45, 1000000, 50, 900001)},
		{"at the one ahead", two, told("Rate", 1000000), row(u, 50, 1000000)},
		{"above the one ahead", two, told("Rate", 1000001), row(u, 50, 1000001)},
		{"above MaxRate", two, told("Rate", fastest+1), row(u, 50, fastest)},
		{"alone and greater", row(u, 50, 1000000), told("Rate", 5), row(u, 50, 1000000)},
		{"alone and the same", row(u, 50, 1000000), told("Rate", 1000000), row(u, 50, 1000000)},
		{"alone and lesser", row(u, 50, 1000000), told("Rate", 1000009), row(u, 50, 1000009)},
		{"0 stays", two, told("Rate", 0), two},
		{"no more of this round", two, told("Rate", 5, "Before", 9000), with(row(u, 45, 1000000, 50, 900000, 51, 5), "Round", 51, "NextAt", 9500)},
		{"the last one a round ago", row(u, 45, 1000000, 49, 900000), told("Rate", 5), row(u, 45, 1000000, 49, 900000, 50, 5)},
		{"the greater one, and old ones", row(u, 39, 1000001, 40, 1000000, 50, 900000), told("Rate", 5), row(u, 40, 1000000, 50, 900000)},
		{"rounds end", row(end, late-1, 1000000, late, 900000), told("Rate", 5, "Before", 9000), with(row(end, late-1, 1000000, late, 900000), "NextAt", 9500)},
		{"rounds end, greater", row(end, late-1, 1000000, late, 900000), told("Rate", 950000, "Before", 9000), with(row(end, late-1, 1000000, late, 950000), "NextAt", 9500)},
	})
}

// What is more than ten rounds ago goes, but not where nothing is put.
func TestOldRates(t *testing.T) {
	u := usual()
	askSteps(t, []step{
		{"eleven, ten and nine ago", row(u, 39, 1000003, 40, 1000002, 41, 1000001), told("Rate", 5), row(u, 40, 1000002, 41, 1000001, 50, 5)},
		{"nothing is put", row(u, 0, 1000003, 39, 1000002), told("Rate", 0), row(u, 0, 1000003, 39, 1000002)},
		{"a new round", row(u, 40, 1000002, 41, 1000001), told("Rate", 5, "Before", 9000), with(row(u, 41, 1000001, 51, 5), "Round", 51, "NextAt", 9500)},
		{"a new round, nothing is put", row(u, 40, 1000002, 41, 1000001), told("Before", 9000), with(row(u, 40, 1000002, 41, 1000001), "Round", 51, "NextAt", 9500)},
		{"all", row(u, 0, 1000003, 39, 1000002), told("Rate", 950000), with(row(u, 50, 950000), "Cwnd", 190)},
		{"the first", row(u, 39, 1000000, 48, 900000), told("Rate", 5), with(row(u, 48, 900000, 50, 5), "Cwnd", 180)},
	})
}

// Step 3: the shortest round trip.

// resting is a controller in ProbeRtt that stays there.
func resting() api.Cc { return with(usual(), "Mode", probeRtt, "Cwnd", 40, "DoneAt", late) }

func TestMinRtt(t *testing.T) {
	r := resting()
	none := with(r, "MinRtt", 0)
	askSteps(t, []step{
		{"0", r, told("Rtt", 0), r},
		{"1", r, told("Rtt", 1), with(r, "MinRtt", 1, "MinAt", now)},
		{"one below", r, told("Rtt", 99), with(r, "MinRtt", 99, "MinAt", now)},
		{"at it", r, told("Rtt", 100), with(r, "MinAt", now)},
		{"one above", r, told("Rtt", 101), r},
		{"far above", r, told("Rtt", late), r},
		{"idle", r, idle(told("Rtt", 99)), with(r, "MinRtt", 99, "MinAt", now)},
		{"at it, time back", r, told("Rtt", 100, "Now", 0), with(r, "MinAt", 0)},
		{"above it, time back", r, told("Rtt", 101, "Now", 0), r},
		{"none yet, 0", none, told("Rtt", 0), none},
		{"none yet, 1", none, told("Rtt", 1), with(none, "MinRtt", 1, "MinAt", now)},
		{"none yet, the greatest", none, told("Rtt", late), with(none, "MinRtt", late, "MinAt", now)},
		{"none yet, 0, much later", none, told("Now", late-1), none},
	})
}

func TestOldMinRtt(t *testing.T) {
	r := resting()
	const due = 15 * second
	edge := with(r, "MinAt", late-10*second)
	askSteps(t, []step{
		{"not old, above", r, told("Now", due, "Rtt", 101), r},
		{"not old, at it", r, told("Now", due, "Rtt", 100), with(r, "MinAt", due)},
		{"old, 0", r, told("Now", due+1), r},
		{"old, below", r, told("Now", due+1, "Rtt", 99), with(r, "MinRtt", 99, "MinAt", due+1)},
		{"old, at it", r, told("Now", due+1, "Rtt", 100), with(r, "MinAt", due+1)},
		{"old, above", r, told("Now", due+1, "Rtt", 101), with(r, "MinRtt", 101, "MinAt", due+1)},
		{"old, the greatest", r, told("Now", due+1, "Rtt", late), with(r, "MinRtt", late, "MinAt", due+1)},
		{"the least, old", with(r, "MinRtt", 1), told("Now", due+1, "Rtt", 2), with(r, "MinRtt", 2, "MinAt", due+1)},
		{"the least, not old", with(r, "MinRtt", 1), told("Now", due, "Rtt", 2), with(r, "MinRtt", 1)},
		{"far older", r, told("Now", late-1, "Rtt", 101), with(r, "MinRtt", 101, "MinAt", late-1)},
		{"at the end, not old", with(edge, "DoneAt", 0), told("Now", late, "Rtt", 101), with(edge, "DoneAt", 0)},
		{"at the end, old", with(edge, "DoneAt", 0, "MinAt", late-10*second-1), told("Now", late, "Rtt", 101), with(edge, "DoneAt", 0, "MinRtt", 101, "MinAt", late)},
		{"MinAt at the end", with(r, "MinAt", late), told("Rtt", 101), with(r, "MinAt", late)},
	})
}

// Step 4: whether the path is full.

// starting is a controller in Startup: a quarter above Full is just what its bandwidth is.
func starting() api.Cc { return with(usual(), "Mode", startup, "Full", 800000, "FullN", 0) }

// round is a new one.
func round(pairs ...any) api.Sample { return told(append([]any{"Before", 9000}, pairs...)...) }

// rounded answers c as a new round leaves it, with fields set.
func rounded(c api.Cc, pairs ...any) api.Cc {
	return with(c, append([]any{"Round", 51, "NextAt", 9500}, pairs...)...)
}

func TestGrowth(t *testing.T) {
	s := starting()
	flat := with(row(s, 48, 1000001), "Full", 800001)
	risen := with(row(s, 48, 999999), "Full", 799999)
	for fullN := range 4 {
		c := with(s, "FullN", fullN)
		askSteps(t, []step{
			{"at a quarter more", c, round(), rounded(c, "Full", 1000000, "FullN", 0)},
			{"above a quarter more", with(risen, "FullN", fullN, "Cwnd", 198), round(), rounded(risen, "Full", 999999, "Cwnd", 198)},
			{"Full 0", with(c, "Full", 0), round(), rounded(c, "Full", 1000000, "FullN", 0)},
			{"not a new round", c, told("Before", 8999), c},
			{"idle", c, idle(round()), rounded(c)},
		})
	}
	for fullN, want := range []int{1, 2, 3, 3} {
		mode := startup
		if want == 3 {
			mode = drain
		}
		c := with(flat, "FullN", fullN)
		askSteps(t, []step{
			{"below a quarter more", c, round(), rounded(c, "FullN", want, "Mode", mode)},
			{"as much as Full", with(c, "Full", 1000001), round(), rounded(c, "Full", 1000001, "FullN", want, "Mode", mode)},
			{"far below", with(c, "Full", fastest), round(), rounded(c, "Full", fastest, "FullN", want, "Mode", mode)},
			{"below, not a new round", c, told("Before", 8999), c},
			{"below, idle", c, idle(round()), rounded(c)},
		})
	}
}

func TestGrowthWithoutBandwidth(t *testing.T) {
	for _, c := range []api.Cc{row(starting()), row(starting(), 48, 0)} {
		for fullN := range 4 {
			for _, full := range []int{0, 1, 800000} {
				c := with(c, "FullN", fullN, "Full", full, "Cwnd", 30)
				askSteps(t, []step{{"no bandwidth", c, round(), rounded(c)}})
			}
		}
	}
}

// The rate of the same Sample counts, at its limit too.
func TestGrowthOfThisRate(t *testing.T) {
	s := starting()
	fast := with(row(s, 48, fastest), "Full", fastest-1, "FullN", 1)
	askSteps(t, []step{
		{"grown now", with(s, "Full", 900000), round("Rate", 1125000), rounded(row(s, 51, 1125000), "Full", 1125000)},
		{"not grown now", with(s, "Full", 900000), round("Rate", 1124999), rounded(row(s, 51, 1124999), "Full", 900000, "FullN", 1)},
		{"grown now, idle", with(s, "Full", 900000), idle(round("Rate", 1125000)), rounded(row(s, 51, 1125000), "Full", 900000)},
		{"the first one", row(with(s, "Full", 0)), round("Rate", 7), rounded(row(s, 51, 7), "Full", 7)},
		{"near MaxRate", fast, round(), rounded(fast, "FullN", 2)},
		{"up to MaxRate", with(row(s, 48, 5), "Full", 5), round("Rate", math.MaxInt), rounded(row(s, 51, fastest), "Full", fastest)},
	})
}

// In no other Mode is growth asked.
func TestGrowthInOtherModes(t *testing.T) {
	for _, full := range []int{0, 800000, 1000000, fastest} {
		for fullN := range 4 {
			for _, mode := range []int{drain, probeBw} {
				c := with(usual(), "Mode", mode, "Full", full, "FullN", fullN)
				askSteps(t, []step{{"another mode", c, round(), rounded(c)}})
			}
			c := with(resting(), "Full", full, "FullN", fullN)
			askSteps(t, []step{{"ProbeRtt", c, round(), rounded(c)}})
		}
	}
}

// Step 5: Drain, and ProbeBw's phases.

func TestDrain(t *testing.T) {
	for fullN := range 4 {
		d := with(usual(), "Mode", drain, "FullN", fullN)
		to := with(d, "Mode", probeBw, "Phase", 2, "PhaseAt", now)
		old := with(d, "PhaseAt", 0)
		askSteps(t, []step{
			{"Flight one above Product", d, told("Flight", 101), d},
			{"Flight far above", d, told("Flight", size), d},
			{"Flight at Product", d, told("Flight", 100), to},
			{"Flight one below Product", d, told("Flight", 99), to},
			{"Flight 0", d, told("Flight", 0), to},
			{"idle", d, idle(told("Flight", 100)), to},
			{"a phase that is long over", old, told("Flight", 100), to},
			{"a phase that is long over, Flight above", old, told("Flight", 101), old},
			{"at the end", d, told("Flight", 100, "Now", 2*second), with(to, "PhaseAt", 2*second)},
			{"a faster path now", d, told("Flight", 200, "Rate", 2000000), row(to, 50, 2000000)},
			{"a faster path now, Flight above", d, told("Flight", 201, "Rate", 2000000), row(d, 50, 2000000)},
			{"no bandwidth, Flight 1", with(row(d), "Cwnd", 40), told("Flight", 1), with(row(d), "Cwnd", 40)},
			{"no bandwidth, Flight 0", with(row(d), "Cwnd", 40), told("Flight", 0), with(row(to), "Cwnd", 40)},
		})
	}
	d := with(usual(), "Mode", drain)
	askSteps(t, []step{
		{"a shorter path now, Flight above", d, told("Flight", 51, "Rtt", 50), with(d, "MinRtt", 50, "MinAt", now, "Cwnd", 100)},
		{"a shorter path now", d, told("Flight", 50, "Rtt", 50), with(d, "MinRtt", 50, "MinAt", now, "Cwnd", 100, "Mode", probeBw, "Phase", 2, "PhaseAt", now)},
	})
}

func TestPhases(t *testing.T) {
	const due = 6*second + 100
	for phase, next := range []int{1, 2, 3, 4, 5, 6, 7, 0} {
		c := with(usual(), "Phase", phase)
		short := with(c, "MinRtt", 50, "MinAt", due-49, "Cwnd", 100)
		none := with(c, "MinRtt", 0, "Cwnd", 40)
		end := with(c, "PhaseAt", late, "MinAt", late-second)
		askSteps(t, []step{
			{"below", c, told("Now", due-1), c},
			{"at MinRtt", c, told("Now", due), c},
			{"one above MinRtt", c, told("Now", due+1), with(c, "Phase", next, "PhaseAt", due+1)},
			{"far above MinRtt", c, told("Now", 9*second), with(c, "Phase", next, "PhaseAt", 9*second)},
			{"idle", c, idle(told("Now", due+1)), with(c, "Phase", next, "PhaseAt", due+1)},
			{"any Flight", c, told("Now", due+1, "Flight", 0), with(c, "Phase", next, "PhaseAt", due+1)},
			{"no Flight, below", c, told("Now", due, "Flight", 0), c},
			{"time back", c, told("Now", 0), c},
			{"at PhaseAt", c, told("Now", 6*second), c},
			{"at a shorter MinRtt", short, told("Now", due-50), short},
			{"above a shorter MinRtt", c, told("Now", due-49, "Rtt", 50), with(short, "Phase", next, "PhaseAt", due-49)},
			{"without MinRtt, at PhaseAt", none, told("Now", 6*second), none},
			{"without MinRtt, one above", none, told("Now", 6*second+1), with(none, "Phase", next, "PhaseAt", 6*second+1)},
			{"at the end", end, told("Now", late), end},
			{"near the end", with(end, "PhaseAt", late-100), told("Now", late), with(end, "PhaseAt", late-100)},
			{"over at the end", with(end, "PhaseAt", late-101), told("Now", late), with(end, "Phase", next)},
			{"FullN less", with(c, "FullN", 1), told("Now", due+1), with(c, "FullN", 1, "Phase", next, "PhaseAt", due+1)},
			{"Startup", with(c, "Mode", startup), told("Now", due+1), with(c, "Mode", startup)},
			{"Drain", with(c, "Mode", drain), told("Now", due+1), with(c, "Mode", drain)},
		})
		r := with(resting(), "Phase", phase)
		askSteps(t, []step{{"ProbeRtt", r, told("Now", due+1), r}})
	}
}

// Step 6: ProbeRtt.

func TestProbeRttIsEntered(t *testing.T) {
	const due = 15 * second
	for fullN := range 4 {
		for _, mode := range []int{startup, drain, probeBw} {
			for _, doneAt := range []int{0, 1, due, late} {
				c := with(usual(), "Mode", mode, "FullN", fullN, "PhaseAt", late, "DoneAt", doneAt)
				in := with(c, "Mode", probeRtt, "Prior", 200, "DoneAt", 0, "Cwnd", 40)
				askSteps(t, []step{
					{"not old", c, told("Now", due), c},
					{"old", c, told("Now", due+1), in},
					{"old, idle", c, idle(told("Now", due+1)), in},
					{"old, little on its way", with(c, "Mode", startup), told("Now", due+1, "Flight", 0), in},
					{"old, all are acknowledged", c, told("Now", due+1, "Acked", size), in},
					{"old, another now", c, told("Now", due+1, "Rtt", 150, "Flight", 151), with(in, "MinRtt", 150, "MinAt", due+1)},
					{"far older", c, told("Now", late), in},
					{"a small window", with(c, "Cwnd", 39), told("Now", due+1), with(in, "Prior", 39, "Cwnd", 39)},
					{"a great window", with(c, "Cwnd", size), told("Now", due+1), with(in, "Prior", size)},
				})
			}
		}
	}
	none := with(usual(), "MinRtt", 0, "PhaseAt", late, "Cwnd", 40)
	askSteps(t, []step{{"without MinRtt nothing is old", none, told("Now", late), none}})
}

// What steps 4 and 5 do comes ahead.
func TestProbeRttIsEnteredLast(t *testing.T) {
	const then = 15*second + 1
	in := with(usual(), "Mode", probeRtt, "Prior", 200, "DoneAt", 0, "Cwnd", 40)
	full := with(starting(), "Full", 1000000, "FullN", 2)
	askSteps(t, []step{
		{"a phase ends", usual(), told("Now", then), with(in, "Phase", 5, "PhaseAt", then)},
		{"Drain ends", with(usual(), "Mode", drain), told("Now", then, "Flight", 100), with(in, "Phase", 2, "PhaseAt", then)},
		{"Startup ends", full, round("Now", then), rounded(in)},
		{"both end", full, round("Now", then, "Flight", 100), rounded(in, "Phase", 2, "PhaseAt", then)},
	})
}

func TestProbeRttWaits(t *testing.T) {
	r := with(resting(), "DoneAt", 0)
	for fullN := range 4 {
		r := with(r, "FullN", fullN)
		set := with(r, "DoneAt", now+200000)
		askSteps(t, []step{
			{"Flight one above 4 Mss", r, told("Flight", 41), r},
			{"Flight far above", r, told("Flight", size), r},
			{"Flight at 4 Mss", r, told("Flight", 40), set},
			{"Flight one below 4 Mss", r, told("Flight", 39), set},
			{"Flight 0", r, told("Flight", 0), set},
			{"idle", r, idle(told("Flight", 0)), set},
			{"old", with(r, "MinAt", 0), told("Flight", 41, "Now", 10*second+1), with(r, "MinAt", 0)},
			{"old, Flight 40", with(r, "MinAt", 0), told("Flight", 40, "Now", 10*second+1), with(r, "MinAt", 0, "DoneAt", 10200001)},
			{"Now 0", r, told("Flight", 40, "Now", 0), with(r, "DoneAt", 200000)},
			{"one below the end", r, told("Flight", 40, "Now", late-200001), with(r, "DoneAt", late-1)},
			{"at the end", r, told("Flight", 40, "Now", late-200000), with(r, "DoneAt", late)},
			{"one past the end", r, told("Flight", 40, "Now", late-199999), with(r, "DoneAt", late)},
			{"the last time", r, told("Flight", 40, "Now", late), with(r, "DoneAt", late)},
			{"it is set once", set, told("Flight", 0, "Now", now+7), set},
			{"little segments", with(r, "Mss", 1, "Cwnd", 4), told("Flight", 5), with(r, "Mss", 1, "Cwnd", 4)},
			{"little segments, Flight at", with(r, "Mss", 1, "Cwnd", 4), told("Flight", 4), with(set, "Mss", 1, "Cwnd", 4)},
		})
	}
}

func TestProbeRttIsLeft(t *testing.T) {
	r := with(resting(), "DoneAt", now)
	out := with(usual(), "MinAt", now, "Cwnd", 70, "Phase", 2, "PhaseAt", now)
	askSteps(t, []step{
		{"Now one below DoneAt", with(r, "DoneAt", now+1), sample(), with(r, "DoneAt", now+1)},
		{"Now at DoneAt", r, sample(), out},
		{"Now one above DoneAt", with(r, "DoneAt", now-1), sample(), out},
		{"Now far above DoneAt", with(r, "DoneAt", 1), sample(), out},
		{"any Flight", r, told("Flight", size), out},
		{"idle", r, idle(sample()), out},
		{"the last time", with(r, "DoneAt", late), told("Now", late), with(out, "MinAt", late, "PhaseAt", late)},
		{"old", with(r, "MinAt", 0, "DoneAt", 1), told("Now", 10*second+1), with(out, "MinAt", 10*second+1, "PhaseAt", 10*second+1)},
		{"a longer round trip", r, told("Rtt", 101), out},
		{"a shorter round trip", r, told("Rtt", 99), with(out, "MinRtt", 99)},
		{"Prior one below Cwnd", with(r, "Prior", 39), sample(), with(out, "Prior", 39, "Cwnd", 40)},
		{"Prior at Cwnd", with(r, "Prior", 40), sample(), with(out, "Prior", 40, "Cwnd", 40)},
		{"Prior one above Cwnd", with(r, "Prior", 41), sample(), with(out, "Prior", 41, "Cwnd", 41)},
		{"Prior 0", with(r, "Prior", 0), sample(), with(out, "Prior", 0, "Cwnd", 40)},
		{"Prior above the target", with(r, "Prior", size), sample(), with(out, "Prior", size, "Cwnd", 200)},
		{"something was acknowledged", r, told("Acked", 25), with(out, "Cwnd", 95)},
	})
	for fullN := range 3 {
		r, out := with(r, "FullN", fullN), with(usual(), "MinAt", now, "Cwnd", 70, "Mode", startup, "FullN", fullN)
		askSteps(t, []step{
			{"Startup: Now one below DoneAt", with(r, "DoneAt", now+1), sample(), with(r, "DoneAt", now+1)},
			{"Startup: Now at DoneAt", r, sample(), out},
			{"Startup: a phase that is long over", with(r, "PhaseAt", 0, "DoneAt", 1), sample(), with(out, "PhaseAt", 0)},
			{"Startup: Prior above the target", with(r, "Prior", 500), told("Acked", 5), with(out, "Prior", 500, "Cwnd", 500)},
			{"Startup: Prior below Cwnd", with(r, "Prior", 39), sample(), with(out, "Prior", 39, "Cwnd", 40)},
			{"Startup: something was acknowledged", r, told("Acked", 500), with(out, "Cwnd", 570)},
		})
	}
}

// Step 7: the window.

func TestTarget(t *testing.T) {
	for _, a := range []struct{ minRtt, want int }{{0, 40}, {1, 40}, {19, 40}, {20, 40}, {21, 42}, {22, 44}, {99, 198}, {100, 200}, {101, 202}} {
		c := with(usual(), "MinRtt", a.minRtt, "PhaseAt", late)
		open := with(c, "FullN", 2)
		askSteps(t, []step{
			{"from below", with(c, "Cwnd", 10), told("Acked", 1000), with(c, "Cwnd", a.want)},
			{"from above", with(c, "Cwnd", 1000), told("Acked", 0), with(c, "Cwnd", a.want)},
			{"not full, one below", with(open, "Cwnd", a.want-1), told("Acked", 7), with(open, "Cwnd", a.want+6)},
			{"not full, at it", with(open, "Cwnd", a.want), told("Acked", 7), with(open, "Cwnd", a.want)},
			{"not full, one above", with(open, "Cwnd", a.want+1), told("Acked", 7), with(open, "Cwnd", a.want+1)},
			{"not full, far above", with(open, "Cwnd", size), told("Acked", 7), with(open, "Cwnd", size)},
		})
	}
}

func TestWindow(t *testing.T) {
	for _, mode := range []int{startup, drain, probeBw} {
		c := with(usual(), "Mode", mode)
		low := with(c, "Cwnd", 150)
		askSteps(t, []step{
			{"full, nothing acknowledged", low, sample(), low},
			{"full, one below the target", low, told("Acked", 49), with(c, "Cwnd", 199)},
			{"full, at the target", low, told("Acked", 50), c},
			{"full, one above the target", low, told("Acked", 51), c},
			{"full, far above", low, told("Acked", size), c},
			{"full, at the target already", c, told("Acked", 10), c},
			{"full, above the target", with(c, "Cwnd", 201), sample(), c},
			{"full, at Mss", with(c, "Cwnd", 10), told("Acked", 1), with(c, "Cwnd", 11)},
			{"full, at Mss, nothing", with(c, "Cwnd", 10), sample(), with(c, "Cwnd", 10)},
			{"full, no bandwidth", with(row(c), "Cwnd", 30), told("Acked", 20), with(row(c), "Cwnd", 40)},
		})
		for fullN := range 3 {
			c := with(c, "FullN", fullN)
			askSteps(t, []step{
				{"not full, below the target", with(c, "Cwnd", 150), told("Acked", 3), with(c, "Cwnd", 153)},
				{"not full, past the target", with(c, "Cwnd", 199), told("Acked", 100), with(c, "Cwnd", 299)},
				{"not full, at the target", c, told("Acked", 100), c},
				{"not full, above the target", with(c, "Cwnd", 201), told("Acked", 100), with(c, "Cwnd", 201)},
				{"not full, at Mss", with(c, "Cwnd", 10), sample(), with(c, "Cwnd", 10)},
				{"not full, no bandwidth", row(c), told("Acked", 100), with(row(c), "Cwnd", 300)},
				{"not full, bandwidth of 0", row(c, 7, 0), told("Acked", 100), with(row(c, 7, 0), "Cwnd", 300)},
				{"not full, bandwidth of 1", row(c, 7, 1), told("Acked", 100), row(c, 7, 1)},
				{"idle, too", with(c, "Cwnd", 150), idle(told("Acked", 3)), with(c, "Cwnd", 153)},
			})
		}
	}
}

func TestWindowInProbeRtt(t *testing.T) {
	for fullN := range 4 {
		for _, c := range []api.Cc{resting(), row(resting()), row(resting(), 7, fastest)} {
			for _, a := range []struct{ cwnd, want int }{{10, 10}, {11, 11}, {39, 39}, {40, 40}, {41, 40}, {200, 40}, {size, 40}} {
				c := with(c, "FullN", fullN, "Cwnd", a.cwnd)
				askSteps(t, []step{
					{"ProbeRtt", c, sample(), with(c, "Cwnd", a.want)},
					{"ProbeRtt, acknowledged", c, told("Acked", 100), with(c, "Cwnd", a.want)},
				})
			}
		}
	}
	great := with(resting(), "Mss", most, "Cwnd", size)
	askSteps(t, []step{{"great segments", great, sample(), with(great, "Cwnd", 4*most)}})
}

func TestWindowNearMaxSize(t *testing.T) {
	wide := with(row(usual(), 7, fastest), "MinRtt", second, "PhaseAt", late)
	for _, c := range []api.Cc{wide, with(wide, "FullN", 0), with(row(usual()), "FullN", 0, "PhaseAt", late)} {
		askSteps(t, []step{
			{"one below", with(c, "Cwnd", size-10), told("Acked", 9), with(c, "Cwnd", size-1)},
			{"at", with(c, "Cwnd", size-10), told("Acked", 10), with(c, "Cwnd", size)},
			{"one past", with(c, "Cwnd", size-10), told("Acked", 11), with(c, "Cwnd", size)},
			{"far past", with(c, "Cwnd", size-10), told("Acked", size), with(c, "Cwnd", size)},
			{"from there", with(c, "Cwnd", size), told("Acked", size), with(c, "Cwnd", size)},
		})
	}
	// Twice Product is one below MaxSize less one, and then MaxSize.
	for _, a := range []struct{ rate, want int }{{size/2 - 1, size - 2}, {size / 2, size}, {size/2 + 1, size}} {
		c := with(row(usual(), 7, a.rate), "MinRtt", second, "PhaseAt", late, "Cwnd", size-1)
		askSteps(t, []step{{"the target near MaxSize", c, told("Acked", 5), with(c, "Cwnd", a.want)}})
	}
}

// Several steps at once: a rate that grew in a new round, a shorter round trip, a window that follows both.
func TestSeveralSteps(t *testing.T) {
	s := starting()
	full := with(starting(), "Full", 1000000, "FullN", 2)
	askSteps(t, []step{
		{"growth", with(s, "Full", 1000000), round("Rate", 3000000, "Rtt", 90, "Acked", 33),
			rounded(row(s, 51, 3000000), "MinRtt", 90, "MinAt", now, "Full", 3000000, "Cwnd", 233)},
		{"from Startup to Drain", full, round("Acked", 33), rounded(full, "Mode", drain, "FullN", 3)},
		{"from Startup to Drain, from below", with(full, "Cwnd", 150), round("Acked", 33), rounded(full, "Mode", drain, "FullN", 3, "Cwnd", 183)},
		{"from Startup to ProbeBw", full, round("Flight", 100),
			rounded(full, "Mode", probeBw, "FullN", 3, "Phase", 2, "PhaseAt", now)},
		{"from Startup to ProbeRtt and a new round trip", full, round("Flight", 150, "Rtt", 150, "Now", 16*second),
			rounded(full, "Mode", probeRtt, "FullN", 3, "Phase", 2, "PhaseAt", 16*second, "MinRtt", 150, "MinAt", 16*second, "Prior", 200, "Cwnd", 40)},
		{"out of ProbeRtt, with a greater target", with(resting(), "DoneAt", now, "Prior", 300), round("Rate", 2000000, "Acked", 33),
			rounded(row(usual(), 51, 2000000), "MinAt", now, "Phase", 2, "PhaseAt", now, "Prior", 300, "Cwnd", 333)},
	})
}

// ProbeRtt from its beginning to its end.
func TestThroughProbeRtt(t *testing.T) {
	c, e := usual(), api.OK
	for _, a := range []struct {
		at, flight int
		want       api.Cc
	}{
		{15*second + 1, 200, with(usual(), "Mode", probeRtt, "Phase", 5, "PhaseAt", 15*second+1, "Prior", 200, "Cwnd", 40)},
		{15*second + 90, 100, with(usual(), "Mode", probeRtt, "Phase", 5, "PhaseAt", 15*second+1, "Prior", 200, "Cwnd", 40)},
		{15*second + 190, 40, with(usual(), "Mode", probeRtt, "Phase", 5, "PhaseAt", 15*second+1, "Prior", 200, "Cwnd", 40, "DoneAt", 15*second+200190)},
		{15*second + 200189, 40, with(usual(), "Mode", probeRtt, "Phase", 5, "PhaseAt", 15*second+1, "Prior", 200, "Cwnd", 40, "DoneAt", 15*second+200190)},
		{15*second + 200190, 40, with(usual(), "MinAt", 15*second+200190, "Phase", 2, "PhaseAt", 15*second+200190, "Prior", 200)},
	} {
		c, e = acked(t, "through ProbeRtt", c, told("Now", a.at, "Flight", a.flight))
		is(t, "through ProbeRtt", c, e, a.want)
	}
}

// Samples whose other numbers tell nothing: what they say stays.
func TestSampleOfNothing(t *testing.T) {
	c, e := bbr.New(10, 4)
	fine(t, "New", e)
	got, e := acked(t, "a zero Sample", c, api.Sample{})
	want := with(c, "Round", 1)
	is(t, "a zero Sample", got, e, want)
	got, e = acked(t, "the next one", got, api.Sample{Acked: 5, Given: 5, Before: 5})
	is(t, "the next one", got, e, with(want, "Round", 2, "NextAt", 5, "Cwnd", 45))
}

// R3: what is answered shares nothing with what was handed in, and what is handed in stays.
func TestNewMemory(t *testing.T) {
	for _, c := range []api.Cc{usual(), row(usual()), with(usual(), "Mode", drain), resting(), row(usual(), 50, 1000000)} {
		handed := append(slices.Clone(c.Bw), behind()...)
		before := slices.Clone(handed)
		c.Bw = handed[:len(c.Bw)]
		for _, s := range []api.Sample{sample(), told("Rate", 5), told("Rate", 2000000), round("Rate", 5), told("Rate", -1)} {
			got, _ := bbr.Acked(c, s)
			_ = append(got.Bw, api.Entry{At: 9, V: 9})
			clear(got.Bw)
		}
		for _, flight := range []int{5, -1} {
			got, _ := bbr.Timeout(c, flight)
			_ = append(got.Bw, api.Entry{At: 9, V: 9})
			clear(got.Bw)
		}
		bbr.Check(c)
		bbr.Bandwidth(c)
		bbr.Product(c)
		bbr.Gain(c)
		if !slices.Equal(handed, before) {
			t.Fatalf("%v was %v", handed, before)
		}
	}
}
