package rack_test

import (
	"math"
	"math/big"
	"slices"
	"testing"

	"tideway/api"
	"tideway/rack"
)

// edges are numbers about which a limit or the room of an int goes wrong.
func edges() []int {
	return []int{math.MinInt, -1, 0, 1, 2, 3, 4, 5, 255, 256, 999999, 1000000, 1000001, api.MaxTime - 1, api.MaxTime,
		api.MaxTime + 1, kept - 1, kept, kept + 1, math.MaxInt}
}

// mayBe follows P13.1's words.
func mayBe(k api.Rack) bool {
	return 0 <= k.Sent && k.Sent <= kept && 0 <= k.End && k.End <= kept && 0 <= k.Rtt && k.Rtt <= kept &&
		0 <= k.Fack && k.Fack <= kept && 0 <= k.Last && k.Last <= kept &&
		1 <= k.Mult && k.Mult <= 255 && 0 <= k.Rounds && k.Rounds <= 16
}

// goes tells whether a number is from 0 to high.
func goes(n, high int) bool { return 0 <= n && n <= high }

// recMayBe follows P13.1's words.
func recMayBe(x api.Rec, now int) bool {
	return goes(x.From, kept) && goes(x.To, kept) && goes(x.Sent, now) && !(x.Tx < 1)
}

// sum adds in numbers that have room for all.
func sum(l ...int) *big.Int {
	s := new(big.Int)
	for _, n := range l {
		s.Add(s, big.NewInt(int64(n)))
	}
	return s
}

// wantGiven follows P13.2's words for arguments that may be.
func wantGiven(k api.Rack, x api.Rec, now, low int) api.Rack {
	after := k
	if x.Tx == 1 && x.To < k.Fack {
		after.Seen = true
	}
	if x.To > k.Fack {
		after.Fack = x.To
	}
	if x.Tx > 1 && now-x.Sent < low {
		return after
	}
	if x.Sent > k.Sent || (x.Sent == k.Sent && x.To > k.End) {
		after.Sent = x.Sent
		after.End = x.To
		after.Rtt = now - x.Sent
	}
	return after
}

// wantMark follows P13.4's words for arguments that may be.
func wantMark(k api.Rack, l []api.Rec, now, wait int) ([]api.Rec, int) {
	var after []api.Rec
	left := new(big.Int)
	for _, x := range l {
		sentAhead := x.Sent < k.Sent || (x.Sent == k.Sent && x.To < k.End)
		if x.Sacked || (x.Lost && !x.Again) || !sentAhead {
			after = append(after, x)
			continue
		}
		due := sum(x.Sent, k.Rtt, wait)
		if due.Cmp(sum(now)) <= 0 {
			x.Lost, x.Again = true, false
		} else if more := due.Sub(due, sum(now)); more.Cmp(left) > 0 {
			left = more
		}
		after = append(after, x)
	}
	return after, int(left.Int64())
}

// dice gives numbers that look like chance, the same ones each time.
type dice uint64

// roll answers a number from 0 up to, not with, n.
func (d *dice) roll(n int) int {
	*d = *d*6364136223846793005 + 1442695040888963407
	return int(uint64(*d)>>33) % n
}

// P13.1

func TestCheckEverywhere(t *testing.T) {
	few := []int{-1, 0, 1, kept, kept + 1}
	for _, sent := range few {
		for _, end := range few {
			for _, rtt := range few {
				for _, fack := range few {
					for _, last := range few {
						for _, mult := range []int{0, 1, 255, 256} {
							for _, rounds := range []int{-1, 0, 16, 17} {
								k := api.Rack{Sent: sent, End: end, Rtt: rtt, Fack: fack, Mult: mult, Rounds: rounds, Last: last}
								e := rack.Check(k)
								if e != api.OK && e != api.ErrState || (e == api.OK) != mayBe(k) {
									t.Fatalf("Check(%+v) = %d", k, e)
								}
							}
						}
					}
				}
			}
		}
	}
}

// P13.2

func TestGivenEverywhere(t *testing.T) {
	few := []int{-1, 0, 1, 2, 3}
	for _, tx := range few {
		for _, to := range few {
			for _, sent := range few {
				for _, now := range few {
					for _, low := range few {
						for _, k := range smallStates() {
							x := api.Rec{From: 1, To: to, Sent: sent, Tx: tx}
							want, wantE := api.Rack{}, api.ErrArg
							if goes(now, api.MaxTime) && goes(low, api.MaxTime) && recMayBe(x, now) {
								want, wantE = wantGiven(k, x, now, low), api.OK
							}
							if got, e := rack.Given(k, x, now, low); got != want || e != wantE {
								t.Fatalf("Given(%+v, %+v, %d, %d) = %+v, %d, want %+v, %d", k, x, now, low, got, e, want, wantE)
							}
						}
					}
				}
			}
		}
	}
}

// smallStates are all states of a Sent, End and Fack up to 2, Seen or not.
func smallStates() []api.Rack {
	var l []api.Rack
	for sent := range 3 {
		for end := range 3 {
			for fack := range 3 {
				for _, seen := range []bool{false, true} {
					l = append(l, api.Rack{Sent: sent, End: end, Rtt: 77, Seen: seen, Fack: fack, Mult: 5, Rounds: 6, Last: 7})
				}
			}
		}
	}
	return l
}

func TestGivenAtEdges(t *testing.T) {
	for _, to := range edges() {
		for _, sent := range edges() {
			for _, now := range edges() {
				for _, low := range edges() {
					for _, tx := range []int{1, 2} {
						k := api.Rack{Sent: api.MaxTime - 1, End: kept - 1, Rtt: 5, Fack: kept - 1, Mult: 1}
						x := api.Rec{To: to, Sent: sent, Tx: tx}
						want, wantE := api.Rack{}, api.ErrArg
						if goes(now, api.MaxTime) && goes(low, api.MaxTime) && recMayBe(x, now) {
							want, wantE = wantGiven(k, x, now, low), api.OK
						}
						got, e := rack.Given(k, x, now, low)
						if got != want || e != wantE {
							t.Fatalf("Given(%+v, %+v, %d, %d) = %+v, %d, want %+v, %d", k, x, now, low, got, e, want, wantE)
						}
						if e == api.OK && rack.Check(got) != api.OK {
							t.Fatalf("Given answered a state that may not be: %+v", got)
						}
					}
				}
			}
		}
	}
}

// P13.3

func TestReorderEverywhere(t *testing.T) {
	for _, mult := range []int{1, 2, 3, 4, 5, 254, 255} {
		for _, low := range edges() {
			for _, srtt := range edges() {
				for _, sacked := range edges() {
					for _, seen := range []bool{false, true} {
						for _, calm := range []bool{false, true} {
							k := api.Rack{Seen: seen, Mult: mult}
							want, wantE := 0, api.ErrArg
							if goes(low, api.MaxTime) && goes(srtt, api.MaxTime) {
								want, wantE = wantReorder(k, low, srtt, calm, sacked), api.OK
							}
							if got, e := rack.Reorder(k, low, srtt, calm, sacked); got != want || e != wantE {
								t.Fatalf("Reorder(%+v, %d, %d, %v, %d) = %d, %d, want %d, %d", k, low, srtt, calm, sacked, got, e, want, wantE)
							}
						}
					}
				}
			}
		}
	}
}

// wantReorder follows P13.3's words for arguments that may be.
func wantReorder(k api.Rack, low, srtt int, calm bool, sacked int) int {
	if !k.Seen {
		if !calm || sacked >= 3 {
			return 0
		}
	}
	later := new(big.Int).Mul(sum(k.Mult), sum(low))
	later.Div(later, sum(4))
	if later.Cmp(sum(srtt)) < 0 {
		return int(later.Int64())
	}
	return srtt
}

func TestAgainEverywhere(t *testing.T) {
	for mult := 1; mult <= 255; mult++ {
		for _, last := range []int{0, 1, 2, kept - 1, kept} {
			for _, una := range edges() {
				for _, next := range []int{-1, 0, 3, kept, kept + 1} {
					for _, rounds := range []int{0, 1, 15, 16} {
						k := api.Rack{Sent: 1, End: 2, Rtt: 3, Fack: 4, Mult: mult, Rounds: rounds, Last: last}
						want, wantE := api.Rack{}, api.ErrArg
						if goes(una, kept) && goes(next, kept) {
							want, wantE = k, api.OK
							want.Rounds = 16
							if una >= last {
								want.Last = next
								if mult < 255 {
									want.Mult = mult + 1
								}
							}
						}
						if got, e := rack.Again(k, una, next); got != want || e != wantE {
							t.Fatalf("Again(%+v, %d, %d) = %+v, %d, want %+v, %d", k, una, next, got, e, want, wantE)
						}
					}
				}
			}
		}
	}
}

func TestCalmEverywhere(t *testing.T) {
	for mult := 1; mult <= 255; mult++ {
		for rounds := 0; rounds <= 16; rounds++ {
			k := api.Rack{Sent: 1, End: 2, Rtt: 3, Seen: true, Fack: 4, Mult: mult, Rounds: rounds, Last: 5}
			want := k
			if rounds > 0 {
				want.Rounds = rounds - 1
			}
			if want.Rounds == 0 {
				want.Mult = 1
			}
			if got, e := rack.Calm(k); got != want || e != api.OK {
				t.Fatalf("Calm(%+v) = %+v, %d, want %+v", k, got, e, want)
			}
		}
	}
}

// P13.4

// smallRecs are records of all small Sents and Tos, with all marks.
func smallRecs() []api.Rec {
	var l []api.Rec
	for sent := range 4 {
		for to := range 4 {
			for marks := range 8 {
				l = append(l, api.Rec{From: 9, To: to, Sent: sent, Tx: 1 + to, Sacked: marks&1 > 0, Lost: marks&2 > 0, Again: marks&4 > 0,
					Given: 5, GivenAt: 6, FirstAt: 7, Idle: true})
			}
		}
	}
	return l
}

func TestMarkEverywhere(t *testing.T) {
	var states []api.Rack
	for sent := range 4 {
		for end := range 4 {
			for rtt := range 4 {
				states = append(states, api.Rack{Sent: sent, End: end, Rtt: rtt, Mult: 1})
			}
		}
	}
	all := smallRecs()
	for _, k := range states {
		for now := range 8 {
			for wait := range 4 {
				fit := slices.DeleteFunc(slices.Clone(all), func(x api.Rec) bool { return x.Sent > now })
				want, wantLeft := wantMark(k, fit, now, wait)
				got, left, e := rack.Mark(k, fit, now, wait)
				if e != api.OK || left != wantLeft || !slices.Equal(got, want) {
					t.Fatalf("Mark(%+v, .., %d, %d) = %+v, %d, %d, want %+v, %d", k, now, wait, got, left, e, want, wantLeft)
				}
				for _, x := range all {
					one := []api.Rec{x}
					if x.Sent > now {
						if got, left, e := rack.Mark(k, one, now, wait); len(got) != 0 || left != 0 || e != api.ErrArg {
							t.Fatalf("Mark(%+v, %+v, %d, %d) = %+v, %d, %d", k, one, now, wait, got, left, e)
						}
						continue
					}
					want, wantLeft := wantMark(k, one, now, wait)
					if got, left, e := rack.Mark(k, one, now, wait); e != api.OK || left != wantLeft || !slices.Equal(got, want) {
						t.Fatalf("Mark(%+v, %+v, %d, %d) = %+v, %d, %d, want %+v, %d", k, one, now, wait, got, left, e, want, wantLeft)
					}
				}
			}
		}
	}
}

func TestMarkAtEdges(t *testing.T) {
	for _, sent := range edges() {
		for _, at := range []int{0, 1, api.MaxTime, kept} {
			for _, rtt := range []int{0, 1, api.MaxTime, kept} {
				for _, now := range edges() {
					for _, wait := range edges() {
						k := api.Rack{Sent: at, End: kept, Rtt: rtt, Mult: 1}
						l := []api.Rec{{To: 1, Sent: 0, Tx: 1}, {To: kept - 1, Sent: sent, Tx: 1}}
						var want []api.Rec
						wantLeft, wantE := 0, api.ErrArg
						if goes(now, api.MaxTime) && goes(wait, api.MaxTime) && goes(sent, now) {
							want, wantLeft = wantMark(k, l, now, wait)
							wantE = api.OK
						}
						got, left, e := rack.Mark(k, l, now, wait)
						if e != wantE || left != wantLeft || !slices.Equal(got, want) {
							t.Fatalf("Mark(%+v, %+v, %d, %d) = %+v, %d, %d, want %+v, %d, %d", k, l, now, wait, got, left, e, want, wantLeft, wantE)
						}
					}
				}
			}
		}
	}
}

func TestMarkLeavesWhatIsHandedIn(t *testing.T) {
	k := api.Rack{Sent: 100, End: 20, Rtt: 50, Mult: 1}
	whole := []api.Rec{{To: 5, Sent: 90, Tx: 1}, {From: 5, To: 9, Sent: 91, Tx: 2, Lost: true, Again: true},
		{From: 9, To: 12, Sent: 92, Tx: 1}, {From: 12, To: 13, Sent: 93, Tx: 1}}
	before := slices.Clone(whole)
	for n := range len(whole) + 1 {
		l := whole[:n]
		got, _, e := rack.Mark(k, l, 300, 0)
		if e != api.OK || len(got) != n {
			t.Fatalf("%d records: %+v, %d", n, got, e)
		}
		if !slices.Equal(whole, before) {
			t.Fatalf("%d records: what was handed in is %+v", n, whole)
		}
		// The answer is new memory, up to the end of its room.
		got = got[:cap(got)]
		for i := range got {
			got[i] = api.Rec{From: 777}
		}
		_ = append(got, api.Rec{From: 778})
		if !slices.Equal(whole, before) {
			t.Fatalf("%d records: the answer shares memory: %+v", n, whole)
		}
		again, _, _ := rack.Mark(k, l, 300, 0)
		want, _ := wantMark(k, l, 300, 0)
		if !slices.Equal(again, want) {
			t.Fatalf("%d records, again: %+v, want %+v", n, again, want)
		}
	}
	// Nothing is written where a later one is refused, either.
	whole[3].Tx = 0
	before = slices.Clone(whole)
	if got, left, e := rack.Mark(k, whole, 300, 0); len(got) != 0 || left != 0 || e != api.ErrArg {
		t.Errorf("the last one refused: %+v, %d, %d", got, left, e)
	}
	if !slices.Equal(whole, before) {
		t.Errorf("the last one refused: what was handed in is %+v", whole)
	}
}

func TestMarkMany(t *testing.T) {
	k := api.Rack{Sent: api.MaxRecs, End: kept, Rtt: 10, Mult: 1}
	l := make([]api.Rec, 2*api.MaxRecs)
	for i := range l {
		l[i] = api.Rec{From: i, To: i + 1, Sent: i, Tx: 1}
	}
	got, left, e := rack.Mark(k, l, len(l), 5)
	want, wantLeft := wantMark(k, l, len(l), 5)
	if e != api.OK || left != wantLeft || !slices.Equal(got, want) {
		t.Errorf("many records: %d, %d, want %d", left, e, wantLeft)
	}
}

// P13.5

func TestProbeEverywhere(t *testing.T) {
	for _, srtt := range append(edges(), math.MinInt+1, -kept, 99999, 100000, 100001, math.MaxInt/2, math.MaxInt/2+1, math.MaxInt-1) {
		for _, rto := range append(edges(), 2*kept-1, 2*kept, 2*kept+1, 2*kept+199999, 2*kept+200000, 2*kept+200001, 200001, 200002, 200003) {
			for _, one := range []bool{false, true} {
				if got, want := rack.Probe(srtt, rto, one), wantProbe(srtt, rto, one); got != want {
					t.Errorf("Probe(%d, %d, %v) = %d, want %d", srtt, rto, one, got, want)
				}
			}
		}
	}
}

// wantProbe follows P13.5's words.
func wantProbe(srtt, rto int, one bool) int {
	if srtt > kept {
		return rto
	}
	when := sum(1000000)
	if srtt >= 1 {
		when = sum(srtt, srtt)
		if one {
			when = sum(srtt, srtt, 200000)
		}
	}
	if when.Cmp(sum(rto)) > 0 {
		return rto
	}
	return int(when.Int64())
}

// P13.6

// lostIn counts what is lost and not sent again since.
func lostIn(l []api.Rec) int {
	n := 0
	for _, x := range l {
		if x.Lost && !x.Again {
			n++
		}
	}
	return n
}

// flight is a state, and records, that a walk led to.
type flight struct {
	k         api.Rack
	l         []api.Rec
	now       int
	delivered []api.Rec // as they were sent
}

// walk sends, sends again, delivers and marks as the dice say, and asks at each step what follows.
func walk(t *testing.T, d *dice, steps int) {
	f := flight{k: rack.New()}
	for range steps {
		f.now += d.roll(4)
		switch d.roll(6) {
		case 0, 1:
			at := 0
			if n := len(f.l); n > 0 {
				at = f.l[n-1].To
			}
			f.l = append(f.l, api.Rec{From: at, To: at + 1 + d.roll(3), Sent: f.now, Tx: 1})
		case 2:
			f.deliver(t, d)
		case 3:
			for i, x := range f.l {
				if x.Lost && !x.Again && !x.Sacked {
					f.l[i].Again, f.l[i].Sent, f.l[i].Tx = true, f.now, x.Tx+1
					break
				}
			}
		case 4:
			f.tell(t, d)
		case 5:
			f.mark(t, d)
		}
		if rack.Check(f.k) != api.OK {
			t.Fatalf("a walk led to %+v", f.k)
		}
	}
}

// deliver has one of the records delivered.
func (f *flight) deliver(t *testing.T, d *dice) {
	if len(f.l) == 0 {
		return
	}
	i := d.roll(len(f.l))
	if f.l[i].Sacked {
		return
	}
	x := f.l[i]
	k, e := rack.Given(f.k, x, f.now, 0)
	if want := wantGiven(f.k, x, f.now, 0); e != api.OK || k != want {
		t.Fatalf("Given(%+v, %+v, %d, 0) = %+v, %d, want %+v", f.k, x, f.now, k, e, want)
	}
	f.k = k
	f.delivered = append(f.delivered, x)
	f.l[i].Sacked, f.l[i].Lost, f.l[i].Again = true, false, false
}

// tell says that something came twice, or that a recovery ended.
func (f *flight) tell(t *testing.T, d *dice) {
	var e api.Errno
	if d.roll(2) == 0 {
		f.k, e = rack.Again(f.k, d.roll(50), d.roll(50))
	} else {
		f.k, e = rack.Calm(f.k)
	}
	if e != api.OK {
		t.Fatalf("error %d", e)
	}
}

// mark marks what is lost, and asks what follows.
func (f *flight) mark(t *testing.T, d *dice) {
	wait := d.roll(6)
	row, left, e := rack.Mark(f.k, f.l, f.now, wait)
	want, wantLeft := wantMark(f.k, f.l, f.now, wait)
	if e != api.OK || left != wantLeft || !slices.Equal(row, want) {
		t.Fatalf("Mark(%+v, %+v, %d, %d) = %+v, %d, %d, want %+v, %d", f.k, f.l, f.now, wait, row, left, e, want, wantLeft)
	}
	for i, x := range row {
		if x != f.l[i] && f.sentBehindAll(f.l[i]) {
			t.Fatalf("%+v was sent behind all that was delivered, and is lost", f.l[i])
		}
	}
	f.withMoreToWait(t, row, wait)
	twice, _, _ := rack.Mark(f.k, row, f.now, wait)
	if !slices.Equal(twice, row) {
		t.Fatalf("marked again: %+v, then %+v", row, twice)
	}
	// What was left is what TimReorder waits for: then all of these are over.
	later, rest, _ := rack.Mark(f.k, row, f.now+left, wait)
	if rest != 0 || left > 0 && lostIn(later) <= lostIn(row) {
		t.Fatalf("%d later %d are left, and %d are lost, not more than %d", left, rest, lostIn(later), lostIn(row))
	}
	f.l = row
}

// sentBehindAll tells whether a record was sent behind all that was delivered, at the same time by its place.
func (f *flight) sentBehindAll(x api.Rec) bool {
	for _, y := range f.delivered {
		if y.Sent > x.Sent || y.Sent == x.Sent && y.To > x.To {
			return false
		}
	}
	return true
}

// withMoreToWait asks that with more to wait none is lost that is not lost with less, and that more is left.
func (f *flight) withMoreToWait(t *testing.T, row []api.Rec, wait int) {
	_, left, _ := rack.Mark(f.k, f.l, f.now, wait)
	for more := 1; more < 9; more++ {
		fewer, longer, e := rack.Mark(f.k, f.l, f.now, wait+more)
		if e != api.OK || longer < left || lostIn(fewer) > lostIn(row) {
			t.Fatalf("wait %d more: error %d, %d left, not %d; %d lost, not %d", more, e, longer, left, lostIn(fewer), lostIn(row))
		}
		for i, x := range fewer {
			if x != f.l[i] && x != row[i] {
				t.Fatalf("wait %d more: %+v is lost", more, x)
			}
		}
	}
}

func TestWhatFollows(t *testing.T) {
	d := dice(1)
	for range 3000 {
		walk(t, &d, 60)
	}
}

// Given in order, and marked long after: what was sent ahead and did not come is lost, what was sent behind never.
func TestSentBehindIsNeverLost(t *testing.T) {
	var l []api.Rec
	for i := range 10 {
		l = append(l, api.Rec{From: 10 * i, To: 10*i + 10, Sent: i / 2, Tx: 1})
	}
	for last := range l {
		k, e := rack.Given(rack.New(), l[last], 50, 1)
		if e != api.OK {
			t.Fatal(e)
		}
		got, left, e := rack.Mark(k, l, api.MaxTime, 0)
		if e != api.OK || left != 0 {
			t.Fatal(left, e)
		}
		for i, x := range got {
			if x.Lost != (i < last) {
				t.Errorf("%d was delivered: %d lost: %v", last, i, x.Lost)
			}
		}
	}
}

func TestSameTwice(t *testing.T) {
	d := dice(7)
	for range 2000 {
		k := api.Rack{Sent: d.roll(50), End: d.roll(50), Rtt: d.roll(20), Seen: d.roll(2) > 0, Fack: d.roll(50), Mult: 1 + d.roll(255), Rounds: d.roll(17), Last: d.roll(50)}
		x := api.Rec{From: d.roll(50), To: d.roll(50), Sent: d.roll(50), Tx: 1 + d.roll(2)}
		a, _ := rack.Given(k, x, 60, 20)
		b, _ := rack.Given(k, x, 60, 20)
		c, _ := rack.Again(k, 20, 30)
		f, _ := rack.Again(k, 20, 30)
		if a != b || c != f {
			t.Fatalf("%+v, then %+v; %+v, then %+v", a, b, c, f)
		}
	}
}
