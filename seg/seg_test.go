package seg_test

import (
	"math"
	"testing"

	"tideway/api"
	"tideway/seg"
)

// base answers a want that may be: 4 bytes of 20 are on their way, 10 are to be sent, the window has room for 10.
func base() api.Want {
	return api.Want{Una: 6, Next: 10, End: 20, Edge: 20, Mss: 4, Room: 100, Most: 30}
}

// with answers that want, changed.
func with(changes ...func(w *api.Want)) api.Want {
	w := base()
	for _, change := range changes {
		change(&w)
	}
	return w
}

// Changes of a want.
func nagle(w *api.Want)  { w.Nagle = true }
func closed(w *api.Want) { w.Closed = true }
func force(w *api.Want)  { w.Force = true }
func quiet(w *api.Want)  { w.Una = w.Next }
func fin(w *api.Want)    { w.Closed, w.Fin, w.Next = true, true, w.End }
func sent(w *api.Want)   { w.Next = w.End }

// mss, usable, left, most and room set one thing each; usable and left count from Next on.
func mss(n int) func(w *api.Want)    { return func(w *api.Want) { w.Mss = n } }
func usable(n int) func(w *api.Want) { return func(w *api.Want) { w.Edge = w.Next + n } }
func left(n int) func(w *api.Want)   { return func(w *api.Want) { w.End = w.Next + n } }
func most(n int) func(w *api.Want)   { return func(w *api.Want) { w.Most = n } }
func room(n int) func(w *api.Want)   { return func(w *api.Want) { w.Room = n } }

// next asks for a cut, and that what is asked tells no error.
func next(t *testing.T, w api.Want) (api.Cut, bool) {
	t.Helper()
	c, ok, e := seg.Next(w)
	if e != api.OK {
		t.Fatalf("Next(%+v): error %d", w, e)
	}
	return c, ok
}

// goes asks that a want's next segment is this one.
func goes(t *testing.T, name string, w api.Want, want api.Cut) {
	t.Helper()
	if c, ok := next(t, w); !ok || c != want {
		t.Errorf("%s: Next(%+v) = %+v, %t, want %+v", name, w, c, ok, want)
	}
}

// nothing asks that nothing goes, and that nothing else is told.
func nothing(t *testing.T, name string, w api.Want) {
	t.Helper()
	if c, ok := next(t, w); ok || c != (api.Cut{}) {
		t.Errorf("%s: Next(%+v) = %+v, %t, want nothing", name, w, c, ok)
	}
}

// refused asks that a want may not be, for all three calls.
func refused(t *testing.T, name string, w api.Want) {
	t.Helper()
	if e := seg.Check(w); e != api.ErrArg {
		t.Errorf("%s: Check(%+v) = %d, want %d", name, w, e, api.ErrArg)
	}
	if n := seg.Usable(w); n != 0 {
		t.Errorf("%s: Usable(%+v) = %d, want 0", name, w, n)
	}
	if c, ok, e := seg.Next(w); c != (api.Cut{}) || ok || e != api.ErrArg {
		t.Errorf("%s: Next(%+v) = %+v, %t, %d, want %d", name, w, c, ok, e, api.ErrArg)
	}
}

// P9.1: Check

func TestCheckEdges(t *testing.T) {
	for _, c := range []struct {
		name   string
		change func(w *api.Want)
		ok     bool
	}{
		{"as it is", func(w *api.Want) {}, true},
		{"Una -1", func(w *api.Want) { w.Una = -1 }, false},
		{"Una far below 0", func(w *api.Want) { w.Una = math.MinInt }, false},
		{"Una 0", func(w *api.Want) { w.Una = 0 }, true},
		{"Una at Next", func(w *api.Want) { w.Una = w.Next }, true},
		{"Una past Next", func(w *api.Want) { w.Una = w.Next + 1 }, false},
		{"Una past End", func(w *api.Want) { w.Una = math.MaxInt }, false},
		{"all 0", func(w *api.Want) { w.Una, w.Next, w.End = 0, 0, 0 }, true},
		{"all below 0", func(w *api.Want) { w.Una, w.Next, w.End = -3, -2, -1 }, false},
		{"Next below 0", func(w *api.Want) { w.Una, w.Next = 0, -1 }, false},
		{"Next at End", func(w *api.Want) { w.Next = w.End }, true},
		{"Next past End", func(w *api.Want) { w.Next = w.End + 1 }, false},
		{"Next far past End", func(w *api.Want) { w.Next = math.MaxInt }, false},
		{"End below Next", func(w *api.Want) { w.End = math.MinInt }, false},
		{"End at its greatest", func(w *api.Want) { w.End = api.MaxOffset }, true},
		{"End one more", func(w *api.Want) { w.End = api.MaxOffset + 1 }, false},
		{"End far more", func(w *api.Want) { w.End = math.MaxInt }, false},
		{"all at their greatest", func(w *api.Want) { w.Una, w.Next, w.End = api.MaxOffset, api.MaxOffset, api.MaxOffset }, true},
		{"all past it", func(w *api.Want) { w.Una, w.Next, w.End = api.MaxOffset+1, api.MaxOffset+1, api.MaxOffset+1 }, false},
		{"Edge -1", func(w *api.Want) { w.Edge = -1 }, false},
		{"Edge far below 0", func(w *api.Want) { w.Edge = math.MinInt }, false},
		{"Edge 0", func(w *api.Want) { w.Edge = 0 }, true},
		{"Edge at its greatest", func(w *api.Want) { w.Edge = api.MaxOffset }, true},
		{"Edge one more", func(w *api.Want) { w.Edge = api.MaxOffset + 1 }, false},
		{"Edge far more", func(w *api.Want) { w.Edge = math.MaxInt }, false},
		{"Mss below 0", func(w *api.Want) { w.Mss = -1 }, false},
		{"Mss 0", func(w *api.Want) { w.Mss = 0 }, false},
		{"Mss 1", func(w *api.Want) { w.Mss = 1 }, true},
		{"Mss below MinMss", func(w *api.Want) { w.Mss = api.MinMss - 1 }, true},
		{"Mss at its greatest", func(w *api.Want) { w.Mss = api.MaxMss }, true},
		{"Mss one more", func(w *api.Want) { w.Mss = api.MaxMss + 1 }, false},
		{"Most -1", func(w *api.Want) { w.Most = -1 }, false},
		{"Most far below 0", func(w *api.Want) { w.Most = math.MinInt }, false},
		{"Most 0", func(w *api.Want) { w.Most = 0 }, true},
		{"Most at its greatest", func(w *api.Want) { w.Most = api.MaxSize }, true},
		{"Most one more", func(w *api.Want) { w.Most = api.MaxSize + 1 }, false},
		{"Most far more", func(w *api.Want) { w.Most = math.MaxInt }, false},
		{"Room 0", room(0), true},
		{"Room below 0", room(-1), true},
		{"Room far below 0", room(math.MinInt), true},
		{"Room very large", room(math.MaxInt), true},
		{"Closed", closed, true},
		{"Closed at End", func(w *api.Want) { w.Closed, w.Next = true, w.End }, true},
		{"Fin alone", func(w *api.Want) { w.Fin = true }, false},
		{"Fin at End, not Closed", func(w *api.Want) { w.Fin, w.Next = true, w.End }, false},
		{"Fin ahead of End, Closed", func(w *api.Want) { w.Fin, w.Closed = true, true }, false},
		{"Fin one ahead of End, Closed", func(w *api.Want) { w.Fin, w.Closed, w.Next = true, true, w.End-1 }, false},
		{"Fin with both", fin, true},
		{"Nagle", nagle, true},
		{"Force", force, true},
	} {
		// None of these hangs on Nagle or Force.
		for _, more := range []func(w *api.Want){func(*api.Want) {}, nagle, force} {
			w := with(c.change, more)
			if !c.ok {
				refused(t, c.name, w)
			} else if e := seg.Check(w); e != api.OK {
				t.Errorf("%s: Check(%+v) = %d", c.name, w, e)
			} else {
				next(t, w)
			}
		}
	}
	refused(t, "nothing set", api.Want{})
}

// P9.1: Usable

func TestUsable(t *testing.T) {
	for _, c := range []struct {
		name string
		w    api.Want
		want int
	}{
		{"Edge above Next", with(usable(7)), 7},
		{"one above", with(usable(1)), 1},
		{"Edge at Next", with(usable(0)), 0},
		{"Edge below Next", with(usable(-1)), 0},
		{"Edge 0", with(usable(-10)), 0},
		{"beyond End", with(usable(1000)), 1000},
		{"all of it", api.Want{Edge: api.MaxOffset, Mss: 1}, api.MaxOffset},
		{"none of it", api.Want{Una: 0, Next: api.MaxOffset, End: api.MaxOffset, Mss: 1}, 0},
		{"with Force", with(usable(3), force), 3},
		{"with Fin", with(fin, usable(3)), 3},
		{"no room in cwnd", with(usable(3), room(0)), 3},
		{"may not be", with(usable(7), mss(0)), 0},
		{"may not be, by Room alone", with(usable(7), room(-5)), 7},
		{"Edge past its greatest", with(func(w *api.Want) { w.Edge = api.MaxOffset + 1 }), 0},
		{"Next far below", api.Want{Next: math.MinInt, End: 5, Edge: 5, Mss: 1}, 0},
	} {
		if n := seg.Usable(c.w); n != c.want {
			t.Errorf("%s: Usable(%+v) = %d, want %d", c.name, c.w, n, c.want)
		}
	}
}

// P9.2: Next

func TestFinWasSent(t *testing.T) {
	nothing(t, "Fin", with(fin))
	nothing(t, "Fin, the window wide open", with(fin, usable(1000), quiet))
	nothing(t, "Fin, Force", with(fin, force))
	nothing(t, "Fin, Force, open", with(fin, force, usable(1000)))
}

func TestForce(t *testing.T) {
	one := api.Cut{From: 10, To: 11}
	last := api.Cut{From: 10, To: 11, Psh: true}
	goes(t, "open", with(force), one)
	goes(t, "shut", with(force, usable(0)), one)
	goes(t, "below", with(force, usable(-10)), one)
	goes(t, "no room", with(force, room(0)), one)
	goes(t, "room below 0", with(force, room(math.MinInt)), one)
	goes(t, "shut, no room, Nagle", with(force, usable(0), room(0), nagle, most(1000)), one)
	goes(t, "two left", with(force, left(2), usable(0)), one)
	goes(t, "two left, Closed", with(force, left(2), closed), one)
	goes(t, "one left", with(force, left(1), usable(0), room(0)), last)
	goes(t, "one left, open", with(force, left(1), usable(50)), last)
	goes(t, "one left, Closed", with(force, left(1), closed, usable(0)), last)
	goes(t, "one left, Closed, open", with(force, left(1), closed, usable(50)), last)
	end := api.Cut{From: 20, To: 20, Fin: true}
	goes(t, "none left, Closed", with(force, sent, closed), end)
	goes(t, "none left, Closed, shut", with(force, sent, closed, usable(-3), room(0), nagle), end)
	nothing(t, "none left", with(force, sent))
	nothing(t, "none left, open", with(force, sent, usable(50)))
	top := api.Want{Next: api.MaxOffset - 1, End: api.MaxOffset, Mss: 1, Force: true, Closed: true}
	goes(t, "the last offset of all", top, api.Cut{From: api.MaxOffset - 1, To: api.MaxOffset, Psh: true})
}

func TestNothingLeft(t *testing.T) {
	end := api.Cut{From: 20, To: 20, Fin: true}
	goes(t, "Closed, one", with(sent, closed, usable(1)), end)
	goes(t, "Closed, more", with(sent, closed, usable(50)), end)
	goes(t, "Closed, no room", with(sent, closed, usable(1), room(0)), end)
	goes(t, "Closed, room below 0", with(sent, closed, usable(1), room(-7)), end)
	goes(t, "Closed, Nagle", with(sent, closed, usable(1), nagle), end)
	nothing(t, "Closed, shut", with(sent, closed, usable(0)))
	nothing(t, "Closed, below", with(sent, closed, usable(-5)))
	nothing(t, "not Closed, one", with(sent, usable(1)))
	nothing(t, "not Closed, open", with(sent, usable(50), quiet))
	nothing(t, "not Closed, shut", with(sent, usable(0)))
	goes(t, "nothing was ever written", api.Want{Closed: true, Edge: 1, Mss: 1}, api.Cut{Fin: true})
}

func TestHowMany(t *testing.T) {
	goes(t, "by Mss", with(), api.Cut{From: 10, To: 14})
	goes(t, "by D", with(left(3)), api.Cut{From: 10, To: 13, Psh: true})
	goes(t, "by the window", with(mss(50), usable(6), most(12)), api.Cut{From: 10, To: 16})
	goes(t, "all three alike", with(left(4), usable(4)), api.Cut{From: 10, To: 14, Psh: true})
	goes(t, "one byte", with(mss(1)), api.Cut{From: 10, To: 11})
	goes(t, "greatest", with(mss(api.MaxMss), left(api.MaxMss+1), usable(api.MaxMss), room(api.MaxMss)), api.Cut{From: 10, To: 10 + api.MaxMss})
	nothing(t, "shut", with(usable(0), most(0)))
	nothing(t, "shut, quiet, Closed", with(usable(0), most(0), quiet, closed, left(1)))
	nothing(t, "below", with(usable(-4), most(0)))
	nothing(t, "Edge 0", with(usable(-10), most(0)))
	goes(t, "the last offsets of all", api.Want{Next: api.MaxOffset - 3, End: api.MaxOffset, Edge: api.MaxOffset, Mss: 9, Room: 3, Closed: true}, api.Cut{From: api.MaxOffset - 3, To: api.MaxOffset, Psh: true})
}

func TestRoom(t *testing.T) {
	goes(t, "just m", with(room(4)), api.Cut{From: 10, To: 14})
	nothing(t, "one below m", with(room(3)))
	nothing(t, "none", with(room(0)))
	nothing(t, "below 0", with(room(-1)))
	nothing(t, "far below 0", with(room(math.MinInt)))
	goes(t, "very large", with(room(math.MaxInt)), api.Cut{From: 10, To: 14})
	// It is m that Room is held against, not Mss, and the end needs none of it.
	goes(t, "just D", with(left(2), room(2), closed), api.Cut{From: 10, To: 12, Psh: true, Fin: true})
	nothing(t, "one below D", with(left(2), room(1), closed))
	goes(t, "just the window", with(usable(3), most(6), room(3)), api.Cut{From: 10, To: 13})
	nothing(t, "one below the window", with(usable(3), most(6), room(2)))
}

// m of Mss goes, whatever else holds.
func TestFullSize(t *testing.T) {
	full := api.Cut{From: 10, To: 14}
	goes(t, "on its way", with(most(1000)), full)
	goes(t, "on its way, Nagle", with(most(1000), nagle), full)
	goes(t, "on its way, Nagle, the window just so", with(most(1000), nagle, usable(4)), full)
	goes(t, "quiet, Nagle", with(most(1000), nagle, quiet), full)
	goes(t, "all, on its way, Nagle", with(most(1000), nagle, left(4), usable(9)), api.Cut{From: 10, To: 14, Psh: true})
}

// m of D, below Mss, goes where it is Closed, not Nagle, or quiet.
func TestAllThatIsLeft(t *testing.T) {
	all := api.Cut{From: 10, To: 13, Psh: true}
	some := []func(w *api.Want){left(3), usable(3), most(1000)}
	but := func(changes ...func(w *api.Want)) api.Want { return with(append(some[:3:3], changes...)...) }
	nothing(t, "none of them", but(nagle))
	goes(t, "Closed", but(nagle, closed), all)
	goes(t, "not Nagle", but(), all)
	goes(t, "quiet", but(nagle, quiet), all)
	goes(t, "all of them", but(closed, quiet), all)
	nothing(t, "Nagle, half of Most", but(nagle, most(6)))
	nothing(t, "Nagle, Most 0", but(nagle, most(0)))
}

// m below D and Mss is what the window leaves: it goes from half of Most on, where it is not Nagle, or quiet.
func TestHalfOfMost(t *testing.T) {
	for _, c := range []struct{ m, most int }{
		{1, 0}, {1, 1}, {1, 2}, {2, 3}, {2, 4}, {3, 5}, {3, 6}, {50, 99}, {50, 100},
	} {
		cut := api.Cut{From: 10, To: 10 + c.m}
		at := func(changes ...func(w *api.Want)) api.Want {
			return with(append([]func(w *api.Want){mss(c.m + 1), left(c.m + 1), usable(c.m), most(c.most)}, changes...)...)
		}
		goes(t, "half", at(), cut)
		goes(t, "half, quiet", at(quiet), cut)
		goes(t, "half, Nagle, quiet", at(nagle, quiet), cut)
		goes(t, "half, Closed", at(closed), cut)
		nothing(t, "half, Nagle", at(nagle))
		nothing(t, "half, Nagle, Closed", at(nagle, closed))
		if c.most == 2*c.m {
			nothing(t, "above it", at(most(c.most+1)))
			nothing(t, "above it, quiet, Closed", at(most(c.most+1), quiet, closed))
			nothing(t, "above it, Nagle, quiet", at(most(c.most+1), nagle, quiet))
		}
	}
	nothing(t, "Most at its greatest", with(mss(api.MaxMss), left(api.MaxMss), usable(api.MaxMss-1), most(api.MaxSize), quiet))
}

// P9.2: Fin and Psh of a cut

func TestFlags(t *testing.T) {
	for _, c := range []struct {
		name     string
		w        api.Want
		fin, psh bool
	}{
		{"Closed, window of m", with(left(3), usable(3), closed), false, true},
		{"Closed, one more", with(left(3), usable(4), closed), true, true},
		{"Closed, far more", with(left(3), usable(900), closed), true, true},
		{"Closed, full size, of m", with(left(4), usable(4), closed), false, true},
		{"Closed, full size, one more", with(left(4), usable(5), closed), true, true},
		{"Closed, Nagle, one more, room for the bytes alone", with(left(3), usable(4), closed, nagle, room(3)), true, true},
		{"not Closed, window of m", with(left(3), usable(3)), false, true},
		{"not Closed, one more", with(left(3), usable(4)), false, true},
		{"Closed, one byte stays behind", with(left(5), usable(900), closed), false, false},
		{"Closed, the window ends them", with(left(3), usable(2), most(4), closed), false, false},
		{"not Closed, one byte stays behind", with(left(5), usable(900)), false, false},
		{"the end alone", with(sent, usable(1), closed), true, false},
		{"the end alone, open", with(sent, usable(900), closed), true, false},
		{"the end alone, forced", with(sent, usable(0), closed, force), true, false},
		{"forced, the last one, open", with(left(1), usable(900), closed, force), false, true},
		{"forced, not the last one", with(left(2), usable(900), closed, force), false, false},
	} {
		got, ok := next(t, c.w)
		if !ok || got.Fin != c.fin || got.Psh != c.psh || got.From != c.w.Next {
			t.Errorf("%s: Next(%+v) = %+v, %t, want Fin %t, Psh %t", c.name, c.w, got, ok, c.fin, c.psh)
		}
	}
}

// The chapter's own example.
func TestExample(t *testing.T) {
	w := api.Want{End: 5, Mss: 10, Edge: 20, Room: 99, Nagle: true}
	goes(t, "the first", w, api.Cut{To: 5, Psh: true})
	w.Next, w.End = 7, 12
	nothing(t, "on its way", w)
	w.Una = 7
	goes(t, "acknowledged", w, api.Cut{From: 7, To: 12, Psh: true})
}
