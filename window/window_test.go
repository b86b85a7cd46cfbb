package window_test

import (
	"math"
	"testing"

	"tideway/api"
	"tideway/window"
)

const (
	size    = api.MaxSize
	last    = api.MaxOffset
	far     = last + size
	longest = 1 << 50
)

// usual is a window of 10 bytes that has shrunk from 20: its edge was at 90 once, and three probes were sent.
func usual() api.Window {
	return api.Window{Una: 60, Size: 10, Edge: 90, Wl1: 30, Wl2: 60, Most: 20, Tries: 3}
}

// is asks that a window is the wanted one, that it may be, and that there was no error.
func is(t *testing.T, name string, got api.Window, e api.Errno, want api.Window) {
	t.Helper()
	if e != api.OK || got != want {
		t.Errorf("%s: %+v, %d, want %+v", name, got, e, want)
	}
	if e := window.Check(got); e != api.OK {
		t.Errorf("%s: what is answered: error %d", name, e)
	}
}

// refused asks that a call answered an error, and nothing besides.
func refused(t *testing.T, name string, got api.Window, e api.Errno, want api.Errno) {
	t.Helper()
	if e != want || got != (api.Window{}) {
		t.Errorf("%s: %+v, %d, want error %d", name, got, e, want)
	}
}

// number is one that is asked, and whether it may be.
type number struct {
	name string
	n    int
	may  bool
}

// about answers the numbers about two limits.
func about(least, most int) []number {
	l := []number{
		{"the least int", math.MinInt, false},
		{"one below the least", least - 1, false},
		{"the least", least, false},
		{"one above the least", least + 1, false},
		{"one below the last", most - 1, false},
		{"the last", most, false},
		{"one above the last", most + 1, false},
		{"the greatest int", math.MaxInt, false},
	}
	for i := range l {
		l[i].may = least <= l[i].n && l[i].n <= most
	}
	return l
}

// state is a window, and whether it may be.
type state struct {
	name string
	w    api.Window
	may  bool
}

// states answers windows each of whose fields stands about its limits in turn; all else in them may be.
func states() []state {
	l := []state{{"usual", usual(), true}, {"zero", api.Window{}, true}}
	add := func(field string, x number, w api.Window) { l = append(l, state{field + ": " + x.name, w, x.may}) }
	for _, x := range about(0, far) {
		w := usual()
		w.Una = x.n
		add("Una", x, w)
		w = usual()
		w.Wl1 = x.n
		add("Wl1", x, w)
		add("Edge", x, api.Window{Una: 60, Edge: x.n, Wl1: 30, Most: 20, Tries: 3})
		add("Wl2", x, api.Window{Una: 60, Edge: far, Wl1: 30, Wl2: x.n, Most: 20, Tries: 3})
	}
	for _, x := range about(0, size) {
		add("Size", x, api.Window{Una: 60, Size: x.n, Edge: far, Wl1: 30, Wl2: 60, Most: size, Tries: 3})
		add("Most", x, api.Window{Una: 60, Edge: 90, Wl1: 30, Wl2: 60, Most: x.n, Tries: 3})
	}
	for _, x := range about(0, 100) {
		w := usual()
		w.Tries = x.n
		add("Tries", x, w)
	}
	return append(l, together()...)
}

// together answers windows in which two or three fields stand about what they may be together.
func together() []state {
	var l []state
	add := func(name string, x number, w api.Window) { l = append(l, state{name + ": " + x.name, w, x.may}) }
	for _, most := range []int{0, 1, 20, size - 1, size} {
		for _, x := range about(0, most) {
			add("Size by Most", x, api.Window{Una: 60, Size: x.n, Edge: far, Wl1: 30, Wl2: 60, Most: most})
		}
		for _, x := range about(most, size) {
			add("Most by Size", x, api.Window{Una: 60, Size: most, Edge: far, Wl1: 30, Wl2: 60, Most: x.n})
		}
	}
	for _, wl2 := range []int{0, 1, 60, last, far - 20} {
		for _, n := range []int{0, 1, 20} {
			for _, x := range about(wl2+n, far) {
				add("Edge by Wl2 and Size", x, api.Window{Size: n, Edge: x.n, Wl2: wl2, Most: 20})
			}
			for _, x := range about(0, wl2) {
				add("Wl2 by Edge and Size", x, api.Window{Size: n, Edge: wl2 + n, Wl2: x.n, Most: 20})
			}
			for _, x := range about(0, n) {
				add("Size by Edge and Wl2", x, api.Window{Size: x.n, Edge: wl2 + n, Wl2: wl2, Most: size})
			}
		}
	}
	return append(l,
		state{"the greatest edge", api.Window{Una: far, Size: size, Edge: far, Wl1: far, Wl2: last, Most: size, Tries: 100}, true},
		state{"the greatest edge, shut", api.Window{Una: far, Edge: far, Wl1: far, Wl2: far, Most: size, Tries: 100}, true},
		state{"a byte beyond the greatest edge", api.Window{Size: 1, Edge: far, Wl2: far, Most: 1}, false},
		state{"a byte and its edge beyond the greatest one", api.Window{Size: 1, Edge: far + 1, Wl2: far, Most: 1}, false},
		state{"a sum that wraps round", api.Window{Size: size, Edge: far, Wl2: math.MaxInt, Most: size}, false},
	)
}

// wrong answers those windows that may not be.
func wrong() []state {
	var l []state
	for _, c := range states() {
		if !c.may {
			l = append(l, c)
		}
	}
	return l
}

// The chapter's example.
func TestExample(t *testing.T) {
	w, e := window.New(10)
	is(t, "New", w, e, api.Window{Size: 10, Edge: 10, Most: 10})
	w, e = window.Told(w, 0, 4, 10)
	is(t, "Told ack 4", w, e, api.Window{Una: 4, Size: 10, Edge: 14, Wl2: 4, Most: 10})
	if right := window.Right(w); right != 14 {
		t.Errorf("Right: %d, want 14", right)
	}
	before := w
	w, e = window.Told(w, 0, 3, 10)
	is(t, "Told ack 3", w, e, before)
}

// P21.1: Check

func TestCheck(t *testing.T) {
	for _, c := range states() {
		want := api.OK
		if !c.may {
			want = api.ErrState
		}
		if e := window.Check(c.w); e != want {
			t.Errorf("%s: %+v: %d, want %d", c.name, c.w, e, want)
		}
	}
}

// The limits in plain numbers.
func TestCheckPlain(t *testing.T) {
	for _, c := range []struct {
		w   api.Window
		may bool
	}{
		{api.Window{Una: 1125900980584448}, true},
		{api.Window{Una: 1125900980584449}, false},
		{api.Window{Edge: 1125900980584448}, true},
		{api.Window{Edge: 1125900980584449}, false},
		{api.Window{Wl1: 1125900980584448}, true},
		{api.Window{Wl1: 1125900980584449}, false},
		{api.Window{Wl2: 1125900980584448, Edge: 1125900980584448}, true},
		{api.Window{Wl2: 1125900980584449, Edge: 1125900980584448}, false},
		{api.Window{Wl2: 1125900980584449, Edge: 1125900980584449}, false},
		{api.Window{Size: 1073741824, Most: 1073741824, Edge: 1073741824}, true},
		{api.Window{Size: 1073741824, Most: 1073741824, Edge: 1073741823}, false},
		{api.Window{Size: 1073741825, Most: 1073741825, Edge: 1073741825}, false},
		{api.Window{Size: 1073741824, Most: 1073741823, Edge: 1073741824}, false},
		{api.Window{Size: 5, Most: 4, Edge: 5}, false},
		{api.Window{Size: 5, Most: 5, Edge: 5}, true},
		{api.Window{Size: 5, Most: 5, Edge: 12, Wl2: 7}, true},
		{api.Window{Size: 5, Most: 5, Edge: 11, Wl2: 7}, false},
		{api.Window{Tries: 100}, true},
		{api.Window{Tries: 101}, false},
		{api.Window{Tries: -1}, false},
		{api.Window{Una: 9}, true},
	} {
		if e := window.Check(c.w); (e == api.OK) != c.may || e != api.OK && e != 230 {
			t.Errorf("%+v: %d", c.w, e)
		}
	}
}

// P21.1: New

func TestNew(t *testing.T) {
	for _, n := range []int{0, 1, 10, 65535, size - 1, size} {
		w, e := window.New(n)
		is(t, "New", w, e, api.Window{Una: 0, Size: n, Edge: n, Wl1: 0, Wl2: 0, Most: n, Tries: 0})
	}
}

func TestNewRefuses(t *testing.T) {
	for _, x := range about(0, size) {
		w, e := window.New(x.n)
		if x.may {
			is(t, x.name, w, e, api.Window{Size: x.n, Edge: x.n, Most: x.n})
		} else {
			refused(t, x.name, w, e, api.ErrArg)
		}
	}
}

// P21.1: what all calls but New refuse. ErrState comes first, whatever numbers come with such a window.
func TestStateFirst(t *testing.T) {
	numbers := []int{math.MinInt, -1, 0, 1, 70, 100, size, size + 1, last, last + 1, far + 1, math.MaxInt}
	for _, c := range wrong() {
		w, e := window.Tried(c.w)
		refused(t, "Tried: "+c.name, w, e, api.ErrState)
		if right := window.Right(c.w); right != 0 {
			t.Errorf("Right: %s: %d", c.name, right)
		}
		for i, n := range numbers {
			other, third := numbers[(i+5)%len(numbers)], numbers[(i+8)%len(numbers)]
			w, e = window.Told(c.w, n, other, third)
			refused(t, "Told: "+c.name, w, e, api.ErrState)
			w, e = window.Told(c.w, n, n, n)
			refused(t, "Told: "+c.name, w, e, api.ErrState)
			if window.Shut(c.w, n) {
				t.Errorf("Shut: %s, %d", c.name, n)
			}
			if wait := window.Wait(c.w, n, other, third); wait != 0 {
				t.Errorf("Wait: %s, %d, %d, %d: %d", c.name, n, other, third, wait)
			}
			if wait := window.Wait(c.w, 200, 100, 300); wait != 0 {
				t.Errorf("Wait: %s: %d", c.name, wait)
			}
		}
	}
}

// All others are taken by all calls.
func TestStatesThatMayBe(t *testing.T) {
	for _, c := range states() {
		if !c.may {
			continue
		}
		if _, e := window.Told(c.w, 0, 0, 0); e != api.OK {
			t.Errorf("Told: %s: error %d", c.name, e)
		}
		if _, e := window.Tried(c.w); e != api.OK {
			t.Errorf("Tried: %s: error %d", c.name, e)
		}
		if right := window.Right(c.w); right != c.w.Wl2+c.w.Size {
			t.Errorf("Right: %s: %d", c.name, right)
		}
		if !window.Shut(c.w, far) || window.Shut(c.w, -1) {
			t.Errorf("Shut: %s", c.name)
		}
		if wait := window.Wait(c.w, 0, 5, 9); wait != 5 {
			t.Errorf("Wait: %s: %d", c.name, wait)
		}
	}
}

// P21.2: Told

// A segment behind, at, and ahead of the one that told the window last, by its offset and by what it acknowledges.
func TestToldOrder(t *testing.T) {
	for _, c := range []struct {
		at, ack int
		want    api.Window
	}{
		{29, 59, api.Window{Una: 60, Size: 10, Edge: 90, Wl1: 30, Wl2: 60, Most: 20, Tries: 3}},
		{29, 60, api.Window{Una: 60, Size: 10, Edge: 90, Wl1: 30, Wl2: 60, Most: 20, Tries: 3}},
		{29, 61, api.Window{Una: 61, Size: 10, Edge: 90, Wl1: 30, Wl2: 60, Most: 20, Tries: 3}},
		{30, 59, api.Window{Una: 60, Size: 10, Edge: 90, Wl1: 30, Wl2: 60, Most: 20, Tries: 3}},
		{30, 60, api.Window{Una: 60, Size: 40, Edge: 100, Wl1: 30, Wl2: 60, Most: 40, Tries: 0}},
		{30, 61, api.Window{Una: 61, Size: 40, Edge: 101, Wl1: 30, Wl2: 61, Most: 40, Tries: 0}},
		{31, 59, api.Window{Una: 60, Size: 40, Edge: 99, Wl1: 31, Wl2: 59, Most: 40, Tries: 0}},
		{31, 60, api.Window{Una: 60, Size: 40, Edge: 100, Wl1: 31, Wl2: 60, Most: 40, Tries: 0}},
		{31, 61, api.Window{Una: 61, Size: 40, Edge: 101, Wl1: 31, Wl2: 61, Most: 40, Tries: 0}},
	} {
		w, e := window.Told(usual(), c.at, c.ack, 40)
		is(t, "Told", w, e, c.want)
	}
}

// What each number does, one by one.
func TestTold(t *testing.T) {
	for _, c := range []struct {
		name          string
		una, tries    int
		at, ack, size int
		want          api.Window
	}{
		{"ack below Una", 80, 3, 31, 79, 5, api.Window{Una: 80, Size: 5, Edge: 90, Wl1: 31, Wl2: 79, Most: 20}},
		{"ack at Una", 80, 3, 31, 80, 5, api.Window{Una: 80, Size: 5, Edge: 90, Wl1: 31, Wl2: 80, Most: 20}},
		{"ack above Una", 80, 3, 31, 81, 5, api.Window{Una: 81, Size: 5, Edge: 90, Wl1: 31, Wl2: 81, Most: 20}},
		{"older, ack below Una", 80, 3, 29, 79, 5, api.Window{Una: 80, Size: 10, Edge: 90, Wl1: 30, Wl2: 60, Most: 20, Tries: 3}},
		{"older, ack at Una", 80, 3, 29, 80, 5, api.Window{Una: 80, Size: 10, Edge: 90, Wl1: 30, Wl2: 60, Most: 20, Tries: 3}},
		{"older, ack above Una", 80, 3, 29, 81, 5, api.Window{Una: 81, Size: 10, Edge: 90, Wl1: 30, Wl2: 60, Most: 20, Tries: 3}},
		{"older, ack above Una and Edge", 80, 3, 29, 91, 5, api.Window{Una: 91, Size: 10, Edge: 90, Wl1: 30, Wl2: 60, Most: 20, Tries: 3}},
		{"older by ack, ack above Una", 50, 3, 30, 59, 5, api.Window{Una: 59, Size: 10, Edge: 90, Wl1: 30, Wl2: 60, Most: 20, Tries: 3}},

		{"size below Most", 60, 3, 31, 60, 19, api.Window{Una: 60, Size: 19, Edge: 90, Wl1: 31, Wl2: 60, Most: 20}},
		{"size at Most", 60, 3, 31, 60, 20, api.Window{Una: 60, Size: 20, Edge: 90, Wl1: 31, Wl2: 60, Most: 20}},
		{"size above Most", 60, 3, 31, 60, 21, api.Window{Una: 60, Size: 21, Edge: 90, Wl1: 31, Wl2: 60, Most: 21}},
		{"older, size above Most", 60, 3, 29, 60, 21, api.Window{Una: 60, Size: 10, Edge: 90, Wl1: 30, Wl2: 60, Most: 20, Tries: 3}},

		{"together below Edge", 60, 3, 31, 60, 29, api.Window{Una: 60, Size: 29, Edge: 90, Wl1: 31, Wl2: 60, Most: 29}},
		{"together at Edge", 60, 3, 31, 60, 30, api.Window{Una: 60, Size: 30, Edge: 90, Wl1: 31, Wl2: 60, Most: 30}},
		{"together above Edge", 60, 3, 31, 60, 31, api.Window{Una: 60, Size: 31, Edge: 91, Wl1: 31, Wl2: 60, Most: 31}},
		{"together below Edge by ack", 60, 3, 31, 79, 10, api.Window{Una: 79, Size: 10, Edge: 90, Wl1: 31, Wl2: 79, Most: 20}},
		{"together at Edge by ack", 60, 3, 31, 80, 10, api.Window{Una: 80, Size: 10, Edge: 90, Wl1: 31, Wl2: 80, Most: 20}},
		{"together above Edge by ack", 60, 3, 31, 81, 10, api.Window{Una: 81, Size: 10, Edge: 91, Wl1: 31, Wl2: 81, Most: 20}},
		{"ack alone above Edge", 60, 3, 31, 95, 0, api.Window{Una: 95, Size: 0, Edge: 95, Wl1: 31, Wl2: 95, Most: 20, Tries: 3}},
		{"older, together above Edge", 60, 3, 29, 60, 31, api.Window{Una: 60, Size: 10, Edge: 90, Wl1: 30, Wl2: 60, Most: 20, Tries: 3}},
		{"Una above ack, which with size is below Edge", 80, 3, 31, 70, 15, api.Window{Una: 80, Size: 15, Edge: 90, Wl1: 31, Wl2: 70, Most: 20}},

		{"size 0, Tries 0", 60, 0, 31, 60, 0, api.Window{Una: 60, Size: 0, Edge: 90, Wl1: 31, Wl2: 60, Most: 20}},
		{"size 0, Tries 1", 60, 1, 31, 60, 0, api.Window{Una: 60, Size: 0, Edge: 90, Wl1: 31, Wl2: 60, Most: 20, Tries: 1}},
		{"size 0, Tries 100", 60, 100, 31, 60, 0, api.Window{Una: 60, Size: 0, Edge: 90, Wl1: 31, Wl2: 60, Most: 20, Tries: 100}},
		{"size 0, Tries 3, ack above all", 60, 3, 31, 75, 0, api.Window{Una: 75, Size: 0, Edge: 90, Wl1: 31, Wl2: 75, Most: 20, Tries: 3}},
		{"size 1, Tries 0", 60, 0, 31, 60, 1, api.Window{Una: 60, Size: 1, Edge: 90, Wl1: 31, Wl2: 60, Most: 20}},
		{"size 1, Tries 1", 60, 1, 31, 60, 1, api.Window{Una: 60, Size: 1, Edge: 90, Wl1: 31, Wl2: 60, Most: 20}},
		{"size 1, Tries 100", 60, 100, 31, 60, 1, api.Window{Una: 60, Size: 1, Edge: 90, Wl1: 31, Wl2: 60, Most: 20}},
		{"the same offset and ack, size 0", 60, 3, 30, 60, 0, api.Window{Una: 60, Size: 0, Edge: 90, Wl1: 30, Wl2: 60, Most: 20, Tries: 3}},
		{"the same offset and ack, size 1", 60, 3, 30, 60, 1, api.Window{Una: 60, Size: 1, Edge: 90, Wl1: 30, Wl2: 60, Most: 20}},
		{"older, size 1", 60, 3, 29, 60, 1, api.Window{Una: 60, Size: 10, Edge: 90, Wl1: 30, Wl2: 60, Most: 20, Tries: 3}},
		{"older by ack, size 1", 60, 3, 30, 59, 1, api.Window{Una: 60, Size: 10, Edge: 90, Wl1: 30, Wl2: 60, Most: 20, Tries: 3}},

		{"ack far below Wl2, at above Wl1", 60, 3, 31, 0, 5, api.Window{Una: 60, Size: 5, Edge: 90, Wl1: 31, Wl2: 0, Most: 20}},
		{"ack far below Wl2, at far above Wl1", 60, 3, last, 1, size, api.Window{Una: 60, Size: size, Edge: size + 1, Wl1: last, Wl2: 1, Most: size}},
		{"ack far above Wl2, at below Wl1", 60, 3, 0, last, size, api.Window{Una: last, Size: 10, Edge: 90, Wl1: 30, Wl2: 60, Most: 20, Tries: 3}},
		{"all of it", 60, 3, last, last, size, api.Window{Una: last, Size: size, Edge: far, Wl1: last, Wl2: last, Most: size}},
		{"all of it but a byte", 60, 3, last, last, size - 1, api.Window{Una: last, Size: size - 1, Edge: far - 1, Wl1: last, Wl2: last, Most: size - 1}},
	} {
		w := usual()
		w.Una, w.Tries = c.una, c.tries
		got, e := window.Told(w, c.at, c.ack, c.size)
		is(t, c.name, got, e, c.want)
	}
}

// Of a window whose numbers are those that no segment can tell of, segments are told, too.
func TestToldAtTheFarEnd(t *testing.T) {
	w := api.Window{Una: far, Edge: far, Wl1: last, Wl2: far, Most: 7, Tries: 3}
	got, e := window.Told(w, last, last, size)
	is(t, "ack below Wl2", got, e, w)
	w.Wl1 = last - 1
	got, e = window.Told(w, last, last, size)
	is(t, "at above Wl1", got, e, api.Window{Una: far, Size: size, Edge: far, Wl1: last, Wl2: last, Most: size})
	w.Wl1 = far
	got, e = window.Told(w, last, last, size)
	is(t, "at below Wl1", got, e, w)
}

func TestToldRefuses(t *testing.T) {
	for _, w := range []api.Window{{}, usual(), {Una: far, Size: size, Edge: far, Wl1: far, Wl2: last, Most: size, Tries: 100}} {
		for _, at := range about(0, last) {
			for _, ack := range about(0, last) {
				for _, n := range about(0, size) {
					got, e := window.Told(w, at.n, ack.n, n.n)
					name := "at " + at.name + ", ack " + ack.name + ", size " + n.name
					if !at.may || !ack.may || !n.may {
						refused(t, name, got, e, api.ErrArg)
					} else if e != api.OK || got.Una != max(w.Una, ack.n) {
						t.Errorf("%s: %+v, %d", name, got, e)
					}
				}
			}
		}
	}
}

// P21.2: Right, Shut

func TestRight(t *testing.T) {
	for _, c := range []struct {
		name string
		w    api.Window
		want int
	}{
		{"zero", api.Window{}, 0},
		{"fresh", api.Window{Size: 10, Edge: 10, Most: 10}, 10},
		{"usual, behind its edge", usual(), 70},
		{"at its edge", api.Window{Una: 60, Size: 30, Edge: 90, Wl1: 30, Wl2: 60, Most: 30}, 90},
		{"more is acknowledged than by the segment that told it", api.Window{Una: 65, Size: 10, Edge: 90, Wl1: 30, Wl2: 60, Most: 20}, 70},
		{"all of it is acknowledged, and more", api.Window{Una: 95, Size: 10, Edge: 90, Wl1: 30, Wl2: 60, Most: 20}, 70},
		{"less is acknowledged", api.Window{Una: 50, Size: 10, Edge: 90, Wl1: 30, Wl2: 60, Most: 20}, 70},
		{"shut", api.Window{Una: 60, Edge: 90, Wl1: 30, Wl2: 60, Most: 20}, 60},
		{"the greatest", api.Window{Size: size, Edge: far, Wl2: last, Most: size}, 1125900980584448},
	} {
		if got := window.Right(c.w); got != c.want {
			t.Errorf("%s: %d, want %d", c.name, got, c.want)
		}
	}
}

// A window that shrinks: Right goes back, Edge does not.
func TestRightOfOneThatShrinks(t *testing.T) {
	w, e := window.New(10)
	for _, c := range []struct{ at, ack, size, right, edge int }{
		{0, 4, 10, 14, 14},
		{0, 4, 6, 10, 14},
		{0, 5, 6, 11, 14},
		{0, 5, 0, 5, 14},
		{1, 3, 4, 7, 14},
		{1, 8, 6, 14, 14},
		{1, 8, 7, 15, 15},
		{0, 9, 50, 15, 15},
		{1, 7, 50, 15, 15},
	} {
		w, e = window.Told(w, c.at, c.ack, c.size)
		if e != api.OK || window.Right(w) != c.right || w.Edge != c.edge {
			t.Errorf("Told(%d, %d, %d): %+v, %d: Right %d, want %d", c.at, c.ack, c.size, w, e, window.Right(w), c.right)
		}
	}
}

func TestShut(t *testing.T) {
	for _, w := range []api.Window{
		{}, usual(),
		{Size: 10, Edge: 10, Most: 10},
		{Una: 60, Edge: 90, Wl1: 30, Wl2: 60, Most: 20},
		{Una: 95, Size: 10, Edge: 90, Wl1: 30, Wl2: 60, Most: 20},
		{Size: size, Edge: far, Wl2: last, Most: size},
	} {
		right := w.Wl2 + w.Size
		for _, c := range []struct {
			name string
			next int
			want bool
		}{
			{"the least int", math.MinInt, false},
			{"-1", -1, false},
			{"one below Right", right - 1, false},
			{"Right", right, true},
			{"one above Right", right + 1, true},
			{"beyond all", far + 1, true},
			{"the greatest int", math.MaxInt, true},
		} {
			if got := window.Shut(w, c.next); got != c.want {
				t.Errorf("%+v: %s: %v", w, c.name, got)
			}
		}
	}
}

// It goes by Right, neither by Edge nor by Una.
func TestShutBehindTheEdge(t *testing.T) {
	for _, c := range []struct {
		next int
		want bool
	}{{59, false}, {60, false}, {69, false}, {70, true}, {71, true}, {89, true}, {90, true}} {
		if got := window.Shut(usual(), c.next); got != c.want {
			t.Errorf("%d: %v", c.next, got)
		}
	}
}

// P21.3: Tried

func TestTried(t *testing.T) {
	for _, c := range []struct{ tries, want int }{{0, 1}, {1, 2}, {3, 4}, {98, 99}, {99, 100}, {100, 100}} {
		for _, w := range []api.Window{
			usual(), {}, {Size: 10, Edge: 10, Most: 10},
			{Una: far, Size: size, Edge: far, Wl1: far, Wl2: last, Most: size},
		} {
			w.Tries = c.tries
			want := w
			want.Tries = c.want
			got, e := window.Tried(w)
			is(t, "Tried", got, e, want)
		}
	}
}

// P21.3: Wait

func TestWait(t *testing.T) {
	for _, c := range []struct {
		name                  string
		tries, rto, low, high int
		want                  int
	}{
		{"no probe yet", 0, 300000, 200000, 60000000, 300000},
		{"one", 1, 300000, 200000, 60000000, 600000},
		{"two", 2, 300000, 200000, 60000000, 1200000},
		{"seven", 7, 300000, 200000, 60000000, 38400000},
		{"eight: the highest", 8, 300000, 200000, 60000000, 60000000},
		{"a hundred: the highest", 100, 300000, 200000, 60000000, 60000000},
		{"the lowest", 0, 100000, 200000, 60000000, 200000},
		{"doubled ahead of the lowest", 1, 100001, 200000, 60000000, 200002},
		{"not doubled from the lowest on", 2, 40000, 200000, 60000000, 200000},

		{"rto 1", 0, 1, 0, longest, 1},
		{"rto 1, 1", 1, 1, 0, longest, 2},
		{"rto 1, 2", 2, 1, 0, longest, 4},
		{"rto 1, 49", 49, 1, 0, longest, 1 << 49},
		{"rto 1, 50", 50, 1, 0, longest, 1125899906842624},
		{"rto 1, 51", 51, 1, 0, math.MaxInt, 1125899906842624},
		{"rto 1, 63", 63, 1, math.MinInt, math.MaxInt, 1125899906842624},
		{"rto 1, 64", 64, 1, math.MinInt, math.MaxInt, 1125899906842624},
		{"rto 1, 100", 100, 1, math.MinInt, math.MaxInt, 1125899906842624},
		{"rto 3, 48", 48, 3, 0, math.MaxInt, 3 << 48},
		{"rto 3, 49", 49, 3, 0, math.MaxInt, longest},

		{"the longest", 0, longest, 0, math.MaxInt, longest},
		{"one less", 0, longest - 1, 0, math.MaxInt, longest - 1},
		{"one more", 0, longest + 1, 0, math.MaxInt, longest},
		{"the greatest int", 0, math.MaxInt, 0, math.MaxInt, longest},
		{"the longest, 1", 1, longest, 0, math.MaxInt, longest},
		{"the longest, 2", 2, longest, 0, math.MaxInt, longest},
		{"the longest, 100", 100, longest, 0, math.MaxInt, longest},
		{"one more, 1", 1, longest + 1, 0, math.MaxInt, longest},
		{"one more, 100", 100, longest + 1, 0, math.MaxInt, longest},
		{"the greatest int, 1", 1, math.MaxInt, math.MinInt, math.MaxInt, longest},
		{"the greatest int, 2", 2, math.MaxInt, math.MinInt, math.MaxInt, longest},
		{"the greatest int, 100", 100, math.MaxInt, math.MinInt, math.MaxInt, longest},
		{"doubled it is 2^63", 1, 1 << 62, math.MinInt, math.MaxInt, longest},

		{"doubled just below", 1, 1<<49 - 1, 0, math.MaxInt, longest - 2},
		{"doubled just to it", 1, 1 << 49, 0, math.MaxInt, longest},
		{"doubled beyond it", 1, 1<<49 + 1, 0, math.MaxInt, longest},
		{"doubled twice, just below", 2, 1<<48 - 1, 0, math.MaxInt, longest - 4},
		{"doubled twice, just to it", 2, 1 << 48, 0, math.MaxInt, longest},
		{"doubled twice, beyond it", 2, 1<<48 + 1, 0, math.MaxInt, longest},

		{"low below", 1, 50, 99, 1000, 100},
		{"low at it", 1, 50, 100, 1000, 100},
		{"low above", 1, 50, 101, 1000, 101},
		{"low above rto alone", 1, 50, 51, 1000, 100},
		{"high below", 1, 50, 0, 99, 99},
		{"high at it", 1, 50, 0, 100, 100},
		{"high above", 1, 50, 0, 101, 100},
		{"high above rto alone", 1, 50, 0, 51, 51},
		{"low and high at it", 1, 50, 100, 100, 100},
		{"low and high alike, below", 1, 50, 7, 7, 7},
		{"low and high alike, above", 1, 50, 700, 700, 700},
		{"low above high, both above", 1, 50, 300, 200, 300},
		{"low above high, both below", 1, 50, 30, 20, 30},
		{"low above high, it is between", 1, 50, 130, 20, 130},
		{"low one above high, it is high", 1, 50, 101, 100, 101},
		{"low one above high, it is low", 1, 50, 100, 99, 100},
		{"low above the longest", 100, 50, longest + 1, math.MaxInt, longest + 1},
		{"low the greatest int", 0, 50, math.MaxInt, 0, math.MaxInt},
		{"high below 0", 0, 50, -9, -5, -5},
		{"high the least int", 0, 50, math.MinInt, math.MinInt, math.MinInt},

		{"rto 0", 0, 0, -5, 5, 0},
		{"rto 0, 2", 2, 0, -5, 5, 0},
		{"rto 0, 100", 100, 0, -5, 5, 0},
		{"rto 0, low above", 2, 0, 3, 5, 3},
		{"rto 0, high below", 2, 0, -5, -3, -3},
		{"rto 0, low above high", 2, 0, 5, -5, 5},
		{"rto -1", 0, -1, -5, 5, -1},
		{"rto -1, 1", 1, -1, -5, 5, -1},
		{"rto -1, 2", 2, -1, -5, 5, -1},
		{"rto -1, 100", 100, -1, -5, 5, -1},
		{"rto -1, low at it", 100, -1, -1, 5, -1},
		{"rto -1, low above", 100, -1, 0, 5, 0},
		{"rto -1, high below", 100, -1, -5, -2, -2},
		{"rto -1, low above high", 1, -1, 2, -2, 2},
		{"rto -7, doubled it would be below low", 1, -7, -10, 5, -7},
		{"the least int", 0, math.MinInt, math.MinInt, math.MaxInt, math.MinInt},
		{"the least int, 1", 1, math.MinInt, math.MinInt, math.MaxInt, math.MinInt},
		{"the least int, 100", 100, math.MinInt, math.MinInt, math.MaxInt, math.MinInt},
		{"the least int, a low below 0", 1, math.MinInt, -10, 10, -10},
		{"half of the least int", 1, math.MinInt / 2, math.MinInt, math.MaxInt, math.MinInt / 2},
		{"half of the least int, and one less", 1, math.MinInt/2 - 1, -10, 10, -10},
	} {
		for _, w := range []api.Window{usual(), {}, {Una: far, Size: size, Edge: far, Wl1: far, Wl2: last, Most: size}} {
			w.Tries = c.tries
			if got := window.Wait(w, c.rto, c.low, c.high); got != c.want {
				t.Errorf("%s: %d, want %d", c.name, got, c.want)
			}
		}
	}
}
