package sender_test

import (
	"reflect"
	"slices"
	"testing"

	"tideway/api"
	"tideway/sender"
)

// TestWorlds holds each step of long rows of things against the words, of all kinds of senders and paths.
func TestWorlds(t *testing.T) {
	t.Parallel()
	for n := range 400 {
		d := &dice{uint64(n)}
		w := newWorld(t, d, config(d))
		w.bad = d.of(0, 3, 10, 40)
		w.forged = d.yes(3)
		for range 300 {
			w.stir()
		}
	}
}

// thrown answers a number that stands in a place where n did.
func (d *dice) thrown(n int) int {
	switch d.below(4) {
	case 0:
		return n + d.of(1, -1, 2, -2, 10, -10, 1000)
	case 1:
		return d.of(0, 1, 2, 3, 4, 7, 8, 14, 15, 16, 20, 100, 1000)
	case 2:
		return d.below(1 << (1 + d.below(30)))
	}
	return d.of(maxSize, maxOffset, lastNow, 1<<45, 1<<40, 1<<51, 1<<60, 60000, 65000, 65535) + d.of(0, 0, 1, -1)
}

// change puts something else into one place of a value.
func (d *dice) change(v reflect.Value) {
	switch v.Kind() {
	case reflect.Struct:
		d.change(v.Field(d.below(v.NumField())))
	case reflect.Int:
		v.SetInt(int64(d.thrown(int(v.Int()))))
	case reflect.Uint32:
		v.SetUint(uint64(uint32(d.thrown(int(v.Uint())))))
	case reflect.Uint8:
		v.SetUint(uint64(d.below(256)))
	case reflect.Bool:
		v.SetBool(!v.Bool())
	case reflect.Slice:
		n := v.Len()
		switch {
		case n > 0 && !d.yes(4):
			d.change(v.Index(d.below(n)))
		case n > 0 && d.yes(2):
			v.Set(v.Slice(d.below(2), max(1, n-d.below(2))))
		default:
			x := reflect.New(v.Type().Elem()).Elem()
			if n > 0 {
				x.Set(v.Index(n - 1))
			}
			d.change(x)
			v.Set(reflect.Append(v, x))
		}
	}
}

// anyIn answers something that may happen to a sender, or may not.
func (w *world) anyIn() api.In {
	in := api.In{Kind: api.InKind(w.d.of(1, 2, 3, 4, 4, 4, 4, 0, 5, -1)), Now: w.s.Now}
	switch w.d.below(5) {
	case 0:
		in.Now = w.d.thrown(in.Now)
	case 1:
		in.Now += w.d.below(1 << w.d.below(25))
	case 2:
		if n := len(w.s.Timers); n > 0 {
			in.Now = max(in.Now, w.s.Timers[w.d.below(n)].At)
		}
	}
	switch in.Kind {
	case api.InSegment:
		in.Data = w.forge()
	default:
		in.Data = w.d.bytes(w.d.below(50))
	}
	return in
}

// TestThrownStates holds Check against the words of what rows of things lead to, with a few of its numbers changed, and
// Step of those that may be.
func TestThrownStates(t *testing.T) {
	t.Parallel()
	passed, refused := 0, 0
	for n := range 150 {
		d := &dice{uint64(n + 5000)}
		w := newWorld(t, d, config(d))
		w.bad = d.of(0, 3, 10)
		for range 100 {
			w.stir()
			keep := w.s
			for range 10 {
				w.s = copied(keep)
				for range 1 + d.below(3) {
					d.change(reflect.ValueOf(&w.s).Elem())
				}
				e := sender.Check(w.s)
				if want := wantCheck(w.s); e != want {
					t.Fatalf("Check of %+v: %v, not %v", w.s, e, want)
				}
				if e != api.OK {
					refused++
					in := api.In{Kind: api.InTick, Now: w.s.Now}
					step(t, w.s, in)
					continue
				}
				passed++
				step(t, w.s, w.anyIn())
			}
			w.s = keep
		}
	}
	if passed < 50000 || refused < 50000 {
		t.Error(passed, refused)
	}
}

// TestThrownConfigs holds Valid against the words.
func TestThrownConfigs(t *testing.T) {
	t.Parallel()
	valid := 0
	for n := range 200000 {
		d := &dice{uint64(n)}
		c := config(d)
		for range 1 + d.below(2) {
			d.change(reflect.ValueOf(&c).Elem())
		}
		e := sender.Valid(c)
		if want := wantValid(c); e != want {
			t.Fatalf("Valid of %+v: %v, not %v", c, e, want)
		}
		x, e2 := sender.New(c)
		if e2 != e || sender.Check(x) != map[bool]api.Errno{true: api.OK, false: api.ErrState}[e == api.OK] {
			t.Fatalf("New of %+v: %v", c, e2)
		}
		if e == api.OK {
			valid++
		} else if !same(x, api.Tcp{}) {
			t.Fatalf("New of %+v: %v, and %+v", c, e2, x)
		}
	}
	if valid < 20000 {
		t.Error(valid)
	}
}

// TestAllRefused asks a zero sender, and what no call made.
func TestAllRefused(t *testing.T) {
	zero := api.Tcp{}
	if sender.Check(zero) != api.ErrState || sender.Una(zero) != 0 || sender.Top(zero) != 0 {
		t.Error("a zero sender")
	}
	for _, kind := range slices.Concat(kinds(), []api.InKind{0, 5}) {
		x, o := sender.Step(zero, api.In{Kind: kind, Data: []byte("ab")})
		if !same(x, zero) || !sameOut(o, api.Out{Err: api.ErrState}) {
			t.Error(kind, x, o)
		}
	}
}

// kinds answers all that may happen to a sender.
func kinds() []api.InKind {
	return []api.InKind{api.InWrite, api.InClose, api.InTick, api.InSegment}
}
