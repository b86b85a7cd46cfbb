package link_test

import (
	"bytes"
	"math"
	"testing"

	"tideway/api"
	"tideway/link"
	"tideway/recv"
	"tideway/wire"
)

// sending answers a link with five datagrams on their way to the receiver.
func sending(t *testing.T, c api.Config) *link.Link {
	t.Helper()
	c.First, c.Burst = 5, 50
	l := made(t, c)
	does(t, l, write(text(50)))
	if l.View().Forth != 5 {
		t.Fatal(l.View())
	}
	return l
}

// replying answers a link with five datagrams on their way to the sender.
func replying(t *testing.T, c api.Config) *link.Link {
	t.Helper()
	l := sending(t, c)
	for range 5 {
		does(t, l, tick(10), forth(0))
	}
	if v := l.View(); v.Forth != 0 || v.Back != 5 {
		t.Fatal(v)
	}
	return l
}

// less answers a row without the one at a place.
func less(l []api.Datagram, at int) []api.Datagram {
	return append(bytesOf(l[:at]), bytesOf(l[at+1:])...)
}

// bytesOf answers a copy of a row.
func bytesOf(l []api.Datagram) []api.Datagram { return append([]api.Datagram{}, l...) }

// kinds answers the events that are of what is in flight: those of the way forth, or back.
func kinds(isForth bool) []api.EventKind {
	if isForth {
		return []api.EventKind{api.EvForth, api.EvLose, api.EvDouble, api.EvSpoil}
	}
	return []api.EventKind{api.EvBack, api.EvLoseAck, api.EvDoubleAck, api.EvSpoilAck}
}

func TestNoPlace(t *testing.T) {
	each(t, small(), func(t *testing.T, c api.Config) {
		for _, l := range []*link.Link{made(t, c), sending(t, c), replying(t, c)} {
			v := l.View()
			for _, at := range []int{-1, math.MinInt, math.MaxInt} {
				for _, k := range append(kinds(true), kinds(false)...) {
					refuses(t, l, api.Event{Kind: k, At: at, Draw: at}, api.ErrNet)
				}
			}
			for _, k := range kinds(true) {
				refuses(t, l, api.Event{Kind: k, At: v.Forth}, api.ErrNet)
				refuses(t, l, api.Event{Kind: k, At: v.Forth + 1, Draw: -1}, api.ErrNet)
			}
			for _, k := range kinds(false) {
				refuses(t, l, api.Event{Kind: k, At: v.Back}, api.ErrNet)
				refuses(t, l, api.Event{Kind: k, At: v.Back + 1, Draw: -1}, api.ErrNet)
			}
		}
	})
}

// P24.2: EvForth.

func TestForth(t *testing.T) {
	each(t, small(), func(t *testing.T, c api.Config) {
		for at := range 5 {
			l := sending(t, c)
			does(t, l, tick(7))
			was := see(l)
			s, e := wire.Get(was.Forth[at].Data, 1, 2)
			if e != api.OK || s.SrcPort != 1 || s.DstPort != 2 {
				t.Fatal(s, e)
			}
			want, answer, ok, _ := recv.Input(was.Recv, s)
			does(t, l, forth(at))
			is := see(l)
			if !same(is.Recv, want) || !same(is.Forth, less(was.Forth, at)) || !same(is.Tcp, was.Tcp) || len(is.Sent) != 0 {
				t.Fatalf("%d: %+v", at, is)
			}
			answer.SrcPort, answer.DstPort = 2, 1
			b, _ := wire.Put(answer, 2, 1)
			if !ok || !same(is.Back, []api.Datagram{{Data: b, Sent: 7}}) {
				t.Errorf("%d: %+v", at, is.Back)
			}
		}
	})
}

// The bytes of an answer, one by one.
func TestAnswerBytes(t *testing.T) {
	c := small()
	c.Stamps, c.Sacks, c.Shift = true, true, 2
	l := sending(t, c)
	does(t, l, tick(3), forth(2))
	want := []byte{
		0, 2, 0, 1, // the ports
		0, 0, 1, 244, // Irs
		0, 0, 0, 100, // Iss: all is awaited
		0xa0, 16, 0, 250, // ten words; Ack; a window of 1000 by 4
		78, 91, 0, 0, // the checksum
		8, 10, 0, 0, 0, 0, 0, 0, 0, 0, // no stamp is known, as nothing has come in order
		5, 10, 0, 0, 0, 120, 0, 0, 0, 130, // but what stands from 20 up to 30
	}
	if x := l.Back(); len(x) != 1 || !bytes.Equal(x[0].Data, want) || x[0].Sent != 3 {
		t.Errorf("%v\nnot\n%v", x, want)
	}
}

// Whatever bit is turned, the receiver does not take it; turned twice, it is right again.
func TestForthSpoilt(t *testing.T) {
	for _, n := range []int{0, 47} {
		c := flagged(small(), n)
		l := sending(t, c)
		bits := 8 * len(l.Forth()[1].Data)
		for bit := range bits {
			l := sending(t, c)
			was := see(l)
			spoilt := api.Event{Kind: api.EvSpoil, At: 1, Draw: bit}
			does(t, l, spoilt)
			b := bytes.Clone(was.Forth[1].Data)
			b[bit/8] ^= 1 << (bit % 8)
			if is := see(l); is.View.Forth != 5 || !bytes.Equal(is.Forth[1].Data, b) || is.Forth[1].Sent != was.Forth[1].Sent {
				t.Fatal(bit, is.Forth[1])
			}
			does(t, l, forth(1))
			if is := see(l); !same(is.Recv, was.Recv) || len(is.Back) != 0 || !same(is.Forth, less(was.Forth, 1)) {
				t.Fatal(bit, is)
			}
		}
		twice, once := sending(t, c), sending(t, c)
		for _, bit := range []int{0, bits / 2, bits - 1} {
			e := api.Event{Kind: api.EvSpoil, At: 1, Draw: bit}
			does(t, twice, e, e)
		}
		does(t, twice, forth(1))
		does(t, once, forth(1))
		if !same(see(twice), see(once)) || once.View().Back != 1 {
			t.Error(difference(see(twice), see(once)))
		}
	}
}

// P24.2: EvBack.

func TestBack(t *testing.T) {
	each(t, small(), func(t *testing.T, c api.Config) {
		for at := range 5 {
			l := replying(t, c)
			was := see(l)
			want, o := stepped(l, api.InSegment, 0, was.Back[at].Data)
			does(t, l, back(at))
			is := see(l)
			if !same(is.Tcp, want) || !same(is.Sent, o.Sent) || !same(is.Back, less(was.Back, at)) || !same(is.Recv, was.Recv) {
				t.Fatalf("%d: %+v", at, is)
			}
			if is.Tcp.Ring.Base != 10*(at+1) {
				t.Error(at, is.Tcp.Ring.Base)
			}
		}
	})
}

func TestBackSpoilt(t *testing.T) {
	for _, n := range []int{0, 47} {
		c := flagged(small(), n)
		l := replying(t, c)
		bits := 8 * len(l.Back()[4].Data)
		for bit := range bits {
			l := replying(t, c)
			was := see(l)
			does(t, l, api.Event{Kind: api.EvSpoilAck, At: 4, Draw: bit})
			b := bytes.Clone(was.Back[4].Data)
			b[bit/8] ^= 1 << (bit % 8)
			want, _ := stepped(l, api.InSegment, 0, b)
			if is := see(l); is.View.Back != 5 || !bytes.Equal(is.Back[4].Data, b) {
				t.Fatal(bit, is.Back[4])
			}
			does(t, l, back(4))
			if is := see(l); !same(is.Tcp, want) || is.Tcp.Ring.Base != 0 || !same(is.Back, less(was.Back, 4)) {
				t.Fatal(bit, is)
			}
		}
		twice, once := replying(t, c), replying(t, c)
		e := api.Event{Kind: api.EvSpoilAck, At: 4, Draw: bits - 1}
		does(t, twice, e, e, back(4))
		does(t, once, back(4))
		if !same(see(twice), see(once)) || once.Tcp().Ring.Base != 50 {
			t.Error(difference(see(twice), see(once)))
		}
	}
}

// P24.2: EvForge.

func TestForge(t *testing.T) {
	each(t, small(), func(t *testing.T, c api.Config) {
		right := answered(t, sending(t, c), 30, 700)
		ahead := answered(t, sending(t, c), 51, 700)
		turned := bytes.Clone(right)
		turned[5] ^= 1
		for n, x := range []struct {
			data []byte
			base int
		}{{nil, 0}, {text(10), 0}, {text(60), 0}, {turned, 0}, {ahead, 0}, {right, 30}} {
			l := sending(t, c)
			was := see(l)
			want, o := stepped(l, api.InSegment, 0, x.data)
			does(t, l, api.Event{Kind: api.EvForge, Data: x.data, At: -5, Draw: -5})
			is := see(l)
			if !same(is.Tcp, want) || !same(is.Sent, o.Sent) || is.Tcp.Ring.Base != x.base || !same(is.Recv, was.Recv) {
				t.Fatalf("%d: %+v", n, is)
			}
			if len(is.Back) != 0 || len(is.Forth) != 5+len(o.Sent) {
				t.Errorf("%d: %+v", n, is.View)
			}
		}
	})
}

// P24.2: EvLose, EvDouble, EvSpoil, and those of acknowledgements.

func TestLose(t *testing.T) {
	for at := range 5 {
		l := sending(t, small())
		want := see(l)
		want.Forth, want.View.Forth = less(want.Forth, at), 4
		does(t, l, api.Event{Kind: api.EvLose, At: at, Draw: -1})
		if is := see(l); !same(is, want.unsent()) {
			t.Error(at, difference(is, want.unsent()))
		}
		l = replying(t, small())
		want = see(l)
		want.Back, want.View.Back = less(want.Back, at), 4
		does(t, l, api.Event{Kind: api.EvLoseAck, At: at, Draw: -1})
		if is := see(l); !same(is, want.unsent()) {
			t.Error(at, difference(is, want.unsent()))
		}
	}
}

func TestDouble(t *testing.T) {
	for at := range 5 {
		l := sending(t, small())
		does(t, l, tick(3))
		want := see(l)
		want.Forth, want.View.Forth = append(want.Forth, want.Forth[at]), 6
		does(t, l, api.Event{Kind: api.EvDouble, At: at, Draw: -1})
		if is := see(l); !same(is, want.unsent()) || is.Forth[5].Sent != 0 {
			t.Error(at, difference(is, want.unsent()))
		}
		// The two are two: what is turned in one stays in the other.
		b := bytes.Clone(want.Forth[at].Data)
		does(t, l, api.Event{Kind: api.EvSpoil, At: 5, Draw: 9})
		if !bytes.Equal(l.Forth()[at].Data, b) || bytes.Equal(l.Forth()[5].Data, b) {
			t.Error(at, "the same memory")
		}
		l = replying(t, small())
		want = see(l)
		want.Back, want.View.Back = append(want.Back, want.Back[at]), 6
		does(t, l, api.Event{Kind: api.EvDoubleAck, At: at, Draw: -1})
		if is := see(l); !same(is, want.unsent()) {
			t.Error(at, difference(is, want.unsent()))
		}
	}
}

func TestNoBit(t *testing.T) {
	l, r := sending(t, small()), replying(t, small())
	n, m := 8*len(l.Forth()[2].Data), 8*len(r.Back()[2].Data)
	for _, bit := range []int{-1, math.MinInt, math.MaxInt} {
		refuses(t, l, api.Event{Kind: api.EvSpoil, At: 2, Draw: bit}, api.ErrArg)
		refuses(t, r, api.Event{Kind: api.EvSpoilAck, At: 2, Draw: bit}, api.ErrArg)
	}
	refuses(t, l, api.Event{Kind: api.EvSpoil, At: 2, Draw: n}, api.ErrArg)
	refuses(t, r, api.Event{Kind: api.EvSpoilAck, At: 2, Draw: m}, api.ErrArg)
	does(t, l, api.Event{Kind: api.EvSpoil, At: 2, Draw: n - 1}, api.Event{Kind: api.EvSpoil, At: 2, Draw: 0})
	does(t, r, api.Event{Kind: api.EvSpoilAck, At: 2, Draw: m - 1}, api.Event{Kind: api.EvSpoilAck, At: 2, Draw: 0})
}

// P24.2: what finds no room is lost.

// fills doubles what is first on its way till there is room for so many more.
func fills(t *testing.T, l *link.Link, kind api.EventKind, n int) {
	t.Helper()
	for range n {
		if e := l.Do(api.Event{Kind: kind}); e != api.OK {
			t.Fatal(e)
		}
	}
}

func TestNoRoomForth(t *testing.T) {
	t.Parallel()
	l := made(t, small())
	does(t, l, write(text(5)))
	fills(t, l, api.EvDouble, api.MaxFlight-2)
	does(t, l, tick(1))
	// There is room for one more.
	want, o := stepped(l, api.InWrite, 0, text(10))
	does(t, l, write(text(10)))
	if len(o.Sent) != 1 || l.View().Forth != api.MaxFlight || !same(l.Tcp(), want) {
		t.Fatal(l.View(), o)
	}
	last := l.Forth()[api.MaxFlight-1]
	if !bytes.Equal(last.Data, o.Sent[0].Data) || last.Sent != 1 {
		t.Error(last)
	}
	refuses(t, l, api.Event{Kind: api.EvDouble, At: 3}, api.ErrFull)
	refuses(t, l, api.Event{Kind: api.EvDouble, At: api.MaxFlight}, api.ErrNet)
	refuses(t, l, api.Event{Kind: api.EvDouble, At: -1}, api.ErrNet)
	// And now for none: it is sent, and lost.
	was := l.Forth()
	want, o = stepped(l, api.InClose, 0, nil)
	does(t, l, closes)
	if len(o.Sent) != 1 || !same(l.Sent(), o.Sent) || !same(l.Tcp(), want) || !same(l.Forth(), was) {
		t.Error(l.View(), l.Sent())
	}
	// What goes makes room.
	does(t, l, api.Event{Kind: api.EvLose, At: 7}, tick(200000))
	if v := l.View(); v.Forth != api.MaxFlight || len(l.Sent()) == 0 {
		t.Error(v)
	}
}

func TestRoomForSome(t *testing.T) {
	t.Parallel()
	c := small()
	c.First, c.Burst = 4, 100
	l := made(t, c)
	does(t, l, write(text(8)))
	fills(t, l, api.EvDouble, api.MaxFlight-3)
	does(t, l, write(text(30)))
	sent := l.Sent()
	if len(sent) != 3 || l.View().Forth != api.MaxFlight {
		t.Fatal(l.View(), len(sent))
	}
	for i, d := range l.Forth()[api.MaxFlight-2:] {
		if !bytes.Equal(d.Data, sent[i].Data) {
			t.Error("not in order:", i)
		}
	}
}

func TestNoRoomBack(t *testing.T) {
	t.Parallel()
	c := small()
	c.Rcv = 20
	l := made(t, c)
	does(t, l, write(text(20)), forth(0))
	fills(t, l, api.EvDoubleAck, api.MaxFlight-1)
	refuses(t, l, api.Event{Kind: api.EvDoubleAck, At: 3}, api.ErrFull)
	refuses(t, l, api.Event{Kind: api.EvDoubleAck, At: api.MaxFlight}, api.ErrNet)
	was := l.Back()
	does(t, l, forth(0))
	if r := l.Recv(); len(r.Unread) != 20 || l.View().Back != api.MaxFlight || !same(l.Back(), was) {
		t.Error(r, l.View())
	}
	// What is read is told, and lost likewise.
	does(t, l, read(20))
	if r := l.Recv(); r.Edge != 40 || !same(l.Back(), was) || string(l.Got()) != string(text(20)) {
		t.Error(r, l.View())
	}
	does(t, l, back(0))
	if v := l.View(); v.Back != api.MaxFlight-1 {
		t.Error(v)
	}
}

// P24.2: EvRead.

func TestRead(t *testing.T) {
	each(t, small(), func(t *testing.T, c api.Config) {
		c.Rcv = 50
		l := replying(t, c)
		got := 0
		for _, n := range []int{0, -1, math.MinInt, 1, 9, 0, 5, 20, 1000, 3, math.MaxInt} {
			was := see(l)
			want, data, answer, ok, _ := recv.Read(was.Recv, n)
			does(t, l, tick(1))
			was = see(l)
			does(t, l, read(n))
			is := see(l)
			got += len(data)
			if !same(is.Recv, want) || !bytes.Equal(is.Got, text(50)[:got]) || is.View.Read != got || !same(is.Tcp, was.Tcp) {
				t.Fatalf("%d: %+v", n, is)
			}
			if !ok {
				if !same(is.Back, was.Back) {
					t.Errorf("%d: told", n)
				}
				continue
			}
			answer.SrcPort, answer.DstPort = 2, 1
			b, _ := wire.Put(answer, 2, 1)
			if !same(is.Back, append(was.Back, api.Datagram{Data: b, Sent: is.View.Now})) {
				t.Errorf("%d: %+v", n, is.Back)
			}
		}
		if v := l.View(); got != 50 || v.Back != 6 {
			t.Error(got, v)
		}
	})
}
