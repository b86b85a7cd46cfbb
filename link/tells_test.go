package link_test

import (
	"testing"

	"tideway/api"
	"tideway/sender"
)

// P24.3: what a link tells. That it does so behind each event of long rows is asked in rows_test.go.

// Example 1 of the chapter.
func TestExample(t *testing.T) {
	each(t, small(), func(t *testing.T, c api.Config) {
		l := made(t, c)
		does(t, l, write([]byte("hello")))
		if v := l.View(); v.Forth != 1 || v.Accepted != 5 || v.Back != 0 || v.Read != 0 {
			t.Error(v)
		}
		does(t, l, forth(0))
		if v := l.View(); v.Forth != 0 || v.Back != 1 {
			t.Error(v)
		}
		does(t, l, back(0))
		if v := l.View(); v.Back != 0 || l.Tcp().Ring.Base != 5 {
			t.Error(v)
		}
		does(t, l, read(9))
		if v := l.View(); string(l.Got()) != "hello" || v.Read != 5 || v.Sure || v.Done {
			t.Error(v)
		}
	})
}

// Sent is of the last event alone, whatever that was, and whether it was refused.
func TestSent(t *testing.T) {
	events := []api.Event{
		{Kind: 0}, tick(-1), tick(0), forth(0), forth(99), back(0), back(99), read(1),
		{Kind: api.EvLose}, {Kind: api.EvLose, At: 99}, {Kind: api.EvLoseAck}, {Kind: api.EvLoseAck, At: 99},
		{Kind: api.EvDouble}, {Kind: api.EvDouble, At: 99}, {Kind: api.EvDoubleAck}, {Kind: api.EvDoubleAck, At: 99},
		{Kind: api.EvSpoil}, {Kind: api.EvSpoil, Draw: -1}, {Kind: api.EvSpoilAck}, {Kind: api.EvSpoilAck, Draw: -1},
		{Kind: api.EvForge},
	}
	c := small()
	c.First = 4
	for _, e := range events {
		l := made(t, c)
		does(t, l, write(text(10)), forth(0), write(text(10)))
		if x := l.Sent(); len(x) != 1 || x[0].From != 10 || x[0].To != 20 || x[0].Why != api.WhyNew {
			t.Fatal(x)
		}
		l.Do(e)
		if e.Kind != api.EvBack && len(l.Sent()) != 0 {
			t.Errorf("%+v: %+v", e, l.Sent())
		}
	}
	// Those that send tell it, each with what held then.
	l := made(t, small())
	does(t, l, write(text(45)))
	_, o := sender.Step(made(t, small()).Tcp(), api.In{Kind: api.InWrite, Data: text(45)})
	if x := l.Sent(); !same(x, o.Sent) || len(x) != 2 || x[1].Pipe != 10 || x[1].Cwnd != 20 || x[1].Edge != 1000 {
		t.Errorf("%+v", x)
	}
	does(t, l, forth(0))
	if len(l.Sent()) != 0 {
		t.Error(l.Sent())
	}
	does(t, l, back(0))
	if x := l.Sent(); len(x) != 2 || x[0].From != 20 || x[1].To != 40 {
		t.Errorf("%+v", x)
	}
	does(t, l, closes)
	if len(l.Sent()) != 0 {
		t.Error(l.Sent())
	}
	does(t, l, tick(200000))
	if x := l.Sent(); len(x) == 0 || x[0].Why == api.WhyNew {
		t.Errorf("%+v", x)
	}
}

// Done waits for what is unread, and Sure for the acknowledgement.
func TestDoneAndSure(t *testing.T) {
	each(t, small(), func(t *testing.T, c api.Config) {
		l := made(t, c)
		does(t, l, write(text(5)), forth(0), closes)
		if v := l.View(); v.Done || v.Sure {
			t.Fatal(v)
		}
		does(t, l, back(0))
		for l.View().Forth > 0 {
			does(t, l, forth(0))
		}
		if v := l.View(); v.Done || v.Sure || !l.Recv().Done || len(l.Recv().Unread) != 5 {
			t.Fatal(v)
		}
		does(t, l, read(4))
		if v := l.View(); v.Done || v.Read != 4 {
			t.Fatal(v)
		}
		does(t, l, read(1))
		if v := l.View(); !v.Done || v.Sure {
			t.Fatal(v)
		}
		for l.View().Back > 0 {
			does(t, l, back(0))
		}
		if v := l.View(); !v.Done || !v.Sure || v.Accepted != 5 || v.Read != 5 {
			t.Fatal(v)
		}
	})
	// The sender may be sure ahead of that.
	l := made(t, small())
	does(t, l, write(text(5)), closes, forth(0), forth(0), back(1))
	if v := l.View(); v.Done || !v.Sure || v.Read != 0 {
		t.Error(v)
	}
}
