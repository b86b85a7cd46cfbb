package link_test

import (
	"bytes"
	"testing"

	"tideway/api"
	"tideway/link"
)

// do has a link do an event, and holds it against the words: what it answers, all that it tells behind it, that what is
// handed in stays, and that nothing of either is kept.
func do(t *testing.T, l *link.Link, p *plain, e api.Event) api.Errno {
	t.Helper()
	was := see(l).unsent()
	data := bytes.Clone(e.Data)
	want := p.do(e)
	no := l.Do(e)
	is := see(l)
	if no != want || !same(is, p.see()) {
		t.Fatalf("%+v: answers %v, not %v (%s)\n%+v\nnot\n%+v", e, no, want, difference(is, p.see()), is, p.see())
	}
	if !bytes.Equal(e.Data, data) {
		t.Fatalf("%+v: changed", e)
	}
	// A write that is refused is a step still, and a controller that has nothing to do rests in each.
	if no != api.OK && e.Kind != api.EvWrite && e.Kind != api.EvClose && !same(was, is.unsent()) {
		t.Fatalf("%+v is refused by %v, and changes %s", e, no, difference(was, is.unsent()))
	}
	spoil(e.Data, 0x55)
	spoilAll(is)
	if !same(see(l), p.see()) {
		t.Fatalf("%+v: memory is shared (%s)", e, difference(see(l), p.see()))
	}
	return no
}

// P24.2, P24.3: long rows of all events, with all controllers and all flags.
func TestRows(t *testing.T) {
	t.Parallel()
	met := map[api.EventKind][2]int{}
	for n := range 240 {
		d := &dice{uint64(n + 100)}
		c := flagged(config(d), n)
		l, p, s := made(t, c), newPlain(c), anything(d)
		for range 300 {
			e := s.event(l)
			no := do(t, l, p, e)
			m := met[e.Kind]
			m[min(int(no), 1)]++
			met[e.Kind] = m
		}
	}
	for k := api.EvWrite; k <= api.EvRead; k++ {
		refusable := k != api.EvForge && k != api.EvRead
		if m := met[k]; m[0] < 50 || refusable && m[1] < 20 {
			t.Error("seldom met:", k, m)
		}
	}
}
