package judge_test

import (
	"bytes"
	"slices"
	"testing"

	"tideway/api"
	"tideway/judge"
	"tideway/link"
)

// P25.4: bytes of a log are those of its parts together.

// cut answers a text's parts from a base on, cut in some way, in some order, some of them twice.
func (d *dice) cut(text []byte, base int) []api.Sent {
	var parts []api.Sent
	for from := 0; from < len(text); {
		n := min(1+d.below(d.of(1, 5, 100)), len(text)-from)
		parts = append(parts, carry(base+from, string(text[from:from+n])))
		from += n
	}
	var l []api.Sent
	for _, i := range d.turn(len(parts)) {
		l = append(l, parts[i])
	}
	for range d.of(0, 0, d.below(1+len(l))) {
		l = slices.Insert(l, d.below(1+len(l)), l[d.below(len(l))])
	}
	return l
}

func TestTextsAreToldBack(t *testing.T) {
	t.Parallel()
	d := dice{21}
	for range 3000 {
		text := d.bytes(d.below(400), 256)
		base := d.of(0, 0, d.below(1000), most-len(text))
		l := d.cut(text, base)
		var want []api.Piece
		if len(text) > 0 {
			want = pieces(piece(base, string(text)))
		}
		wantBytes(t, l, want, true)
	}
}

// A text's parts of which some were never sent are told back too, those that were.
func TestTextsWithGapsAreToldBack(t *testing.T) {
	t.Parallel()
	d := dice{22}
	for range 3000 {
		text := d.bytes(1+d.below(300), 256)
		l := d.cut(text, 0)
		l = l[:d.below(len(l)+1)]
		stands := map[int]byte{}
		var offsets []int
		for _, s := range judge.Cover(l) {
			for o := s.From; o < s.To; o++ {
				stands[o] = text[o]
				offsets = append(offsets, o)
			}
		}
		wantBytes(t, l, plainPieces(stands, offsets), true)
	}
}

// together lays pieces of parts over one another.
func together(parts ...[]api.Piece) ([]api.Piece, bool) {
	stands := map[int]byte{}
	var offsets []int
	for _, x := range slices.Concat(parts...) {
		for i, b := range x.Data {
			if was, ok := stands[x.From+i]; ok && was != b {
				return nil, false
			} else if !ok {
				offsets = append(offsets, x.From+i)
			}
			stands[x.From+i] = b
		}
	}
	return plainPieces(stands, offsets), true
}

func TestPartsTogether(t *testing.T) {
	t.Parallel()
	d := dice{23}
	for range 5000 {
		l := d.carried(d.bytes(1+d.below(200), d.of(2, 256)), d.below(100))
		n, m := d.below(len(l)+1), d.below(len(l)+1)
		n, m = min(n, m), max(n, m)
		a, ok := judge.Bytes(l[:n])
		b, ok2 := judge.Bytes(l[n:m])
		c, ok3 := judge.Bytes(l[m:])
		want, ok4 := together(a, b, c)
		if ok = ok && ok2 && ok3 && ok4; !ok {
			want = nil
		}
		wantBytes(t, l, want, ok)
		turned := slices.Clone(l)
		slices.Reverse(turned)
		wantBytes(t, turned, want, ok)
		wantBytes(t, slices.Concat(l, turned), want, ok)
	}
}

// What a link sends is judged as the document's promises W3, W5 and W6 say.

// script is a link in a script's hand, with what was written and sent, and the edges at each place of what was sent.
type script struct {
	l       *link.Link
	written []byte
	sent    []api.Sent
	edges   []int
}

// do does an event.
func (s *script) do(e api.Event) {
	was := s.l.View().Accepted
	edge := s.l.Recv().Edge
	s.l.Do(e)
	s.written = append(s.written, e.Data[:s.l.View().Accepted-was]...)
	for _, x := range s.l.Sent() {
		s.sent = append(s.sent, x)
		s.edges = append(s.edges, edge)
	}
}

// some does an event that is thrown: no bit is turned.
func (s *script) some(d *dice) {
	v := s.l.View()
	switch d.below(9) {
	case 0, 1:
		s.do(api.Event{Kind: api.EvWrite, Data: d.bytes(d.below(60), 256)})
	case 2:
		s.do(api.Event{Kind: api.EvTick, At: d.of(0, d.below(1000), d.below(100000))})
	case 3, 4:
		s.do(api.Event{Kind: api.EvForth, At: d.below(v.Forth + 1)})
	case 5, 6:
		s.do(api.Event{Kind: api.EvBack, At: d.below(v.Back + 1)})
	case 7:
		s.do(api.Event{Kind: api.EventKind(d.of(int(api.EvLose), int(api.EvLoseAck), int(api.EvDouble), int(api.EvDoubleAck)))})
	case 8:
		s.do(api.Event{Kind: api.EvRead, At: d.below(100)})
	}
}

// paced answers when which bytes were sent, but for those that a pace does not hold.
func (s *script) paced(l []api.Entry) []api.Entry {
	for _, x := range s.l.Sent() {
		if x.Why == api.WhyNew || x.Why == api.WhyAgain {
			l = append(l, api.Entry{At: s.l.View().Now, V: x.To - x.From})
		}
	}
	return l
}

func TestWhatALinkSends(t *testing.T) {
	t.Parallel()
	d := dice{24}
	for range 300 {
		c := api.Config{
			Mss: 8 + d.below(20), Cap: 1 + d.below(2000), Rcv: 20 + d.below(500), Cc: api.CcKind(1 + d.below(3)),
			Nagle: d.below(2) == 0, Stamps: d.below(2) == 0, Sacks: d.below(2) == 0, Iss: 1<<32 - 100,
			Low: 1000, High: 60000, First: 1 + d.below(4), Burst: 50, Floor: 1000,
		}
		l, e := link.New(c)
		if e != api.OK {
			t.Fatal(e)
		}
		s := &script{l: l}
		for range 200 {
			s.some(&d)
		}
		if !judge.Prefix(s.written, l.Got()) {
			t.Fatalf("%+v: what was read was not written", c)
		}
		if i := judge.Over(s.sent, s.edges); i >= 0 {
			t.Fatalf("%+v: %+v is beyond %d", c, s.sent[i], s.edges[i])
		}
		s.judgeBytes(t)
	}
}

// judgeBytes asks that the bytes sent are those that were written, as many as the offsets that were sent for.
func (s *script) judgeBytes(t *testing.T) {
	got, ok := judge.Bytes(s.sent)
	row := judge.Cover(s.sent)
	if !ok || len(got) != len(row) {
		t.Fatalf("Bytes of what a link sent: %v, %v; %v", got, ok, row)
	}
	for i, x := range got {
		if x.From != row[i].From || !bytes.Equal(x.Data, s.written[row[i].From:row[i].To]) {
			t.Fatalf("other bytes were sent at %v than were written", row[i])
		}
	}
	n := 0
	for why := api.WhyNew; why <= api.WhyPersist; why++ {
		n += judge.Count(s.sent, why)
	}
	if n != len(s.sent) {
		t.Fatalf("some were sent for no reason")
	}
}

// A link with a pace keeps it; one without sends a whole window at once.
func TestPaceOfALink(t *testing.T) {
	t.Parallel()
	for _, pace := range []bool{true, false} {
		l, e := link.New(api.Config{
			Mss: 10, Cap: 5000, Rcv: 5000, Cc: api.Reno, Low: 1000000, High: 60000000, First: 30, Burst: 50, Floor: 100000, Pace: pace,
		})
		if e != api.OK {
			t.Fatal(e)
		}
		s := &script{l: l}
		s.do(api.Event{Kind: api.EvWrite, Data: make([]byte, 2000)})
		log := s.paced(nil)
		for range 200 {
			s.do(api.Event{Kind: api.EvTick, At: 7})
			log = s.paced(log)
		}
		// Twice the 300 of a first window each millisecond, as nothing is known of round trips.
		if len(log) != 30 || judge.Paced(log, 600000, 51) != pace {
			t.Errorf("%d were sent, with a pace that is kept: not %v", len(log), pace)
		}
	}
}
