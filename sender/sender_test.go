package sender_test

import (
	"testing"

	"tideway/api"
	"tideway/sender"
	"tideway/wire"
)

// base answers a configuration that tests begin with: its numbers go across the turn.
func base() api.Config {
	return api.Config{
		Mss: 10, Cap: 1000, Rcv: 1000, Cc: api.Reno, Sacks: true, Iss: 4294967290, Irs: 4294967295,
		Low: 1000, High: 60000000, First: 5, Burst: 20, Floor: 1000,
	}
}

// fresh answers a new sender.
func fresh(t *testing.T, c api.Config) api.Tcp {
	t.Helper()
	s, e := sender.New(c)
	if e != api.OK {
		t.Fatal(c, e)
	}
	return s
}

// write has bytes written at a time.
func write(t *testing.T, s api.Tcp, now int, n int) (api.Tcp, api.Out) {
	t.Helper()
	b := make([]byte, n)
	for i := range b {
		b[i] = byte(s.Ring.Base + len(s.Ring.Data) + i)
	}
	return step(t, s, api.In{Kind: api.InWrite, Now: now, Data: b})
}

// tick lets time pass.
func tick(t *testing.T, s api.Tcp, now int) (api.Tcp, api.Out) {
	t.Helper()
	return step(t, s, api.In{Kind: api.InTick, Now: now})
}

// shut tells the end.
func shut(t *testing.T, s api.Tcp, now int) (api.Tcp, api.Out) {
	t.Helper()
	return step(t, s, api.In{Kind: api.InClose, Now: now})
}

// flying answers a sender of whose segments of 10 bytes n are on their way, one sent at each of the first microseconds.
func flying(t *testing.T, c api.Config, n int) api.Tcp {
	t.Helper()
	s := fresh(t, c)
	s.Cc.Cwnd = max(s.Cc.Cwnd, n*10)
	for i := range n {
		s, _ = write(t, s, i, 10)
	}
	if len(s.Recs) != n {
		t.Fatal(len(s.Recs), n)
	}
	return s
}

// pair is a block's ends, as offsets.
type pair [2]int

// told is what a segment of the peer's tells.
type told struct {
	ack    int
	win    int
	val    int // ahead of the sender's Recent
	rtt    int // how long ago what it echoes was sent, if it is above 0
	blocks []pair
}

// segment answers such a segment, at a time.
func (x told) segment(s api.Tcp, now int) api.Segment {
	c := s.Config
	y := api.Segment{
		SrcPort: 2, DstPort: 1, Seq: c.Irs + uint32(s.Peer), Ack: c.Iss + uint32(x.ack),
		Flags: api.Ack, Win: x.win, Mss: -1, Scale: -1,
	}
	if c.Stamps {
		y.Stamped, y.Val, y.Ecr = true, s.Recent+uint32(x.val), uint32(now-x.rtt)
	}
	for _, b := range x.blocks {
		y.Sacks = append(y.Sacks, api.Block{From: c.Iss + uint32(b[0]), To: c.Iss + uint32(b[1])})
	}
	return y
}

// put writes a segment of the peer's.
func put(t *testing.T, s api.Segment) []byte {
	t.Helper()
	b, e := wire.Put(s, 2, 1)
	if e != api.OK {
		t.Fatal(s, e)
	}
	return b
}

// hear has such a segment come at a time.
func hear(t *testing.T, s api.Tcp, now int, x told) (api.Tcp, api.Out) {
	t.Helper()
	return step(t, s, api.In{Kind: api.InSegment, Now: now, Data: put(t, x.segment(s, now))})
}

// at answers when a timer goes off, -1 where it does not run.
func at(s api.Tcp, kind api.TimerKind) int {
	for _, x := range s.Timers {
		if x.Kind == kind {
			return x.At
		}
	}
	return -1
}

// sent is a segment that was sent, in few words.
type sent struct {
	why      api.Why
	from, to int
}

// went answers what was sent, in few words.
func went(o api.Out) []sent {
	var l []sent
	for _, x := range o.Sent {
		l = append(l, sent{x.Why, x.From, x.To})
	}
	return l
}

// wantWent holds what was sent against what is to be.
func wantWent(t *testing.T, o api.Out, want ...sent) {
	t.Helper()
	got := went(o)
	if len(got) != len(want) {
		t.Fatalf("sent %v, not %v", got, want)
	}
	for i, x := range got {
		if x != want[i] {
			t.Fatalf("sent %v, not %v", got, want)
		}
	}
}

// P23.1: Valid

func TestValid(t *testing.T) {
	for name, x := range map[string]struct {
		set       func(c *api.Config, n int)
		good, bad []int
	}{
		"Mss":   {func(c *api.Config, n int) { c.Mss, c.Burst = n, 70000 }, []int{8, 9, 60000}, []int{7, 0, -8, 60001}},
		"Cap":   {func(c *api.Config, n int) { c.Cap = n }, []int{1, 1 << 30}, []int{0, -1, 1<<30 + 1}},
		"Rcv":   {func(c *api.Config, n int) { c.Rcv = n }, []int{1, 1 << 30}, []int{0, -1, 1<<30 + 1}},
		"Shift": {func(c *api.Config, n int) { c.Rcv, c.Shift = 1<<20, n }, []int{0, 1, 14}, []int{-1, 15, -1 << 63, 64}},
		"Steps": {func(c *api.Config, n int) { c.Rcv, c.Shift = n, 14 }, []int{1 << 14, 1<<15 - 1}, []int{1<<14 - 1, 1}},
		"Cc":    {func(c *api.Config, n int) { c.Cc = api.CcKind(n) }, []int{1, 2, 3}, []int{0, 4, -1}},
		"Low":   {func(c *api.Config, n int) { c.Low, c.High = n, 500 }, []int{1, 499, 500}, []int{0, -1, 501}},
		"High":  {func(c *api.Config, n int) { c.High = n }, []int{1000, 1 << 45}, []int{999, 0, 1<<45 + 1}},
		"First": {func(c *api.Config, n int) { c.First = n }, []int{1, 100}, []int{0, -1, 101}},
		"Burst": {func(c *api.Config, n int) { c.Burst = n }, []int{10, 1 << 30}, []int{9, 0, -1, 1<<30 + 1}},
		"Floor": {func(c *api.Config, n int) { c.Floor = n }, []int{1, 1 << 40}, []int{0, -1, 1<<40 + 1}},
	} {
		for _, n := range x.good {
			c := base()
			x.set(&c, n)
			if e := sender.Valid(c); e != api.OK {
				t.Error(name, n, e)
			}
			fresh(t, c)
		}
		for _, n := range x.bad {
			c := base()
			x.set(&c, n)
			y, e := sender.New(c)
			if sender.Valid(c) != api.ErrArg || e != api.ErrArg || !same(y, api.Tcp{}) {
				t.Error(name, n, e)
			}
		}
	}
	if sender.Valid(api.Config{}) != api.ErrArg {
		t.Error("a zero one")
	}
}

// P23.1: New

// wantFresh answers what a new sender of base has, field by field, with a controller, and a pace.
func wantFresh(c api.Config, k api.Cc, pace int) api.Tcp {
	return api.Tcp{
		Config: c,
		Ring:   api.Ring{Cap: 1000},
		Rtt:    api.Rtt{Rto: 1000000, Low: 1000, High: 60000000},
		Rack:   api.Rack{Mult: 1},
		Prr:    api.Prr{Flight: 1},
		Cc:     k,
		Pacer:  api.Pacer{Rate: pace, Burst: 20, Tokens: 20000000},
		Window: api.Window{Size: 1000, Edge: 1000, Most: 1000},
		Phase:  api.Open,
	}
}

func TestNew(t *testing.T) {
	for _, x := range []struct {
		k    api.Cc
		pace int
	}{
		{api.Cc{Kind: api.Reno, Mss: 10, Cwnd: 50, Ssthresh: 1 << 30}, 100000},
		{api.Cc{Kind: api.Cubic, Mss: 10, Cwnd: 50, Ssthresh: 1 << 30, Epoch: -1}, 100000},
		{api.Cc{Kind: api.Bbr, Mss: 10, Cwnd: 50, Ssthresh: 1 << 30, Mode: api.Startup}, 144500},
	} {
		for flags := range 16 {
			c := base()
			c.Cc = x.k.Kind
			c.Nagle, c.Stamps, c.Sacks, c.Pace = flags&1 > 0, flags&2 > 0, flags&4 > 0, flags&8 > 0
			if s := fresh(t, c); !same(s, wantFresh(c, x.k, x.pace)) || sender.Check(s) != api.OK {
				t.Errorf("%+v", s)
			}
		}
	}
}

func TestNewNumbers(t *testing.T) {
	c := base()
	c.Floor = 100001
	if s := fresh(t, c); s.Pacer.Rate != 100001 {
		t.Error("the floor:", s.Pacer)
	}
	c.Low, c.High = 3, 5
	if s := fresh(t, c); s.Rtt.Rto != 5 || s.Rtt.Low != 3 || s.Rtt.High != 5 {
		t.Error("the timeout:", s.Rtt)
	}
	for _, x := range [][3]int{
		{1000, 0, 1000}, {1003, 3, 1000}, {8, 3, 8}, {15, 3, 8}, {65535, 0, 65535}, {65536, 0, 65535},
		{1 << 30, 0, 65535}, {1 << 30, 14, 65535 << 14}, {65536, 1, 65536}, {131070, 1, 131070}, {131072, 1, 131070},
	} {
		c.Rcv, c.Shift = x[0], x[1]
		if w := fresh(t, c).Window; w != (api.Window{Size: x[2], Edge: x[2], Most: x[2]}) {
			t.Error("the window:", x, w)
		}
	}
}

// P23.2: Una, Top

func TestUnaTop(t *testing.T) {
	var s api.Tcp
	s.Ring.Base, s.Next = 5, 9
	if sender.Una(s) != 5 || sender.Top(s) != 9 {
		t.Error(sender.Una(s), sender.Top(s))
	}
	s.FinSent = true
	if sender.Una(s) != 5 || sender.Top(s) != 10 {
		t.Error("FinSent:", sender.Una(s), sender.Top(s))
	}
	s.Ring.Base, s.Sure = 9, true
	if sender.Una(s) != 10 || sender.Top(s) != 10 {
		t.Error("Sure:", sender.Una(s), sender.Top(s))
	}
}

// P23.2: Check

// busy answers a sender with five records, the third one sacked, and thirty bytes that wait.
func busy(t *testing.T) api.Tcp {
	t.Helper()
	s := flying(t, base(), 5)
	s, _ = write(t, s, 10, 30)
	s, _ = hear(t, s, 20, told{ack: 0, win: 1000, blocks: []pair{{20, 30}}})
	if len(s.Recs) < 5 || !s.Recs[2].Sacked {
		t.Fatalf("%+v", s)
	}
	return s
}

// ended answers one all of which is sent, and the end with it.
func ended(t *testing.T) api.Tcp {
	t.Helper()
	s := fresh(t, base())
	s, _ = write(t, s, 0, 15)
	s, _ = shut(t, s, 1)
	if !s.FinSent || sender.Top(s) != 16 {
		t.Fatalf("%+v", s)
	}
	return s
}

// sure answers one that knows that all came.
func sure(t *testing.T) api.Tcp {
	t.Helper()
	s, _ := hear(t, ended(t), 100, told{ack: 16, win: 1000})
	if !s.Sure || sender.Una(s) != 16 {
		t.Fatalf("%+v", s)
	}
	return s
}

// judged holds Check against what is to be of a sender with something changed.
func judged(t *testing.T, from func(t *testing.T) api.Tcp, want api.Errno, changes map[string]func(s *api.Tcp)) {
	t.Helper()
	for name, change := range changes {
		s := copied(from(t))
		change(&s)
		if e := sender.Check(s); e != want || wantCheck(s) != want {
			t.Errorf("%s: %v", name, e)
		}
		if want != api.OK {
			tick(t, s, s.Now)
		}
	}
}

func TestCheckParts(t *testing.T) {
	judged(t, busy, api.ErrState, map[string]func(s *api.Tcp){
		"Config":        func(s *api.Tcp) { s.Config.Floor = 0 },
		"Ring":          func(s *api.Tcp) { s.Ring.Cap = 1 },
		"Ring's Cap":    func(s *api.Tcp) { s.Ring.Cap = -1 },
		"Recs, turned":  func(s *api.Tcp) { s.Recs[1].From, s.Recs[1].To = 20, 10 },
		"Recs, a gap":   func(s *api.Tcp) { s.Recs[1].To-- },
		"Recs, Tx":      func(s *api.Tcp) { s.Recs[1].Tx = 0 },
		"Rtt":           func(s *api.Tcp) { s.Rtt.Rto = 0 },
		"Low":           func(s *api.Tcp) { s.Low = []api.Entry{{At: 1, V: 5}, {At: 2, V: 4}} },
		"Low, negative": func(s *api.Tcp) { s.Low = []api.Entry{{At: -1, V: 5}} },
		"Rack":          func(s *api.Tcp) { s.Rack.Mult = 0 },
		"Prr":           func(s *api.Tcp) { s.Prr.Flight = 0 },
		"Cc":            func(s *api.Tcp) { s.Cc.Cwnd = 9 },
		"Cc's Kind":     func(s *api.Tcp) { s.Cc.Kind, s.Cc.Epoch = api.Cubic, -1 },
		"Cc's Mss":      func(s *api.Tcp) { s.Cc.Mss = 9 },
		"Config's Cc":   func(s *api.Tcp) { s.Config.Cc = api.Cubic },
		"Config's Mss":  func(s *api.Tcp) { s.Config.Mss = 9 },
		"Rate":          func(s *api.Tcp) { s.Rate.Given = -1 },
		"Pacer":         func(s *api.Tcp) { s.Pacer.Rate = 0 },
		"Window":        func(s *api.Tcp) { s.Window.Tries = 101 },
		"Timers":        func(s *api.Tcp) { s.Timers = []api.Timer{{Kind: 6, At: 1}} },
		"Timers, twice": func(s *api.Tcp) { s.Timers = []api.Timer{{Kind: 3, At: 1}, {Kind: 3, At: 2}} },
	})
	judged(t, busy, api.OK, map[string]func(s *api.Tcp){
		"nothing":      func(s *api.Tcp) {},
		"Low, rising":  func(s *api.Tcp) { s.Low = []api.Entry{{At: 1, V: 4}, {At: 2, V: 5}} },
		"Low, late":    func(s *api.Tcp) { s.Low = []api.Entry{{At: 1 << 50, V: 1 << 60}} },
		"Rtt's bounds": func(s *api.Tcp) { s.Rtt.Low, s.Rtt.High = 1, 1<<50 },
		"Ring's Cap":   func(s *api.Tcp) { s.Ring.Cap = 1 << 30 },
		"Timers":       func(s *api.Tcp) { s.Timers = []api.Timer{{Kind: 1, At: 1 << 50}, {Kind: 5, At: 0}} },
	})
}

func TestCheckNumbers(t *testing.T) {
	judged(t, busy, api.OK, map[string]func(s *api.Tcp){
		"Phase":  func(s *api.Tcp) { s.Phase = 3 },
		"Phase2": func(s *api.Tcp) { s.Phase = 2 },
		"Now":    func(s *api.Tcp) { s.Now = 1 << 49 },
		"LastAt": func(s *api.Tcp) { s.LastAt = s.Now },
		"High0":  func(s *api.Tcp) { s.High = 0 },
		"High":   func(s *api.Tcp) { s.High = 1<<50 + 1 },
		"Peer":   func(s *api.Tcp) { s.Peer = 1<<50 + 1 },
		"Quota":  func(s *api.Tcp) { s.Quota = 1 << 30 },
	})
	judged(t, busy, api.ErrState, map[string]func(s *api.Tcp){
		"Phase0":    func(s *api.Tcp) { s.Phase = 0 },
		"Phase4":    func(s *api.Tcp) { s.Phase = 4 },
		"Now":       func(s *api.Tcp) { s.Now = 1<<49 + 1 },
		"Now below": func(s *api.Tcp) { s.Now, s.LastAt = -1, -1 },
		"LastAt":    func(s *api.Tcp) { s.LastAt = s.Now + 1 },
		"LastAt-1":  func(s *api.Tcp) { s.LastAt = -1 },
		"High-1":    func(s *api.Tcp) { s.High = -1 },
		"High":      func(s *api.Tcp) { s.High = 1<<50 + 2 },
		"Peer-1":    func(s *api.Tcp) { s.Peer = -1 },
		"Peer":      func(s *api.Tcp) { s.Peer = 1<<50 + 2 },
		"Quota-1":   func(s *api.Tcp) { s.Quota = -1 },
		"Quota":     func(s *api.Tcp) { s.Quota = 1<<30 + 1 },
	})
	judged(t, func(t *testing.T) api.Tcp { return fresh(t, base()) }, api.OK, map[string]func(s *api.Tcp){
		"Now 0": func(s *api.Tcp) { s.Now = 0 },
	})
	judged(t, func(t *testing.T) api.Tcp { return fresh(t, base()) }, api.ErrState, map[string]func(s *api.Tcp){
		"Now -1": func(s *api.Tcp) { s.Now = -1 },
	})
}

func TestCheckStream(t *testing.T) {
	judged(t, busy, api.ErrState, map[string]func(s *api.Tcp){
		"Next below Base":     func(s *api.Tcp) { s.Ring.Base, s.Recs = 60, nil },
		"Next below its Recs": func(s *api.Tcp) { s.Next-- },
		"Next above its Recs": func(s *api.Tcp) { s.Next++ },
		"Next beyond End":     func(s *api.Tcp) { s.Ring.Data = s.Ring.Data[:49] },
		"FinSent, not Closed": func(s *api.Tcp) { s.FinSent = true },
		"FinSent, more data":  func(s *api.Tcp) { s.FinSent, s.Ring.Closed, s.Recs[4].Fin, s.Recs[4].To = true, true, true, 51 },
		"Sure alone":          func(s *api.Tcp) { s.Sure = true },
		"Recs without a head": func(s *api.Tcp) { s.Recs = s.Recs[1:] },
		"Recs without a tail": func(s *api.Tcp) { s.Recs = s.Recs[:4] },
		"no Recs":             func(s *api.Tcp) { s.Recs = nil },
		"Recs ahead of Una":   func(s *api.Tcp) { s.Ring.Base++ },
		"a last one with Fin": func(s *api.Tcp) { s.Recs[4].Fin = true },
	})
	judged(t, busy, api.OK, map[string]func(s *api.Tcp){
		"Closed":         func(s *api.Tcp) { s.Ring.Closed = true },
		"all sent":       func(s *api.Tcp) { s.Ring.Data = s.Ring.Data[:50] },
		"nothing to go":  func(s *api.Tcp) { s.Recs, s.Next = nil, 0 },
		"closed, unsent": func(s *api.Tcp) { s.Recs, s.Next, s.Ring.Closed = nil, 0, true },
	})
	judged(t, ended, api.OK, map[string]func(s *api.Tcp){"nothing": func(s *api.Tcp) {}})
	judged(t, ended, api.ErrState, map[string]func(s *api.Tcp){
		"not Closed":        func(s *api.Tcp) { s.Ring.Closed = false },
		"more data":         func(s *api.Tcp) { s.Ring.Data = append(s.Ring.Data, 1) },
		"not FinSent":       func(s *api.Tcp) { s.FinSent = false },
		"last one, not Fin": func(s *api.Tcp) { s.Recs[len(s.Recs)-1].Fin = false },
		"Sure, not Base":    func(s *api.Tcp) { s.Sure = true },
		"Sure, no Recs":     func(s *api.Tcp) { s.Sure, s.Recs = true, nil },
		"Base at End":       func(s *api.Tcp) { s.Ring.Base, s.Ring.Data, s.Recs = 15, nil, nil },
		"Sure, Base ahead of End": func(s *api.Tcp) {
			s.Ring.Base, s.Ring.Data, s.Sure = 14, []byte{1}, true
			s.Recs = []api.Rec{{From: 15, To: 16, Tx: 1}}
		},
	})
	judged(t, ended, api.OK, map[string]func(s *api.Tcp){
		"all but the end": func(s *api.Tcp) {
			s.Ring.Base, s.Ring.Data = 15, nil
			s.Recs = []api.Rec{{From: 15, To: 16, Fin: true, Tx: 1}}
		},
	})
	judged(t, sure, api.OK, map[string]func(s *api.Tcp){"nothing": func(s *api.Tcp) {}})
	judged(t, sure, api.ErrState, map[string]func(s *api.Tcp){
		"not Sure":     func(s *api.Tcp) { s.Sure = false },
		"not FinSent":  func(s *api.Tcp) { s.FinSent = false },
		"Base not End": func(s *api.Tcp) { s.Ring.Data = []byte{1} },
		"Recs":         func(s *api.Tcp) { s.Recs = []api.Rec{{From: 15, To: 16, Fin: true, Tx: 1}} },
		"Recs beyond":  func(s *api.Tcp) { s.Recs = []api.Rec{{From: 16, To: 17, Tx: 1}} },
	})
}
