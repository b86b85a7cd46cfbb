package board_test

import (
	"math"
	"slices"
	"testing"

	"tideway/api"
	"tideway/board"
)

// Kinds of records, all of them that may be.
var kinds = []struct {
	name                string
	sacked, lost, again bool
}{
	{"none", false, false, false},
	{"Sacked", true, false, false},
	{"Lost", false, true, false},
	{"Lost and Again", false, true, true},
}

// of answers a record of a kind (a place in kinds); its other fields are all of their own, none of them zero.
func of(kind, from, to int) api.Rec {
	k := kinds[kind]
	return api.Rec{From: from, To: to, Sent: from + 100, Tx: from + 2, Sacked: k.sacked, Lost: k.lost, Again: k.again,
		Given: from + 200, GivenAt: from + 300, FirstAt: from + 400, Idle: from%2 == 0}
}

// row answers records side by side from 10 on, of 3, 1, 4, 2 and 5 bytes in turn.
func row(each ...int) []api.Rec {
	sizes := []int{3, 1, 4, 2, 5}
	var l []api.Rec
	at := 10
	for i, kind := range each {
		l = append(l, of(kind, at, at+sizes[i%5]))
		at += sizes[i%5]
	}
	return l
}

// many answers n records of one byte each, from 0 on.
func many(n int) []api.Rec {
	l := make([]api.Rec, n)
	for i := range l {
		l[i] = api.Rec{From: i, To: i + 1, Tx: 1}
	}
	return l
}

// change answers a copy of records, of which the one at a place is changed.
func change(l []api.Rec, at int, f func(x *api.Rec)) []api.Rec {
	l = slices.Clone(l)
	f(&l[at])
	return l
}

// same asks that two rows are alike; nil and empty are.
func same(t *testing.T, name string, got, want []api.Rec) {
	t.Helper()
	if !slices.Equal(got, want) {
		t.Errorf("%s:\ngot  %+v\nwant %+v", name, got, want)
	}
}

// fine asks that a call tells no error.
func fine(t *testing.T, name string, e api.Errno) {
	t.Helper()
	if e != api.OK {
		t.Errorf("%s: error %d", name, e)
	}
}

// refusedAll asks that records may not be, for all ten calls.
func refusedAll(t *testing.T, name string, l []api.Rec) {
	t.Helper()
	before := slices.Clone(l)
	if e := board.Check(l); e != api.ErrBoard {
		t.Errorf("%s: Check = %d", name, e)
	}
	next := api.Rec{To: 1, Tx: 1}
	if len(l) > 0 {
		next.From = l[len(l)-1].To
		next.To = next.From + 1
	}
	if got, e := board.Send(l, next); len(got) > 0 || e != api.ErrBoard {
		t.Errorf("%s: Send = %d records, %d", name, len(got), e)
	}
	// With an argument that may not be either, ErrBoard is told still.
	for _, una := range []int{math.MinInt, 0, next.From, math.MaxInt} {
		if left, gone, e := board.Ack(l, una); len(left) > 0 || len(gone) > 0 || e != api.ErrBoard {
			t.Errorf("%s: Ack(%d) = %d, %d records, %d", name, una, len(left), len(gone), e)
		}
	}
	for _, spans := range [][]api.Span{nil, {{From: 0, To: math.MaxInt}}} {
		if got, fresh, e := board.Sack(l, spans); len(got) > 0 || len(fresh) > 0 || e != api.ErrBoard {
			t.Errorf("%s: Sack(%v) = %d, %d records, %d", name, spans, len(got), len(fresh), e)
		}
	}
	for _, at := range []int{-1, 0, len(l)} {
		for _, now := range []int{-1, 5} {
			if got, e := board.Again(l, at, now); len(got) > 0 || e != api.ErrBoard {
				t.Errorf("%s: Again(%d, %d) = %d records, %d", name, at, now, len(got), e)
			}
		}
	}
	if got, e := board.Drop(l); len(got) > 0 || e != api.ErrBoard {
		t.Errorf("%s: Drop = %d records, %d", name, len(got), e)
	}
	pipe, lost, high, sacked := board.Pipe(l), board.Lost(l), board.High(l), board.Sacked(l)
	if pipe != 0 || lost != -1 || high != 0 || sacked != 0 {
		t.Errorf("%s: Pipe %d, Lost %d, High %d, Sacked %d", name, pipe, lost, high, sacked)
	}
	same(t, name+": what is handed in", l, before)
}

// P10.1: Check

func TestCheckOne(t *testing.T) {
	for _, c := range []struct {
		name string
		f    func(x *api.Rec)
		ok   bool
	}{
		{"as it is", func(x *api.Rec) {}, true},
		{"zero", func(x *api.Rec) { *x = api.Rec{} }, false},
		{"the least", func(x *api.Rec) { *x = api.Rec{To: 1, Tx: 1} }, true},
		{"From -1", func(x *api.Rec) { x.From = -1 }, false},
		{"From far below 0", func(x *api.Rec) { x.From = math.MinInt }, false},
		{"From and To below 0", func(x *api.Rec) { x.From, x.To = -2, -1 }, false},
		{"From -1, To 0", func(x *api.Rec) { x.From, x.To = -1, 0 }, false},
		{"From 0", func(x *api.Rec) { x.From = 0 }, true},
		{"From at To", func(x *api.Rec) { x.From = x.To }, false},
		{"From one below To", func(x *api.Rec) { x.From = x.To - 1 }, true},
		{"From above To", func(x *api.Rec) { x.From = x.To + 1 }, false},
		{"From far above To", func(x *api.Rec) { x.From = math.MaxInt }, false},
		{"To 0", func(x *api.Rec) { x.From, x.To = 0, 0 }, false},
		{"To below 0", func(x *api.Rec) { x.To = math.MinInt }, false},
		{"To MaxOffset", func(x *api.Rec) { x.To = api.MaxOffset }, true},
		{"To MaxOffset + 1", func(x *api.Rec) { x.To = api.MaxOffset + 1 }, true},
		{"From MaxOffset, To one more", func(x *api.Rec) { x.From, x.To = api.MaxOffset, api.MaxOffset+1 }, true},
		{"To MaxOffset + 2", func(x *api.Rec) { x.To = api.MaxOffset + 2 }, false},
		{"From MaxOffset + 1, To one more", func(x *api.Rec) { x.From, x.To = api.MaxOffset+1, api.MaxOffset+2 }, false},
		{"To far above", func(x *api.Rec) { x.To = math.MaxInt }, false},
		{"Tx far below 0", func(x *api.Rec) { x.Tx = math.MinInt }, false},
		{"Tx -1", func(x *api.Rec) { x.Tx = -1 }, false},
		{"Tx 0", func(x *api.Rec) { x.Tx = 0 }, false},
		{"Tx 1", func(x *api.Rec) { x.Tx = 1 }, true},
		{"Tx 1000000", func(x *api.Rec) { x.Tx = 1000000 }, true},
		{"Tx far above", func(x *api.Rec) { x.Tx = math.MaxInt }, true},
		{"Fin of the only one", func(x *api.Rec) { x.Fin = true }, true},
		{"Idle not", func(x *api.Rec) { x.Idle = false }, true},
		{"Sacked", func(x *api.Rec) { x.Sacked = true }, true},
		{"Lost", func(x *api.Rec) { x.Lost = true }, true},
		{"Again", func(x *api.Rec) { x.Again = true }, false},
		{"Again with Lost", func(x *api.Rec) { x.Again, x.Lost = true, true }, true},
		{"Lost with Sacked", func(x *api.Rec) { x.Lost, x.Sacked = true, true }, false},
		{"Again with Sacked", func(x *api.Rec) { x.Again, x.Sacked = true, true }, false},
		{"all three", func(x *api.Rec) { x.Again, x.Sacked, x.Lost = true, true, true }, false},
	} {
		// What is told of one holds wherever it stands, as long as its neighbours follow it.
		for at := range 3 {
			l := beside(change(row(0, 0, 0), at, c.f), at)
			if l == nil {
				continue
			}
			if c.ok {
				fine(t, c.name, board.Check(l))
			} else {
				refusedAll(t, c.name, l)
			}
		}
	}
}

// beside answers records of which the ones beside a place end and begin where that one does; nil, if they could not be
// for their own sake.
func beside(l []api.Rec, at int) []api.Rec {
	l = slices.Clone(l)
	for i := at - 1; i >= 0; i-- {
		l[i].To = l[i+1].From
		l[i].From = l[i].To - 1
	}
	for i := at + 1; i < len(l); i++ {
		l[i].From = l[i-1].To
		l[i].To = l[i].From + 1
		if l[i-1].Fin {
			return nil
		}
	}
	for i, x := range l {
		if i != at && (x.From < 0 || x.From >= x.To || x.To > api.MaxOffset+1) {
			return nil
		}
	}
	return l
}

func TestCheckTimes(t *testing.T) {
	fields := []struct {
		name string
		of   func(x *api.Rec) *int
	}{
		{"Sent", func(x *api.Rec) *int { return &x.Sent }},
		{"Given", func(x *api.Rec) *int { return &x.Given }},
		{"GivenAt", func(x *api.Rec) *int { return &x.GivenAt }},
		{"FirstAt", func(x *api.Rec) *int { return &x.FirstAt }},
	}
	values := []struct {
		v  int
		ok bool
	}{
		{math.MinInt, false}, {-1, false}, {0, true}, {1, true}, {api.MaxTime, true}, {api.MaxTime + 1, false}, {math.MaxInt, false},
	}
	for _, f := range fields {
		for _, v := range values {
			for at := range 3 {
				l := change(row(0, 1, 2), at, func(x *api.Rec) { *f.of(x) = v.v })
				if v.ok {
					fine(t, f.name, board.Check(l))
				} else {
					refusedAll(t, f.name, l)
				}
			}
		}
	}
}

func TestCheckSideBySide(t *testing.T) {
	l := row(0, 1, 2, 3)
	fine(t, "side by side", board.Check(l))
	for at := 1; at < len(l); at++ {
		for _, by := range []int{-100, -1, 1, 100} {
			moved := slices.Clone(l)
			for i := at; i < len(l); i++ {
				moved[i].From += by
				moved[i].To += by
			}
			refusedAll(t, "apart, or one upon the other", moved)
		}
	}
	refusedAll(t, "begins one ahead of where the one ahead ends", []api.Rec{of(0, 0, 3), of(0, 2, 5)})
	fine(t, "begins where the one ahead ends", board.Check([]api.Rec{of(0, 0, 3), of(0, 3, 5)}))
	refusedAll(t, "begins one behind where the one ahead ends", []api.Rec{of(0, 0, 3), of(0, 4, 5)})
	refusedAll(t, "the same twice", []api.Rec{of(0, 0, 3), of(0, 0, 3)})
	refusedAll(t, "turned round", []api.Rec{of(0, 3, 5), of(0, 0, 3)})
	refusedAll(t, "the third one apart", []api.Rec{of(0, 0, 3), of(0, 3, 5), of(0, 6, 7)})
}

func TestCheckFin(t *testing.T) {
	l := row(0, 1, 2, 3)
	for at := range l {
		finned := change(l, at, func(x *api.Rec) { x.Fin = true })
		if at == len(l)-1 {
			fine(t, "Fin of the last", board.Check(finned))
		} else {
			refusedAll(t, "Fin of one ahead", finned)
		}
	}
	refusedAll(t, "Fin of the last two", change(change(l, 2, func(x *api.Rec) { x.Fin = true }), 3, func(x *api.Rec) { x.Fin = true }))
}

func TestCheckHowMany(t *testing.T) {
	fine(t, "no record, nil", board.Check(nil))
	fine(t, "no record, empty", board.Check([]api.Rec{}))
	fine(t, "MaxRecs records", board.Check(many(api.MaxRecs)))
	refusedAll(t, "one more", many(api.MaxRecs+1))
	// What room a list has behind its end is nobody's.
	fine(t, "more behind the end", board.Check(many(api.MaxRecs + 1)[:api.MaxRecs]))
	fine(t, "others behind the end", board.Check(append(row(0), api.Rec{})[:1]))
}

// P10.2: Send

func TestSend(t *testing.T) {
	x := of(0, 7, 9)
	got, e := board.Send(nil, x)
	fine(t, "onto none", e)
	same(t, "onto none", got, []api.Rec{x})
	l := row(0, 1, 2, 3)
	for kind := range kinds {
		for _, fin := range []bool{false, true} {
			x = of(kind, 20, 26)
			x.Fin = fin
			got, e = board.Send(l, x)
			fine(t, "behind the last one", e)
			same(t, "behind the last one", got, append(slices.Clone(l), x))
		}
	}
}

func TestSendRefuses(t *testing.T) {
	l := row(0, 1, 2, 3)
	fin := change(l, 3, func(x *api.Rec) { x.Fin = true })
	for _, c := range []struct {
		name string
		l    []api.Rec
		x    api.Rec
	}{
		{"one ahead of the end", l, of(0, 19, 22)},
		{"one behind the end", l, of(0, 21, 22)},
		{"ahead of all", l, of(0, 9, 10)},
		{"the last one again", l, l[3]},
		{"behind one with Fin", fin, of(0, 20, 21)},
		{"a zero record onto none", nil, api.Rec{}},
		{"an empty record", l, of(0, 20, 20)},
		{"a turned record", l, of(0, 20, 19)},
		{"From -1 onto none", nil, of(0, -1, 1)},
		{"To too far", nil, api.Rec{To: api.MaxOffset + 2, Tx: 1}},
		{"Tx 0", nil, api.Rec{To: 1}},
		{"Sent -1", nil, api.Rec{To: 1, Tx: 1, Sent: -1}},
		{"Sent too late", nil, api.Rec{To: 1, Tx: 1, Sent: api.MaxTime + 1}},
		{"Given -1", nil, api.Rec{To: 1, Tx: 1, Given: -1}},
		{"GivenAt -1", nil, api.Rec{To: 1, Tx: 1, GivenAt: -1}},
		{"FirstAt -1", nil, api.Rec{To: 1, Tx: 1, FirstAt: -1}},
		{"Again without Lost", nil, api.Rec{To: 1, Tx: 1, Again: true}},
		{"Lost with Sacked", nil, api.Rec{To: 1, Tx: 1, Lost: true, Sacked: true}},
	} {
		if got, e := board.Send(c.l, c.x); len(got) > 0 || e != api.ErrBoard {
			t.Errorf("%s: Send = %+v, %d", c.name, got, e)
		}
	}
}

func TestSendMany(t *testing.T) {
	l := many(api.MaxRecs - 1)
	l, e := board.Send(l, api.Rec{From: api.MaxRecs - 1, To: api.MaxRecs, Tx: 1})
	fine(t, "the last that has room", e)
	same(t, "the last that has room", l, many(api.MaxRecs))
	got, e := board.Send(l, api.Rec{From: api.MaxRecs, To: api.MaxRecs + 1, Tx: 1})
	if len(got) > 0 || e != api.ErrBoard {
		t.Errorf("one more: %d records, %d", len(got), e)
	}
}

// P10.2: Ack

func TestAck(t *testing.T) {
	l := row(0, 1, 2, 3) // 10 to 13, 14, 18, 20
	l[3].Fin = true
	from := func(at, from int) []api.Rec {
		return change(l[at:], 0, func(x *api.Rec) { x.From = from })
	}
	for _, c := range []struct {
		name string
		una  int
		left []api.Rec
		gone int
	}{
		{"far below 0", math.MinInt, l, 0},
		{"-1", -1, l, 0},
		{"0", 0, l, 0},
		{"one below the first From", 9, l, 0},
		{"at the first From", 10, l, 0},
		{"one within the first", 11, from(0, 11), 0},
		{"the first's last byte", 12, from(0, 12), 0},
		{"at the first To", 13, l[1:], 1},
		{"at the second To", 14, l[2:], 2},
		{"within the third", 16, from(2, 16), 2},
		{"at the third To", 18, l[3:], 3},
		{"within the last", 19, from(3, 19), 3},
		{"at the last To", 20, nil, 4},
	} {
		left, gone, e := board.Ack(l, c.una)
		fine(t, c.name, e)
		same(t, c.name+": left", left, c.left)
		same(t, c.name+": gone", gone, l[:c.gone])
	}
}

func TestAckBeyond(t *testing.T) {
	l := row(0, 1, 2, 3)
	for _, una := range []int{21, 22, 1000, api.MaxOffset + 1, api.MaxOffset + 2, math.MaxInt} {
		left, gone, e := board.Ack(l, una)
		if len(left) > 0 || len(gone) > 0 || e != api.ErrArg {
			t.Errorf("Ack(%d) = %+v, %+v, %d", una, left, gone, e)
		}
	}
}

func TestAckWithoutRecord(t *testing.T) {
	for _, una := range []int{math.MinInt, -1, 0, 1, 1000, math.MaxInt} {
		for _, l := range [][]api.Rec{nil, {}} {
			left, gone, e := board.Ack(l, una)
			if len(left) > 0 || len(gone) > 0 || e != api.OK {
				t.Errorf("Ack(%v, %d) = %+v, %+v, %d", l, una, left, gone, e)
			}
		}
	}
}

// P10.2: Sack

func TestSackWithin(t *testing.T) {
	l := row(0, 0, 0, 0) // 10 to 13, 14, 18, 20
	for _, c := range []struct {
		name   string
		spans  []api.Span
		places []int
	}{
		{"no span, nil", nil, nil},
		{"no span, empty", []api.Span{}, nil},
		{"has one just", []api.Span{{From: 14, To: 18}}, []int{2}},
		{"has the first just", []api.Span{{From: 10, To: 13}}, []int{0}},
		{"has the last just", []api.Span{{From: 18, To: 20}}, []int{3}},
		{"has one and more", []api.Span{{From: 13, To: 19}}, []int{1, 2}},
		{"lacks its first byte", []api.Span{{From: 15, To: 18}}, nil},
		{"lacks its last byte", []api.Span{{From: 14, To: 17}}, nil},
		{"lacks both", []api.Span{{From: 15, To: 17}}, nil},
		{"lacks the first's first byte, has the next", []api.Span{{From: 11, To: 14}}, []int{1}},
		{"has several", []api.Span{{From: 10, To: 18}}, []int{0, 1, 2}},
		{"has all", []api.Span{{From: 10, To: 20}}, []int{0, 1, 2, 3}},
		{"has all and far more", []api.Span{{From: math.MinInt, To: math.MaxInt}}, []int{0, 1, 2, 3}},
		{"two spans", []api.Span{{From: 10, To: 13}, {From: 18, To: 20}}, []int{0, 3}},
		{"two spans turned about", []api.Span{{From: 18, To: 20}, {From: 10, To: 13}}, []int{0, 3}},
		{"two together have one, neither alone", []api.Span{{From: 14, To: 16}, {From: 16, To: 18}}, nil},
		{"two upon each other, neither has it", []api.Span{{From: 13, To: 17}, {From: 15, To: 20}}, []int{1, 3}},
		{"one within another", []api.Span{{From: 10, To: 20}, {From: 12, To: 13}}, []int{0, 1, 2, 3}},
		{"a long one, and short ones behind its begin", []api.Span{{From: 12, To: 20}, {From: 13, To: 14}, {From: 14, To: 15}}, []int{1, 2, 3}},
		{"several that begin alike", []api.Span{{From: 14, To: 15}, {From: 14, To: 18}, {From: 14, To: 16}}, []int{2}},
		{"the same twice", []api.Span{{From: 13, To: 14}, {From: 13, To: 14}}, []int{1}},
		{"turned round", []api.Span{{From: 18, To: 14}}, nil},
		{"turned round, all of it", []api.Span{{From: math.MaxInt, To: math.MinInt}}, nil},
		{"empty", []api.Span{{From: 14, To: 14}}, nil},
		{"zero", []api.Span{{}}, nil},
		{"turned round beside one", []api.Span{{From: 20, To: 10}, {From: 14, To: 18}}, []int{2}},
		{"turned round behind one's begin", []api.Span{{From: 13, To: 18}, {From: 14, To: 0}}, []int{1, 2}},
		{"turned ones together have one", []api.Span{{From: 14, To: 0}, {From: 30, To: 18}}, nil},
		{"empty beside one", []api.Span{{From: 15, To: 15}, {From: 14, To: 18}}, []int{2}},
		{"below 0", []api.Span{{From: -5, To: 13}}, []int{0}},
		{"far ahead", []api.Span{{From: 0, To: 9}}, nil},
		{"far behind", []api.Span{{From: 20, To: 40}}, nil},
	} {
		// The same of all records, whatever they are: the ones that are Sacked stay so.
		for kind := range kinds {
			sackedAre(t, c.name+", "+kinds[kind].name, ofKind(l, kind), c.spans, c.places)
		}
	}
}

// ofKind answers records, all of one kind.
func ofKind(l []api.Rec, kind int) []api.Rec {
	l = slices.Clone(l)
	for i := range l {
		l[i].Sacked, l[i].Lost, l[i].Again = kinds[kind].sacked, kinds[kind].lost, kinds[kind].again
	}
	return l
}

// sackedAre asks that a Sack marks the records at these places, as far as they are not Sacked, and nothing besides.
func sackedAre(t *testing.T, name string, l []api.Rec, spans []api.Span, places []int) {
	t.Helper()
	want := slices.Clone(l)
	var fresh []api.Rec
	for _, i := range places {
		if !l[i].Sacked {
			fresh = append(fresh, l[i])
		}
		want[i].Sacked, want[i].Lost, want[i].Again = true, false, false
	}
	askedSpans := slices.Clone(spans)
	got, gotFresh, e := board.Sack(l, spans)
	fine(t, name, e)
	same(t, name+": all", got, want)
	same(t, name+": fresh", gotFresh, fresh)
	if !slices.Equal(spans, askedSpans) {
		t.Errorf("%s: spans are now %v, were %v", name, spans, askedSpans)
	}
	fine(t, name+": what is answered", board.Check(got))
}

func TestSackMixed(t *testing.T) {
	all := []api.Span{{From: 0, To: 100}}
	l := row(0, 1, 2, 3, 0)
	l[4].Fin = true
	sackedAre(t, "of each kind", l, all, []int{0, 1, 2, 3, 4})
	sackedAre(t, "but the first", l, []api.Span{{From: 13, To: 25}}, []int{1, 2, 3, 4})
	sackedAre(t, "Lost, and Lost and Again", l, []api.Span{{From: 14, To: 20}}, []int{2, 3})
	sackedAre(t, "without the end's number", l, []api.Span{{From: 14, To: 24}}, []int{2, 3})
	sackedAre(t, "no record", nil, all, nil)
}

func TestSackMany(t *testing.T) {
	l := many(api.MaxRecs)
	var spans []api.Span
	var places []int
	for i := api.MaxRecs - 1; i >= 0; i-- {
		if i%3 == 0 {
			spans = append(spans, api.Span{From: i, To: i + 1})
			places = append(places, i)
		} else {
			// Empty: it has none.
			spans = append(spans, api.Span{From: i, To: i})
		}
	}
	slices.Reverse(places)
	sackedAre(t, "many records, many spans", l, spans, places)
}

// P10.2: Again

func TestAgain(t *testing.T) {
	l := row(0, 1, 2, 3)
	for at := range l {
		for _, now := range []int{0, 1, 77, api.MaxTime - 1, api.MaxTime} {
			got, e := board.Again(l, at, now)
			fine(t, kinds[at].name, e)
			same(t, kinds[at].name, got, change(l, at, func(x *api.Rec) {
				x.Sent, x.Tx = now, x.Tx+1
				x.Again = kinds[at].lost
			}))
			fine(t, "what is answered", board.Check(got))
		}
	}
}

func TestAgainTwice(t *testing.T) {
	l := row(2, 0)
	for n := 1; n <= 3; n++ {
		var e api.Errno
		l, e = board.Again(l, 0, n)
		fine(t, "again", e)
		same(t, "again", l, change(row(3, 0), 0, func(x *api.Rec) { x.Sent, x.Tx = n, x.Tx+n }))
	}
}

func TestAgainRefuses(t *testing.T) {
	l := row(0, 1, 2, 3)
	for _, c := range []struct {
		name    string
		l       []api.Rec
		at, now int
	}{
		{"at -1", l, -1, 5},
		{"at far below 0", l, math.MinInt, 5},
		{"at one past the last place", l, 4, 5},
		{"at far past it", l, math.MaxInt, 5},
		{"at past the end, with room there", l[:3], 3, 5},
		{"at 0 of none", nil, 0, 5},
		{"at -1 of none", nil, -1, 5},
		{"now -1", l, 0, -1},
		{"now far below 0", l, 3, math.MinInt},
		{"now one past MaxTime", l, 0, api.MaxTime + 1},
		{"now far past it", l, 3, math.MaxInt},
		{"both", l, 4, -1},
	} {
		if got, e := board.Again(c.l, c.at, c.now); len(got) > 0 || e != api.ErrArg {
			t.Errorf("%s: Again = %+v, %d", c.name, got, e)
		}
	}
}

func TestAgainTx(t *testing.T) {
	for _, c := range [][2]int{{1, 2}, {2, 3}, {999998, 999999}, {999999, 1000000}, {1000000, 1000000}, {1000001, 1000000}, {math.MaxInt, 1000000}} {
		for kind := range kinds {
			l := change(row(kind, 0), 0, func(x *api.Rec) { x.Tx = c[0] })
			got, e := board.Again(l, 0, 5)
			if e != api.OK || len(got) != 2 || got[0].Tx != c[1] || got[1] != l[1] {
				t.Errorf("Tx %d: %+v, %d", c[0], got, e)
			}
		}
	}
}

// P10.2: Drop

func TestDrop(t *testing.T) {
	for _, l := range [][]api.Rec{nil, {}, row(0), row(1), row(2), row(3), row(0, 1, 2, 3, 0), row(3, 2, 1, 1, 1, 0)} {
		if len(l) > 0 {
			l[len(l)-1].Fin = true
		}
		want := ofKind(l, 2)
		got, e := board.Drop(l)
		fine(t, "Drop", e)
		same(t, "Drop", got, want)
		got, e = board.Drop(got)
		fine(t, "Drop twice", e)
		same(t, "Drop twice", got, want)
	}
}

// P10.3: Pipe, Lost, High, Sacked

func TestCounts(t *testing.T) {
	for _, c := range []struct {
		name                     string
		l                        []api.Rec
		pipe, lost, high, sacked int
	}{
		{"no record", nil, 0, -1, 0, 0},
		{"one that is none", row(0), 3, -1, 0, 0},
		{"one Sacked", row(1), 0, -1, 13, 1},
		{"one Lost", row(2), 0, 0, 0, 0},
		{"one Lost and Again", row(3), 3, -1, 0, 0},
		{"of each kind", row(0, 1, 2, 3), 5, 2, 14, 1},
		{"of each kind, turned round", row(3, 2, 1, 0), 5, 1, 18, 1},
		{"none of all", row(0, 0, 0, 0, 0), 15, -1, 0, 0},
		{"Sacked all", row(1, 1, 1, 1, 1), 0, -1, 25, 5},
		{"Lost all", row(2, 2, 2, 2, 2), 0, 0, 0, 0},
		{"Lost and Again all", row(3, 3, 3, 3, 3), 15, -1, 0, 0},
		{"Lost behind those that went again", row(3, 3, 2, 2, 0), 9, 2, 0, 0},
		{"the last one Lost", row(0, 1, 3, 1, 2), 7, 4, 20, 2},
		{"Sacked ahead alone", row(1, 0, 0, 0), 7, -1, 13, 1},
		{"Sacked at last", row(0, 2, 3, 1), 7, 1, 20, 1},
		{"as long as may be", []api.Rec{{To: api.MaxOffset + 1, Tx: 1}}, api.MaxOffset + 1, -1, 0, 0},
		{"as far as may be", []api.Rec{{From: api.MaxOffset, To: api.MaxOffset + 1, Tx: 1, Sacked: true, Fin: true}}, 0, -1, api.MaxOffset + 1, 1},
		{"with the end's number", []api.Rec{{From: 4, To: 7, Tx: 1, Fin: true}}, 3, -1, 0, 0},
		{"the end alone", []api.Rec{{From: 4, To: 5, Tx: 1, Fin: true}}, 1, -1, 0, 0},
	} {
		before := slices.Clone(c.l)
		pipe, lost, high, sacked := board.Pipe(c.l), board.Lost(c.l), board.High(c.l), board.Sacked(c.l)
		if pipe != c.pipe || lost != c.lost || high != c.high || sacked != c.sacked {
			t.Errorf("%s: Pipe %d, Lost %d, High %d, Sacked %d, want %d, %d, %d, %d", c.name,
				pipe, lost, high, sacked, c.pipe, c.lost, c.high, c.sacked)
		}
		same(t, c.name+": what is handed in", c.l, before)
	}
}

func TestCountsOfMany(t *testing.T) {
	l := many(api.MaxRecs)
	l[api.MaxRecs-1].Lost = true
	l[7].Sacked = true
	if pipe, lost, high, sacked := board.Pipe(l), board.Lost(l), board.High(l), board.Sacked(l); pipe != api.MaxRecs-2 ||
		lost != api.MaxRecs-1 || high != 8 || sacked != 1 {
		t.Errorf("Pipe %d, Lost %d, High %d, Sacked %d", pipe, lost, high, sacked)
	}
}

// The chapter's example.
func TestExample(t *testing.T) {
	l := []api.Rec{{To: 3, Tx: 1}, {From: 3, To: 5, Tx: 1}}
	left, gone, e := board.Ack(l, 4)
	fine(t, "Ack", e)
	same(t, "gone", gone, []api.Rec{{To: 3, Tx: 1}})
	same(t, "left", left, []api.Rec{{From: 4, To: 5, Tx: 1}})
	m, fresh, e := board.Sack(l, []api.Span{{From: 3, To: 5}})
	fine(t, "Sack", e)
	same(t, "fresh", fresh, l[1:])
	if board.Pipe(m) != 3 || board.High(m) != 5 || board.Sacked(m) != 1 {
		t.Errorf("Pipe %d, High %d, Sacked %d", board.Pipe(m), board.High(m), board.Sacked(m))
	}
}
