package board_test

import (
	"slices"
	"testing"

	"tideway/api"
	"tideway/board"
)

// smallRows answers all rows of up to three records of one or two bytes, of each kind, that begin at 1.
func smallRows() [][]api.Rec {
	rows := [][]api.Rec{nil}
	for from, n := 0, 1; n <= 3; n++ {
		longest := rows[from:]
		from = len(rows)
		for _, l := range longest {
			at := 1
			if len(l) > 0 {
				at = l[len(l)-1].To
			}
			for kind := range kinds {
				for size := 1; size <= 2; size++ {
					rows = append(rows, append(slices.Clone(l), of(kind, at, at+size)))
				}
			}
		}
	}
	return rows
}

// smallSpans answers all spans, turned and empty ones too, whose ends are from -1 to 8.
func smallSpans() []api.Span {
	var l []api.Span
	for from := -1; from <= 8; from++ {
		for to := -1; to <= 8; to++ {
			l = append(l, api.Span{From: from, To: to})
		}
	}
	return l
}

// end answers where a row ends; 1, without a record.
func end(l []api.Rec) int {
	if len(l) == 0 {
		return 1
	}
	return l[len(l)-1].To
}

// hasAll tells whether a span has all offsets of a record, one by one.
func hasAll(s api.Span, x api.Rec) bool {
	for at := x.From; at < x.To; at++ {
		if at < s.From || at >= s.To {
			return false
		}
	}
	return true
}

func TestAllCounts(t *testing.T) {
	for _, l := range smallRows() {
		pipe, lost, high, sacked := 0, -1, 0, 0
		for i := len(l) - 1; i >= 0; i-- {
			x := l[i]
			switch {
			case x.Sacked:
				sacked++
				if high == 0 {
					high = x.To
				}
			case x.Lost && !x.Again:
				lost = i
			default:
				pipe += x.To - x.From
			}
		}
		if board.Pipe(l) != pipe || board.Lost(l) != lost || board.High(l) != high || board.Sacked(l) != sacked {
			t.Fatalf("%+v: Pipe %d, Lost %d, High %d, Sacked %d, want %d, %d, %d, %d", l,
				board.Pipe(l), board.Lost(l), board.High(l), board.Sacked(l), pipe, lost, high, sacked)
		}
	}
}

func TestAllAcks(t *testing.T) {
	for _, l := range smallRows() {
		for una := -1; una <= 9; una++ {
			left, gone, e := board.Ack(l, una)
			if len(l) > 0 && una > end(l) {
				if len(left) > 0 || len(gone) > 0 || e != api.ErrArg {
					t.Fatalf("Ack(%+v, %d) = %+v, %+v, %d", l, una, left, gone, e)
				}
				continue
			}
			var wantLeft, wantGone []api.Rec
			for _, x := range l {
				if x.To <= una {
					wantGone = append(wantGone, x)
					continue
				}
				if una > x.From {
					x.From = una
				}
				wantLeft = append(wantLeft, x)
			}
			if e != api.OK || !slices.Equal(left, wantLeft) || !slices.Equal(gone, wantGone) {
				t.Fatalf("Ack(%+v, %d) = %+v, %+v, %d", l, una, left, gone, e)
			}
			wholeAfterAck(t, l, left, gone, una)
		}
	}
}

// P10.4: what is gone, what was acknowledged of the first one left, and what is left makes the whole; and a record that
// was Sacked stays so, here or there.
func wholeAfterAck(t *testing.T, l, left, gone []api.Rec, una int) {
	t.Helper()
	whole := slices.Concat(gone, left)
	if len(left) > 0 {
		x := &whole[len(gone)]
		if x.From == una {
			x.From = l[len(gone)].From
		}
	}
	if !slices.Equal(whole, l) {
		t.Fatalf("Ack(%+v, %d): %+v and %+v are not the whole", l, una, gone, left)
	}
	if board.Sacked(gone)+board.Sacked(left) != board.Sacked(l) {
		t.Fatalf("Ack(%+v, %d): sacks fell", l, una)
	}
	if board.Check(left) != api.OK || board.Check(gone) != api.OK {
		t.Fatalf("Ack(%+v, %d): %+v, %+v may not be", l, una, left, gone)
	}
}

// allSacked asks that a Sack of these records by these spans is as the words say, and that doing it twice does nothing.
func allSacked(t *testing.T, l []api.Rec, spans ...api.Span) {
	t.Helper()
	want := slices.Clone(l)
	var wantFresh []api.Rec
	for i, x := range l {
		lies := false
		for _, s := range spans {
			lies = lies || hasAll(s, x)
		}
		if lies && !x.Sacked {
			want[i].Sacked, want[i].Lost, want[i].Again = true, false, false
			wantFresh = append(wantFresh, x)
		}
	}
	got, fresh, e := board.Sack(l, spans)
	if e != api.OK || !slices.Equal(got, want) || !slices.Equal(fresh, wantFresh) {
		t.Fatalf("Sack(%+v, %v) = %+v, %+v, %d", l, spans, got, fresh, e)
	}
	if board.Sacked(got) != board.Sacked(l)+len(fresh) || board.High(got) < board.High(l) {
		t.Fatalf("Sack(%+v, %v): sacks fell: %+v", l, spans, got)
	}
	twice, fresh, e := board.Sack(got, spans)
	if e != api.OK || !slices.Equal(twice, want) || len(fresh) > 0 {
		t.Fatalf("Sack(%+v, %v) twice = %+v, %+v, %d", l, spans, twice, fresh, e)
	}
}

func TestAllSacksOfOneSpan(t *testing.T) {
	for _, l := range smallRows() {
		for _, s := range smallSpans() {
			allSacked(t, l, s)
		}
	}
}

func TestAllSacksOfSeveralSpans(t *testing.T) {
	l := []api.Rec{of(0, 1, 3), of(2, 3, 4), of(3, 4, 6)}
	spans := smallSpans()
	for _, a := range spans {
		for _, b := range spans {
			allSacked(t, l, a, b)
			allSacked(t, l, a, b, api.Span{From: 2, To: 4})
		}
	}
}

func TestAllAgainsAndDrops(t *testing.T) {
	for _, l := range smallRows() {
		for at := -1; at <= len(l); at++ {
			got, e := board.Again(l, at, 9)
			if at < 0 || at == len(l) {
				if len(got) > 0 || e != api.ErrArg {
					t.Fatalf("Again(%+v, %d) = %+v, %d", l, at, got, e)
				}
				continue
			}
			want := slices.Clone(l)
			want[at].Sent = 9
			want[at].Tx++
			if l[at].Lost {
				want[at].Again = true
			}
			if e != api.OK || !slices.Equal(got, want) || board.Check(got) != api.OK || board.Sacked(got) != board.Sacked(l) {
				t.Fatalf("Again(%+v, %d) = %+v, %d", l, at, got, e)
			}
		}
		got, e := board.Drop(l)
		if e != api.OK || !slices.Equal(got, ofKind(l, 2)) || board.Sacked(got) != 0 || board.Pipe(got) != 0 {
			t.Fatalf("Drop(%+v) = %+v, %d", l, got, e)
		}
	}
}

func TestAllSends(t *testing.T) {
	for _, l := range smallRows() {
		for from := -1; from <= 8; from++ {
			for to := -1; to <= 9; to++ {
				x := of(0, from, to)
				got, e := board.Send(l, x)
				if from < 0 || from >= to || len(l) > 0 && from != end(l) {
					if len(got) > 0 || e != api.ErrBoard {
						t.Fatalf("Send(%+v, %+v) = %+v, %d", l, x, got, e)
					}
					continue
				}
				if e != api.OK || len(got) != len(l)+1 || !slices.Equal(got[:len(l)], l) || got[len(l)] != x {
					t.Fatalf("Send(%+v, %+v) = %+v, %d", l, x, got, e)
				}
			}
		}
	}
}

// P10.4: whatever is called, one thing behind the other, records that may be stay such, and no sack falls but by Drop.
func TestWalks(t *testing.T) {
	walk(t, []api.Rec{of(0, 0, 2), of(0, 2, 3), of(0, 3, 5)}, 4)
}

func walk(t *testing.T, l []api.Rec, steps int) {
	if board.Check(l) != api.OK {
		t.Fatalf("%+v may not be", l)
	}
	if steps == 0 {
		return
	}
	if got, e := board.Send(l, of(0, end(l), end(l)+1)); e == api.OK {
		noSackFell(t, l, got)
		walk(t, got, steps-1)
	}
	for una := 0; una <= end(l); una++ {
		got, _, e := board.Ack(l, una)
		fine(t, "Ack", e)
		noSackFell(t, l, got)
		walk(t, got, steps-1)
	}
	for from := 0; from < 3; from++ {
		got, _, e := board.Sack(l, []api.Span{{From: from, To: from + 3}})
		fine(t, "Sack", e)
		noSackFell(t, l, got)
		walk(t, got, steps-1)
	}
	for at := range l {
		got, e := board.Again(l, at, 7)
		fine(t, "Again", e)
		noSackFell(t, l, got)
		walk(t, got, steps-1)
	}
	got, e := board.Drop(l)
	fine(t, "Drop", e)
	if board.Sacked(got) != 0 {
		t.Fatalf("Drop(%+v) = %+v", l, got)
	}
	walk(t, got, steps-1)
}

// noSackFell asks that each record that is still there, and was Sacked, is. A record's end is its own.
func noSackFell(t *testing.T, before, after []api.Rec) {
	t.Helper()
	for _, x := range before {
		for _, y := range after {
			if x.To == y.To && x.Sacked && !y.Sacked {
				t.Fatalf("a sack fell: %+v became %+v", before, after)
			}
		}
	}
}

// R3: what is answered is new memory, and what is handed in stays as it was.

// calls gives what each call answers of records, all that is a list.
func calls(l []api.Rec, spans []api.Span) map[string][][]api.Rec {
	sent, _ := board.Send(l, of(0, end(l), end(l)+1))
	left, gone, _ := board.Ack(l, 14)
	none, all, _ := board.Ack(l, end(l))
	whole, nothing, _ := board.Ack(l, 0)
	sacked, fresh, _ := board.Sack(l, spans)
	as, unsacked, _ := board.Sack(l, nil)
	again, _ := board.Again(l, 2, 5)
	dropped, _ := board.Drop(l)
	return map[string][][]api.Rec{"Send": {sent}, "Ack": {left, gone}, "Ack all": {none, all}, "Ack nothing": {whole, nothing},
		"Sack": {sacked, fresh}, "Sack nothing": {as, unsacked}, "Again": {again}, "Drop": {dropped}}
}

func TestNewMemory(t *testing.T) {
	// There is room behind the end, which nobody may take.
	room := append(row(0, 1, 2, 3), of(0, 20, 21), of(0, 21, 22), of(0, 22, 23))
	l := room[:4]
	spans := []api.Span{{From: 18, To: 30}, {From: 14, To: 18}, {From: 0, To: 12}}
	before, spansBefore := slices.Clone(room), slices.Clone(spans)
	for name := range calls(l, spans) {
		answer := calls(l, spans)[name]
		var kept [][]api.Rec
		for _, a := range answer {
			kept = append(kept, slices.Clone(a))
		}
		for i, a := range answer {
			a = a[:cap(a)]
			for j := range a {
				a[j] = api.Rec{From: -7}
			}
			for k := i + 1; k < len(answer); k++ {
				same(t, name+": the other list of the answer", answer[k], kept[k])
			}
		}
		same(t, name+": what was handed in", room, before)
		if !slices.Equal(spans, spansBefore) {
			t.Errorf("%s: spans are now %v, were %v", name, spans, spansBefore)
		}
		answer = calls(l, spans)[name]
		for j := range room {
			room[j] = api.Rec{From: -9}
		}
		for i, a := range answer {
			same(t, name+": what was answered, once the argument is changed", a, kept[i])
		}
		copy(room, before)
	}
}

// The same call on the same records answers the same, however often, and nil is as an empty list.
func TestSameAnswers(t *testing.T) {
	l := row(0, 1, 2, 3)
	spans := []api.Span{{From: 18, To: 30}, {From: 14, To: 18}}
	first, second := calls(l, spans), calls(l, spans)
	for name := range first {
		for i := range first[name] {
			same(t, name, second[name][i], first[name][i])
		}
	}
	for _, none := range [][]api.Rec{nil, {}} {
		for _, spans := range [][]api.Span{nil, {}} {
			got, fresh, e := board.Sack(none, spans)
			if len(got) > 0 || len(fresh) > 0 || e != api.OK {
				t.Errorf("Sack of none: %+v, %+v, %d", got, fresh, e)
			}
		}
		if got, e := board.Drop(none); len(got) > 0 || e != api.OK {
			t.Errorf("Drop of none: %+v, %d", got, e)
		}
	}
}
