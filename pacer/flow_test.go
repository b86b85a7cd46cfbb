package pacer_test

import (
	"testing"

	"tideway/api"
	"tideway/pacer"
)

// P20.3

// left is what left at a time.
type left struct{ at, n int }

// total answers how many tokens the bytes of a row take.
func total(row []left) int {
	sum := 0
	for _, x := range row {
		sum += x.n * million
	}
	return sum
}

// bounded asks of all pieces of a row that no more left than the rate times the time, a burst, and what one segment that
// is larger than a burst has more.
func bounded(t *testing.T, row []left, rate, burst int) {
	t.Helper()
	for i := range row {
		sum := 0
		for _, x := range row[i:] {
			sum += x.n * million
			if most := rate*(x.at-row[i].at) + max(burst, x.n)*million; sum > most {
				t.Fatalf("rate %d, burst %d: from %d to %d left %d, more than %d", rate, burst, row[i].at, x.at, sum, most)
			}
		}
	}
}

// eager sends rows of sizes, each as soon as it may leave.
func eager(t *testing.T, p api.Pacer, sizes []int) []left {
	t.Helper()
	var row []left
	for _, n := range sizes {
		at, e := pacer.When(p, n)
		if e != api.OK {
			t.Fatal(e)
		}
		if p, e = pacer.Fill(p, at); e != api.OK {
			t.Fatal(e)
		}
		if p, e = pacer.Take(p, n); e != api.OK {
			t.Fatalf("Take(%+v, %d): error %d", p, n, e)
		}
		row = append(row, left{at, n})
	}
	return row
}

func TestEagerRows(t *testing.T) {
	d := &dice{11}
	for range 500 {
		rate, burst := 1+d.upTo(1<<30), 1+d.below(5000)
		p, e := pacer.New(rate, burst, d.below(1000))
		if e != api.OK {
			t.Fatal(e)
		}
		most := 1 + d.below(3*burst)
		var sizes []int
		for range 60 {
			sizes = append(sizes, d.below(most+1))
		}
		bounded(t, eager(t, p, sizes), rate, burst)
	}
}

// What goes as soon as it may goes no slower than the rate: behind a full bucket all but a burst is timed by it, to the
// microsecond. (Segments that are near a burst may find the bucket full, and what it had no room for is lost.)
func TestEagerRowsAreNotHeldBack(t *testing.T) {
	d := &dice{12}
	for range 500 {
		rate, burst := 1+d.upTo(1<<20), 4+d.below(5000)
		p, e := pacer.New(rate, burst, 0)
		if e != api.OK {
			t.Fatal(e)
		}
		var sizes []int
		for range 60 {
			sizes = append(sizes, d.below(burst/2+1))
		}
		row := eager(t, p, sizes)
		last := row[len(row)-1]
		// Up to where the last one left, the bucket was never full but at first, so that no token was lost.
		if wait := max(total(row)-burst*million, 0); last.at != (wait+rate-1)/rate {
			t.Fatalf("rate %d, burst %d: %d left up to %d", rate, burst, total(row), last.at)
		}
	}
}

// Rows of waits and sizes, in which what may not leave does not, and rates that change but are at most one.
func TestRowsOfWaits(t *testing.T) {
	d := &dice{13}
	for range 500 {
		most, burst := 1+d.upTo(1<<30), 1+d.below(5000)
		p, e := pacer.New(most, burst, 0)
		if e != api.OK {
			t.Fatal(e)
		}
		var row []left
		wait := 2*burst*million/most + 2
		for range 120 {
			switch n := d.below(2*burst + 1); d.below(4) {
			case 0:
				p, e = pacer.Fill(p, p.Last+d.below(wait))
			case 1:
				p, e = pacer.Set(p, 1+d.below(most))
			default:
				n /= 1 + d.below(4)
				if !pacer.May(p, n) {
					continue
				}
				row = append(row, left{p.Last, n})
				p, e = pacer.Take(p, n)
			}
			if e != api.OK || pacer.Check(p) != api.OK {
				t.Fatalf("%+v, %d", p, e)
			}
		}
		bounded(t, row, most, burst)
	}
}

// Full buckets, as soon as they are full, let segments leave that are larger than a burst: one in that time.
func TestLargerThanABurst(t *testing.T) {
	p, e := pacer.New(2, 10, 0)
	if e != api.OK {
		t.Fatal(e)
	}
	row := eager(t, p, []int{25, 25, 0, 4, 10, 11, size})
	for i, at := range []int{0, 12500000, 20000000, 22000000, 27000000, 32000000, 37500000} {
		if row[i].at != at {
			t.Errorf("number %d left at %d, want %d", i, row[i].at, at)
		}
	}
	bounded(t, row, 2, 10)
}

// untilFull answers how long a burst, and what is owed of it, takes.
func untilFull(p api.Pacer) int {
	missing := p.Burst*million - p.Tokens
	return (missing + p.Rate - 1) / p.Rate
}

// Behind the time that a burst and what is owed take a bucket is full, and a microsecond ahead of it, it is not; and
// never more than full.
func TestFullInTime(t *testing.T) {
	d := &dice{14}
	for range 50000 {
		p := d.bucket()
		p.Last = d.upTo(1 << 20)
		full := p.Last + untilFull(p)
		for later, at := range []int{full - 1, full, full + 1, full + d.upTo(late)} {
			if at < p.Last || at > late {
				continue
			}
			q, e := pacer.Fill(p, at)
			if e != api.OK || q.Tokens > p.Burst*million || (q.Tokens == p.Burst*million) != (later > 0) {
				t.Fatalf("Fill(%+v, %d) = %+v, %d; full at %d", p, at, q, e, full)
			}
		}
	}
}

// Nobody waits longer than until it is full, however large a segment.
func TestNobodyWaitsLonger(t *testing.T) {
	d := &dice{15}
	for range 50000 {
		p := d.bucket()
		for _, n := range []int{0, p.Burst - 1, p.Burst, min(p.Burst+1, size), size, d.upTo(size)} {
			at, e := pacer.When(p, n)
			if e != api.OK || at-p.Last > untilFull(p) || at > late {
				t.Fatalf("When(%+v, %d) = %d, %d; full %d later", p, n, at, e, untilFull(p))
			}
			if n >= p.Burst && at != min(p.Last+untilFull(p), late) {
				t.Fatalf("When(%+v, %d) = %d, %d; full %d later", p, n, at, e, untilFull(p))
			}
		}
	}
}

// A bucket that is filled in two steps is as filled in one.
func TestTwoSteps(t *testing.T) {
	d := &dice{16}
	for range 100000 {
		p := d.bucket()
		if d.below(2) == 0 {
			p.Last = max(0, late-d.below(1000))
		}
		end := d.from(p.Last, late)
		if d.below(2) == 0 {
			end = min(late, p.Last+d.upTo(untilFull(p)+5))
		}
		once, e := pacer.Fill(p, end)
		if e != api.OK {
			t.Fatal(e)
		}
		half, e := pacer.Fill(p, d.from(p.Last, end))
		if e != api.OK {
			t.Fatal(e)
		}
		twice, e := pacer.Fill(half, end)
		if e != api.OK || once != twice {
			t.Fatalf("Fill(%+v, %d) = %+v, but by %+v it is %+v, %d", p, end, once, half, twice, e)
		}
	}
}

// Many steps are as one, too, and none adds a token that the time did not give.
func TestManySteps(t *testing.T) {
	for _, rate := range []int{1, 3, 1000, 999999, fastest} {
		p, _ := pacer.New(rate, size, 0)
		p, e := pacer.Take(p, size)
		if e != api.OK {
			t.Fatal(e)
		}
		q := p
		for at := range 2000 {
			if q, e = pacer.Fill(q, at); e != api.OK {
				t.Fatal(e)
			}
			if once, _ := pacer.Fill(p, at); once != q || q.Tokens != min(rate*at, size*million) {
				t.Fatalf("at %d: %+v, in one step %+v", at, q, once)
			}
		}
	}
}

// Rows of calls of all kinds, each with what the one ahead answered, the refused ones left out.
func TestLongRows(t *testing.T) {
	d := &dice{17}
	for range 300 {
		p, e := pacer.New(d.from(1, fastest), d.from(1, size), d.upTo(late))
		if e != api.OK {
			t.Fatal(e)
		}
		for range 200 {
			n := d.from(0, size)
			if d.below(3) == 0 {
				n = d.upTo(late)
			}
			askAll(t, p, n)
			before := p
			switch d.below(4) {
			case 0:
				p, e = pacer.Fill(p, p.Last+d.upTo(late-p.Last)/100)
			case 1:
				p, e = pacer.Set(p, n)
			case 2:
				p, e = pacer.Take(p, n)
			case 3:
				at, _ := pacer.When(p, min(n, size))
				p, e = pacer.Fill(p, at)
			}
			if e != api.OK {
				p = before
			}
			if !mayBe(p) {
				t.Fatalf("a row of calls led to %+v", p)
			}
		}
	}
}
