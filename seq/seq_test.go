package seq_test

import (
	"math"
	"math/big"
	"testing"

	"tideway/api"
	"tideway/seq"
)

const (
	half  = 1 << 31
	whole = 1 << 32
)

// edgeNumbers are sequence numbers about which a modulus or a sign goes wrong.
func edgeNumbers() []uint32 {
	return []uint32{0, 1, 2, 1000, half - 2, half - 1, half, half + 1, half + 1000, 0xdeadbeef, whole - 1000, whole - 2, whole - 1}
}

// edgeInts are ints about which a modulus, a sign or the room of an int goes wrong, each with its opposite.
func edgeInts() []int {
	var out []int
	for _, x := range []int{0, 1, 2, 3, 7, 1000, half - 1, half, half + 1, whole - 1, whole, whole + 1, 3*whole + 5, 1 << 50, 1<<62 - 1, 1 << 62, 1<<62 + 1, math.MaxInt - whole, math.MaxInt - half, math.MaxInt - 1, math.MaxInt} {
		out = append(out, x, -x)
	}
	return append(out, math.MinInt)
}

// held answers x, or the end of the ints beyond which it lies.
func held(x *big.Int) int {
	switch {
	case x.Cmp(big.NewInt(math.MaxInt)) > 0:
		return math.MaxInt
	case x.Cmp(big.NewInt(math.MinInt)) < 0:
		return math.MinInt
	}
	return int(x.Int64())
}

// wantDiff follows P1.1's words in numbers that do not wrap.
func wantDiff(a, b uint32) int {
	d := int(b) - int(a)
	switch {
	case d >= half:
		return d - whole
	case d < -half:
		return d + whole
	}
	return d
}

// modWhole answers x modulo 2^32, from 0 on.
func modWhole(x *big.Int) uint32 {
	return uint32(new(big.Int).Mod(x, big.NewInt(whole)).Uint64())
}

// P1.1

func TestDiff(t *testing.T) {
	for _, c := range []struct {
		a, b uint32
		want int
	}{
		{0, 0, 0},
		{5, 7, 2},
		{7, 5, -2},
		{whole - 1, 1, 2},
		{1, whole - 1, -2},
		{whole - 1, 0, 1},
		{0, whole - 1, -1},
		{0, half - 1, half - 1},
		{0, half, -half},
		{half, 0, -half},
		{0, half + 1, -half + 1},
		{half + 1, 0, half - 1},
		{whole - 1, half - 1, -half},
		{half - 1, whole - 1, -half},
	} {
		if got := seq.Diff(c.a, c.b); got != c.want {
			t.Errorf("Diff(%d, %d) = %d, want %d", c.a, c.b, got, c.want)
		}
	}
	for _, a := range edgeNumbers() {
		for _, b := range edgeNumbers() {
			if got, want := seq.Diff(a, b), wantDiff(a, b); got != want {
				t.Errorf("Diff(%d, %d) = %d, want %d", a, b, got, want)
			}
		}
	}
}

func TestLess(t *testing.T) {
	for _, c := range []struct {
		a, b uint32
		want bool
	}{
		{1, 2, true},
		{2, 1, false},
		{3, 3, false},
		{whole - 1, 1, true},
		{1, whole - 1, false},
		{0, half - 1, true},
		{half - 1, 0, false},
		{0, half, false},
		{half, 0, false},
		{0, half + 1, false},
		{half + 1, 0, true},
	} {
		if got := seq.Less(c.a, c.b); got != c.want {
			t.Errorf("Less(%d, %d) = %t, want %t", c.a, c.b, got, c.want)
		}
	}
	for _, a := range edgeNumbers() {
		for _, b := range edgeNumbers() {
			if got, want := seq.Less(a, b), wantDiff(a, b) > 0; got != want {
				t.Errorf("Less(%d, %d) = %t, want %t", a, b, got, want)
			}
		}
	}
}

func TestAdd(t *testing.T) {
	for _, c := range []struct {
		a    uint32
		n    int
		want uint32
	}{
		{5, 6, 11},
		{5, -6, whole - 1},
		{5, 0, 5},
		{whole - 1, 1, 0},
		{0, -1, whole - 1},
		{7, whole, 7},
		{7, -whole, 7},
		{7, 3*whole + 2, 9},
		{0, half, half},
		{half, half, 0},
		{1, math.MaxInt, 0},
		{1, math.MinInt, 1},
	} {
		if got := seq.Add(c.a, c.n); got != c.want {
			t.Errorf("Add(%d, %d) = %d, want %d", c.a, c.n, got, c.want)
		}
	}
	for _, a := range edgeNumbers() {
		for _, n := range edgeInts() {
			want := modWhole(new(big.Int).Add(big.NewInt(int64(a)), big.NewInt(int64(n))))
			if got := seq.Add(a, n); got != want {
				t.Errorf("Add(%d, %d) = %d, want %d", a, n, got, want)
			}
		}
	}
}

func TestWithin(t *testing.T) {
	for _, c := range []struct {
		x, low, n uint32
		want      bool
	}{
		{5, 5, 1, true},
		{5, 5, 0, false},
		{6, 5, 1, false},
		{4, 5, 10, false},
		{14, 5, 10, true},
		{15, 5, 10, false},
		{whole - 1, whole - 2, 4, true},
		{0, whole - 2, 4, true},
		{1, whole - 2, 4, true},
		{2, whole - 2, 4, false},
		{whole - 3, whole - 2, 4, false},
		{half, 0, half, false},
		{half, 0, half + 1, true},
		{4, 5, whole - 1, false},
		{3, 5, whole - 1, true},
	} {
		if got := seq.Within(c.x, c.low, c.n); got != c.want {
			t.Errorf("Within(%d, %d, %d) = %t, want %t", c.x, c.low, c.n, got, c.want)
		}
	}
	for _, x := range edgeNumbers() {
		for _, low := range edgeNumbers() {
			for _, n := range edgeNumbers() {
				want := (int(x)-int(low)+whole)%whole < int(n)
				if got := seq.Within(x, low, n); got != want {
					t.Errorf("Within(%d, %d, %d) = %t, want %t", x, low, n, got, want)
				}
			}
		}
	}
}

func TestUnwrap(t *testing.T) {
	for _, c := range []struct {
		base int
		s    uint32
		want int
	}{
		{4294967300, 3, 4294967299},
		{0, 0, 0},
		{0, 5, 5},
		{0, whole - 1, -1},
		{whole - 1, 0, whole},
		{whole, whole - 1, whole - 1},
		{10*whole + 9, 7, 10*whole + 7},
		{0, half - 1, half - 1},
		{0, half, -half},
		{half, 0, 0},
		{half + 1, 0, whole},
		{-1, 0, 0},
		{-whole - 5, 0, -whole},
		{math.MaxInt, whole - 1, math.MaxInt},
		{math.MaxInt, whole - 2, math.MaxInt - 1},
		{math.MaxInt, 0, math.MaxInt},
		{math.MinInt, 0, math.MinInt},
		{math.MinInt, 1, math.MinInt + 1},
		{math.MinInt, whole - 1, math.MinInt},
	} {
		if got := seq.Unwrap(c.base, c.s); got != c.want {
			t.Errorf("Unwrap(%d, %d) = %d, want %d", c.base, c.s, got, c.want)
		}
	}
	for _, base := range edgeInts() {
		for _, s := range edgeNumbers() {
			step := wantDiff(modWhole(big.NewInt(int64(base))), s)
			want := held(new(big.Int).Add(big.NewInt(int64(base)), big.NewInt(int64(step))))
			if got := seq.Unwrap(base, s); got != want {
				t.Errorf("Unwrap(%d, %d) = %d, want %d", base, s, got, want)
			}
		}
	}
}

// P1.2

func TestSum(t *testing.T) {
	for _, c := range []struct{ a, b, want int }{
		{2, 3, 5},
		{2, -3, -1},
		{0, 0, 0},
		{math.MaxInt, 0, math.MaxInt},
		{math.MaxInt - 1, 1, math.MaxInt},
		{math.MaxInt, 1, math.MaxInt},
		{1, math.MaxInt, math.MaxInt},
		{math.MaxInt, math.MaxInt, math.MaxInt},
		{math.MinInt, 0, math.MinInt},
		{0, math.MinInt, math.MinInt},
		{math.MinInt + 1, -1, math.MinInt},
		{math.MinInt, -1, math.MinInt},
		{-1, math.MinInt, math.MinInt},
		{math.MinInt, math.MinInt, math.MinInt},
		{math.MaxInt, math.MinInt, -1},
		{math.MinInt, math.MaxInt, -1},
	} {
		if got := seq.Sum(c.a, c.b); got != c.want {
			t.Errorf("Sum(%d, %d) = %d, want %d", c.a, c.b, got, c.want)
		}
	}
	for _, a := range edgeInts() {
		for _, b := range edgeInts() {
			want := held(new(big.Int).Add(big.NewInt(int64(a)), big.NewInt(int64(b))))
			if got := seq.Sum(a, b); got != want {
				t.Errorf("Sum(%d, %d) = %d, want %d", a, b, got, want)
			}
		}
	}
}

func TestClamp(t *testing.T) {
	for _, c := range []struct{ x, low, high, want int }{
		{5, 1, 9, 5},
		{0, 1, 9, 1},
		{1, 1, 9, 1},
		{9, 1, 9, 9},
		{10, 1, 9, 9},
		{4, 4, 4, 4},
		{3, 4, 4, 4},
		{5, 4, 4, 4},
		{-7, -9, -5, -7},
		{-1, -9, -5, -5},
		{0, math.MinInt, math.MaxInt, 0},
		{math.MinInt, math.MinInt, math.MaxInt, math.MinInt},
		{math.MaxInt, math.MinInt, math.MaxInt, math.MaxInt},
	} {
		if got := seq.Clamp(c.x, c.low, c.high); got != c.want {
			t.Errorf("Clamp(%d, %d, %d) = %d, want %d", c.x, c.low, c.high, got, c.want)
		}
	}
}

func TestClampLowAboveHigh(t *testing.T) {
	for _, x := range []int{math.MinInt, -1, 0, 1, 2, 3, 4, 5, 6, 7, math.MaxInt} {
		if got := seq.Clamp(x, 5, 3); got != 5 {
			t.Errorf("Clamp(%d, 5, 3) = %d, want 5", x, got)
		}
		if got := seq.Clamp(x, math.MaxInt, math.MinInt); got != math.MaxInt {
			t.Errorf("Clamp(%d, greatest, least) = %d, want the greatest", x, got)
		}
	}
}

func TestMulDiv(t *testing.T) {
	for _, c := range []struct{ a, b, c, want int }{
		{1 << 62, 6, 8, 3458764513820540928},
		{7, 3, 2, 10},
		{7, 3, 21, 1},
		{7, 3, 22, 0},
		{0, 5, 1, 0},
		{5, 0, 1, 0},
		{0, 0, math.MaxInt, 0},
		{math.MaxInt, 1, 1, math.MaxInt},
		{math.MaxInt, 2, 2, math.MaxInt},
		{math.MaxInt, math.MaxInt, math.MaxInt, math.MaxInt},
		{math.MaxInt, math.MaxInt - 1, math.MaxInt, math.MaxInt - 1},
		// products of 126 bits, whose quotients have 63, 64, 65 and 126 bits
		{math.MaxInt, math.MaxInt, math.MaxInt - 1, math.MaxInt},
		{math.MaxInt, math.MaxInt, 1 << 62, math.MaxInt},
		{math.MaxInt, math.MaxInt, 1 << 61, math.MaxInt},
		{math.MaxInt, math.MaxInt, 1, math.MaxInt},
		{1 << 32, 1 << 32, 2, math.MaxInt},
		{1 << 32, 1 << 32, 3, 6148914691236517205},
		{1 << 32, 1 << 31, 1, math.MaxInt},
		{1 << 32, 1 << 32, 1, math.MaxInt},
	} {
		if got, e := seq.MulDiv(c.a, c.b, c.c); got != c.want || e != api.OK {
			t.Errorf("MulDiv(%d, %d, %d) = %d, %d, want %d", c.a, c.b, c.c, got, e, c.want)
		}
	}
}

func TestMulDivWrongArguments(t *testing.T) {
	for _, c := range [][3]int{
		{-1, 1, 1},
		{1, -1, 1},
		{-1, -1, 1},
		{1, 1, 0},
		{1, 1, -1},
		{0, 0, 0},
		{0, -1, 1},
		{-1, 0, 1},
		{-1, -1, -1},
		{math.MinInt, 1, 1},
		{1, math.MinInt, 1},
		{1, 1, math.MinInt},
		{math.MaxInt, math.MaxInt, 0},
	} {
		if got, e := seq.MulDiv(c[0], c[1], c[2]); got != 0 || e != api.ErrArg {
			t.Errorf("MulDiv(%d, %d, %d) = %d, %d, want 0, ErrArg", c[0], c[1], c[2], got, e)
		}
	}
}

func TestMulDivEverywhere(t *testing.T) {
	for _, a := range edgeInts() {
		for _, b := range edgeInts() {
			product := new(big.Int).Mul(big.NewInt(int64(a)), big.NewInt(int64(b)))
			for _, c := range edgeInts() {
				want, wantE := 0, api.ErrArg
				if a >= 0 && b >= 0 && c > 0 {
					want, wantE = held(new(big.Int).Div(product, big.NewInt(int64(c)))), api.OK
				}
				if got, e := seq.MulDiv(a, b, c); got != want || e != wantE {
					t.Errorf("MulDiv(%d, %d, %d) = %d, %d, want %d, %d", a, b, c, got, e, want, wantE)
				}
			}
		}
	}
}

func TestCbrt(t *testing.T) {
	for _, c := range []struct{ n, want int }{
		{0, 0},
		{1, 1},
		{7, 1},
		{8, 2},
		{26, 2},
		{27, 3},
		{1000000000, 1000},
		{999999999, 999},
		{-1, 0},
		{-8, 0},
		{-27, 0},
		{math.MinInt, 0},
		{math.MaxInt, 2097151},
	} {
		if got := seq.Cbrt(c.n); got != c.want {
			t.Errorf("Cbrt(%d) = %d, want %d", c.n, got, c.want)
		}
	}
}

func TestCbrtAtEveryCube(t *testing.T) {
	for k := 1; k <= 2097151; k++ {
		cube := k * k * k
		if got := seq.Cbrt(cube); got != k {
			t.Fatalf("Cbrt(%d) = %d, want %d", cube, got, k)
		}
		if got := seq.Cbrt(cube - 1); got != k-1 {
			t.Fatalf("Cbrt(%d) = %d, want %d", cube-1, got, k-1)
		}
	}
}

// P1.3

func TestUnwrapComesBack(t *testing.T) {
	for _, base := range edgeInts() {
		// closer to the ends of the ints the sum is held there, as P1.1 says
		if base > math.MaxInt-half || base < math.MinInt+half {
			continue
		}
		for _, s := range edgeNumbers() {
			got := seq.Unwrap(base, s)
			if uint32(got) != s || seq.Add(0, got) != s {
				t.Errorf("Unwrap(%d, %d) = %d, which is not that modulo 2^32", base, s, got)
			}
			if got-base < -half || got-base >= half {
				t.Errorf("Unwrap(%d, %d) = %d is not the nearest", base, s, got)
			}
		}
	}
}

func TestDiffIsOpposite(t *testing.T) {
	for _, a := range edgeNumbers() {
		for _, b := range edgeNumbers() {
			there, back := seq.Diff(a, b), seq.Diff(b, a)
			if b-a == half {
				if there != -half || back != -half {
					t.Errorf("Diff of %d and %d, 2^31 apart: %d and %d", a, b, there, back)
				}
			} else if there != -back {
				t.Errorf("Diff of %d and %d: %d, but %d", a, b, there, back)
			}
			if seq.Add(a, there) != b {
				t.Errorf("Add(%d, Diff) = %d, want %d", a, seq.Add(a, there), b)
			}
		}
	}
}

func TestMulDivGivesBack(t *testing.T) {
	for _, a := range edgeInts() {
		for _, b := range edgeInts() {
			if a < 0 || b <= 0 {
				continue
			}
			if got, e := seq.MulDiv(a, b, b); got != a || e != api.OK {
				t.Errorf("MulDiv(%d, %d, %d) = %d, %d, want %d", a, b, b, got, e, a)
			}
			if got, e := seq.MulDiv(b, a, b); got != a || e != api.OK {
				t.Errorf("MulDiv(%d, %d, %d) = %d, %d, want %d", b, a, b, got, e, a)
			}
		}
	}
}
