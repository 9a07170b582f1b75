package wide

import (
	"math"
	"math/big"
	"testing"

	"hairsbreadth/api"
)

const all64 = math.MaxUint64

var (
	zero    = api.Wide{}
	one     = api.Wide{1}
	two128  = api.Wide{0, 0, 1}
	highest = api.Wide{all64, all64, all64, all64}

	none    = api.Bits{}
	single  = api.Bits{Lo: 1}
	all128  = api.Bits{Hi: all64, Lo: all64}
	two127  = api.Bits{Hi: 1 << 63}
	upper64 = api.Bits{Hi: all64}
	lower64 = api.Bits{Lo: all64}
)

// wides are all numbers whose four digits are about the edges or in between.
func wides() []api.Wide {
	l := []api.Wide{{}}
	for i := range 4 {
		var longer []api.Wide
		for _, w := range l {
			for _, d := range []uint64{0, 1, 0x9e3779b97f4a7c15, 1 << 63, all64} {
				w[i] = d
				longer = append(longer, w)
			}
		}
		l = longer
	}
	return l
}

// pairs are all numbers of 128 bits with both halves taken from the digits.
func pairs(digits ...uint64) []api.Bits {
	var l []api.Bits
	for _, hi := range digits {
		for _, lo := range digits {
			l = append(l, api.Bits{Hi: hi, Lo: lo})
		}
	}
	return l
}

func factors() []api.Bits {
	return pairs(0, 1, 2, 3, 10, 1<<32-1, 1<<32, 1<<32+1, 0x0123456789abcdef, 0xfedcba9876543210,
		0x9e3779b97f4a7c15, 1<<63-1, 1<<63, 1<<63+1, all64-1, all64)
}

// fewFactors are for the tests that take three of them at a time.
func fewFactors() []api.Bits {
	return pairs(0, 1, 1<<32+1, 0x9e3779b97f4a7c15, 1<<63, all64)
}

func bigOf(w api.Wide) *big.Int {
	n := new(big.Int)
	for i := range 4 {
		n.Lsh(n, 64)
		n.Or(n, new(big.Int).SetUint64(w[3-i]))
	}
	return n
}

func bigOfBits(a api.Bits) *big.Int {
	n := new(big.Int).SetUint64(a.Hi)
	n.Lsh(n, 64)
	return n.Or(n, new(big.Int).SetUint64(a.Lo))
}

// P2.1: each digit goes to its own place, and to no other.
func TestHalvesEdges(t *testing.T) {
	w := api.Wide{1, 2, 3, 4}
	hi, lo := api.Bits{Hi: 4, Lo: 3}, api.Bits{Hi: 2, Lo: 1}
	if j := Join(hi, lo); j != w {
		t.Errorf("Join(%x, %x) = %x; want %x", hi, lo, j, w)
	}
	if h := High(w); h != hi {
		t.Errorf("High(%x) = %x; want %x", w, h, hi)
	}
	if l := Low(w); l != lo {
		t.Errorf("Low(%x) = %x; want %x", w, l, lo)
	}
	if j := Join(single, none); j != two128 {
		t.Errorf("Join(1, 0) = %x; want 2^128", j)
	}
	if o := Of(api.Bits{Hi: 7, Lo: 9}); o != (api.Wide{9, 7}) {
		t.Errorf("Of(7 * 2^64 + 9) = %x", o)
	}
	if o := Of(all128); o != (api.Wide{all64, all64}) {
		t.Errorf("Of(2^128 - 1) = %x", o)
	}
	if o := Of(none); o != zero {
		t.Errorf("Of(0) = %x", o)
	}
}

// P2.1: the values of the four functions, held against math/big, and Join of the halves.
func TestHalvesAgainstBig(t *testing.T) {
	low128 := new(big.Int).Sub(new(big.Int).Lsh(big.NewInt(1), 128), big.NewInt(1))
	for _, w := range wides() {
		n := bigOf(w)
		if h := High(w); bigOfBits(h).Cmp(new(big.Int).Rsh(n, 128)) != 0 {
			t.Errorf("High(%x) = %x", w, h)
		}
		if l := Low(w); bigOfBits(l).Cmp(new(big.Int).And(n, low128)) != 0 {
			t.Errorf("Low(%x) = %x", w, l)
		}
		if j := Join(High(w), Low(w)); j != w {
			t.Errorf("Join(High, Low) of %x = %x", w, j)
		}
	}
	for _, a := range factors() {
		if o := Of(a); bigOf(o).Cmp(bigOfBits(a)) != 0 {
			t.Errorf("Of(%x) = %x", a, o)
		}
	}
}

// P2.2: a carry from each digit into the next, through several, and out of 256 bits.
func TestAddCarries(t *testing.T) {
	for _, x := range []struct {
		a, b, sum api.Wide
		carry     bool
	}{
		{zero, zero, zero, false},
		{api.Wide{1, 2, 3, 4}, api.Wide{10, 20, 30, 40}, api.Wide{11, 22, 33, 44}, false},
		{api.Wide{all64}, one, api.Wide{0, 1}, false},
		{api.Wide{0, all64}, api.Wide{0, 1}, two128, false},
		{api.Wide{0, 0, all64}, two128, api.Wide{0, 0, 0, 1}, false},
		{api.Wide{0, 0, 0, all64}, api.Wide{0, 0, 0, 1}, zero, true},
		{api.Wide{5, 6, 7, 1 << 63}, api.Wide{1, 1, 1, 1 << 63}, api.Wide{6, 7, 8, 0}, true},
		{api.Wide{all64, all64}, one, two128, false},
		{api.Wide{all64, all64, all64}, one, api.Wide{0, 0, 0, 1}, false},
		{api.Wide{0, all64, all64}, api.Wide{0, 1}, api.Wide{0, 0, 0, 1}, false},
		{highest, zero, highest, false},
		{highest, one, zero, true},
		{one, highest, zero, true},
		{highest, highest, api.Wide{all64 - 1, all64, all64, all64}, true},
		{api.Wide{all64, all64, all64, all64 - 1}, one, api.Wide{0, 0, 0, all64}, false},
	} {
		if s, c := Add(x.a, x.b); s != x.sum || c != x.carry {
			t.Errorf("Add(%x, %x) = %x, %v; want %x, %v", x.a, x.b, s, c, x.sum, x.carry)
		}
	}
}

// P2.2: a borrow from each digit, through all of them and out of 256 bits; equal numbers.
func TestSubBorrows(t *testing.T) {
	for _, x := range []struct {
		a, b, diff api.Wide
		borrow     bool
	}{
		{zero, zero, zero, false},
		{api.Wide{11, 22, 33, 44}, api.Wide{1, 2, 3, 4}, api.Wide{10, 20, 30, 40}, false},
		{api.Wide{0, 1}, one, api.Wide{all64}, false},
		{two128, api.Wide{0, 1}, api.Wide{0, all64}, false},
		{api.Wide{0, 0, 0, 1}, two128, api.Wide{0, 0, all64}, false},
		{two128, one, api.Wide{all64, all64}, false},
		{api.Wide{0, 0, 0, 1}, one, api.Wide{all64, all64, all64}, false},
		{zero, one, highest, true},
		{zero, api.Wide{0, 0, 0, 1}, api.Wide{0, 0, 0, all64}, true},
		{zero, highest, one, true},
		{api.Wide{1, 2, 3, 4}, api.Wide{2, 2, 3, 4}, highest, true},
		{one, highest, api.Wide{2}, true},
		{highest, highest, zero, false},
		{highest, zero, highest, false},
		{api.Wide{1, 2, 3, 4}, api.Wide{1, 2, 3, 4}, zero, false},
	} {
		if d, c := Sub(x.a, x.b); d != x.diff || c != x.borrow {
			t.Errorf("Sub(%x, %x) = %x, %v; want %x, %v", x.a, x.b, d, c, x.diff, x.borrow)
		}
	}
}

// P2.2: a digit decides if all those above it are equal, whatever the lower ones are.
func TestCmpDigits(t *testing.T) {
	for i := range 4 {
		a, b := api.Wide{7, 7, 7, 7}, api.Wide{7, 7, 7, 7}
		if o := Cmp(a, b); o != 0 {
			t.Errorf("Cmp(%x, %x) = %d; want 0", a, b, o)
		}
		for j := range i {
			a[j], b[j] = all64, 0
		}
		for _, d := range []uint64{8, 1 << 63, all64} { // as signed numbers, the last two would be less
			b[i] = d
			if o := Cmp(a, b); o != -1 {
				t.Errorf("Cmp(%x, %x) = %d; want -1", a, b, o)
			}
			if o := Cmp(b, a); o != 1 {
				t.Errorf("Cmp(%x, %x) = %d; want 1", b, a, o)
			}
		}
	}
	if Cmp(zero, zero) != 0 || Cmp(highest, highest) != 0 {
		t.Error("Cmp of equal numbers is not 0")
	}
	if Cmp(zero, highest) != -1 || Cmp(highest, zero) != 1 {
		t.Error("Cmp of 0 and 2^256 - 1 is wrong")
	}
}

// P2.2: every pair of the numbers, held against math/big.
func TestAddSubCmpAgainstBig(t *testing.T) {
	l := wides()
	wrap := new(big.Int).Lsh(big.NewInt(1), 256)
	bigs := make([]*big.Int, len(l))
	for i, a := range l {
		bigs[i] = bigOf(a)
	}
	want := new(big.Int)
	for i, a := range l {
		for j, b := range l {
			want.Add(bigs[i], bigs[j])
			carry := want.Cmp(wrap) >= 0
			if carry {
				want.Sub(want, wrap)
			}
			if s, c := Add(a, b); bigOf(s).Cmp(want) != 0 || c != carry {
				t.Fatalf("Add(%x, %x) = %x, %v; want %x, %v", a, b, s, c, want, carry)
			}
			want.Sub(bigs[i], bigs[j])
			borrow := want.Sign() < 0
			if borrow {
				want.Add(want, wrap)
			}
			if d, c := Sub(a, b); bigOf(d).Cmp(want) != 0 || c != borrow {
				t.Fatalf("Sub(%x, %x) = %x, %v; want %x, %v", a, b, d, c, want, borrow)
			}
			if o := Cmp(a, b); o != bigs[i].Cmp(bigs[j]) {
				t.Fatalf("Cmp(%x, %x) = %d; want %d", a, b, o, bigs[i].Cmp(bigs[j]))
			}
		}
	}
}

// P2.2: a single bit anywhere makes a number that is not 0.
func TestZero(t *testing.T) {
	if !Zero(zero) {
		t.Error("Zero(0) = false")
	}
	if Zero(highest) {
		t.Error("Zero(2^256 - 1) = true")
	}
	for i := range 256 {
		var w api.Wide
		w[i/64] = 1 << (i % 64)
		if Zero(w) {
			t.Errorf("Zero(%x) = true", w)
		}
	}
}

// P2.3: the examples, the greatest product, and products whose middle digits carry.
func TestMulEdges(t *testing.T) {
	for _, x := range []struct {
		a, b api.Bits
		want api.Wide
	}{
		{none, none, zero},
		{none, all128, zero},
		{single, all128, api.Wide{all64, all64}},
		{api.Bits{Lo: 6}, api.Bits{Lo: 7}, api.Wide{42}},
		{api.Bits{Hi: 3, Lo: 5}, api.Bits{Hi: 7, Lo: 11}, api.Wide{55, 68, 21, 0}},
		{two127, api.Bits{Lo: 2}, two128},
		{two127, two127, api.Wide{0, 0, 0, 1 << 62}},
		{api.Bits{Hi: 1}, api.Bits{Hi: 1}, two128},
		{lower64, lower64, api.Wide{1, all64 - 1}},
		{upper64, lower64, api.Wide{0, 1, all64 - 1}},
		{upper64, upper64, api.Wide{0, 0, 1, all64 - 1}},
		{all128, lower64, api.Wide{1, all64, all64 - 1}},
		{all128, upper64, api.Wide{0, 1, all64, all64 - 1}},
		// The digit of 2^64 carries: out of the two mixed products, and out of a mixed and the lower one.
		{api.Bits{Hi: 1 << 63, Lo: 1}, api.Bits{Hi: 1 << 63, Lo: 1}, api.Wide{1, 0, 1, 1 << 62}},
		{lower64, api.Bits{Hi: 2, Lo: all64}, api.Wide{1, all64 - 3, 2}},
		// The digit of 2^128 carries into that of 2^192; both do, in the greatest product.
		{upper64, api.Bits{Hi: 1, Lo: all64}, api.Wide{0, 1, all64 - 2, 1}},
		{all128, all128, api.Wide{1, 0, all64 - 1, all64}},
	} {
		if p := Mul(x.a, x.b); p != x.want {
			t.Errorf("Mul(%x, %x) = %x; want %x", x.a, x.b, p, x.want)
		}
		if p := Mul(x.b, x.a); p != x.want {
			t.Errorf("Mul(%x, %x) = %x; want %x", x.b, x.a, p, x.want)
		}
	}
}

// P2.3, and P2.4: every pair of factors, held against math/big; the product,
// divided there by a factor that is not 0, is the other one; Mul is commutative.
func TestMulAgainstBig(t *testing.T) {
	want, quotient, remainder := new(big.Int), new(big.Int), new(big.Int)
	for _, a := range factors() {
		x := bigOfBits(a)
		for _, b := range factors() {
			y := bigOfBits(b)
			p := Mul(a, b)
			n := bigOf(p)
			if n.Cmp(want.Mul(x, y)) != 0 {
				t.Fatalf("Mul(%x, %x) = %x; want %x", a, b, p, want)
			}
			if q := Mul(b, a); q != p {
				t.Fatalf("Mul(%x, %x) = %x; Mul(%x, %x) = %x", a, b, p, b, a, q)
			}
			if y.Sign() == 0 {
				continue
			}
			if quotient.QuoRem(n, y, remainder); quotient.Cmp(x) != 0 || remainder.Sign() != 0 {
				t.Fatalf("Mul(%x, %x) divided by %x = %x, remainder %x", a, b, b, quotient, remainder)
			}
		}
	}
}

// P2.4: subtracting b from a + b gives a, with a borrow just where there was a carry.
func TestSubUndoesAdd(t *testing.T) {
	l := wides()
	for _, a := range l {
		for _, b := range l {
			sum, carry := Add(a, b)
			if d, borrow := Sub(sum, b); d != a || borrow != carry {
				t.Fatalf("Sub(Add(%x, %x), %x) = %x, %v; want %x, %v", a, b, b, d, borrow, a, carry)
			}
		}
	}
}

// P2.4: a (b + c) is a b + a c. Where b + c has a carry out of 128 bits, that carry is worth a 2^128.
func TestMulDistributes(t *testing.T) {
	l := fewFactors()
	for _, a := range l {
		for _, b := range l {
			for _, c := range l {
				sum, _ := Add(Of(b), Of(c))
				var beyond api.Bits
				if High(sum) != none {
					beyond = a
				}
				left, carryLeft := Add(Mul(a, Low(sum)), Join(beyond, none))
				right, carryRight := Add(Mul(a, b), Mul(a, c))
				if left != right || carryLeft != carryRight {
					t.Fatalf("Mul(%x, %x + %x) = %x, %v; sum of the products %x, %v", a, b, c, left, carryLeft, right, carryRight)
				}
			}
		}
	}
}

// The visit of the digits ends where its loop is left.
func TestDigitsStops(t *testing.T) {
	calls := 0
	count := func(x, y, carry uint64) (uint64, uint64) {
		calls++
		return x, 0
	}
	for i := range digits(highest, one, count) {
		if i == 1 {
			break
		}
	}
	if calls != 2 {
		t.Errorf("op was called %d times; want 2", calls)
	}
}
