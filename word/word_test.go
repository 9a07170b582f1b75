package word

import (
	"math"
	"math/big"
	"testing"

	"hairsbreadth/api"
)

const all64 = math.MaxUint64

var (
	zero    = api.Bits{}
	one     = api.Bits{Lo: 1}
	low64   = api.Bits{Lo: all64}
	two64   = api.Bits{Hi: 1}
	two127  = api.Bits{Hi: 1 << 63}
	highest = api.Bits{Hi: all64, Lo: all64}
)

// digits are 64-bit numbers about the edges, and some in between. Pairs of them make the numbers of 128 bits.
func digits() []uint64 {
	return []uint64{
		0, 1, 2, 3, 10, 1<<31 + 5, 1<<32 - 1, 1 << 32, 1<<32 + 1,
		0x0123456789abcdef, 0xfedcba9876543210, 0x9e3779b97f4a7c15,
		1<<63 - 1, 1 << 63, 1<<63 + 1, all64 - 1, all64,
	}
}

func numbers() []api.Bits {
	var l []api.Bits
	for _, hi := range digits() {
		for _, lo := range digits() {
			l = append(l, api.Bits{Hi: hi, Lo: lo})
		}
	}
	return l
}

func bigOf(a api.Bits) *big.Int {
	n := new(big.Int).SetUint64(a.Hi)
	n.Lsh(n, 64)
	return n.Or(n, new(big.Int).SetUint64(a.Lo))
}

// P1.1: the examples and edges, each as a sum and as a difference.
func TestAddSubEdges(t *testing.T) {
	for _, x := range []struct {
		a, b, sum api.Bits
		carry     bool
	}{
		{zero, zero, zero, false},
		{api.Bits{Lo: 2}, api.Bits{Lo: 3}, api.Bits{Lo: 5}, false},
		{api.Bits{Hi: 2, Lo: 7}, api.Bits{Hi: 3, Lo: 8}, api.Bits{Hi: 5, Lo: 15}, false},
		{low64, one, two64, false},
		{low64, low64, api.Bits{Hi: 1, Lo: all64 - 1}, false},
		{highest, zero, highest, false},
		{zero, highest, highest, false},
		{api.Bits{Hi: all64}, low64, highest, false},
		{api.Bits{Hi: all64, Lo: all64 - 1}, one, highest, false},
		{highest, one, zero, true},
		{one, highest, zero, true},
		{two127, two127, zero, true},
		{api.Bits{Hi: all64}, two64, zero, true},
		{api.Bits{Hi: all64, Lo: 5}, api.Bits{Hi: 4, Lo: 6}, api.Bits{Hi: 3, Lo: 11}, true},
		{highest, highest, api.Bits{Hi: all64, Lo: all64 - 1}, true},
	} {
		if s, c := Add(x.a, x.b); s != x.sum || c != x.carry {
			t.Errorf("Add(%x, %x) = %x, %v; want %x, %v", x.a, x.b, s, c, x.sum, x.carry)
		}
		if d, c := Sub(x.sum, x.b); d != x.a || c != x.carry {
			t.Errorf("Sub(%x, %x) = %x, %v; want %x, %v", x.sum, x.b, d, c, x.a, x.carry)
		}
	}
}

// P1.1: a borrow within the number and out of it, and equal numbers.
func TestSubBorrows(t *testing.T) {
	for _, x := range []struct {
		a, b, diff api.Bits
		borrow     bool
	}{
		{zero, one, highest, true},
		{zero, highest, one, true},
		{two64, one, low64, false},
		{one, two64, api.Bits{Hi: all64, Lo: 1}, true},
		{api.Bits{Hi: 1, Lo: 1}, api.Bits{Hi: 1, Lo: 2}, highest, true},
		{api.Bits{Hi: 2, Lo: 1}, api.Bits{Hi: 1, Lo: 2}, low64, false},
		{highest, highest, zero, false},
		{zero, zero, zero, false},
		{api.Bits{Hi: 7, Lo: 9}, api.Bits{Hi: 7, Lo: 9}, zero, false},
	} {
		if d, c := Sub(x.a, x.b); d != x.diff || c != x.borrow {
			t.Errorf("Sub(%x, %x) = %x, %v; want %x, %v", x.a, x.b, d, c, x.diff, x.borrow)
		}
	}
}

// P1.1 and P1.2 (Cmp): every pair of the numbers, held against math/big.
func TestAddSubCmpAgainstBig(t *testing.T) {
	l := numbers()
	wrap := new(big.Int).Lsh(big.NewInt(1), 128)
	bigs := make([]*big.Int, len(l))
	for i, a := range l {
		bigs[i] = bigOf(a)
	}
	want := new(big.Int)
	for i, a := range l {
		for j, b := range l {
			want.Add(bigs[i], bigs[j])
			carry := want.Cmp(wrap) >= 0
			want.Mod(want, wrap)
			if s, c := Add(a, b); bigOf(s).Cmp(want) != 0 || c != carry {
				t.Fatalf("Add(%x, %x) = %x, %v; want %x, %v", a, b, s, c, want, carry)
			}
			want.Sub(bigs[i], bigs[j])
			borrow := want.Sign() < 0
			want.Mod(want, wrap)
			if d, c := Sub(a, b); bigOf(d).Cmp(want) != 0 || c != borrow {
				t.Fatalf("Sub(%x, %x) = %x, %v; want %x, %v", a, b, d, c, want, borrow)
			}
			if o := Cmp(a, b); o != bigs[i].Cmp(bigs[j]) {
				t.Fatalf("Cmp(%x, %x) = %d; want %d", a, b, o, bigs[i].Cmp(bigs[j]))
			}
		}
	}
}

// P1.2: the upper digits decide, whatever the lower ones are.
func TestCmp(t *testing.T) {
	for _, x := range []struct {
		a, b api.Bits
		want int
	}{
		{one, api.Bits{Lo: 2}, -1},
		{api.Bits{Lo: 2}, one, 1},
		{zero, zero, 0},
		{highest, highest, 0},
		{zero, highest, -1},
		{highest, zero, 1},
		{low64, two64, -1},
		{two64, low64, 1},
		{api.Bits{Hi: 5, Lo: 1}, api.Bits{Hi: 5, Lo: all64}, -1},
		{api.Bits{Hi: 1 << 63}, api.Bits{Hi: 1<<63 - 1, Lo: all64}, 1},
	} {
		if o := Cmp(x.a, x.b); o != x.want {
			t.Errorf("Cmp(%x, %x) = %d; want %d", x.a, x.b, o, x.want)
		}
	}
}

// P1.2: a single bit anywhere makes a number that is not 0.
func TestZero(t *testing.T) {
	if !Zero(zero) {
		t.Error("Zero(0) = false")
	}
	if Zero(highest) {
		t.Error("Zero(2^128 - 1) = true")
	}
	for i := range 64 {
		if a := (api.Bits{Lo: 1 << i}); Zero(a) {
			t.Errorf("Zero(%x) = true", a)
		}
		if a := (api.Bits{Hi: 1 << i}); Zero(a) {
			t.Errorf("Zero(%x) = true", a)
		}
	}
}

// P1.2: every bit of every number, and of numbers with a single 1 or a single 0.
func TestBit(t *testing.T) {
	l := numbers()
	for i := range 64 {
		l = append(l, api.Bits{Lo: 1 << i}, api.Bits{Hi: 1 << i},
			api.Bits{Hi: all64, Lo: all64 &^ (1 << i)}, api.Bits{Hi: all64 &^ (1 << i), Lo: all64})
	}
	for _, a := range l {
		n := bigOf(a)
		for i := range 128 {
			if got, want := Bit(a, i), n.Bit(i) == 1; got != want {
				t.Fatalf("Bit(%x, %d) = %v; want %v", a, i, got, want)
			}
		}
	}
}

// P1.2: there are no bits beside 0 to 127.
func TestBitOutOfRange(t *testing.T) {
	wrong := []int{
		-1, -2, -63, -64, -65, -127, -128, -129, -256, math.MinInt32, math.MinInt, math.MinInt + 64,
		128, 129, 191, 192, 255, 256, 1 << 16, 1 << 32, math.MaxInt32, math.MaxInt - 63, math.MaxInt,
	}
	for _, a := range []api.Bits{zero, one, two127, highest} {
		for _, i := range wrong {
			if Bit(a, i) {
				t.Errorf("Bit(%x, %d) = true", a, i)
			}
		}
	}
}

// P1.3: the examples and edges.
func TestMulEdges(t *testing.T) {
	for _, x := range []struct {
		a, b uint64
		want api.Bits
	}{
		{0, 0, zero},
		{0, all64, zero},
		{1, all64, low64},
		{6, 7, api.Bits{Lo: 42}},
		{1 << 32, 1 << 32, two64},
		{1 << 63, 2, two64},
		{1<<32 - 1, 1<<32 + 1, low64},
		{1 << 63, 1 << 63, api.Bits{Hi: 1 << 62}},
		{all64, 2, api.Bits{Hi: 1, Lo: all64 - 1}},
		{all64, all64, api.Bits{Hi: all64 - 1, Lo: 1}},
	} {
		if p := Mul(x.a, x.b); p != x.want {
			t.Errorf("Mul(%x, %x) = %x; want %x", x.a, x.b, p, x.want)
		}
		if p := Mul(x.b, x.a); p != x.want {
			t.Errorf("Mul(%x, %x) = %x; want %x", x.b, x.a, p, x.want)
		}
	}
}

// P1.3: every pair of the digits, held against math/big.
func TestMulAgainstBig(t *testing.T) {
	for _, a := range digits() {
		for _, b := range digits() {
			want := new(big.Int).SetUint64(a)
			want.Mul(want, new(big.Int).SetUint64(b))
			if p := Mul(a, b); bigOf(p).Cmp(want) != 0 {
				t.Errorf("Mul(%x, %x) = %x; want %x", a, b, p, want)
			}
		}
	}
}

// P1.4: subtracting b from a + b gives a, with a borrow just where there was a carry.
func TestSubUndoesAdd(t *testing.T) {
	l := numbers()
	for _, a := range l {
		for _, b := range l {
			sum, carry := Add(a, b)
			if d, borrow := Sub(sum, b); d != a || borrow != carry {
				t.Fatalf("Sub(Add(%x, %x), %x) = %x, %v; want %x, %v", a, b, b, d, borrow, a, carry)
			}
		}
	}
}

// P1.4: a (b + c) is a b + a c. Where b + c has a carry out of 64 bits, that carry is worth a 2^64.
func TestMulDistributes(t *testing.T) {
	for _, a := range digits() {
		for _, b := range digits() {
			for _, c := range digits() {
				sum, _ := Add(api.Bits{Lo: b}, api.Bits{Lo: c})
				left, carryLeft := Add(Mul(a, sum.Lo), api.Bits{Hi: a * sum.Hi})
				right, carryRight := Add(Mul(a, b), Mul(a, c))
				if left != right || carryLeft != carryRight {
					t.Fatalf("Mul(%x, %x + %x) = %x, %v; sum of the products %x, %v", a, b, c, left, carryLeft, right, carryRight)
				}
			}
		}
	}
}
