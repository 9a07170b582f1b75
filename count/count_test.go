package count

import (
	"math"
	"math/big"
	"testing"

	"hairsbreadth/api"
	"hairsbreadth/shift"
)

const all64 = math.MaxUint64

// power returns 2^i.
func power(i int) api.Wide {
	var w api.Wide
	w[i/64] = 1 << (i % 64)
	return w
}

// ones returns the number whose bits from low to high are 1, made bit by bit.
func ones(low, high int) api.Wide {
	var w api.Wide
	for i := low; i <= high; i++ {
		w[i/64] |= 1 << (i % 64)
	}
	return w
}

func or(a, b api.Wide) api.Wide {
	for i := range a {
		a[i] |= b[i]
	}
	return a
}

func and(a, b api.Wide) api.Wide {
	for i := range a {
		a[i] &= b[i]
	}
	return a
}

func lowHalf(w api.Wide) api.Bits {
	return api.Bits{Hi: w[1], Lo: w[0]}
}

// span is the 1 bits of a number: the least and the most significant of them,
// and what stands between.
type span struct {
	low, high int
	number    api.Wide
}

// spans are numbers of every bit length up to width with every number of zero
// bits at the end: with nothing, with all and with something in between.
func spans(width int) []span {
	mixed := api.Wide{0x9e3779b97f4a7c15, 0x0123456789abcdef, 0xc2b2ae3d27d4eb4f, 0x165667b19e3779f9}
	var l []span
	for high := range width {
		for low := range high + 1 {
			ends, between := or(power(low), power(high)), ones(low, high)
			for _, w := range []api.Wide{ends, between, or(ends, and(between, mixed))} {
				l = append(l, span{low, high, w})
			}
		}
	}
	return l
}

// wides are all numbers whose four digits are about the edges or in between.
func wides() []api.Wide {
	l := []api.Wide{{}}
	for i := range 4 {
		var longer []api.Wide
		for _, w := range l {
			for _, d := range []uint64{0, 1, 0x00e3779b97f4a7c0, 1<<63 - 1, 1 << 63, all64} {
				w[i] = d
				longer = append(longer, w)
			}
		}
		l = longer
	}
	return l
}

func bigOf(w api.Wide) *big.Int {
	n := new(big.Int)
	for i := range 4 {
		n.Lsh(n, 64)
		n.Or(n, new(big.Int).SetUint64(w[3-i]))
	}
	return n
}

func bigOfBits(a api.Bits) *big.Int {
	return bigOf(api.Wide{a.Lo, a.Hi})
}

// P4.1: 0, the examples, and the digits' ends.
func TestLengthEdges(t *testing.T) {
	for _, x := range []struct {
		a           api.Wide
		length, end int
	}{
		{api.Wide{}, 0, 256},
		{api.Wide{1}, 1, 0},
		{api.Wide{2}, 2, 1},
		{api.Wide{3}, 2, 0},
		{api.Wide{12}, 4, 2},
		{api.Wide{255}, 8, 0},
		{api.Wide{256}, 9, 8},
		{api.Wide{0x123456789abcde00}, 61, 9},
		{api.Wide{1<<63 - 1}, 63, 0},
		{api.Wide{1 << 63}, 64, 63},
		{api.Wide{all64}, 64, 0},
		{api.Wide{0, 1}, 65, 64},
		{api.Wide{1, 1}, 65, 0},
		{api.Wide{1 << 63, 1}, 65, 63},
		{api.Wide{all64, 1<<63 - 1}, 127, 0},
		{api.Wide{0, 1 << 63}, 128, 127},
		{api.Wide{all64, all64}, 128, 0},
		{api.Wide{0, 0, 1}, 129, 128},
		{api.Wide{0, 0, 8}, 132, 131},
		{api.Wide{0, 1 << 63, 1}, 129, 127},
		{api.Wide{all64, all64, all64}, 192, 0},
		{api.Wide{0, 0, 1 << 63}, 192, 191},
		{api.Wide{0, 0, 0, 1}, 193, 192},
		{api.Wide{1, 0, 0, 1}, 193, 0},
		{api.Wide{0, 0, 1 << 63, 1}, 193, 191},
		{api.Wide{0, 0, 0, 1 << 62}, 255, 254},
		{api.Wide{0, 0, 0, 1 << 63}, 256, 255},
		{api.Wide{1, 0, 0, 1 << 63}, 256, 0},
		{api.Wide{all64, all64, all64, all64}, 256, 0},
	} {
		if n := WideLen(x.a); n != x.length {
			t.Errorf("WideLen(%x) = %d; want %d", x.a, n, x.length)
		}
		if n := Tail(x.a); n != x.end {
			t.Errorf("Tail(%x) = %d; want %d", x.a, n, x.end)
		}
		if x.length > 128 {
			continue
		}
		if n := Len(lowHalf(x.a)); n != x.length {
			t.Errorf("Len(%x) = %d; want %d", lowHalf(x.a), n, x.length)
		}
	}
}

// P4.1: every bit length together with every number of zero bits at the end.
func TestLengths(t *testing.T) {
	for _, s := range spans(256) {
		if n := WideLen(s.number); n != s.high+1 {
			t.Fatalf("WideLen(%x) = %d; want %d", s.number, n, s.high+1)
		}
		if n := Tail(s.number); n != s.low {
			t.Fatalf("Tail(%x) = %d; want %d", s.number, n, s.low)
		}
	}
	for _, s := range spans(128) {
		if n := Len(lowHalf(s.number)); n != s.high+1 {
			t.Fatalf("Len(%x) = %d; want %d", lowHalf(s.number), n, s.high+1)
		}
	}
}

// P4.1: all digits about the edges, held against math/big.
func TestLengthsAgainstBig(t *testing.T) {
	for _, w := range wides() {
		b := bigOf(w)
		if n := WideLen(w); n != b.BitLen() {
			t.Fatalf("WideLen(%x) = %d; want %d", w, n, b.BitLen())
		}
		end := int(b.TrailingZeroBits())
		if b.Sign() == 0 {
			end = 256
		}
		if n := Tail(w); n != end {
			t.Fatalf("Tail(%x) = %d; want %d", w, n, end)
		}
		a := lowHalf(w)
		if n := Len(a); n != bigOfBits(a).BitLen() {
			t.Fatalf("Len(%x) = %d; want %d", a, n, bigOfBits(a).BitLen())
		}
	}
}

// P4.1: a power of 2 is one bit longer than the number just below it, and ends where that one does not.
func TestPowers(t *testing.T) {
	for i := range 256 {
		at := power(i)
		if n, end := WideLen(at), Tail(at); n != i+1 || end != i {
			t.Errorf("2^%d: WideLen %d, Tail %d", i, n, end)
		}
		below, end := ones(0, i-1), 0
		if i == 0 {
			end = 256
		}
		if n, tail := WideLen(below), Tail(below); n != i || tail != end {
			t.Errorf("2^%d - 1: WideLen %d, Tail %d; want %d, %d", i, n, tail, i, end)
		}
		if i > 127 {
			continue
		}
		if n := Len(lowHalf(at)); n != i+1 {
			t.Errorf("Len(2^%d) = %d", i, n)
		}
		if n := Len(lowHalf(below)); n != i {
			t.Errorf("Len(2^%d - 1) = %d", i, n)
		}
	}
}

// P4.2: 0, the example, numbers that need no shift, and shifts across digits.
func TestRaiseEdges(t *testing.T) {
	for _, x := range []struct {
		a, raised api.Bits
		by        int
	}{
		{api.Bits{}, api.Bits{}, 0},
		{api.Bits{Lo: 1}, api.Bits{Hi: 1 << 63}, 127},
		{api.Bits{Lo: 3}, api.Bits{Hi: 3 << 62}, 126},
		{api.Bits{Lo: 255}, api.Bits{Hi: 255 << 56}, 120},
		{api.Bits{Lo: 1<<63 - 1}, api.Bits{Hi: all64 - 1}, 65},
		{api.Bits{Lo: 1 << 63}, api.Bits{Hi: 1 << 63}, 64},
		{api.Bits{Lo: all64}, api.Bits{Hi: all64}, 64},
		{api.Bits{Hi: 1}, api.Bits{Hi: 1 << 63}, 63},
		{api.Bits{Hi: 1, Lo: 1}, api.Bits{Hi: 1 << 63, Lo: 1 << 63}, 63},
		{api.Bits{Hi: 1 << 62, Lo: 1}, api.Bits{Hi: 1 << 63, Lo: 2}, 1},
		{api.Bits{Hi: 1 << 63}, api.Bits{Hi: 1 << 63}, 0},
		{api.Bits{Hi: 1 << 63, Lo: 1}, api.Bits{Hi: 1 << 63, Lo: 1}, 0},
		{api.Bits{Hi: all64, Lo: all64}, api.Bits{Hi: all64, Lo: all64}, 0},
	} {
		if r, by := Raise(x.a); r != x.raised || by != x.by {
			t.Errorf("Raise(%x) = %x, %d; want %x, %d", x.a, r, by, x.raised, x.by)
		}
	}
}

// P4.2: the same for the greater width.
func TestWideRaiseEdges(t *testing.T) {
	highest := api.Wide{all64, all64, all64, all64}
	for _, x := range []struct {
		a, raised api.Wide
		by        int
	}{
		{api.Wide{}, api.Wide{}, 0},
		{api.Wide{1}, api.Wide{0, 0, 0, 1 << 63}, 255},
		{api.Wide{5}, api.Wide{0, 0, 0, 5 << 61}, 253},
		{api.Wide{all64}, api.Wide{0, 0, 0, all64}, 192},
		{api.Wide{0, 1}, api.Wide{0, 0, 0, 1 << 63}, 191},
		{api.Wide{all64, all64}, api.Wide{0, 0, all64, all64}, 128},
		{api.Wide{0, 0, 1}, api.Wide{0, 0, 0, 1 << 63}, 127},
		{api.Wide{1, 1, 1}, api.Wide{0, 1 << 63, 1 << 63, 1 << 63}, 127},
		{api.Wide{3, 0, 1 << 63}, api.Wide{0, 3, 0, 1 << 63}, 64},
		{api.Wide{0, 0, 0, 1}, api.Wide{0, 0, 0, 1 << 63}, 63},
		{api.Wide{1, 0, 0, 1}, api.Wide{1 << 63, 0, 0, 1 << 63}, 63},
		{api.Wide{1, 0, 0, 1 << 62}, api.Wide{2, 0, 0, 1 << 63}, 1},
		{api.Wide{1, 0, 0, 1 << 63}, api.Wide{1, 0, 0, 1 << 63}, 0},
		{highest, highest, 0},
	} {
		if r, by := WideRaise(x.a); r != x.raised || by != x.by {
			t.Errorf("WideRaise(%x) = %x, %d; want %x, %d", x.a, r, by, x.raised, x.by)
		}
	}
}

// raisedBig returns a, normalized to width by math/big, and the distance.
func raisedBig(a *big.Int, width int) (*big.Int, int) {
	if a.Sign() == 0 {
		return a, 0
	}
	by := width - a.BitLen()
	return new(big.Int).Lsh(a, uint(by)), by
}

func checkRaise(t *testing.T, a api.Bits) {
	t.Helper()
	want, distance := raisedBig(bigOfBits(a), 128)
	if r, by := Raise(a); bigOfBits(r).Cmp(want) != 0 || by != distance {
		t.Fatalf("Raise(%x) = %x, %d; want %x, %d", a, r, by, want, distance)
	}
}

func checkWideRaise(t *testing.T, a api.Wide) {
	t.Helper()
	want, distance := raisedBig(bigOf(a), 256)
	if r, by := WideRaise(a); bigOf(r).Cmp(want) != 0 || by != distance {
		t.Fatalf("WideRaise(%x) = %x, %d; want %x, %d", a, r, by, want, distance)
	}
}

// P4.2: every bit length and all digits about the edges, held against math/big.
func TestRaiseAgainstBig(t *testing.T) {
	for _, s := range spans(128) {
		checkRaise(t, lowHalf(s.number))
	}
	for _, s := range spans(256) {
		checkWideRaise(t, s.number)
	}
	for _, w := range wides() {
		checkRaise(t, lowHalf(w))
		checkWideRaise(t, w)
	}
}

// within reports whether a is at least 2^(length - 1) and less than 2^length.
func within(a *big.Int, length int) bool {
	if length < 1 {
		return false
	}
	limit := new(big.Int).Lsh(big.NewInt(1), uint(length))
	least := new(big.Int).Rsh(limit, 1)
	return a.Cmp(least) >= 0 && a.Cmp(limit) < 0
}

// P4.3: the bit length bounds the number; shifting the normalized number right gives the number back.
func checkProperties(t *testing.T, w api.Wide) {
	t.Helper()
	if n := WideLen(w); w != (api.Wide{}) && !within(bigOf(w), n) {
		t.Fatalf("WideLen(%x) = %d", w, n)
	}
	if r, by := WideRaise(w); shift.WideRight(r, by) != w || w != (api.Wide{}) && r[3]>>63 != 1 {
		t.Fatalf("WideRaise(%x) = %x, %d", w, r, by)
	}
	a := lowHalf(w)
	if n := Len(a); a != (api.Bits{}) && !within(bigOfBits(a), n) {
		t.Fatalf("Len(%x) = %d", a, n)
	}
	if r, by := Raise(a); shift.Right(r, by) != a || a != (api.Bits{}) && r.Hi>>63 != 1 {
		t.Fatalf("Raise(%x) = %x, %d", a, r, by)
	}
}

// P4.3: every bit length, every number of zero bits at the end, and 0.
func TestProperties(t *testing.T) {
	for _, s := range spans(256) {
		checkProperties(t, s.number)
	}
	for _, w := range wides() {
		checkProperties(t, w)
	}
}
