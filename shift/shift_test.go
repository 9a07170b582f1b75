package shift

import (
	"math"
	"math/big"
	"testing"

	"hairsbreadth/api"
)

const all64 = math.MaxUint64

var (
	none   = api.Bits{}
	one    = api.Bits{Lo: 1}
	two127 = api.Bits{Hi: 1 << 63}
	all128 = api.Bits{Hi: all64, Lo: all64}

	zero    = api.Wide{}
	two255  = api.Wide{0, 0, 0, 1 << 63}
	highest = api.Wide{all64, all64, all64, all64}
)

// negative and far are the distances at the ends of what an int holds, and some
// that would count as others if only their lower bits were looked at.
func negative() []int {
	return []int{-1, -2, -63, -64, -65, -127, -128, -129, -255, -256, -257, -1 << 16, math.MinInt32, math.MinInt + 1, math.MinInt}
}

func far() []int {
	return []int{257, 300, 319, 320, 321, 511, 512, 1 << 16, 1<<16 + 1, math.MaxInt32, 1 << 32, 1<<32 + 1, math.MaxInt - 63, math.MaxInt - 1, math.MaxInt}
}

// near are all the distances within both widths, and the limit.
func near() []int {
	var l []int
	for n := range 257 {
		l = append(l, n)
	}
	return l
}

// wides are all numbers whose four digits are about the edges or in between,
// and those with a single 1 or a single 0.
func wides() []api.Wide {
	l := []api.Wide{{}}
	for i := range 4 {
		var longer []api.Wide
		for _, w := range l {
			for _, d := range []uint64{0, 1, 0x9e3779b97f4a7c15, 1 << 63} {
				w[i] = d
				longer = append(longer, w)
			}
		}
		l = longer
	}
	for i := range 256 {
		w := power(i)
		l = append(l, w)
		for j := range w {
			w[j] = ^w[j]
		}
		l = append(l, w)
	}
	return append(l, highest, api.Wide{1, 2, 3, 4}, api.Wide{all64, all64}, api.Wide{0, 0, all64, all64})
}

// narrows are the lower halves of the wides.
func narrows() []api.Bits {
	var l []api.Bits
	seen := map[api.Bits]bool{}
	for _, w := range wides() {
		a := api.Bits{Hi: w[1], Lo: w[0]}
		if !seen[a] {
			seen[a] = true
			l = append(l, a)
		}
	}
	return l
}

// power returns 2^i.
func power(i int) api.Wide {
	var w api.Wide
	w[i/64] = 1 << (i % 64)
	return w
}

func bigOf(w api.Wide) *big.Int {
	n := new(big.Int)
	for i := range 4 {
		n.Lsh(n, 64)
		n.Or(n, new(big.Int).SetUint64(w[3-i]))
	}
	return n
}

func bigOfBits(a api.Bits) *big.Int {
	return bigOf(api.Wide{a.Lo, a.Hi})
}

// expect holds the three shifts of a number by n, as math/big makes them.
type expect struct {
	left, right, jam *big.Int
	lost             bool
}

func expectOf(a *big.Int, n, width int) expect {
	limit := new(big.Int).Lsh(big.NewInt(1), uint(width))
	unit := new(big.Int).Lsh(big.NewInt(1), uint(n))
	left := new(big.Int).Mul(a, unit)
	left.Mod(left, limit)
	right, rest := new(big.Int).QuoRem(a, unit, new(big.Int))
	jam := new(big.Int).Set(right)
	if rest.Sign() != 0 {
		jam.SetBit(jam, 0, 1)
	}
	return expect{left, right, jam, rest.Sign() != 0}
}

// P3.1: the examples; distances within a digit, across both and at the ends of them.
func TestNarrowEdges(t *testing.T) {
	a := api.Bits{Hi: 0x0123456789abcdef, Lo: 0xfedcba9876543210}
	for _, x := range []struct {
		a                api.Bits
		n                int
		left, right, jam api.Bits
	}{
		{api.Bits{Lo: 5}, 1, api.Bits{Lo: 10}, api.Bits{Lo: 2}, api.Bits{Lo: 3}},
		{api.Bits{Lo: 4}, 1, api.Bits{Lo: 8}, api.Bits{Lo: 2}, api.Bits{Lo: 2}},
		{api.Bits{Lo: 7}, 1, api.Bits{Lo: 14}, api.Bits{Lo: 3}, api.Bits{Lo: 3}},
		{a, 0, a, a, a},
		{a, 4, api.Bits{Hi: 0x123456789abcdeff, Lo: 0xedcba98765432100}, api.Bits{Hi: 0x00123456789abcde, Lo: 0xffedcba987654321}, api.Bits{Hi: 0x00123456789abcde, Lo: 0xffedcba987654321}},
		{a, 64, api.Bits{Hi: 0xfedcba9876543210}, api.Bits{Lo: 0x0123456789abcdef}, api.Bits{Lo: 0x0123456789abcdef}},
		{a, 72, api.Bits{Hi: 0xdcba987654321000}, api.Bits{Lo: 0x000123456789abcd}, api.Bits{Lo: 0x000123456789abcd}},
		{api.Bits{Hi: 2, Lo: 1}, 64, api.Bits{Hi: 1}, api.Bits{Lo: 2}, api.Bits{Lo: 3}},
		{api.Bits{Hi: 2}, 64, none, api.Bits{Lo: 2}, api.Bits{Lo: 2}},
		{one, 63, api.Bits{Lo: 1 << 63}, none, one},
		{one, 64, api.Bits{Hi: 1}, none, one},
		{one, 65, api.Bits{Hi: 2}, none, one},
		{one, 127, two127, none, one},
		{one, 128, none, none, one},
		{one, 200, none, none, one},
		{two127, 63, none, api.Bits{Hi: 1}, api.Bits{Hi: 1}},
		{two127, 64, none, api.Bits{Lo: 1 << 63}, api.Bits{Lo: 1 << 63}},
		{two127, 126, none, api.Bits{Lo: 2}, api.Bits{Lo: 2}},
		{two127, 127, none, one, one},
		{two127, 128, none, none, one},
		{all128, 1, api.Bits{Hi: all64, Lo: all64 - 1}, api.Bits{Hi: all64 >> 1, Lo: all64}, api.Bits{Hi: all64 >> 1, Lo: all64}},
		{all128, 127, two127, one, one},
		{all128, 128, none, none, one},
	} {
		if l, r, j := Left(x.a, x.n), Right(x.a, x.n), Jam(x.a, x.n); l != x.left || r != x.right || j != x.jam {
			t.Errorf("%x by %d: Left %x, Right %x, Jam %x; want %x, %x, %x", x.a, x.n, l, r, j, x.left, x.right, x.jam)
		}
	}
}

// P3.1: every distance up to twice the width, held against math/big.
func TestNarrowAgainstBig(t *testing.T) {
	for _, a := range narrows() {
		b := bigOfBits(a)
		for _, n := range near() {
			want := expectOf(b, n, 128)
			if l := Left(a, n); bigOfBits(l).Cmp(want.left) != 0 {
				t.Fatalf("Left(%x, %d) = %x; want %x", a, n, l, want.left)
			}
			if r := Right(a, n); bigOfBits(r).Cmp(want.right) != 0 {
				t.Fatalf("Right(%x, %d) = %x; want %x", a, n, r, want.right)
			}
			if j := Jam(a, n); bigOfBits(j).Cmp(want.jam) != 0 {
				t.Fatalf("Jam(%x, %d) = %x; want %x", a, n, j, want.jam)
			}
		}
	}
}

// P3.1: a negative distance counts as 0; one of 128 or more leaves only the sticky bit.
func TestNarrowOutOfRange(t *testing.T) {
	for _, a := range narrows() {
		for _, n := range negative() {
			if l, r, j := Left(a, n), Right(a, n), Jam(a, n); l != a || r != a || j != a {
				t.Fatalf("%x by %d: Left %x, Right %x, Jam %x; want the number itself", a, n, l, r, j)
			}
		}
		sticky := one
		if a == none {
			sticky = none
		}
		for _, n := range append(far(), 128, 129, 191, 192, 193, 255, 256) {
			if l, r, j := Left(a, n), Right(a, n), Jam(a, n); l != none || r != none || j != sticky {
				t.Fatalf("%x by %d: Left %x, Right %x, Jam %x; want 0, 0, %x", a, n, l, r, j, sticky)
			}
		}
	}
}

// P3.2: distances within a digit, across all of them and at the ends of them.
func TestWideEdges(t *testing.T) {
	a := api.Wide{1, 2, 3, 4}
	for _, x := range []struct {
		a                api.Wide
		n                int
		left, right, jam api.Wide
	}{
		{a, 0, a, a, a},
		{a, 1, api.Wide{2, 4, 6, 8}, api.Wide{0, 1 | 1<<63, 1, 2}, api.Wide{1, 1 | 1<<63, 1, 2}},
		{a, 64, api.Wide{0, 1, 2, 3}, api.Wide{2, 3, 4}, api.Wide{3, 3, 4}},
		{a, 128, api.Wide{0, 0, 1, 2}, api.Wide{3, 4}, api.Wide{3, 4}},
		{a, 129, api.Wide{0, 0, 2, 4}, api.Wide{1, 2}, api.Wide{1, 2}},
		{a, 192, api.Wide{0, 0, 0, 1}, api.Wide{4}, api.Wide{5}},
		{a, 255, api.Wide{0, 0, 0, 1 << 63}, zero, api.Wide{1}},
		{api.Wide{1}, 127, api.Wide{0, 1 << 63}, zero, api.Wide{1}},
		{api.Wide{1}, 128, api.Wide{0, 0, 1}, zero, api.Wide{1}},
		{api.Wide{1}, 255, two255, zero, api.Wide{1}},
		{api.Wide{1}, 256, zero, zero, api.Wide{1}},
		{two255, 128, zero, api.Wide{0, 1 << 63}, api.Wide{0, 1 << 63}},
		{two255, 191, zero, api.Wide{0, 1}, api.Wide{0, 1}},
		{two255, 192, zero, api.Wide{1 << 63}, api.Wide{1 << 63}},
		{two255, 254, zero, api.Wide{2}, api.Wide{2}},
		{two255, 255, zero, api.Wide{1}, api.Wide{1}},
		{two255, 256, zero, zero, api.Wide{1}},
		{highest, 4, api.Wide{all64 - 15, all64, all64, all64}, api.Wide{all64, all64, all64, all64 >> 4}, api.Wide{all64, all64, all64, all64 >> 4}},
		{highest, 255, two255, api.Wide{1}, api.Wide{1}},
		{highest, 256, zero, zero, api.Wide{1}},
	} {
		if l, r, j := WideLeft(x.a, x.n), WideRight(x.a, x.n), WideJam(x.a, x.n); l != x.left || r != x.right || j != x.jam {
			t.Errorf("%x by %d: WideLeft %x, WideRight %x, WideJam %x; want %x, %x, %x", x.a, x.n, l, r, j, x.left, x.right, x.jam)
		}
	}
}

// P3.2 and P3.3: every distance up to the width, held against math/big.
func TestWideAgainstBig(t *testing.T) {
	for _, a := range wides() {
		b := bigOf(a)
		for _, n := range near() {
			want := expectOf(b, n, 256)
			if l := WideLeft(a, n); bigOf(l).Cmp(want.left) != 0 {
				t.Fatalf("WideLeft(%x, %d) = %x; want %x", a, n, l, want.left)
			}
			if r := WideRight(a, n); bigOf(r).Cmp(want.right) != 0 {
				t.Fatalf("WideRight(%x, %d) = %x; want %x", a, n, r, want.right)
			}
			if j := WideJam(a, n); bigOf(j).Cmp(want.jam) != 0 {
				t.Fatalf("WideJam(%x, %d) = %x; want %x", a, n, j, want.jam)
			}
			if l := Lost(a, n); l != want.lost {
				t.Fatalf("Lost(%x, %d) = %v; want %v", a, n, l, want.lost)
			}
		}
	}
}

// P3.2 and P3.3: a negative distance counts as 0; one of 256 or more discards all there is.
func TestWideOutOfRange(t *testing.T) {
	for _, a := range wides() {
		for _, n := range negative() {
			if l, r, j := WideLeft(a, n), WideRight(a, n), WideJam(a, n); l != a || r != a || j != a {
				t.Fatalf("%x by %d: WideLeft %x, WideRight %x, WideJam %x; want the number itself", a, n, l, r, j)
			}
			if Lost(a, n) {
				t.Fatalf("Lost(%x, %d) = true", a, n)
			}
		}
		sticky := api.Wide{1}
		if a == zero {
			sticky = zero
		}
		for _, n := range append(far(), 256) {
			if l, r, j := WideLeft(a, n), WideRight(a, n), WideJam(a, n); l != zero || r != zero || j != sticky {
				t.Fatalf("%x by %d: WideLeft %x, WideRight %x, WideJam %x; want 0, 0, %x", a, n, l, r, j, sticky)
			}
			if l := Lost(a, n); l != (a != zero) {
				t.Fatalf("Lost(%x, %d) = %v", a, n, l)
			}
		}
	}
}

// P3.2 and P3.3: a single 1 is lost, and seen in the sticky bit, as soon as the distance is beyond its place.
func TestSingleBit(t *testing.T) {
	for i := range 256 {
		a := power(i)
		for _, n := range near() {
			want := n > i
			if l := Lost(a, n); l != want {
				t.Fatalf("Lost(2^%d, %d) = %v; want %v", i, n, l, want)
			}
			jam := api.Wide{1}
			if !want {
				jam = power(i - n)
			}
			if j := WideJam(a, n); j != jam {
				t.Fatalf("WideJam(2^%d, %d) = %x; want %x", i, n, j, jam)
			}
		}
	}
}

// P3.3: of 0 nothing is lost; of 12, its two lowest bits are 0.
func TestLostEdges(t *testing.T) {
	for _, x := range []struct {
		a    api.Wide
		n    int
		want bool
	}{
		{zero, 0, false}, {zero, 1, false}, {zero, 255, false}, {zero, 256, false}, {zero, math.MaxInt, false},
		{api.Wide{12}, 0, false}, {api.Wide{12}, 2, false}, {api.Wide{12}, 3, true}, {api.Wide{12}, 256, true},
		{api.Wide{0, 1}, 64, false}, {api.Wide{0, 1}, 65, true},
		{api.Wide{0, 0, 1}, 128, false}, {api.Wide{0, 0, 1}, 129, true},
		{api.Wide{0, 0, 0, 1}, 192, false}, {api.Wide{0, 0, 0, 1}, 193, true},
		{two255, 255, false}, {two255, 256, true}, {two255, math.MaxInt, true},
		{highest, 0, false}, {highest, -1, false}, {highest, math.MinInt, false}, {highest, 1, true},
	} {
		if l := Lost(x.a, x.n); l != x.want {
			t.Errorf("Lost(%x, %d) = %v; want %v", x.a, x.n, l, x.want)
		}
	}
}

// steps are pairs of distances whose sum does not overflow an int.
func steps() [][2]int {
	edges := []int{0, 1, 2, 31, 63, 64, 65, 100, 127, 128, 129, 191, 192, 193, 255, 256, 257, 1 << 32}
	var l [][2]int
	for _, n := range edges {
		for _, m := range edges {
			l = append(l, [2]int{n, m})
		}
		l = append(l, [2]int{n, math.MaxInt - n}, [2]int{math.MaxInt - n, n})
	}
	return l
}

// P3.4: two shifts right, and two jamming shifts, are one by the sum of the distances.
func TestShiftsAddUp(t *testing.T) {
	for _, s := range steps() {
		n, m := s[0], s[1]
		for _, a := range narrows() {
			if twice, once := Right(Right(a, n), m), Right(a, n+m); twice != once {
				t.Fatalf("Right of %x by %d and %d = %x; by the sum %x", a, n, m, twice, once)
			}
			if twice, once := Jam(Jam(a, n), m), Jam(a, n+m); twice != once {
				t.Fatalf("Jam of %x by %d and %d = %x; by the sum %x", a, n, m, twice, once)
			}
		}
		for _, a := range wides() {
			if twice, once := WideRight(WideRight(a, n), m), WideRight(a, n+m); twice != once {
				t.Fatalf("WideRight of %x by %d and %d = %x; by the sum %x", a, n, m, twice, once)
			}
			if twice, once := WideJam(WideJam(a, n), m), WideJam(a, n+m); twice != once {
				t.Fatalf("WideJam of %x by %d and %d = %x; by the sum %x", a, n, m, twice, once)
			}
		}
	}
}

// P3.4: a jamming shift is the right shift or greater by 1, which makes it odd
// where a 1 was discarded, and changes nothing where none was.
func TestJamBesideRight(t *testing.T) {
	distances := append(append(near(), far()...), negative()...)
	for _, a := range narrows() {
		for _, n := range distances {
			right, jam := Right(a, n), Jam(a, n)
			if jam != right && (right.Lo&1 != 0 || jam != api.Bits{Hi: right.Hi, Lo: right.Lo + 1}) {
				t.Fatalf("Jam(%x, %d) = %x; Right %x", a, n, jam, right)
			}
			discarded := Lost(api.Wide{a.Lo, a.Hi}, n)
			if discarded && jam.Lo&1 == 0 || !discarded && jam != right {
				t.Fatalf("Jam(%x, %d) = %x; Right %x; discarded: %v", a, n, jam, right, discarded)
			}
		}
	}
	for _, a := range wides() {
		for _, n := range distances {
			right, jam := WideRight(a, n), WideJam(a, n)
			if jam != right && (right[0]&1 != 0 || jam != api.Wide{right[0] + 1, right[1], right[2], right[3]}) {
				t.Fatalf("WideJam(%x, %d) = %x; WideRight %x", a, n, jam, right)
			}
			if lost := Lost(a, n); lost && jam[0]&1 == 0 || !lost && jam != right {
				t.Fatalf("WideJam(%x, %d) = %x; WideRight %x; Lost %v", a, n, jam, right, lost)
			}
		}
	}
}
