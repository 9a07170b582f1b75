package root

import (
	"math"
	"math/big"
	"slices"
	"testing"

	"hairsbreadth/api"
	"hairsbreadth/wide"
	"hairsbreadth/word"
)

const all64 = math.MaxUint64

var (
	none    = api.Bits{}
	one     = api.Bits{Lo: 1}
	all     = api.Bits{Hi: all64, Lo: all64}
	highest = api.Wide{all64, all64, all64, all64}
)

// power returns 2^i.
func power(i int) api.Wide {
	var w api.Wide
	w[i/64] = 1 << (i % 64)
	return w
}

func sum(a, b api.Wide) api.Wide {
	s, _ := wide.Add(a, b)
	return s
}

func difference(a, b api.Wide) api.Wide {
	d, _ := wide.Sub(a, b)
	return d
}

func square(r api.Bits) api.Wide {
	return wide.Mul(r, r)
}

// below returns the bits of a mixed number that stand below bit i.
func below(i int) api.Wide {
	mixed := api.Wide{0x0123456789abcdef, 0x9e3779b97f4a7c15, 0xfedcba9876543210, 0x5bd1e995a3c59ac3}
	under := difference(power(i), api.Wide{1})
	for j := range mixed {
		mixed[j] &= under[j]
	}
	return mixed
}

// ofLength are numbers of bit length i + 1: the least and the greatest of them,
// those beside the least, and some in between.
func ofLength(i int) []api.Wide {
	at := power(i)
	l := []api.Wide{at, sum(at, difference(at, api.Wide{1})), sum(at, below(i))}
	if i > 0 {
		l = append(l, sum(at, api.Wide{1}), sum(at, power(i-1)), sum(at, power(i/2)))
	}
	return l
}

// roots are 128-bit numbers of every bit length, and 0.
func roots() []api.Bits {
	l := []api.Bits{none}
	for i := range 128 {
		for _, w := range ofLength(i) {
			l = append(l, wide.Low(w))
		}
	}
	return l
}

// wides are numbers of every bit length, and all whose four digits are about
// the edges or in between.
func wides() []api.Wide {
	l := []api.Wide{{}}
	for i := range 4 {
		var longer []api.Wide
		for _, w := range l {
			for _, d := range []uint64{0, 1, 0x9e3779b97f4a7c15, 1 << 63, all64} {
				w[i] = d
				longer = append(longer, w)
			}
		}
		l = longer
	}
	for i := range 256 {
		l = append(l, ofLength(i)...)
	}
	return l
}

// aboutSquares are the squares of all the roots with the numbers just below and
// just above them.
func aboutSquares() []api.Wide {
	var l []api.Wide
	for _, r := range roots() {
		s := square(r)
		l = append(l, s, sum(s, api.Wide{1}))
		if r != none {
			l = append(l, difference(s, api.Wide{1}))
		}
	}
	return l
}

func bigOf(w api.Wide) *big.Int {
	n := new(big.Int)
	for i := range 4 {
		n.Lsh(n, 64)
		n.Or(n, new(big.Int).SetUint64(w[3-i]))
	}
	return n
}

func check(t *testing.T, n api.Wide, want api.Bits, wantExact bool) {
	t.Helper()
	if r, exact := Root(n); r != want || exact != wantExact {
		t.Fatalf("Root(%x) = %x, %v; want %x, %v", n, r, exact, want, wantExact)
	}
}

// P6.1: the examples, 0, 1, the ends of the digits, and the greatest numbers.
func TestRootEdges(t *testing.T) {
	for _, x := range []struct {
		n     api.Wide
		r     api.Bits
		exact bool
	}{
		{api.Wide{}, none, true},
		{api.Wide{1}, one, true},
		{api.Wide{2}, one, false},
		{api.Wide{3}, one, false},
		{api.Wide{4}, api.Bits{Lo: 2}, true},
		{api.Wide{8}, api.Bits{Lo: 2}, false},
		{api.Wide{9}, api.Bits{Lo: 3}, true},
		{api.Wide{10}, api.Bits{Lo: 3}, false},
		{api.Wide{1 << 62}, api.Bits{Lo: 1 << 31}, true},
		{api.Wide{1 << 63}, api.Bits{Lo: 0xb504f333}, false},
		{api.Wide{all64}, api.Bits{Lo: 1<<32 - 1}, false},
		{api.Wide{0, 1}, api.Bits{Lo: 1 << 32}, true},
		{api.Wide{1, 1}, api.Bits{Lo: 1 << 32}, false},
		{api.Wide{1, all64 - 1}, api.Bits{Lo: all64}, true},
		{api.Wide{all64, all64}, api.Bits{Lo: all64}, false},
		{api.Wide{0, 0, 1}, api.Bits{Hi: 1}, true},
		{api.Wide{1, 0, 1}, api.Bits{Hi: 1}, false},
		{api.Wide{0, 2, 1}, api.Bits{Hi: 1}, false},
		{api.Wide{1, 2, 1}, api.Bits{Hi: 1, Lo: 1}, true},
		{api.Wide{all64, all64, all64}, api.Bits{Hi: 1<<32 - 1, Lo: all64}, false},
		{api.Wide{0, 0, 0, 1}, api.Bits{Hi: 1 << 32}, true},
		{api.Wide{all64, all64, all64, 1<<62 - 1}, api.Bits{Hi: 1<<63 - 1, Lo: all64}, false},
		{api.Wide{0, 0, 0, 1 << 62}, api.Bits{Hi: 1 << 63}, true},
		{api.Wide{0, 0, 0, 1 << 63}, api.Bits{Hi: 0xb504f333f9de6484, Lo: 0x597d89b3754abe9f}, false},
		{api.Wide{1, 0, all64 - 1, all64}, all, true},
		{api.Wide{0, 0, all64 - 1, all64}, api.Bits{Hi: all64, Lo: all64 - 1}, false},
		{api.Wide{2, 0, all64 - 1, all64}, all, false},
		{api.Wide{0, 0, all64, all64}, all, false},
		{highest, all, false},
	} {
		if r, exact := Root(x.n); r != x.r || exact != x.exact {
			t.Errorf("Root(%x) = %x, %v; want %x, %v", x.n, r, exact, x.r, x.exact)
		}
	}
}

// P6.1: every small number, by counting up to the next square.
func TestRootOfSmallNumbers(t *testing.T) {
	var r uint64
	for n := range uint64(1 << 12) {
		if (r+1)*(r+1) == n {
			r++
		}
		check(t, api.Wide{n}, api.Bits{Lo: r}, r*r == n)
	}
}

// P6.1: numbers of every bit length, all digits about the edges, and squares
// with the numbers beside them, held against math/big.
func TestRootAgainstBig(t *testing.T) {
	for _, n := range append(wides(), aboutSquares()...) {
		r, exact := Root(n)
		b := bigOf(n)
		want := new(big.Int).Sqrt(b)
		wantExact := new(big.Int).Mul(want, want).Cmp(b) == 0
		if bigOf(wide.Of(r)).Cmp(want) != 0 || exact != wantExact {
			t.Fatalf("Root(%x) = %x, %v; want %x, %v", n, r, exact, want, wantExact)
		}
	}
}

// P6.1: the square of the root is at most n and that of the next integer is
// greater; exact says whether the first is n.
func TestRootIsTheGreatest(t *testing.T) {
	for _, n := range append(wides(), aboutSquares()...) {
		r, exact := Root(n)
		if order := wide.Cmp(square(r), n); order > 0 || exact != (order == 0) {
			t.Fatalf("Root(%x) = %x, %v; its square is %x", n, r, exact, square(r))
		}
		if r == all {
			continue // the next square is beyond the width
		}
		next, _ := word.Add(r, one)
		if wide.Cmp(square(next), n) <= 0 {
			t.Fatalf("Root(%x) = %x, %v; the square of the next is %x", n, r, exact, square(next))
		}
	}
}

// P6.2: the root of the square of r is r, and exact. Up to the next square it
// stays r, and is not exact; just below the square it is less by 1.
func TestRootOfSquares(t *testing.T) {
	check(t, square(none), none, true)
	check(t, square(one), one, true)
	for _, r := range roots() {
		if r == none || r == one { // the numbers beside their squares are squares too
			continue
		}
		s := square(r)
		last := sum(s, wide.Mul(r, api.Bits{Lo: 2})) // (r + 1)^2 - 1
		before, _ := word.Sub(r, one)
		check(t, s, r, true)
		check(t, sum(s, api.Wide{1}), r, false)
		check(t, last, r, false)
		check(t, difference(s, api.Wide{1}), before, false)
	}
}

// P6.2: a greater number never has a smaller root.
func TestRootIsMonotonic(t *testing.T) {
	l := append(wides(), aboutSquares()...)
	slices.SortFunc(l, wide.Cmp)
	before, _ := Root(l[0])
	for i, n := range l[1:] {
		r, _ := Root(n)
		if word.Cmp(before, r) > 0 {
			t.Fatalf("Root(%x) = %x; Root(%x) = %x", l[i], before, n, r)
		}
		before = r
	}
}
