package sqrt

import (
	"math/big"
	"slices"
	"testing"

	"hairsbreadth/api"
)

// P22.2: no Overflow and no Underflow, at both ends of the format and between, with
// either kind of tininess: the exponent of a root is half of that of the number, so that
// the greatest and the least root are normal.
func TestNoOverflow(t *testing.T) {
	inParallel(t, func(t *testing.T, k kind) {
		least, greatest := bigOf(k.two(k.lowest()>>1)), bigOf(k.two(k.emax/2+1))
		l := append(k.numbers()[1:], k.finite()...)
		for i := int64(0); i < 40; i++ {
			l = append(l, low(uint64(i)+1), step(k.greatest(), -i), step(k.two(k.least()), i-20))
		}
		for i, a := range l {
			for _, v := range []api.Env{envs()[i%10], envs()[(i+5)%10]} {
				r := Sqrt(k.f, v, a)
				if r.Flags&^api.Inexact != 0 {
					t.Fatalf("%d, %v: the root of %x is %x", k.f, v, a, r)
				}
				if b := bigOf(r.Bits); b.Cmp(least) < 0 || b.Cmp(greatest) > 0 {
					t.Fatalf("%d, %v: the root of %x is %x, out of the bounds", k.f, v, a, r)
				}
			}
		}
	})
}

// P22.2: the roots of the ends, written out: of the least number or its double, whichever
// is a power of 4, and of the greatest one.
func TestRootsOfEnds(t *testing.T) {
	for _, k := range kinds() {
		even := k.lowest() + k.lowest()&1
		checkAlways(t, k, k.two(even), api.Result{Bits: k.two(even / 2)})
		top := k.two(k.emax/2 + 1)
		for _, v := range envs() {
			want := api.Result{Bits: step(top, -1), Flags: api.Inexact}
			if v.Mode == api.Up {
				want.Bits = top
			}
			check(t, k.f, v, k.greatest(), want)
		}
	}
}

// checkSquare holds the root of the square of m * 2^unit against that number, if the
// format has the square, and reports whether it has.
func checkSquare(t *testing.T, k kind, m *big.Int, unit int) bool {
	t.Helper()
	square := new(big.Int).Mul(m, m)
	exp := square.BitLen() - 1 + 2*unit
	if exp > k.emax || 2*unit+int(square.TrailingZeroBits()) < max(exp, k.least())-(k.prec-1) {
		return false
	}
	checkAlways(t, k, k.encoding(square, 2*unit), api.Result{Bits: k.encoding(m, unit)})
	return true
}

// P22.2: an exact root is returned without flags, in every mode: numbers of every
// length, their squares at both ends of the format, subnormal ones too, and about 1.
func TestExactSquares(t *testing.T) {
	inParallel(t, func(t *testing.T, k kind) {
		for length := 1; length <= (k.prec+1)/2; length++ {
			count := 0
			for _, m := range []*big.Int{power(length - 1), plus(length, -1), mixed(length), plus(length-1, 1), new(big.Int).Mul(big.NewInt(3), power(max(length-2, 0)))} {
				for _, unit := range k.squareUnits(length) {
					if checkSquare(t, k, m, unit) {
						count++
					}
				}
			}
			if count < 20 {
				t.Errorf("%d: %d squares of %d bits", k.f, count, length)
			}
		}
	})
}

// squareUnits are exponents of the last place of numbers of length bits whose squares
// are at both ends of the format, from below it to beyond, and about 1.
func (k kind) squareUnits(length int) []int {
	l := []int{-length, -length / 2, -1, 0, 1}
	for i := -2; i <= 2; i++ {
		l = append(l, k.lowest()/2+i, k.least()/2-length+i, (k.lowest()/2+k.least()/2)/2+i, k.emax/2-length+i)
	}
	slices.Sort(l)
	return slices.Compact(l)
}

// P22.2: the squares of all small integers, at the least unit and at 1.
func TestSmallSquares(t *testing.T) {
	inParallel(t, func(t *testing.T, k kind) {
		for n := int64(1); n < 1000; n++ {
			for _, unit := range []int{k.lowest() / 2, k.least() / 2, 0} {
				if !checkSquare(t, k, big.NewInt(n), unit) && k.f != api.B16 {
					t.Fatalf("%d: no square of %d", k.f, n)
				}
			}
		}
	})
}

// ordered fails if the root of one of the numbers, which are in order, is less than that
// of the one before.
func ordered(t *testing.T, k kind, l []api.Bits) {
	t.Helper()
	for _, m := range modes() {
		last := new(big.Int)
		for _, a := range l {
			n := bigOf(Sqrt(k.f, api.Env{Mode: m}, a).Bits)
			if n.Cmp(last) < 0 {
				t.Fatalf("%d, %d: the root of %x is %x, less than %x", k.f, m, a, n, last)
			}
			last = n
		}
	}
}

// P22.2: a greater number never has a smaller root, in every mode: all numbers of B16,
// and some of the whole range of the others, from zero to infinity.
func TestMonotonic(t *testing.T) {
	inParallel(t, func(t *testing.T, k kind) {
		ordered(t, k, append(append([]api.Bits{{}}, k.finite()...), k.infinity()))
	})
}

// P22.2: numbers one after the other, about powers of 2, squares and the ends.
func TestMonotonicNeighbors(t *testing.T) {
	inParallel(t, func(t *testing.T, k kind) {
		middles := []api.Bits{low(60), k.two(k.least() - 1), k.two(k.least()), k.two(-1), k.one(), k.two(1), k.two(2), k.normal(3, big.NewInt(9)), k.normal(0, mixed(k.prec)), step(k.greatest(), -60)}
		for _, b := range middles {
			var l []api.Bits
			for d := int64(-60); d <= 60; d++ {
				l = append(l, step(b, d))
			}
			ordered(t, k, l)
		}
	})
}

// square is that of a number n * 2^unit, in units of 2^to, if it has no places below.
func (x number) square(to int) *big.Int {
	n := new(big.Int).Mul(x.n, x.n)
	return shifted(n, 2*x.unit-to)
}

// P22.1 and P1: the root lies between the results in the modes Down and Up, which are
// equal or neighbors, and no other number is nearer to it than those in Near and Away:
// held by squares alone, without a root.
func TestBetween(t *testing.T) {
	inParallel(t, func(t *testing.T, k kind) {
		for _, a := range k.finite() {
			below, above := Sqrt(k.f, api.Env{Mode: api.Down}, a), Sqrt(k.f, api.Env{Mode: api.Up}, a)
			x, y, z := k.value(below.Bits), k.value(a), k.value(above.Bits)
			to := 2*min(x.unit, y.unit, z.unit) - 2
			n, p, q := shifted(y.n, y.unit-to), x.square(to), z.square(to)
			if exact := p.Cmp(n) == 0; exact != (below == above) || exact != (below.Flags == 0) || below.Flags != above.Flags {
				t.Fatalf("%d: the root of %x is between %x and %x", k.f, a, below, above)
			}
			if p.Cmp(n) > 0 || q.Cmp(n) < 0 || below != above && above.Bits != next(below.Bits) {
				t.Fatalf("%d: the root of %x is not between %x and %x", k.f, a, below, above)
			}
			near := below
			if middle := (number{new(big.Int).Add(x.n, shifted(z.n, z.unit-x.unit)), x.unit - 1}); middle.square(to).Cmp(n) < 0 {
				near = above
			}
			check(t, k.f, api.Env{Mode: api.Near}, a, near)
			check(t, k.f, api.Env{Mode: api.Away}, a, near)
		}
	})
}
