package sqrt

import (
	"math/big"
	"testing"

	"hairsbreadth/api"
)

// nearby is an integer a that, times 2^places, is the square of root and rest: its own
// root is as near to that.
type nearby struct {
	a, root *big.Int
	places  int
	rest    int64
}

// roots are the four integers below 2^places whose squares end with the bits of c, so
// many of them; c ends with 001, and places are at least 3.
func roots(c int64, places int) []*big.Int {
	x := big.NewInt(1)
	for i := 3; i < places; i++ {
		square := new(big.Int).Mul(x, x)
		if square.Sub(square, big.NewInt(c)).Bit(i) == 1 {
			x.SetBit(x, i-1, x.Bit(i-1)^1)
		}
	}
	var l []*big.Int
	for _, half := range []*big.Int{new(big.Int), power(places - 1)} {
		y := new(big.Int).Add(x, half)
		l = append(l, y, new(big.Int).Neg(y))
	}
	for _, y := range l {
		y.And(y, plus(places, -1))
	}
	return l
}

// beside are integers of that many bits beside the squares of odd integers of length
// bits, with that rest: of the squares, so many places are no part of them.
func beside(length, bits, places int, rest int64) []nearby {
	var l []nearby
	for _, x := range roots(-rest, places) {
		first := power(length - 1) // the first integer of length bits that ends with the bits of x, and the last one
		d := new(big.Int).Sub(x, first)
		first.Add(first, d.And(d, plus(places, -1)))
		last := plus(length, -1)
		d = new(big.Int).Sub(last, x)
		last.Sub(last, d.And(d, plus(places, -1)))
		for _, m := range []*big.Int{first, last} {
			a := new(big.Int).Mul(m, m)
			a.Add(a, big.NewInt(rest))
			a.Rsh(a, uint(places))
			if m.Sign() > 0 && m.BitLen() == length && a.BitLen() == bits {
				l = append(l, nearby{a, m, places, rest})
			}
		}
	}
	return l
}

// nearest are those with the least rest of that sign for which some are found.
func nearest(length, bits, places, sign int) []nearby {
	for size := int64(1); size < 1<<12; size++ {
		rest := int64(sign) * size
		if rest&7 != 7 { // the squares of odd integers end with 001
			continue
		}
		if l := beside(length, bits, places, rest); len(l) > 0 {
			return l
		}
	}
	return nil
}

// below is the greatest number of the format that is at most x.root * 2^unit.
func (k kind) below(x nearby, unit int) api.Bits {
	by := max(x.root.BitLen()-k.prec, 0)
	return k.encoding(new(big.Int).Rsh(x.root, uint(by)), unit+by)
}

// checkNearby holds the root of x.a * 2^(places + 2 * unit) against the neighbors of
// x.root * 2^unit, written out.
func checkNearby(t *testing.T, k kind, x nearby, unit int) {
	t.Helper()
	lower := k.below(x, unit)
	near := lower
	switch between := x.root.BitLen() > k.prec; {
	case between && x.rest > 0:
		near = next(lower)
	case !between && x.rest < 0:
		lower = step(lower, -1)
	}
	a := k.encoding(x.a, x.places+2*unit)
	for _, v := range envs() {
		want := api.Result{Bits: near, Flags: api.Inexact}
		switch v.Mode {
		case api.Up:
			want.Bits = next(lower)
		case api.Down, api.Zero:
			want.Bits = lower
		}
		check(t, k.f, v, a, want)
	}
}

// units are exponents of the last place of x.root for which x.a is a normal number: at
// both ends of the format, and about 1.
func (k kind) units(x nearby) []int {
	top := x.a.BitLen() - 1 + x.places
	var l []int
	for _, exp := range []int{k.least(), k.least() + 2, k.least() + 4, 0, 2, k.emax - 3, k.emax - 1} {
		exp += top & 1 // even and odd exponents don't mix
		l = append(l, (exp-top)/2)
	}
	return l
}

// P22.1: as near as roots can be to the middle of two numbers, at both sides and with
// even and odd exponents: nothing but the sticky bit tells, the modes decide as they do
// for what is beside the middle.
func TestNearestToMiddle(t *testing.T) {
	for _, k := range kinds() {
		for _, places := range []int{k.prec + 1, k.prec + 2} {
			for _, sign := range []int{-1, 1} {
				l := nearest(k.prec+1, k.prec, places, sign)
				if len(l) == 0 {
					t.Fatalf("%d: none with %d places and the sign %d", k.f, places, sign)
				}
				for _, x := range l {
					for _, unit := range k.units(x) {
						checkNearby(t, k, x, unit)
					}
				}
			}
		}
	}
}

// P22.1: as near as roots can be to a number of the format, of all its bits or of less,
// at both sides and with even and odd exponents.
func TestNearestToNumber(t *testing.T) {
	inParallel(t, func(t *testing.T, k kind) {
		for length := k.prec/2 + 3; length <= k.prec; length++ {
			for _, places := range []int{2*length - 1 - k.prec, 2*length - k.prec} {
				for _, sign := range []int{-1, 1} {
					l := nearest(length, k.prec, places, sign)
					if len(l) == 0 {
						t.Fatalf("%d: none with %d bits, %d places and the sign %d", k.f, length, places, sign)
					}
					for _, x := range l {
						for _, unit := range k.units(x) {
							checkNearby(t, k, x, unit)
						}
					}
				}
			}
		}
	})
}

// P22.1: the same for subnormal operands of some bits less than the format has. Their
// last place is that of the format, so that the places are even or odd as its exponent is.
func TestNearestOfSubnormal(t *testing.T) {
	for _, k := range kinds() {
		found := 0
		for bits := k.prec - 4; bits < k.prec; bits++ {
			for _, length := range []int{k.prec, k.prec + 1} {
				for _, places := range []int{2*length - 1 - bits, 2*length - bits} {
					for _, sign := range []int{-1, 1} {
						if (k.lowest()-places)&1 != 0 {
							continue
						}
						for _, x := range nearest(length, bits, places, sign) {
							checkNearby(t, k, x, (k.lowest()-places)/2)
							found++
						}
					}
				}
			}
		}
		if found < 8 {
			t.Errorf("%d: %d numbers", k.f, found)
		}
	}
}

// odd are odd integers of length bits: of both ends, about the root of 2 as a fraction,
// and some between.
func odd(length int) []*big.Int {
	least, greatest := power(length-1), plus(length, -1)
	middle := power(2*length - 1)
	middle.Sqrt(middle)
	l := []*big.Int{plus(length-1, 1), plus(length-1, 3), greatest, new(big.Int).Sub(greatest, big.NewInt(2)), middle, new(big.Int).Add(middle, big.NewInt(2)), mixed(length)}
	for i := int64(1); i < 15; i++ {
		m := new(big.Int).Mul(least, big.NewInt(i))
		l = append(l, m.Add(m.Quo(m, big.NewInt(15)), least))
	}
	for _, m := range l {
		m.SetBit(m, 0, 1)
	}
	return l
}

// P22.1: squares of numbers with one bit more than the format keeps: the number just
// below one has its root below the middle, the number just above has it above, which
// the modes Near and Away tell apart; all modes are held against big integers.
func TestBesideSquaresBetween(t *testing.T) {
	inParallel(t, func(t *testing.T, k kind) {
		for _, m := range odd(k.prec + 1) {
			square := new(big.Int).Mul(m, m)
			places := square.BitLen() - k.prec
			x := nearby{a: square.Rsh(square, uint(places)), root: m, places: places}
			for _, unit := range k.units(x) {
				below := k.encoding(x.a, places+2*unit)
				if below == k.greatest() {
					continue
				}
				lower := k.below(x, unit)
				for _, mode := range []api.Mode{api.Near, api.Away} {
					p, q := Sqrt(k.f, api.Env{Mode: mode}, below), Sqrt(k.f, api.Env{Mode: mode}, next(below))
					if p.Bits != lower || q.Bits != next(lower) {
						t.Fatalf("%d, %d: the roots of %x and of the next one are %x and %x, want %x and the next one", k.f, mode, below, p, q, lower)
					}
				}
				checkBig(t, k, below)
				checkBig(t, k, next(below))
			}
		}
	})
}

// P22.1: the same for subnormal operands of every length.
func TestBesideSquaresSubnormal(t *testing.T) {
	inParallel(t, func(t *testing.T, k kind) {
		for bits := 1; bits < k.prec; bits++ {
			for _, m := range odd(k.prec + 1) {
				square := new(big.Int).Mul(m, m)
				a := square.Rsh(square, uint(square.BitLen()-bits))
				for d := range int64(2) {
					checkBig(t, k, step(bitsOf(a), d))
				}
			}
		}
	})
}

// P22.1: numbers beside the squares of numbers that the format has: in every mode.
func TestBesideSquares(t *testing.T) {
	inParallel(t, func(t *testing.T, k kind) {
		for _, length := range []int{2, 3, k.prec / 4, k.prec / 2, k.prec - 2, k.prec} {
			for _, m := range odd(length) {
				square := new(big.Int).Mul(m, m)
				places := max(square.BitLen()-k.prec, 0)
				x := nearby{a: square.Rsh(square, uint(places)), root: m, places: places}
				for _, unit := range k.units(x) {
					a := k.encoding(x.a, places+2*unit)
					for d := int64(-2); d <= 2; d++ {
						checkBig(t, k, step(a, d))
					}
				}
			}
		}
	})
}

// checkFour holds the roots of numbers beside 4^exp, which has as many bits as the
// format behind it and below it, against those beside 2^exp, written out.
func checkFour(t *testing.T, k kind, exp int) {
	t.Helper()
	four, two := k.two(2*exp), k.two(exp)
	checkAlways(t, k, four, api.Result{Bits: two})
	for _, v := range envs() {
		for _, x := range []struct{ a, up, near, down int64 }{
			{-2, -1, -1, -2}, {-1, 0, -1, -1}, {1, 1, 0, 0}, {2, 1, 1, 0},
		} {
			to := x.near
			switch v.Mode {
			case api.Up:
				to = x.up
			case api.Down, api.Zero:
				to = x.down
			}
			check(t, k.f, v, step(four, x.a), api.Result{Bits: step(two, to), Flags: api.Inexact})
		}
	}
}

// P22.1: numbers just below and just above a power of 4: the root of the one just below
// stays below the power of 2 by more than half of the last place, in the mode Up alone
// it becomes that.
func TestBesidePowersOf4(t *testing.T) {
	inParallel(t, func(t *testing.T, k kind) {
		for exp := k.least()/2 + 1; exp <= k.emax/2; exp += 1 + k.emax/1000 {
			checkFour(t, k, exp)
		}
		checkFour(t, k, 0)
		checkFour(t, k, k.emax/2)
	})
}

// P22.1: the least normal number is a power of 4, but the greatest subnormal one is
// twice as far from it: its root is nearer to the number below the power of 2.
func TestBesideLeastNormal(t *testing.T) {
	for _, k := range kinds() {
		normal, two := k.two(k.least()), k.two(k.least()/2)
		checkAlways(t, k, normal, api.Result{Bits: two})
		for _, v := range envs() {
			want := api.Result{Bits: step(two, -1), Flags: api.Inexact}
			above := api.Result{Bits: two, Flags: api.Inexact}
			switch v.Mode {
			case api.Up:
				above.Bits = next(two)
			case api.Down, api.Zero:
				want.Bits = step(two, -2)
			}
			check(t, k.f, v, step(normal, -1), want)
			check(t, k.f, v, next(normal), above)
		}
	}
}
