package rem

import (
	"math/big"
	"testing"

	"hairsbreadth/api"
)

// somePairs visits pairs of finite numbers of the sign 0 that are not 0: close together,
// far apart, each of finite with some others, and those whose quotients are 3/2 and 5/2.
func (k kind) somePairs(visit func(a, b api.Bits)) {
	finite, numbers := k.finite(), k.numbers()[1:]
	for _, a := range numbers {
		for _, b := range numbers {
			visit(a, b)
		}
	}
	for i, a := range finite {
		for _, d := range []int{1, len(finite) / 3} {
			visit(a, finite[(i+d)%len(finite)])
			visit(finite[(i+d)%len(finite)], a)
		}
		visit(a, numbers[i%len(numbers)])
	}
	for e := k.least(); e < k.emax; e += 1 + k.emax/60 {
		visit(k.normal(e, big.NewInt(3)), k.two(e))
		visit(k.normal(e+1, big.NewInt(5)), k.two(e))
	}
}

// P23.2: the magnitude of the remainder is at most half the magnitude of b, and without
// flags it is less than a by a multiple of b, an even one if it is just half of b.
func TestAtMostHalf(t *testing.T) {
	inParallel(t, func(t *testing.T, k kind) {
		half := 0
		k.somePairs(func(a, b api.Bits) {
			i := a.Lo ^ b.Lo>>1
			if checkAtMostHalf(t, k, k.signed(i&1 == 1, a), k.signed(i&2 == 2, b)) {
				half++
			}
		})
		if half < 50 {
			t.Errorf("%d: %d remainders are half of b", k.f, half)
		}
	})
}

// checkAtMostHalf reports whether the remainder is just half of b.
func checkAtMostHalf(t *testing.T, k kind, a, b api.Bits) bool {
	t.Helper()
	r := Rem(k.f, a, b)
	x, y, unit := k.places(a, b)
	if k.isInfinite(r.Bits) || k.isNaN(r.Bits) || r.Flags != 0 {
		t.Fatalf("Rem(%d, %x, %x) = %x", k.f, a, b, r)
	}
	z := k.value(r.Bits)
	rest := z.units(unit)
	if z.n.Sign() != 0 && rest.Sign() == 0 {
		t.Fatalf("Rem(%d, %x, %x) = %x: no multiple of the last places", k.f, a, b, r)
	}
	half := new(big.Int).Lsh(rest, 1).CmpAbs(y)
	n, left := new(big.Int).QuoRem(x.Sub(x, rest), y, new(big.Int))
	if half > 0 || left.Sign() != 0 || half == 0 && n.Bit(0) == 1 {
		t.Fatalf("Rem(%d, %x, %x) = %x: a - %x * b, and %x", k.f, a, b, r, n, left)
	}
	return half == 0
}

// P23.2: the sign of b is without effect; the sign of a turned, that of the remainder is
// turned, of a zero too.
func TestSigns(t *testing.T) {
	inParallel(t, func(t *testing.T, k kind) {
		k.somePairs(func(a, b api.Bits) {
			r := Rem(k.f, a, b)
			check(t, k.f, a, k.turned(b), r)
			r.Bits = k.turned(r.Bits)
			check(t, k.f, k.turned(a), b, r)
			check(t, k.f, k.turned(a), k.turned(b), r)
		})
	})
}

// halved is the greatest number that is at most half of b, which is of the sign 0, and
// whether it is half of b.
func (k kind) halved(b api.Bits) (api.Bits, bool) {
	// Twice a number is known by its value: the last one that fits is searched for.
	y := k.value(b)
	first, last := new(big.Int), bigOf(b)
	for first.Cmp(last) < 0 {
		middle := new(big.Int).Add(first, last)
		middle.Rsh(middle.Add(middle, big.NewInt(1)), 1)
		if k.twice(bitsOf(middle), y) <= 0 {
			first = middle
		} else {
			last = middle.Sub(middle, big.NewInt(1))
		}
	}
	return bitsOf(first), k.twice(bitsOf(first), y) == 0
}

// twice holds twice a against y.
func (k kind) twice(a api.Bits, y number) int {
	x := k.value(a)
	unit := min(x.unit+1, y.unit)
	return number{x.n, x.unit + 1}.units(unit).Cmp(y.units(unit))
}

// P23.2: what is less than half of b is the remainder itself: the greatest such number,
// and those far below. Half of b itself is too, since the integer below is 0; from the
// next number on there is a quotient.
func TestLessThanHalf(t *testing.T) {
	inParallel(t, func(t *testing.T, k kind) {
		exact, inexact := 0, 0
		for i, b := range append(k.finite(), k.numbers()[1:]...) {
			a, ok := k.halved(b)
			if ok {
				exact++
			} else {
				inexact++
			}
			if i%3 == 0 {
				checkBelow(t, k, b, a)
			}
			checkSigns(t, k, a, b, a, false)
			checkAboveHalf(t, k, next(a), b)
		}
		if exact < 100 || inexact < 10 {
			t.Errorf("%d: %d halves are numbers, %d are not", k.f, exact, inexact)
		}
	})
}

// checkBelow holds the remainders of numbers that are not above a against themselves.
func checkBelow(t *testing.T, k kind, b, a api.Bits) {
	t.Helper()
	n := bigOf(a)
	for _, d := range []int64{1, 2, 7, 1 << 9} {
		if n.Cmp(big.NewInt(d)) >= 0 {
			checkSigns(t, k, step(a, -d), b, step(a, -d), false)
		}
	}
	for i := 1; i < n.BitLen(); i += 1 + k.width/16 {
		x := bitsOf(new(big.Int).Rsh(n, uint(i)))
		checkSigns(t, k, x, b, x, false)
	}
}

// checkAboveHalf holds the remainder of the next number, which is at most b, against
// what is missing of it to b.
func checkAboveHalf(t *testing.T, k kind, a, b api.Bits) {
	t.Helper()
	x, y, unit := k.places(a, b)
	missing := y.Sub(y, x)
	checkSigns(t, k, a, b, k.encoding(missing, unit), missing.Sign() > 0)
}
