package rint

import (
	"math/big"
	"testing"

	"hairsbreadth/api"
)

// someOperands visits finite operands of both signs, and infinities and NaNs: those at
// the edges, some of every exponent, and some beside integers and their halves.
func (k kind) someOperands(visit func(a api.Bits)) {
	for _, a := range k.edges() {
		visit(a)
	}
	for _, a := range k.withSigns(k.finite()) {
		visit(a)
	}
	scattered(1000, func(a, b uint64) {
		visit(api.Bits{Hi: a, Lo: b})
	})
}

// P24.3: a result that is finite is an integer: by its encoding, and by Whole.
func TestResultIsWhole(t *testing.T) {
	inParallel(t, func(t *testing.T, k kind) {
		k.someOperands(func(a api.Bits) {
			for _, m := range modes() {
				r := Rint(k.f, m, true, a).Bits
				finite := !k.isNaN(r) && !k.isInfinite(r)
				if k.isWhole(r) != finite || Whole(k.f, r) != finite {
					t.Fatalf("Rint(%d, %d, %x) = %x: no integer", k.f, m, a, r)
				}
			}
		})
	})
}

// P24.3: an integer is rounded to itself; a number that isn't one is not.
func TestIntegerIsItself(t *testing.T) {
	inParallel(t, func(t *testing.T, k kind) {
		integers := 0
		k.someOperands(func(a api.Bits) {
			if k.isNaN(a) || k.isInfinite(a) {
				return
			}
			itself := bitsOf(k.cut(a))
			for _, m := range modes() {
				r := Rint(k.f, m, true, a)
				if same := r == (api.Result{Bits: itself}); same != Whole(k.f, a) || same != k.isWhole(a) {
					t.Fatalf("Rint(%d, %d, %x) = %x, and Whole is %v", k.f, m, a, r, Whole(k.f, a))
				}
				checkTo(t, k, m, r.Bits, r.Bits, false)
			}
			if k.isWhole(a) {
				integers++
			}
		})
		if integers < 200 {
			t.Errorf("%d: %d integers", k.f, integers)
		}
	})
}

// distance is how far two finite encodings are from each other, held against a half and
// against 1.
func (k kind) distance(a, b api.Bits) (half, one int) {
	x, y := k.value(a), k.value(b)
	unit := min(x.unit, y.unit, 0)
	difference := new(big.Int).Sub(shifted(x.n, x.unit-unit), shifted(y.n, y.unit-unit))
	return new(big.Int).Lsh(difference, 1).CmpAbs(power(-unit)), difference.CmpAbs(power(-unit))
}

// P24.3: the result differs from a number by less than 1, and in the modes Near and Away
// by at most a half; in the others some differ by more.
func TestDifference(t *testing.T) {
	inParallel(t, func(t *testing.T, k kind) {
		var further, halves [5]int
		k.someOperands(func(a api.Bits) {
			if k.isNaN(a) || k.isInfinite(a) {
				return
			}
			for i, m := range modes() {
				r := Rint(k.f, m, false, a).Bits
				half, one := k.distance(a, r)
				if one >= 0 || half > 0 && (m == api.Near || m == api.Away) {
					t.Fatalf("Rint(%d, %d, %x) = %x: too far", k.f, m, a, r)
				}
				if half > 0 {
					further[i]++
				} else if half == 0 {
					halves[i]++
				}
			}
		})
		for i := range modes() {
			if halves[i] < 10 || i > 1 && further[i] < 50 {
				t.Errorf("%d, %d: %d halves, %d further away", k.f, i, halves[i], further[i])
			}
		}
	})
}

// P24.3: the modes among each other: Up and Down are at both sides of a number that is no
// integer, and each of the other results is one of theirs.
func TestModesTogether(t *testing.T) {
	inParallel(t, func(t *testing.T, k kind) {
		k.someOperands(func(a api.Bits) {
			up, down := Rint(k.f, api.Up, false, a).Bits, Rint(k.f, api.Down, false, a).Bits
			for _, m := range modes() {
				if r := Rint(k.f, m, false, a).Bits; r != up && r != down {
					t.Fatalf("Rint(%d, %d, %x) = %x, neither %x nor %x", k.f, m, a, r, down, up)
				}
			}
			if (up == down) == (k.isWhole(a) || k.isNaN(a) || k.isInfinite(a)) {
				return
			}
			t.Fatalf("%d: %x is between %x and %x", k.f, a, down, up)
		})
	})
}
