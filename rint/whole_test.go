package rint

import (
	"math"
	"math/big"
	"testing"

	"hairsbreadth/api"
)

// checkWhole holds Whole of any operand against want.
func checkWhole(t *testing.T, f api.Format, a api.Bits, want bool) {
	t.Helper()
	if got := Whole(f, a); got != want {
		t.Fatalf("Whole(%d, %x) = %v, want %v", f, a, got, want)
	}
}

// checkWholeSigns does so for an operand with both signs.
func checkWholeSigns(t *testing.T, k kind, a api.Bits, want bool) {
	t.Helper()
	checkWhole(t, k.f, a, want)
	checkWhole(t, k.f, k.turned(a), want)
}

// P24.2: written out, in B16, with both signs.
func TestWholeWritten(t *testing.T) {
	for a, want := range map[uint64]bool{
		0x0000: true, 0x3c00: true, 0x4000: true, 0x4200: true, 0x4400: true, 0x5ffc: true, 0x63fe: true,
		0x6400: true, 0x6401: true, 0x67ff: true, 0x6801: true, 0x7bff: true,
		0x0001: false, 0x03ff: false, 0x0400: false, 0x3400: false, 0x37ff: false, 0x3800: false, 0x3801: false,
		0x3bff: false, 0x3c01: false, 0x3e00: false, 0x4100: false, 0x4300: false, 0x5ffd: false, 0x5ffe: false,
		0x5fff: false, 0x6001: false, 0x63ff: false,
		0x7c00: false, 0x7c01: false, 0x7dff: false, 0x7e00: false, 0x7fff: false,
	} {
		checkWholeSigns(t, kinds()[0], low(a), want)
	}
}

// P24.2: zeros are whole; infinities and NaNs are not, since they aren't finite.
func TestWholeSpecial(t *testing.T) {
	for _, k := range kinds() {
		checkWholeSigns(t, k, api.Bits{}, true)
		checkWholeSigns(t, k, k.infinity(), false)
		for _, b := range k.nans() {
			checkWhole(t, k.f, b, false)
		}
	}
}

// P24.2: whole numbers of every length, those too that have more bits than the format.
func TestWholeLengths(t *testing.T) {
	inParallel(t, func(t *testing.T, k kind) {
		for exp := 0; exp <= k.emax; exp++ {
			for _, n := range integers(min(exp, k.prec-1)) {
				checkWholeSigns(t, k, k.encoding(n, max(exp-k.prec+1, 0)), true)
			}
		}
		checkWholeSigns(t, k, k.greatest(), true)
	})
}

// P24.2: numbers that are not whole: with bits below the point, one, some and all, at each
// place of it.
func TestNotWhole(t *testing.T) {
	inParallel(t, func(t *testing.T, k kind) {
		for exp := range k.prec - 1 {
			places := k.prec - 1 - exp
			for _, n := range integers(exp) {
				for _, part := range below(places) {
					x := new(big.Int).Lsh(n, uint(places))
					checkWholeSigns(t, k, k.encoding(x.Or(x, part), -places), part.Sign() == 0)
				}
			}
		}
	})
}

// P24.2: no number between 0 and 1 is whole: subnormal ones, powers of 2 and others.
func TestNotWholeBelowOne(t *testing.T) {
	inParallel(t, func(t *testing.T, k kind) {
		for exp := k.lowest(); exp < 0; exp++ {
			checkWholeSigns(t, k, k.two(exp), false)
		}
		for _, b := range append(k.finite(), k.numbers()[1:]...) {
			if bigOf(b).Cmp(bigOf(k.one())) < 0 {
				checkWholeSigns(t, k, b, false)
			}
		}
	})
}

// P24.2: all kinds of operands, held against big integers; bits above the width are
// ignored.
func TestWholeBitsAbove(t *testing.T) {
	inParallel(t, func(t *testing.T, k kind) {
		for _, a := range k.edges() {
			for _, b := range k.above(a) {
				checkWhole(t, k.f, b, k.isWhole(a))
			}
		}
		scattered(3000, func(a, b uint64) {
			x := api.Bits{Hi: a, Lo: b * 3}
			checkWhole(t, k.f, x, k.isWhole(x))
		})
		for _, a := range k.finite() {
			checkWholeSigns(t, k, a, k.isWhole(a))
		}
	})
}

// P24.2: all encodings of B16.
func TestWholeAllOfB16(t *testing.T) {
	t.Parallel()
	k := kinds()[0]
	for a := range uint64(1 << 16) {
		checkWhole(t, k.f, low(a), k.isWhole(low(a)))
	}
}

// P24.2: as Go has it.
func TestWholeAsGoDoes(t *testing.T) {
	t.Parallel()
	scattered(10000, func(a, b uint64) {
		for _, n := range []uint64{a, (0x3fc+a>>58)<<52 | b>>12, (0x3fc+a>>58)<<52 | b>>12&^(1<<(b&63)-1)} {
			x := math.Float64frombits(n)
			want := math.Trunc(x) == x && !math.IsInf(x, 0) // a NaN is equal to none
			checkWhole(t, api.B64, low(n), want)
		}
	})
}

// P24.2: a format that doesn't exist: false.
func TestWholeNoFormat(t *testing.T) {
	for f := 4; f <= 255; f++ {
		for _, a := range operands() {
			checkWhole(t, api.Format(f), a, false)
		}
	}
}
