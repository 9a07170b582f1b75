package fma

import (
	"math"
	"math/big"
	"testing"

	"hairsbreadth/api"
)

// check holds Fma of any operands against want.
func check(t *testing.T, f api.Format, v api.Env, a, b, c api.Bits, want api.Result) {
	t.Helper()
	if got := Fma(f, v, a, b, c); got != want {
		t.Fatalf("Fma(%d, %v, %x, %x, %x) = %x, want %x", f, v, a, b, c, got, want)
	}
}

// checkOrders does so for both orders of the factors.
func checkOrders(t *testing.T, f api.Format, v api.Env, a, b, c api.Bits, want api.Result) {
	t.Helper()
	check(t, f, v, a, b, c, want)
	check(t, f, v, b, a, c, want)
}

// checkBig holds Fma of numbers against big integers, in every mode and with both kinds
// of tininess.
func checkBig(t *testing.T, k kind, a, b, c api.Bits) {
	t.Helper()
	sum, neg := k.sum(a, b, c), k.negative(a) != k.negative(b)
	for _, v := range envs() {
		check(t, k.f, v, a, b, c, k.finished(v, sum, neg, k.negative(c)))
	}
}

// checkSigned does so for all signs of the product and the third operand.
func checkSigned(t *testing.T, k kind, a, b, c api.Bits) {
	t.Helper()
	checkBig(t, k, a, b, c)
	checkBig(t, k, k.turned(a), b, c)
	checkBig(t, k, b, k.turned(a), k.turned(c))
	checkBig(t, k, k.turned(b), k.turned(a), k.turned(c))
}

// inParallel runs a test for each of the formats.
func inParallel(t *testing.T, run func(t *testing.T, k kind)) {
	t.Parallel()
	for _, k := range kinds() {
		t.Run("", func(t *testing.T) {
			t.Parallel()
			run(t, k)
		})
	}
}

// P20.1: written out, in B16: the sums in the modes Near, Away, Up, Down and Zero, all
// with these flags, with both kinds of tininess.
func TestFmaWritten(t *testing.T) {
	for _, x := range []struct {
		a, b, c uint64
		want    [5]uint64
		flags   api.Flags
	}{
		{0x4000, 0x4200, 0x3c00, [5]uint64{0x4700, 0x4700, 0x4700, 0x4700, 0x4700}, 0},
		{0xc000, 0x4200, 0x3c00, [5]uint64{0xc500, 0xc500, 0xc500, 0xc500, 0xc500}, 0},
		{0x4000, 0x4200, 0xc600, [5]uint64{0, 0, 0, 0x8000, 0}, 0},
		{0x3c01, 0x3c01, 0xbc02, [5]uint64{0x10, 0x10, 0x10, 0x10, 0x10}, 0}, // 2^-20
		{0x3c01, 0x3c01, 0x3c00, [5]uint64{0x4001, 0x4001, 0x4002, 0x4001, 0x4001}, 16},
		{0x3c01, 0x3bfe, 0xbc00, [5]uint64{0x8010, 0x8010, 0x8010, 0x8010, 0x8010}, 0},
		{0x3c01, 0x3bfe, 0x3c00, [5]uint64{0x4000, 0x4000, 0x4000, 0x3fff, 0x3fff}, 16}, // carried
		{0x3fff, 0x3c00, 0x1400, [5]uint64{0x4000, 0x4000, 0x4000, 0x4000, 0x4000}, 0},
		// A product in the middle, and a number far below it.
		{0x3c01, 0x3e00, 0x0000, [5]uint64{0x3e02, 0x3e02, 0x3e02, 0x3e01, 0x3e01}, 16},
		{0x3c01, 0x3e00, 0x0001, [5]uint64{0x3e02, 0x3e02, 0x3e02, 0x3e01, 0x3e01}, 16},
		{0x3c01, 0x3e00, 0x8001, [5]uint64{0x3e01, 0x3e01, 0x3e02, 0x3e01, 0x3e01}, 16},
		{0x3c03, 0x3e00, 0x0001, [5]uint64{0x3e05, 0x3e05, 0x3e05, 0x3e04, 0x3e04}, 16},
		{0x3c03, 0xbe00, 0x0001, [5]uint64{0xbe04, 0xbe04, 0xbe04, 0xbe05, 0xbe04}, 16},
		{0x3c03, 0xbe00, 0x8001, [5]uint64{0xbe05, 0xbe05, 0xbe04, 0xbe05, 0xbe04}, 16},
		// Half a unit of the third operand, that less and more the least bits of the product.
		{0x3c00, 0x1000, 0x3c00, [5]uint64{0x3c00, 0x3c01, 0x3c01, 0x3c00, 0x3c00}, 16},
		{0x3c00, 0x1000, 0x3c01, [5]uint64{0x3c02, 0x3c02, 0x3c02, 0x3c01, 0x3c01}, 16},
		{0x2801, 0x23fe, 0x3c00, [5]uint64{0x3c00, 0x3c00, 0x3c01, 0x3c00, 0x3c00}, 16},
		{0x2801, 0x23fe, 0x3c01, [5]uint64{0x3c01, 0x3c01, 0x3c02, 0x3c01, 0x3c01}, 16},
		{0x2801, 0x2401, 0x3c00, [5]uint64{0x3c01, 0x3c01, 0x3c01, 0x3c00, 0x3c00}, 16},
		{0x2800, 0x2000, 0xbc00, [5]uint64{0xbc00, 0xbc00, 0xbbff, 0xbc00, 0xbbff}, 16},
		{0x2801, 0x23fe, 0xbc00, [5]uint64{0xbbff, 0xbbff, 0xbbff, 0xbc00, 0xbbff}, 16},
		{0x2800, 0x2401, 0xbc00, [5]uint64{0xbbff, 0xbbff, 0xbbfe, 0xbbff, 0xbbfe}, 16},
		{0x8001, 0x0001, 0x3c00, [5]uint64{0x3c00, 0x3c00, 0x3c00, 0x3bff, 0x3bff}, 16},
		{0x0001, 0x0001, 0xbc00, [5]uint64{0xbc00, 0xbc00, 0xbbff, 0xbc00, 0xbbff}, 16},
		// Products beyond the format, of which the third operand leaves a number or not.
		{0x7bff, 0x4000, 0xfbff, [5]uint64{0x7bff, 0x7bff, 0x7bff, 0x7bff, 0x7bff}, 0},
		{0x7bff, 0x4000, 0xfbfe, [5]uint64{0x7c00, 0x7c00, 0x7c00, 0x7bff, 0x7bff}, 20},
		{0x7bff, 0x7bff, 0xfbff, [5]uint64{0x7c00, 0x7c00, 0x7c00, 0x7bff, 0x7bff}, 20},
		{0x7bff, 0xfbff, 0x0001, [5]uint64{0xfc00, 0xfc00, 0xfbff, 0xfc00, 0xfbff}, 20},
		// Below the least normal number.
		{0x0001, 0x0001, 0x0001, [5]uint64{1, 1, 2, 1, 1}, 24},
		{0x0001, 0x8001, 0x0001, [5]uint64{1, 1, 1, 0, 0}, 24},
		{0x0001, 0x0001, 0x8001, [5]uint64{0x8001, 0x8001, 0x8000, 0x8001, 0x8000}, 24},
		{0x0001, 0x3800, 0x0000, [5]uint64{0, 1, 1, 0, 0}, 24}, // half of the least number
		{0x0001, 0x3800, 0x8001, [5]uint64{0x8000, 0x8001, 0x8000, 0x8001, 0x8000}, 24},
		{0x0001, 0x3801, 0x8001, [5]uint64{0x8000, 0x8000, 0x8000, 0x8001, 0x8000}, 24},
		{0x0001, 0xb7ff, 0x0001, [5]uint64{1, 1, 1, 0, 0}, 24},
		{0x0001, 0xb801, 0x0002, [5]uint64{1, 1, 2, 1, 1}, 24},
		{0x03ff, 0x3c00, 0x0001, [5]uint64{0x400, 0x400, 0x400, 0x400, 0x400}, 0},
		{0x0201, 0x4000, 0x8001, [5]uint64{0x401, 0x401, 0x401, 0x401, 0x401}, 0},
		{0x0400, 0xbc00, 0x03ff, [5]uint64{0x8001, 0x8001, 0x8001, 0x8001, 0x8001}, 0},
		{0x0001, 0x7bff, 0x9bfe, [5]uint64{0x20, 0x20, 0x20, 0x20, 0x20}, 0},
		// Zeros, infinities and NaNs.
		{0x3c00, 0xbc00, 0x3c00, [5]uint64{0, 0, 0, 0x8000, 0}, 0},
		{0x0000, 0x3c00, 0x0000, [5]uint64{0, 0, 0, 0, 0}, 0},
		{0x8000, 0x3c00, 0x8000, [5]uint64{0x8000, 0x8000, 0x8000, 0x8000, 0x8000}, 0},
		{0x8000, 0x3c00, 0x0000, [5]uint64{0, 0, 0, 0x8000, 0}, 0},
		{0x0000, 0x7bff, 0x8001, [5]uint64{0x8001, 0x8001, 0x8001, 0x8001, 0x8001}, 0},
		{0x0000, 0x7c00, 0x3c00, [5]uint64{0x7e00, 0x7e00, 0x7e00, 0x7e00, 0x7e00}, 1},
		{0x8000, 0x7c00, 0xfe05, [5]uint64{0xfe05, 0xfe05, 0xfe05, 0xfe05, 0xfe05}, 1},
		{0x3c00, 0x7c00, 0xfe05, [5]uint64{0xfe05, 0xfe05, 0xfe05, 0xfe05, 0xfe05}, 0},
		{0x3c00, 0x7c00, 0xfc05, [5]uint64{0xfe05, 0xfe05, 0xfe05, 0xfe05, 0xfe05}, 1},
		{0x7e05, 0x7c00, 0xfc00, [5]uint64{0x7e05, 0x7e05, 0x7e05, 0x7e05, 0x7e05}, 0},
		{0x3c00, 0x7c00, 0xfc00, [5]uint64{0x7e00, 0x7e00, 0x7e00, 0x7e00, 0x7e00}, 1},
		{0xbc00, 0x7c00, 0xfc00, [5]uint64{0xfc00, 0xfc00, 0xfc00, 0xfc00, 0xfc00}, 0},
		{0xbc00, 0x7c00, 0x7bff, [5]uint64{0xfc00, 0xfc00, 0xfc00, 0xfc00, 0xfc00}, 0},
		{0x7bff, 0x7bff, 0xfc00, [5]uint64{0xfc00, 0xfc00, 0xfc00, 0xfc00, 0xfc00}, 0},
	} {
		for i, m := range modes() {
			want := api.Result{Bits: low(x.want[i]), Flags: x.flags}
			for _, after := range both() {
				checkOrders(t, api.B16, api.Env{Mode: m, After: after}, low(x.a), low(x.b), low(x.c), want)
			}
		}
	}
}

// P20.1: written out, in B16: sums just below the least normal number, which the modes
// round to it or not, and whether they are tiny after rounding, in the modes Near, Away,
// Up, Down and Zero. All are tiny before rounding.
func TestLeastNormalWritten(t *testing.T) {
	yes, no := true, false
	for _, x := range []struct {
		a, b, c uint64
		want    [5]uint64
		after   [5]bool
	}{
		// The least normal number, less some part of the least number.
		{0x0001, 0x8001, 0x0400, [5]uint64{0x400, 0x400, 0x400, 0x3ff, 0x3ff}, [5]bool{no, no, no, yes, yes}},
		{0x0001, 0xb3ff, 0x0400, [5]uint64{0x400, 0x400, 0x400, 0x3ff, 0x3ff}, [5]bool{no, no, no, yes, yes}},
		{0x0001, 0xb400, 0x0400, [5]uint64{0x400, 0x400, 0x400, 0x3ff, 0x3ff}, [5]bool{no, no, no, yes, yes}},
		{0x0001, 0xb401, 0x0400, [5]uint64{0x400, 0x400, 0x400, 0x3ff, 0x3ff}, [5]bool{yes, yes, no, yes, yes}},
		{0x0001, 0xb7ff, 0x0400, [5]uint64{0x400, 0x400, 0x400, 0x3ff, 0x3ff}, [5]bool{yes, yes, no, yes, yes}},
		{0x0001, 0xb800, 0x0400, [5]uint64{0x400, 0x400, 0x400, 0x3ff, 0x3ff}, [5]bool{yes, yes, yes, yes, yes}},
		{0x0001, 0xb801, 0x0400, [5]uint64{0x3ff, 0x3ff, 0x400, 0x3ff, 0x3ff}, [5]bool{yes, yes, yes, yes, yes}},
		// The greatest subnormal number, and some part of the least number.
		{0x0001, 0x37ff, 0x03ff, [5]uint64{0x3ff, 0x3ff, 0x400, 0x3ff, 0x3ff}, [5]bool{yes, yes, yes, yes, yes}},
		{0x0001, 0x3800, 0x03ff, [5]uint64{0x400, 0x400, 0x400, 0x3ff, 0x3ff}, [5]bool{yes, yes, yes, yes, yes}},
		{0x0001, 0x39ff, 0x03ff, [5]uint64{0x400, 0x400, 0x400, 0x3ff, 0x3ff}, [5]bool{yes, yes, no, yes, yes}},
		{0x0001, 0x3a00, 0x03ff, [5]uint64{0x400, 0x400, 0x400, 0x3ff, 0x3ff}, [5]bool{no, no, no, yes, yes}},
		// A product twice that, and the least normal number off it.
		{0x0801, 0x3bfe, 0x8400, [5]uint64{0x400, 0x400, 0x400, 0x3ff, 0x3ff}, [5]bool{no, no, no, yes, yes}},
		{0x8801, 0x3bfe, 0x0400, [5]uint64{0x8400, 0x8400, 0x83ff, 0x8400, 0x83ff}, [5]bool{no, no, yes, no, yes}},
		{0x0401, 0x3bfe, 0x8001, [5]uint64{0x3ff, 0x3ff, 0x3ff, 0x3fe, 0x3fe}, [5]bool{yes, yes, yes, yes, yes}},
		{0x8400, 0x3bff, 0x0001, [5]uint64{0x83fe, 0x83ff, 0x83fe, 0x83ff, 0x83fe}, [5]bool{yes, yes, yes, yes, yes}},
	} {
		for i, m := range modes() {
			want := api.Result{Bits: low(x.want[i]), Flags: api.Inexact | api.Underflow}
			checkOrders(t, api.B16, api.Env{Mode: m}, low(x.a), low(x.b), low(x.c), want)
			if !x.after[i] {
				want.Flags = api.Inexact
			}
			checkOrders(t, api.B16, api.Env{Mode: m, After: true}, low(x.a), low(x.b), low(x.c), want)
		}
	}
}

// P20.1: the square of the least number above 1, less the next but one, and others, in
// the other formats.
func TestWrittenElsewhere(t *testing.T) {
	one := api.Bits{Hi: 0x3fff << 48}
	for _, x := range []struct {
		f             api.Format
		a, b, c, want api.Bits
		flags         api.Flags
	}{
		{api.B32, low(0x3f800001), low(0x3f800001), low(0xbf800002), low(0x28800000), 0},
		{api.B32, low(0x7f7fffff), low(0x40000000), low(0xff7fffff), low(0x7f7fffff), 0},
		{api.B32, low(0x00800000), low(0x3f000000), low(0x00000001), low(0x00400001), 0},
		{api.B64, low(0x3ff<<52 + 1), low(0x3ff<<52 + 1), low(0xbff<<52 + 2), low(0x397 << 52), 0},
		{api.B64, low(0x3fb999999999999a), low(0x4024 << 48), low(0xbff << 52), low(0x3c9 << 52), 0},
		{api.B64, low(1), low(1), low(0x3ff << 52), low(0x3ff << 52), 16},
		{api.B128, step(one, 1), step(one, 1), step(api.Bits{Hi: 0xbfff << 48}, 2), api.Bits{Hi: 0x3f1f << 48}, 0},
		{api.B128, step(one, 1), step(one, 3), one, api.Bits{Hi: 0x4000 << 48, Lo: 2}, 16},
		{api.B128, low(1), api.Bits{Hi: 0xbffe << 48}, low(1), low(0), 24},
	} {
		checkOrders(t, x.f, api.Env{}, x.a, x.b, x.c, api.Result{Bits: x.want, Flags: x.flags})
	}
}

// P20.1: products of exponents from end to end of the format and beyond, and third
// operands of equal exponents, far above and far below: held against big integers.
func TestApart(t *testing.T) {
	inParallel(t, func(t *testing.T, k kind) {
		fractions := k.significands()
		for i, p := range k.factors() {
			for _, e := range k.places() {
				by := k.split(e)[i&1]
				a, b := k.normal(by[0], p[0]), k.normal(by[1], p[1])
				for j, d := range k.distances() {
					c := k.leading(e+d, fractions[(i+j)%len(fractions)])
					checkBig(t, k, a, k.signed((i+j)&1 != 0, b), k.signed(j&2 != 0, c))
				}
			}
		}
	})
}

// P20.1: subnormal numbers of every length as factors, and as the third operand, with
// normal ones and with each other.
func TestSubnormal(t *testing.T) {
	inParallel(t, func(t *testing.T, k kind) {
		third := big.NewInt(3)
		for i := 1; i < k.prec; i += 1 + k.prec/30 {
			for j, a := range []api.Bits{bitsOf(power(i - 1)), bitsOf(plus(i, -1)), bitsOf(new(big.Int).Quo(power(i+1), third))} {
				for _, q := range k.fractions() {
					for _, field := range []int{0, k.emax - i, k.emax - 1, k.emax, 2 * k.emax} {
						b := k.made(max(field, 0), q)
						e := k.value(a).times(number{power(0), max(field, 1) - k.emax}).exponent()
						checkSigned(t, k, a, b, k.leading(e+j-1, q))
						checkBig(t, k, b, k.turned(b), a)
					}
				}
			}
		}
	})
}

// P20.1: third operands that leave few bits of the product, or none: its rounded values
// and their neighbors, with the other sign, and its leading bits.
func TestCancel(t *testing.T) {
	inParallel(t, func(t *testing.T, k kind) {
		for i, p := range k.factors() {
			for _, e := range k.places() {
				by := k.split(e)[i&1]
				a, b := k.normal(by[0], p[0]), k.normal(by[1], p[1])
				product := k.value(a).times(k.value(b))
				for _, m := range []api.Mode{api.Up, api.Down} {
					r := k.rounded(api.Env{Mode: m}, product)
					for _, c := range k.neighbors(r.Bits) {
						checkBig(t, k, a, b, k.turned(c))
						checkBig(t, k, k.turned(b), a, c)
					}
				}
				checkRests(t, k, a, b)
			}
		}
	})
}

// checkRests holds sums of a product and its leading bits with the other sign, and
// those and one more, against big integers: what is left is exact, or has some bits
// more than the format, in the middle of two numbers and elsewhere.
func checkRests(t *testing.T, k kind, a, b api.Bits) {
	t.Helper()
	product := k.value(a).times(k.value(b))
	length := product.n.BitLen()
	for i := 1; i < length; i++ {
		if i < length-k.prec-1 || i%(1+k.prec/24) != 0 && (i < k.prec-2 || i > k.prec+3) {
			continue
		}
		leading := new(big.Int).Rsh(product.n, uint(i))
		for _, d := range []int64{0, 1} {
			n := new(big.Int).Add(leading, big.NewInt(d))
			if c, ok := k.exact(number{n.Neg(n), product.unit + i}); ok {
				checkBig(t, k, a, b, c)
			}
		}
	}
}

// P20.1: products that cancel to 0: those that the format has.
func TestCancelToZero(t *testing.T) {
	inParallel(t, func(t *testing.T, k kind) {
		found := 0
		for i, p := range k.factors() {
			for _, e := range k.ends() {
				by := k.split(e)[i&1]
				a, b := k.normal(by[0], p[0]), k.normal(by[1], p[1])
				c, ok := k.exact(k.value(a).times(k.value(b)))
				if !ok {
					continue
				}
				found++
				for _, v := range envs() {
					zero := k.nought(v.Mode, true, false)
					checkOrders(t, k.f, v, k.turned(a), b, c, zero)
					checkOrders(t, k.f, v, a, b, k.turned(c), zero)
				}
			}
		}
		if found < 50 {
			t.Errorf("%d: %d products", k.f, found)
		}
	})
}

// P20.1: products in the middle of two numbers, and as near to that as can be, with
// numbers far below, which tell the direction, and with powers of 2 that leave them there.
func TestMiddle(t *testing.T) {
	inParallel(t, func(t *testing.T, k kind) {
		for i, p := range append(k.middle(), k.beside()...) {
			for _, e := range []int{0, 1, k.emax - 2, k.emax - 1, k.emax, k.least() + 1, k.least(), k.least() - 1} {
				by := k.split(e)[i&1]
				a, b := k.normal(by[0], p[0]), k.normal(by[1], p[1])
				for _, below := range []int{1, 2, 3, k.prec - 2, k.prec - 1, k.prec, k.prec + 1, k.prec + 2, 2 * k.prec, 2*k.prec + 2, 254, 255, 256, 257, 300} {
					checkSigned(t, k, a, b, k.leading(e-below, power(0)))
				}
				checkSigned(t, k, a, b, low(1))
				checkSigned(t, k, a, b, low(3))
				checkSigned(t, k, a, b, api.Bits{})
			}
		}
	})
}

// P20.1: products of half a unit of the third operand's last place, of a quarter, of
// units, and those as near to that as can be: the least bits of the product tell.
func TestHalfUnit(t *testing.T) {
	inParallel(t, func(t *testing.T, k kind) {
		for i, p := range k.powers() {
			for _, field := range []int{0, 1, 2, 3, k.prec, k.emax, k.emax + 1, 2*k.emax - 1, 2 * k.emax} {
				for _, q := range k.fractions() {
					c := k.made(field, q)
					for d := -3; d <= 2; d++ {
						by := k.split(max(field, 1) - k.emax - k.prec + d)[i&1]
						checkSigned(t, k, k.normal(by[0], p[0]), k.normal(by[1], p[1]), c)
					}
				}
			}
		}
	})
}

// P20.1: products far below the third operand, which the modes Up, Down and Zero tell
// from zeros, down to the square of the least number.
func TestFarBelow(t *testing.T) {
	inParallel(t, func(t *testing.T, k kind) {
		l := [][2]api.Bits{{low(1), low(1)}, {low(1), low(3)}, {low(1), step(k.two(k.least()), -1)}, {k.two(k.least()), k.two(k.least())}}
		for _, by := range []int{k.prec, 2 * k.prec, 255, 256, 300, k.emax} {
			l = append(l, [2]api.Bits{k.leading(-by, plus(k.prec, -1)), k.leading(-by, power(0))})
		}
		for _, x := range l {
			for _, c := range k.numbers()[1:] {
				checkSigned(t, k, x[0], x[1], c)
			}
		}
	})
}

// P20.1: sums that lose bits, few and all of them, below the least normal number, in the
// middle of two numbers, next to that and at both sides.
func TestLost(t *testing.T) {
	inParallel(t, func(t *testing.T, k kind) {
		for lost := 1; lost <= k.prec+3; lost++ {
			if 3 < lost && lost < k.prec-1 && lost%(1+k.prec/20) != 0 {
				continue
			}
			for _, rest := range []*big.Int{big.NewInt(1), plus(lost-1, -1), power(lost - 1), plus(lost-1, 1), plus(lost, -1)} {
				for q := range int64(3) {
					n := new(big.Int).Lsh(big.NewInt(q), uint(lost))
					checkLost(t, k, n.Or(n, rest), lost)
				}
			}
		}
	})
}

// checkLost holds sums of the magnitude n * 2^-lost, in units of the least subnormal
// number, and of subnormal numbers against big integers, if the format has n.
func checkLost(t *testing.T, k kind, n *big.Int, lost int) {
	t.Helper()
	if n.Sign() == 0 || n.BitLen() > k.prec {
		return
	}
	// Low enough that the other number is normal.
	exp := -(k.prec + 3)
	a, b := k.normal(exp, n), k.two(k.lowest()-lost+n.BitLen()-1-exp)
	for _, c := range []api.Bits{{}, low(1), low(2), bitsOf(power(k.prec - 2)), bitsOf(plus(k.prec-1, -1)), k.two(k.least()), next(k.two(k.least()))} {
		checkBig(t, k, a, b, c)
		checkBig(t, k, k.turned(a), b, c)
		checkBig(t, k, a, b, k.turned(c))
	}
}

// P20.1: below half of the least number, half of it, and above that: products, and sums
// with the least number.
func TestHalfOfLeast(t *testing.T) {
	for _, k := range kinds() {
		half, minus := k.two(-1), k.turned(low(1))
		for _, v := range envs() {
			for _, neg := range both() {
				upwards := v.Mode == api.Up && !neg || v.Mode == api.Down && neg
				nearest := v.Mode == api.Near || v.Mode == api.Away
				for _, x := range []struct {
					a, b, c api.Bits
					up      bool
				}{
					{low(1), step(half, -1), low(0), upwards},
					{low(1), half, low(0), upwards || v.Mode == api.Away},
					{low(1), next(half), low(0), upwards || nearest},
					{low(1), low(1), low(0), upwards},
					{low(1), next(k.one()), minus, upwards},
					{low(1), k.made(k.emax, power(k.prec-2)), minus, upwards || v.Mode == api.Away},
					{low(1), next(k.made(k.emax, power(k.prec-2))), minus, upwards || nearest},
					{low(1), step(k.made(k.emax, power(k.prec-2)), -1), minus, upwards},
					{minus, low(1), low(1), upwards || nearest},
					{minus, step(half, -1), low(1), upwards || nearest},
					{minus, half, low(1), upwards || v.Mode == api.Away},
					{minus, next(half), low(1), upwards},
					{minus, step(k.one(), -1), low(1), upwards},
				} {
					want := api.Result{Flags: api.Inexact | api.Underflow}
					if x.up {
						want.Bits = low(1)
					}
					want.Bits = k.signed(neg, want.Bits)
					checkOrders(t, k.f, v, k.signed(neg, x.a), x.b, k.signed(neg, x.c), want)
					checkOrders(t, k.f, v, k.signed(!neg, x.a), k.turned(x.b), k.signed(neg, x.c), want)
				}
			}
		}
	}
}

// P20.1: sums that become the least normal number by rounding: they are tiny before
// rounding, and after it only if they are with unbounded exponent too.
func TestBecomesLeastNormal(t *testing.T) {
	for _, k := range kinds() {
		for _, x := range k.almost() {
			for _, v := range envs() {
				for _, neg := range both() {
					checkAlmost(t, k, v, neg, x)
				}
			}
		}
	}
}

func checkAlmost(t *testing.T, k kind, v api.Env, neg bool, x almost) {
	t.Helper()
	normal := k.two(k.least())
	want := api.Result{Bits: normal, Flags: api.Inexact}
	m := v.Mode
	if neg && m == api.Up {
		m = api.Down
	} else if neg && m == api.Down {
		m = api.Up
	}
	switch tiny := x.tinyNearest; m {
	case api.Down, api.Zero:
		want = api.Result{Bits: step(normal, -1), Flags: api.Inexact | api.Underflow}
	case api.Up:
		tiny = x.tinyUp
		fallthrough
	default:
		if tiny || !v.After {
			want.Flags |= api.Underflow
		}
	}
	want.Bits = k.signed(neg, want.Bits)
	checkOrders(t, k.f, v, k.signed(neg, x.a), x.b, k.signed(neg, x.c), want)
}

// almost is a sum that the modes but Down and Zero round to the least normal number,
// and whether it is tiny after rounding to the nearest, and upwards.
type almost struct {
	a, b, c             api.Bits
	tinyNearest, tinyUp bool
}

// almost are sums that are the least normal number, less a part of the least number.
func (k kind) almost() []almost {
	normal, greatest, least := k.two(k.least()), step(k.two(k.least()), -1), low(1)
	minus, half, quarter := k.turned(least), k.two(-1), k.two(-2)
	threeQuarters := k.made(k.emax-1, power(k.prec-2))
	return []almost{
		{minus, least, normal, false, false},
		{k.turned(normal), normal, normal, false, false},
		{minus, step(quarter, -1), normal, false, false},
		{minus, quarter, normal, false, false},
		{minus, next(quarter), normal, true, false},
		{minus, k.made(k.emax, power(k.prec-3)), next(normal), false, false},
		{minus, step(half, -1), normal, true, false},
		{minus, half, normal, true, true},
		{least, half, greatest, true, true},
		{least, next(half), greatest, true, false},
		{least, step(threeQuarters, -1), greatest, true, false},
		{least, threeQuarters, greatest, false, false},
		{least, next(threeQuarters), greatest, false, false},
		{least, step(k.one(), -1), greatest, false, false},
		{next(k.two(k.least() + 1)), step(k.one(), -2), k.turned(normal), false, false},
	}
}

// P20.1: sums at the end of the format: within it and beyond it, by the third operand,
// by the product and by both; half a unit above the greatest number, and beside that.
func TestOverflow(t *testing.T) {
	for _, k := range kinds() {
		greatest, two := k.greatest(), k.two(1)
		unit := k.emax - (k.prec - 1)
		for _, v := range envs() {
			for _, neg := range both() {
				sign := func(b api.Bits) api.Bits { return k.signed(neg, b) }
				over, most := k.over(v.Mode, neg), api.Result{Bits: sign(greatest)}
				run := func(a, b, c api.Bits, want api.Result) {
					t.Helper()
					checkOrders(t, k.f, v, sign(a), b, sign(c), want)
					checkOrders(t, k.f, v, sign(k.turned(b)), k.turned(a), sign(c), want)
				}
				run(greatest, two, k.turned(greatest), most)
				run(greatest, k.one(), api.Bits{}, most)
				run(greatest, two, k.turned(step(greatest, -1)), over)
				run(greatest, greatest, k.turned(greatest), over)
				run(greatest, greatest, api.Bits{}, over)
				run(greatest, two, low(1), over)
				run(k.two(k.emax), two, k.turned(k.two(unit)), most)
				run(k.two(k.emax), k.one(), k.two(k.emax), over)
				run(k.two(unit), k.one(), greatest, over)
				run(k.two(unit), k.one(), step(greatest, -1), most)
				checkGreatest(t, k, v.Mode, neg, run)
			}
		}
	}
}

// checkGreatest runs sums beside that half of a unit above the greatest number.
func checkGreatest(t *testing.T, k kind, m api.Mode, neg bool, run func(a, b, c api.Bits, want api.Result)) {
	t.Helper()
	half := k.two(k.emax - k.prec)
	over, inexact := k.over(m, neg), api.Result{Bits: k.signed(neg, k.greatest()), Flags: api.Inexact}
	upwards := over.Bits != inexact.Bits && m != api.Near && m != api.Away
	nearest, within := inexact, inexact
	if over.Bits != inexact.Bits {
		nearest = over
	}
	if upwards {
		within = over
	}
	run(half, k.one(), k.greatest(), nearest)
	run(half, next(k.one()), k.greatest(), nearest)
	run(half, step(k.one(), -1), k.greatest(), within)
	run(low(1), low(1), k.greatest(), within)
	// Half a unit less the square of the least bit: the product's own least bits.
	run(next(k.one()), step(half, -2), k.greatest(), within)
	run(next(k.one()), next(half), k.greatest(), nearest)
	// The other way round: the third operand tells.
	run(k.greatest(), k.one(), half, nearest)
	run(k.greatest(), k.one(), step(half, -1), within)
	run(k.greatest(), k.one(), low(1), within)
}

// P20.1: results that a product rounded first would make different, in every mode.
func TestRoundedOnce(t *testing.T) {
	inParallel(t, func(t *testing.T, k kind) {
		differ := map[api.Env]int{}
		l := append(append(k.middle(), k.beside()...), k.powers()...)
		for i, p := range l {
			for _, e := range []int{0, k.emax - 1, k.emax, k.least(), k.lowest() + 2} {
				by := k.split(e)[i&1]
				a, b := k.normal(by[0], p[0]), k.normal(by[1], p[1])
				product := k.value(a).times(k.value(b))
				for j, d := range k.distances() {
					c := k.signed((i+j)&1 != 0, k.leading(e+d, l[(i+j)%len(l)][0]))
					for _, v := range envs() {
						once := k.finished(v, product.plus(k.value(c)), false, k.negative(c))
						if once.Bits != k.twice(v, product, c) {
							differ[v]++
							check(t, k.f, v, a, b, c, once)
						}
					}
				}
			}
		}
		for _, v := range envs() {
			if differ[v] < 100 {
				t.Errorf("%d, %v: %d results differ", k.f, v, differ[v])
			}
		}
	})
}

// twice is what a product that is not negative and c come to, with two roundings.
func (k kind) twice(v api.Env, product number, c api.Bits) api.Bits {
	first := k.rounded(v, product).Bits
	if k.isInfinite(first) {
		return first
	}
	return k.finished(v, k.value(first).plus(k.value(c)), false, k.negative(c)).Bits
}

// P20.1: operands of all classes at the edges of the format, held against big integers
// and the chapter's cases.
func TestEdges(t *testing.T) {
	inParallel(t, func(t *testing.T, k kind) {
		edges, n := k.edges(), 0
		for _, a := range edges {
			for _, b := range edges {
				for _, c := range edges {
					// One of five, others for each pair of factors, in turn in all environments.
					if n++; n%5 == 0 {
						v := envs()[n/5%10]
						check(t, k.f, v, a, b, c, k.want(v, a, b, c))
					}
				}
			}
		}
	})
}

// P20.1: all numbers of B16 with some others, the even ones as a factor and the odd ones
// as the third operand, held against big integers.
func TestAllOfB16(t *testing.T) {
	t.Parallel()
	k, l := kinds()[0], envs()
	others := [][2]uint64{{0x83ff, 0x0c01}, {0x3aab, 0xbc00}, {0x3c01, 0x3bfe}}
	for n := range uint64(1 << 16) {
		v, x := l[(n^n>>5)%10], others[n/2%3]
		a, b, c := low(n), low(x[0]), low(x[1])
		if n&1 == 0 {
			check(t, k.f, v, a, b, c, k.want(v, a, b, c))
		} else {
			check(t, k.f, v, b, c, a, k.want(v, b, c, a))
		}
	}
}

// scattered visits pairs of numbers without a pattern.
func scattered(n int, visit func(a, b uint64)) {
	state := uint64(1)
	draw := func() uint64 {
		state = state*6364136223846793005 + 1442695040888963407
		return state>>32 | (state*0x9e3779b97f4a7c15)>>32<<32
	}
	for range n {
		visit(draw(), draw())
	}
}

// P20.1: any operands, held against big integers: whatever the third one is, and where
// it is about as great as the product.
func TestScattered(t *testing.T) {
	inParallel(t, func(t *testing.T, k kind) {
		scattered(2500, func(a, b uint64) {
			v := envs()[a>>7%10]
			x, y, z := api.Bits{Hi: a, Lo: b * 3}, api.Bits{Hi: b, Lo: a * 5}, api.Bits{Hi: a * 7, Lo: b * 11}
			check(t, k.f, v, x, y, z, k.want(v, x, y, z))
			x, y = k.made(int(a>>20)%(2*k.emax), k.fraction(x)), k.made(int(b>>20)%(2*k.emax), k.fraction(y))
			e := k.value(x).times(k.value(y)).exponent()
			z = k.leading(e+int(a>>33)%5-2, plus(k.prec, int64(b>>2)))
			checkBig(t, k, x, y, z)
			checkBig(t, k, x, k.turned(y), z)
		})
	})
}

// P20.1: in the format of 64 bits, in the mode Near, the results are those of Go's own.
func TestAsGoDoes(t *testing.T) {
	t.Parallel()
	scattered(25000, func(a, b uint64) {
		asGo(t, a, b, a*7+b)
		// Third operands about as great as the product, and products near the ends.
		exp := (a>>52&0x7ff + b>>52&0x7ff - 0x3ff + b&3 - 1) & 0x7ff
		asGo(t, a, b, exp<<52|(a^b)>>12|a<<63)
		asGo(t, a, b, (exp-53)&0x7ff<<52|(a^b)>>12|a<<63)
		asGo(t, a, (0x3ff0-b&63-a>>52&0x7ff)<<52|b>>12, b&63<<47|a<<63)
	})
}

func asGo(t *testing.T, a, b, c uint64) {
	t.Helper()
	sum := math.FMA(math.Float64frombits(a), math.Float64frombits(b), math.Float64frombits(c))
	got := Fma(api.B64, api.Env{}, low(a), low(b), low(c))
	if sum == sum && got.Bits != low(math.Float64bits(sum)) { // no NaN
		t.Fatalf("%x * %x + %x = %x, Go has %x", a, b, c, got, math.Float64bits(sum))
	}
}
