package rint

import (
	"math"
	"math/big"
	"testing"

	"hairsbreadth/api"
)

// check holds Rint of any operand against want.
func check(t *testing.T, f api.Format, m api.Mode, exactly bool, a api.Bits, want api.Result) {
	t.Helper()
	if got := Rint(f, m, exactly, a); got != want {
		t.Fatalf("Rint(%d, %d, %v, %x) = %x, want %x", f, m, exactly, a, got, want)
	}
}

// checkTo holds Rint of an operand against a result that differs from it or not, which
// is told if exactly is true, and never else.
func checkTo(t *testing.T, k kind, m api.Mode, a, want api.Bits, differs bool) {
	t.Helper()
	check(t, k.f, m, false, a, api.Result{Bits: want})
	var flags api.Flags
	if differs {
		flags = api.Inexact
	}
	check(t, k.f, m, true, a, api.Result{Bits: want, Flags: flags})
}

// checkFive holds Rint of a number of the sign 0 against its results in the modes Near,
// Away, Up, Down and Zero, and of the number with the other sign against the same ones
// with that sign, Up and Down exchanged.
func checkFive(t *testing.T, k kind, a api.Bits, want [5]api.Bits, differs bool) {
	t.Helper()
	mirrored := [5]api.Bits{want[0], want[1], want[3], want[2], want[4]}
	for i, m := range modes() {
		checkTo(t, k, m, a, want[i], differs)
		checkTo(t, k, m, k.turned(a), k.turned(mirrored[i]), differs)
	}
}

// checkBetween does so for a number between two integers, which is nearest, and nearest
// with ties away from zero, to the upper one or not.
func checkBetween(t *testing.T, k kind, a, lower, upper api.Bits, near, away bool) {
	t.Helper()
	choose := func(above bool) api.Bits {
		if above {
			return upper
		}
		return lower
	}
	checkFive(t, k, a, [5]api.Bits{choose(near), choose(away), upper, lower, lower}, true)
}

// checkItself holds Rint of a number, with both signs, against the number itself.
func checkItself(t *testing.T, k kind, a api.Bits) {
	t.Helper()
	checkFive(t, k, a, [5]api.Bits{a, a, a, a, a}, false)
}

// checkBig holds Rint of any operand against big integers and the chapter's cases, in
// every mode, exactly true and false.
func checkBig(t *testing.T, k kind, a api.Bits) {
	t.Helper()
	for _, m := range modes() {
		for _, exactly := range both() {
			check(t, k.f, m, exactly, a, k.want(m, exactly, a))
		}
	}
}

// checkSigns does so for an operand with both signs.
func checkSigns(t *testing.T, k kind, a api.Bits) {
	t.Helper()
	checkBig(t, k, a)
	checkBig(t, k, k.turned(a))
}

// inParallel runs a test for each of the formats.
func inParallel(t *testing.T, run func(t *testing.T, k kind)) {
	t.Parallel()
	for _, k := range kinds() {
		t.Run("", func(t *testing.T) {
			t.Parallel()
			run(t, k)
		})
	}
}

// P24.1: written out, in B16: the results in the modes Near, Away, Up, Down and Zero,
// with Inexact or without.
func TestRintWritten(t *testing.T) {
	for _, x := range []struct {
		a       uint64
		want    [5]uint64
		differs bool
	}{
		{0x0000, [5]uint64{0x0000, 0x0000, 0x0000, 0x0000, 0x0000}, false},
		{0x8000, [5]uint64{0x8000, 0x8000, 0x8000, 0x8000, 0x8000}, false},
		{0x0001, [5]uint64{0x0000, 0x0000, 0x3c00, 0x0000, 0x0000}, true},
		{0x8001, [5]uint64{0x8000, 0x8000, 0x8000, 0xbc00, 0x8000}, true},
		{0x03ff, [5]uint64{0x0000, 0x0000, 0x3c00, 0x0000, 0x0000}, true},
		{0x0400, [5]uint64{0x0000, 0x0000, 0x3c00, 0x0000, 0x0000}, true},
		{0x8400, [5]uint64{0x8000, 0x8000, 0x8000, 0xbc00, 0x8000}, true},
		{0x33ff, [5]uint64{0x0000, 0x0000, 0x3c00, 0x0000, 0x0000}, true},
		{0x3400, [5]uint64{0x0000, 0x0000, 0x3c00, 0x0000, 0x0000}, true}, // a quarter
		{0x37ff, [5]uint64{0x0000, 0x0000, 0x3c00, 0x0000, 0x0000}, true},
		{0x3800, [5]uint64{0x0000, 0x3c00, 0x3c00, 0x0000, 0x0000}, true}, // a half
		{0xb800, [5]uint64{0x8000, 0xbc00, 0x8000, 0xbc00, 0x8000}, true},
		{0x3801, [5]uint64{0x3c00, 0x3c00, 0x3c00, 0x0000, 0x0000}, true},
		{0xb801, [5]uint64{0xbc00, 0xbc00, 0x8000, 0xbc00, 0x8000}, true},
		{0x3bff, [5]uint64{0x3c00, 0x3c00, 0x3c00, 0x0000, 0x0000}, true},
		{0xbbff, [5]uint64{0xbc00, 0xbc00, 0x8000, 0xbc00, 0x8000}, true},
		{0x3c00, [5]uint64{0x3c00, 0x3c00, 0x3c00, 0x3c00, 0x3c00}, false}, // 1
		{0x3c01, [5]uint64{0x3c00, 0x3c00, 0x4000, 0x3c00, 0x3c00}, true},
		{0x3dff, [5]uint64{0x3c00, 0x3c00, 0x4000, 0x3c00, 0x3c00}, true},
		{0x3e00, [5]uint64{0x4000, 0x4000, 0x4000, 0x3c00, 0x3c00}, true}, // 1.5
		{0xbe00, [5]uint64{0xc000, 0xc000, 0xbc00, 0xc000, 0xbc00}, true},
		{0x3e01, [5]uint64{0x4000, 0x4000, 0x4000, 0x3c00, 0x3c00}, true},
		{0x3fff, [5]uint64{0x4000, 0x4000, 0x4000, 0x3c00, 0x3c00}, true},
		{0x4000, [5]uint64{0x4000, 0x4000, 0x4000, 0x4000, 0x4000}, false},
		{0x4001, [5]uint64{0x4000, 0x4000, 0x4200, 0x4000, 0x4000}, true},
		{0x40ff, [5]uint64{0x4000, 0x4000, 0x4200, 0x4000, 0x4000}, true},
		{0x4100, [5]uint64{0x4000, 0x4200, 0x4200, 0x4000, 0x4000}, true}, // 2.5
		{0xc100, [5]uint64{0xc000, 0xc200, 0xc000, 0xc200, 0xc000}, true},
		{0x4101, [5]uint64{0x4200, 0x4200, 0x4200, 0x4000, 0x4000}, true},
		{0x4200, [5]uint64{0x4200, 0x4200, 0x4200, 0x4200, 0x4200}, false},
		{0x4300, [5]uint64{0x4400, 0x4400, 0x4400, 0x4200, 0x4200}, true}, // 3.5
		{0x43ff, [5]uint64{0x4400, 0x4400, 0x4400, 0x4200, 0x4200}, true},
		{0x4480, [5]uint64{0x4400, 0x4500, 0x4500, 0x4400, 0x4400}, true}, // 4.5
		{0x4580, [5]uint64{0x4600, 0x4600, 0x4600, 0x4500, 0x4500}, true}, // 5.5
		{0x5ffd, [5]uint64{0x5ffc, 0x5ffc, 0x6000, 0x5ffc, 0x5ffc}, true}, // 511.25
		{0x5ffe, [5]uint64{0x6000, 0x6000, 0x6000, 0x5ffc, 0x5ffc}, true},
		{0x5fff, [5]uint64{0x6000, 0x6000, 0x6000, 0x5ffc, 0x5ffc}, true},
		{0x6001, [5]uint64{0x6000, 0x6002, 0x6002, 0x6000, 0x6000}, true}, // 512.5
		{0x63fd, [5]uint64{0x63fc, 0x63fe, 0x63fe, 0x63fc, 0x63fc}, true}, // 1022.5
		{0x63fe, [5]uint64{0x63fe, 0x63fe, 0x63fe, 0x63fe, 0x63fe}, false},
		{0x63ff, [5]uint64{0x6400, 0x6400, 0x6400, 0x63fe, 0x63fe}, true}, // 1023.5
		{0xe3ff, [5]uint64{0xe400, 0xe400, 0xe3fe, 0xe400, 0xe3fe}, true},
		{0x6400, [5]uint64{0x6400, 0x6400, 0x6400, 0x6400, 0x6400}, false},
		{0x6401, [5]uint64{0x6401, 0x6401, 0x6401, 0x6401, 0x6401}, false}, // 1025
		{0x67ff, [5]uint64{0x67ff, 0x67ff, 0x67ff, 0x67ff, 0x67ff}, false},
		{0x6801, [5]uint64{0x6801, 0x6801, 0x6801, 0x6801, 0x6801}, false}, // 2050
		{0x7bff, [5]uint64{0x7bff, 0x7bff, 0x7bff, 0x7bff, 0x7bff}, false},
		{0xfbff, [5]uint64{0xfbff, 0xfbff, 0xfbff, 0xfbff, 0xfbff}, false},
		{0x7c00, [5]uint64{0x7c00, 0x7c00, 0x7c00, 0x7c00, 0x7c00}, false},
		{0xfc00, [5]uint64{0xfc00, 0xfc00, 0xfc00, 0xfc00, 0xfc00}, false},
		{0x7e05, [5]uint64{0x7e05, 0x7e05, 0x7e05, 0x7e05, 0x7e05}, false},
	} {
		for i, m := range modes() {
			checkTo(t, kinds()[0], m, low(x.a), low(x.want[i]), x.differs)
		}
	}
}

// P24.1: the chapter's examples.
func TestExamples(t *testing.T) {
	check(t, api.B16, api.Near, false, low(0x3e00), api.Result{Bits: low(0x4000)})
	check(t, api.B16, api.Near, false, low(0x4100), api.Result{Bits: low(0x4000)})
	check(t, api.B16, api.Away, false, low(0x4100), api.Result{Bits: low(0x4200)})
	check(t, api.B16, api.Up, true, low(0x8001), api.Result{Bits: low(0x8000), Flags: api.Inexact})
	check(t, api.B16, api.Near, false, low(0x7c01), api.Result{Bits: low(0x7e01), Flags: api.Invalid})
}

// P24.1: numbers in the wider formats, written out: the number, its lower and its upper
// integer, and whether it is rounded to the upper one in the modes Near and Away.
func TestWrittenElsewhere(t *testing.T) {
	b32, b64, b128 := kinds()[1], kinds()[2], kinds()[3]
	for _, x := range []struct {
		k               kind
		a, lower, upper api.Bits
		near, away      bool
	}{
		{b32, low(0x3effffff), low(0), low(0x3f800000), false, false},
		{b32, low(0x3f000000), low(0), low(0x3f800000), false, true}, // 0.5
		{b32, low(0x3f000001), low(0), low(0x3f800000), true, true},
		{b32, low(0x3fc00000), low(0x3f800000), low(0x40000000), true, true},  // 1.5
		{b32, low(0x40200000), low(0x40000000), low(0x40400000), false, true}, // 2.5
		{b32, low(0x402fffff), low(0x40000000), low(0x40400000), true, true},
		{b32, low(0x42c6cccd), low(0x42c60000), low(0x42c80000), false, false}, // 99.4
		{b32, low(0x4affffff), low(0x4afffffe), low(0x4b000000), true, true},   // 2^23 - 0.5
		{b32, low(0x4afffffd), low(0x4afffffc), low(0x4afffffe), false, true},
		{b64, low(0x3fdfffffffffffff), low(0), low(0x3ff << 52), false, false},
		{b64, low(0x3fe << 52), low(0), low(0x3ff << 52), false, true},
		{b64, low(0x3fe0000000000001), low(0), low(0x3ff << 52), true, true},
		{b64, low(0x3ff8 << 48), low(0x3ff << 52), low(0x400 << 52), true, true},
		{b64, low(0x4004 << 48), low(0x400 << 52), low(0x4008 << 48), false, true},
		{b64, low(0x400921fb54442d18), low(0x4008 << 48), low(0x401 << 52), false, false}, // pi
		{b64, low(0x432fffffffffffff), low(0x432ffffffffffffe), low(0x433 << 52), true, true},
		{b64, low(0x4320000000000001), low(0x432 << 52), low(0x4320000000000002), false, true},
		{b128, api.Bits{Hi: 0x3ffdffffffffffff, Lo: all64}, low(0), api.Bits{Hi: 0x3fff << 48}, false, false},
		{b128, api.Bits{Hi: 0x3ffe << 48}, low(0), api.Bits{Hi: 0x3fff << 48}, false, true},
		{b128, api.Bits{Hi: 0x3ffe << 48, Lo: 1}, low(0), api.Bits{Hi: 0x3fff << 48}, true, true},
		{b128, api.Bits{Hi: 0x3fff8 << 44}, api.Bits{Hi: 0x3fff << 48}, api.Bits{Hi: 0x4000 << 48}, true, true},
		{b128, api.Bits{Hi: 0x40004 << 44}, api.Bits{Hi: 0x4000 << 48}, api.Bits{Hi: 0x40008 << 44}, false, true},
		{b128, api.Bits{Hi: 0x40004 << 44, Lo: 1}, api.Bits{Hi: 0x4000 << 48}, api.Bits{Hi: 0x40008 << 44}, true, true},
		{b128, api.Bits{Hi: 0x406effffffffffff, Lo: all64}, api.Bits{Hi: 0x406effffffffffff, Lo: all64 - 1}, api.Bits{Hi: 0x406f << 48}, true, true},
		{b128, api.Bits{Hi: 0x406e << 48, Lo: 1}, api.Bits{Hi: 0x406e << 48}, api.Bits{Hi: 0x406e << 48, Lo: 2}, false, true},
	} {
		checkBetween(t, x.k, x.a, x.lower, x.upper, x.near, x.away)
	}
}

// P24.1, 3: numbers between 0 and 1: below a half, a half, above a half.
func TestLessThanOne(t *testing.T) {
	inParallel(t, func(t *testing.T, k kind) {
		half, one := k.two(-1), k.one()
		for i := range int64(200) {
			checkBetween(t, k, low(uint64(i+1)), api.Bits{}, one, false, false) // subnormal
			checkBetween(t, k, step(half, -1-i), api.Bits{}, one, false, false)
			checkBetween(t, k, step(half, 1+i), api.Bits{}, one, true, true)
			checkBetween(t, k, step(one, -1-i), api.Bits{}, one, true, true)
		}
		checkBetween(t, k, half, api.Bits{}, one, false, true)
		for _, b := range k.finite() {
			order := bigOf(b).Cmp(bigOf(half))
			if bigOf(b).Cmp(bigOf(one)) < 0 && order != 0 {
				checkBetween(t, k, b, api.Bits{}, one, order > 0, order > 0)
			}
		}
	})
}

// P24.1, 3: powers of 2 below 1, from the least subnormal number on.
func TestPowersOf2BelowOne(t *testing.T) {
	inParallel(t, func(t *testing.T, k kind) {
		for exp := k.lowest(); exp < -1; exp += 1 + k.emax/200 {
			checkBetween(t, k, k.two(exp), api.Bits{}, k.one(), false, false)
		}
		for exp := -2; exp > -300 && exp >= k.lowest(); exp-- {
			checkBetween(t, k, k.two(exp), api.Bits{}, k.one(), false, false)
		}
	})
}

// integers are some of exp + 1 bits: both ends, even ones and odd ones.
func integers(exp int) []*big.Int {
	l := []*big.Int{power(exp), plus(exp+1, -1)}
	if exp > 0 {
		l = append(l, plus(exp, 1), plus(exp+1, -2), mixed(exp+1))
	}
	return l
}

// P24.1, 3: at each place of the point, integers with a half behind it, even ones and odd
// ones, and those with less and with more: the least part, the greatest one, and those
// next to the half.
func TestHalves(t *testing.T) {
	inParallel(t, func(t *testing.T, k kind) {
		for exp := range k.prec - 1 {
			for _, n := range integers(exp) {
				checkHalf(t, k, n, k.prec-1-exp)
			}
		}
	})
}

// checkHalf holds Rint of an integer, and of numbers between it and the next one,
// against the two; the format has that many places behind the point there.
func checkHalf(t *testing.T, k kind, n *big.Int, places int) {
	t.Helper()
	above := new(big.Int).Add(n, big.NewInt(1))
	lower, upper := k.encoding(n, 0), k.encoding(above, 0)
	twice := new(big.Int).Lsh(n, 1)
	half := k.encoding(twice.SetBit(twice, 0, 1), -1)
	checkItself(t, k, lower)
	checkBetween(t, k, half, lower, upper, n.Bit(0) == 1, true)
	if places == 1 {
		return
	}
	most := above.Lsh(above, uint(places))
	checkBetween(t, k, next(lower), lower, upper, false, false)
	checkBetween(t, k, step(half, -1), lower, upper, false, false)
	checkBetween(t, k, next(half), lower, upper, true, true)
	checkBetween(t, k, k.encoding(most.Sub(most, big.NewInt(1)), -places), lower, upper, true, true)
}

// P24.1, 3: numbers that are carried into the next exponent: those between 2^exp - 1 and
// 2^exp, from the middle on.
func TestCarried(t *testing.T) {
	inParallel(t, func(t *testing.T, k kind) {
		for exp := 1; exp < k.prec; exp++ {
			lower, upper := k.encoding(plus(exp, -1), 0), k.two(exp)
			middle := k.encoding(plus(exp+1, -1), -1)
			checkBetween(t, k, middle, lower, upper, true, true)
			checkBetween(t, k, step(upper, -1), lower, upper, true, true)
			if exp < k.prec-1 {
				checkBetween(t, k, next(middle), lower, upper, true, true)
				checkBetween(t, k, step(middle, -1), lower, upper, false, false)
			}
		}
	})
}

// below are parts of an integer that have so many places behind the point: of one bit,
// of some and of all bits.
func below(places int) []*big.Int {
	l := []*big.Int{mixed(places), mixed(places - 1), plus(places, -1)}
	for i := 0; i < places; i += 1 + places/10 {
		l = append(l, power(i), plus(i, -1), new(big.Int).Sub(plus(places, -1), power(i)))
	}
	return l
}

// P24.1, 3: one bit, some and all bits below the point, at each place of it, behind
// integers of both ends and some between: held against big integers.
func TestBitsBelowPoint(t *testing.T) {
	inParallel(t, func(t *testing.T, k kind) {
		for exp := range k.prec - 1 {
			places := k.prec - 1 - exp
			for _, n := range integers(exp) {
				for _, part := range below(places) {
					x := new(big.Int).Lsh(n, uint(places))
					checkSigns(t, k, k.encoding(x.Or(x, part), -places))
				}
			}
		}
	})
}

// P24.1, 3: whole numbers of every length are themselves, those too that have more bits
// than the format.
func TestWholeNumbers(t *testing.T) {
	inParallel(t, func(t *testing.T, k kind) {
		for exp := 0; exp <= k.emax; exp++ {
			if exp > k.prec+130 && exp < k.emax-130 && exp%97 != 0 {
				continue
			}
			for _, n := range integers(min(exp, k.prec-1)) {
				checkItself(t, k, k.encoding(n, max(exp-k.prec+1, 0)))
			}
		}
		checkItself(t, k, k.greatest())
		checkItself(t, k, k.two(k.emax))
		for n := range uint64(200) {
			checkItself(t, k, k.encoding(new(big.Int).SetUint64(n), 0))
		}
	})
}

// P24.1: operands of all classes at the edges, and numbers with all kinds of exponents,
// held against big integers and the chapter's cases.
func TestEdges(t *testing.T) {
	inParallel(t, func(t *testing.T, k kind) {
		for _, a := range k.edges() {
			checkBig(t, k, a)
		}
		for i, a := range k.finite() {
			if k.f != api.B16 || i%17 == 0 {
				checkSigns(t, k, a)
			}
		}
	})
}

// P24.1: all encodings of B16, in every mode, exactly true and false.
func TestAllOfB16(t *testing.T) {
	t.Parallel()
	k := kinds()[0]
	for _, m := range modes() {
		t.Run("", func(t *testing.T) {
			t.Parallel()
			for a := range uint64(1 << 16) {
				for _, exactly := range both() {
					check(t, k.f, m, exactly, low(a), k.want(m, exactly, low(a)))
				}
			}
		})
	}
}

// scattered visits pairs of numbers without a pattern.
func scattered(n int, visit func(a, b uint64)) {
	state := uint64(1)
	draw := func() uint64 {
		state = state*6364136223846793005 + 1442695040888963407
		return state>>32 | (state*0x9e3779b97f4a7c15)>>32<<32
	}
	for range n {
		visit(draw(), draw())
	}
}

// P24.1: any operands, and those whose point is among their bits, held against big
// integers.
func TestScattered(t *testing.T) {
	inParallel(t, func(t *testing.T, k kind) {
		scattered(3000, func(a, b uint64) {
			x := api.Bits{Hi: a, Lo: b * 3}
			checkBig(t, k, x)
			exp := int(a>>40)%(k.prec+3) - 3
			fraction := bigOf(x)
			fraction.And(fraction, plus(k.prec-1, -1))
			checkBig(t, k, k.signed(b&1 == 1, k.made(exp+k.emax, fraction)))
		})
	})
}

// P24.1: in the formats that Go has, the results are those of its own functions.
func TestAsGoDoes(t *testing.T) {
	t.Parallel()
	scattered(10000, func(a, b uint64) {
		asGo64(t, a)
		asGo64(t, b>>12)
		asGo64(t, (0x3fc+a>>58)<<52|b>>12)
		asGo64(t, 1<<63|(0x3fc+b>>58)<<52|a>>12)
		asGo32(t, uint32(a))
		asGo32(t, uint32(b)>>9)
		asGo32(t, (0x7c+uint32(a)>>27)<<23|uint32(b)>>9)
		asGo32(t, 1<<31|(0x7c+uint32(b)>>27)<<23|uint32(a)>>9)
	})
}

// ofGo are Go's own functions, in the order of the modes.
func ofGo() []func(float64) float64 {
	return []func(float64) float64{math.RoundToEven, math.Round, math.Ceil, math.Floor, math.Trunc}
}

func asGo64(t *testing.T, a uint64) {
	t.Helper()
	x := math.Float64frombits(a)
	for i, m := range modes() {
		if whole := ofGo()[i](x); whole == whole { // no NaN
			checkTo(t, kinds()[2], m, low(a), low(math.Float64bits(whole)), whole != x)
		}
	}
}

// asGo32 asks for the integer as a B64 has it, which is one of a B32 too.
func asGo32(t *testing.T, a uint32) {
	t.Helper()
	x := float64(math.Float32frombits(a))
	for i, m := range modes() {
		if whole := ofGo()[i](x); whole == whole { // no NaN
			want := low(uint64(math.Float32bits(float32(whole))))
			checkTo(t, kinds()[1], m, low(uint64(a)), want, whole != x)
		}
	}
}
