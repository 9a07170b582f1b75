package rem

import (
	"math"
	"math/big"
	"testing"

	"hairsbreadth/api"
)

// check holds Rem of any operands against want.
func check(t *testing.T, f api.Format, a, b api.Bits, want api.Result) {
	t.Helper()
	if got := Rem(f, a, b); got != want {
		t.Fatalf("Rem(%d, %x, %x) = %x, want %x", f, a, b, got, want)
	}
}

// checkBig holds Rem of any operands against big integers and the chapter's cases.
func checkBig(t *testing.T, k kind, a, b api.Bits) {
	t.Helper()
	check(t, k.f, a, b, k.want(a, b))
}

// checkBothWays does so for the two in either order, with signs that differ from pair
// to pair.
func checkBothWays(t *testing.T, k kind, a, b api.Bits) {
	t.Helper()
	i := a.Lo + b.Hi + b.Lo
	checkBig(t, k, k.signed(i&1 == 1, a), k.signed(i&2 == 2, b))
	checkBig(t, k, k.signed(i&4 == 4, b), k.signed(i&1 == 1, a))
}

// checkSigns holds Rem of two numbers of the sign 0, with all signs, against a
// remainder that has the sign of the first one, or the other one if opposite.
func checkSigns(t *testing.T, k kind, a, b, rest api.Bits, opposite bool) {
	t.Helper()
	for _, neg := range both() {
		want := api.Result{Bits: k.signed(neg != opposite, rest)}
		check(t, k.f, k.signed(neg, a), b, want)
		check(t, k.f, k.signed(neg, a), k.turned(b), want)
	}
}

// inParallel runs a test for each of the formats.
func inParallel(t *testing.T, run func(t *testing.T, k kind)) {
	t.Parallel()
	for _, k := range kinds() {
		t.Run("", func(t *testing.T) {
			t.Parallel()
			run(t, k)
		})
	}
}

// P23.1: written out, in B16.
func TestRemWritten(t *testing.T) {
	for _, x := range []struct {
		a, b, want uint64
		flags      api.Flags
	}{
		{0x4500, 0x4200, 0xbc00, 0}, // 5 and 3
		{0x4400, 0x4200, 0x3c00, 0},
		{0x3e00, 0x3c00, 0xb800, 0}, // half, above 1
		{0x4100, 0x3c00, 0x3800, 0}, // half, above 2
		{0xbe00, 0x3c00, 0x3800, 0},
		{0xc100, 0x3c00, 0xb800, 0},
		{0x3e00, 0xbc00, 0xb800, 0},
		{0x4300, 0x3c00, 0xb800, 0}, // half, above 3
		{0x3dff, 0x3c00, 0x37fc, 0}, // just below a half
		{0x3e01, 0x3c00, 0xb7fc, 0}, // just above a half
		{0x40ff, 0x3c00, 0x37f8, 0},
		{0x4101, 0x3c00, 0xb7f8, 0},
		{0x3800, 0x3c00, 0x3800, 0}, // half, above 0
		{0xb800, 0x3c00, 0xb800, 0},
		{0x3801, 0x3c00, 0xb7fe, 0},
		{0x37ff, 0x3c00, 0x37ff, 0},
		{0xb801, 0x3c00, 0x37fe, 0},
		{0x3bff, 0x3c00, 0x9000, 0},
		{0x3c01, 0x3c00, 0x1400, 0},
		{0x4200, 0x3c00, 0x0000, 0},
		{0xc200, 0x4200, 0x8000, 0},
		{0x4200, 0x4200, 0x0000, 0},
		{0x4600, 0xc200, 0x0000, 0},
		{0xc600, 0xc200, 0x8000, 0},
		{0x4900, 0x4200, 0x3c00, 0}, // 10 and 3
		{0x4900, 0xc200, 0x3c00, 0},
		{0xc900, 0x4200, 0xbc00, 0},
		{0xc900, 0xc200, 0xbc00, 0},
		{0x4880, 0x4200, 0x0000, 0}, // 9 and 3
		{0x4a00, 0x4500, 0x4000, 0}, // 12 and 5
		{0x4a80, 0x4500, 0xc000, 0}, // 13 and 5
		{0x4a00, 0x4400, 0x0000, 0},
		{0x4b00, 0x4400, 0xc000, 0}, // 14 and 4
		{0x4900, 0x4400, 0x4000, 0}, // 10 and 4
		{0x7bff, 0x0001, 0x0000, 0},
		{0x7bff, 0x0003, 0x8001, 0},
		{0x7bff, 0x0005, 0x8001, 0},
		{0x7bff, 0x0007, 0x8002, 0},
		{0xfbff, 0x0007, 0x0002, 0},
		{0x7bff, 0x03ff, 0x81ff, 0},
		{0x7bff, 0x0401, 0x81ff, 0},
		{0x7bff, 0x4200, 0xbc00, 0},
		{0x7bff, 0x7bfe, 0x5000, 0},
		{0x7bfe, 0x7bff, 0xd000, 0},
		{0x7bff, 0x7800, 0xd000, 0},
		{0x7800, 0x7bff, 0xf7fe, 0},
		{0x7801, 0x7bff, 0xf7fc, 0},
		{0x77ff, 0x7bff, 0x77ff, 0}, // less than half
		{0x7bff, 0x77ff, 0x0000, 0},
		{0x0001, 0x0001, 0x0000, 0},
		{0x0001, 0x0002, 0x0001, 0}, // half of b
		{0x8001, 0x0002, 0x8001, 0},
		{0x0003, 0x0002, 0x8001, 0},
		{0x8003, 0x0002, 0x0001, 0},
		{0x0005, 0x0002, 0x0001, 0},
		{0x0001, 0x0003, 0x0001, 0},
		{0x0002, 0x0003, 0x8001, 0},
		{0x0004, 0x0003, 0x0001, 0},
		{0x0005, 0x0003, 0x8001, 0},
		{0x03ff, 0x0400, 0x8001, 0},
		{0x0400, 0x03ff, 0x0001, 0},
		{0x0600, 0x0400, 0x8200, 0},
		{0x0a00, 0x0400, 0x0000, 0},
		{0x0401, 0x0800, 0x83ff, 0},
		{0x0400, 0x0800, 0x0400, 0},
		{0x0c01, 0x0801, 0x0000, 0},
		{0x0555, 0x0333, 0x8111, 0},
		{0x0001, 0x7bff, 0x0001, 0},
		{0x8001, 0x7bff, 0x8001, 0},
		{0x0001, 0x3c00, 0x0001, 0},
		{0x3c00, 0x0003, 0x0001, 0},
		{0x3c01, 0x0003, 0x8001, 0},
		{0x0000, 0x3c00, 0x0000, 0},
		{0x8000, 0x3c00, 0x8000, 0},
		{0x8000, 0xbc00, 0x8000, 0},
		{0x0000, 0x0001, 0x0000, 0},
		{0x8000, 0xfc00, 0x8000, 0},
		{0x0000, 0xfc00, 0x0000, 0},
		{0x3c00, 0x0000, 0x7e00, 1},
		{0xbc00, 0x8000, 0x7e00, 1},
		{0x0000, 0x0000, 0x7e00, 1},
		{0x8000, 0x0000, 0x7e00, 1},
		{0x7c00, 0x3c00, 0x7e00, 1},
		{0xfc00, 0xbc00, 0x7e00, 1},
		{0x7c00, 0x0000, 0x7e00, 1},
		{0x7c00, 0x7c00, 0x7e00, 1},
		{0xfc00, 0x7c00, 0x7e00, 1},
		{0x3c00, 0x7c00, 0x3c00, 0},
		{0xbc00, 0x7c00, 0xbc00, 0},
		{0x8001, 0xfc00, 0x8001, 0},
		{0x7bff, 0xfc00, 0x7bff, 0},
		{0x7e05, 0x0000, 0x7e05, 0},
		{0x7c00, 0xfe05, 0xfe05, 0},
		{0x7c05, 0x7c00, 0x7e05, 1},
		{0x0000, 0xfc05, 0xfe05, 1},
		{0xfe05, 0x7c01, 0xfe05, 1},
		{0x7c01, 0xfe05, 0x7e01, 1},
		{0x7e01, 0xfe02, 0x7e01, 0},
		{0x3c00, 0xfd01, 0xff01, 1},
	} {
		check(t, api.B16, low(x.a), low(x.b), api.Result{Bits: low(x.want), Flags: x.flags})
	}
}

// P23.1, 4: written out, in the wider formats: numbers close together, and the greatest
// one with the least ones.
func TestWrittenElsewhere(t *testing.T) {
	for _, x := range []struct {
		f          api.Format
		a, b, want api.Bits
	}{
		{api.B32, low(0x7f000000), low(0x40400000), low(0xbf800000)},
		{api.B32, low(0x7f7fffff), low(0x1), low(0)},
		{api.B32, low(0x7f7fffff), low(0x3), low(0)},
		{api.B32, low(0xff7fffff), low(0x7), low(0x80000000)},
		{api.B32, low(0x7f7fffff), low(0x800001), low(0x3)},
		{api.B32, low(0x40490fdb), low(0x3f800000), low(0x3e10fdb0)},
		{api.B32, low(0x3f000001), low(0xbf800000), low(0xbefffffe)},
		{api.B32, low(0x3), low(0x2), low(0x80000001)},
		{api.B64, low(0x7fefffffffffffff), low(0x1), low(0)},
		{api.B64, low(0x7fefffffffffffff), low(0x3), low(0x8000000000000001)},
		{api.B64, low(0x7fefffffffffffff), low(0xfffffffffffff), low(0x20000)},
		{api.B64, low(0x7fe0000000000000), low(0x4008000000000000), low(0xbff0000000000000)},
		{api.B64, low(0x7fe0000000000000), low(0x401921fb54442d18), low(0xbff359932fef7720)},
		{api.B64, low(0x4014000000000000), low(0xc008000000000000), low(0xbff0000000000000)},
		{api.B64, low(0xc00c000000000000), low(0x3ff0000000000000), low(0x3fe0000000000000)},
		{api.B64, low(0x3fe0000000000001), low(0x3ff0000000000000), low(0xbfdffffffffffffe)},
		{api.B64, low(0x5), low(0x2), low(0x1)},
		{api.B64, low(0x7), low(0x2), low(0x8000000000000001)},
		{api.B128, api.Bits{Hi: 0x7ffeffffffffffff, Lo: all64}, api.Bits{Lo: 0x1}, api.Bits{}},
		{api.B128, api.Bits{Hi: 0x7ffeffffffffffff, Lo: all64}, api.Bits{Lo: 0x3}, api.Bits{Hi: 0x8000000000000000, Lo: 0x1}},
		{api.B128, api.Bits{Hi: 0xfffeffffffffffff, Lo: all64}, api.Bits{Lo: 0x7}, api.Bits{Lo: 0x2}},
		{api.B128, api.Bits{Hi: 0x7ffeffffffffffff, Lo: all64}, api.Bits{Hi: 0xffffffffffff, Lo: all64}, api.Bits{Lo: 0x2000000000000000}},
		{api.B128, api.Bits{Hi: 0x7ffe000000000000}, api.Bits{Hi: 0x4000800000000000}, api.Bits{Hi: 0xbfff000000000000}},
		{api.B128, api.Bits{Hi: 0x4001400000000000}, api.Bits{Hi: 0x4000800000000000}, api.Bits{Hi: 0xbfff000000000000}},
		{api.B128, api.Bits{Hi: 0x3ffe000000000000, Lo: 0x1}, api.Bits{Hi: 0x3fff000000000000}, api.Bits{Hi: 0xbffdffffffffffff, Lo: 0xfffffffffffffffe}},
		{api.B128, api.Bits{Hi: 0x3ffe000000000000}, api.Bits{Hi: 0x3fff000000000000}, api.Bits{Hi: 0x3ffe000000000000}},
		{api.B128, api.Bits{Lo: 0x1}, api.Bits{Hi: 0x7ffeffffffffffff, Lo: all64}, api.Bits{Lo: 0x1}},
	} {
		check(t, x.f, x.a, x.b, api.Result{Bits: x.want})
	}
}

// P23.1, 4: any remainder at any distance of the operands: those at both ends and at both
// sides of the middle of odd divisors of any length, written out.
func TestRests(t *testing.T) {
	inParallel(t, func(t *testing.T, k kind) {
		seen := 0
		for _, d := range k.divisors() {
			for i, rest := range rests(d) {
				for _, e := range k.distances() {
					if k.prec > 60 && e > 5000 && (e+i+int(d.Bit(2)))%3 > 0 {
						continue // long divisions: some of them
					}
					a := landing(d, rest, e)
					k.placed(a.Lsh(a, uint(e)), d, func(x, y api.Bits, unit int) {
						seen++
						checkRest(t, k, x, y, d, rest, unit)
					})
				}
			}
		}
		if seen < 2000 {
			t.Errorf("%d: %d pairs", k.f, seen)
		}
	})
}

// checkRest holds the remainder of x and of y, which is d * 2^unit, against what is
// left of x above a multiple of y: rest * 2^unit. There is no middle, since d is odd.
func checkRest(t *testing.T, k kind, x, y api.Bits, d, rest *big.Int, unit int) {
	t.Helper()
	missing := new(big.Int).Sub(d, rest)
	if rest.Cmp(missing) < 0 {
		checkSigns(t, k, x, y, k.encoding(rest, unit), false)
	} else {
		checkSigns(t, k, x, y, k.encoding(missing, unit), true)
	}
}

// P23.1, 4: quotients of a half and an even or an odd integer, and the nearest ones
// beside them: written out, for divisors of every length.
func TestHalves(t *testing.T) {
	inParallel(t, func(t *testing.T, k kind) {
		even, uneven := 0, 0
		for length := 1; length <= k.prec; length++ {
			for _, d := range odd(length) {
				for _, n := range k.belowHalves(d) {
					twice := new(big.Int).Lsh(n, 1)
					a := twice.Mul(twice.SetBit(twice, 0, 1), d)
					checkHalf(t, k, a, d, n.Bit(0) == 1)
					checkBesideHalf(t, k, a, d)
					if n.Bit(0) == 1 {
						uneven++
					} else {
						even++
					}
				}
			}
		}
		if even < 100 || uneven < 50 {
			t.Errorf("%d: halves above %d even integers and %d odd ones", k.f, even, uneven)
		}
	})
}

// belowHalves are the integers n for which the format has twice n, and 1, times d: the
// first ones, the last ones, and some between.
func (k kind) belowHalves(d *big.Int) []*big.Int {
	most := new(big.Int).Quo(plus(k.prec, -1), d)
	most.Rsh(most.Sub(most, big.NewInt(1)), 1)
	var l []*big.Int
	for i := range int64(5) {
		l = append(l, big.NewInt(i), new(big.Int).Sub(most, big.NewInt(i)))
	}
	for i := 3; i < most.BitLen(); i += 7 {
		l = append(l, power(i), mixed(i))
	}
	var some []*big.Int
	for _, n := range l {
		if n.Sign() >= 0 && n.Cmp(most) <= 0 {
			some = append(some, n)
		}
	}
	return some
}

// checkHalf holds the remainder of a and twice d, which is d in the middle of two
// multiples, against it: it is above the one that is even times twice d.
func checkHalf(t *testing.T, k kind, a, d *big.Int, above bool) {
	t.Helper()
	k.placed(a, new(big.Int).Lsh(d, 1), func(x, y api.Bits, unit int) {
		checkSigns(t, k, x, y, k.encoding(d, unit), above)
	})
}

// checkBesideHalf holds the remainders of the two numbers next to a, and of twice d,
// against what is less than d by as much.
func checkBesideHalf(t *testing.T, k kind, a, d *big.Int) {
	t.Helper()
	by := uint(k.prec - a.BitLen())
	for _, beside := range []int64{-1, 1} {
		n := new(big.Int).Lsh(a, by)
		n.Add(n, big.NewInt(beside))
		rest := new(big.Int).Lsh(d, by)
		rest.Sub(rest, big.NewInt(1))
		k.placed(n, new(big.Int).Lsh(d, by+1), func(x, y api.Bits, unit int) {
			checkSigns(t, k, x, y, k.encoding(rest, unit), beside > 0 && rest.Sign() > 0)
		})
	}
}

// P23.1, 4: exact quotients, odd and even, long and short, at any distance: a zero with
// the sign of a.
func TestMultiples(t *testing.T) {
	inParallel(t, func(t *testing.T, k kind) {
		for length := 1; length <= k.prec; length += 1 + k.prec/12 {
			for _, d := range odd(length) {
				for _, n := range []*big.Int{big.NewInt(1), big.NewInt(2), big.NewInt(3), power(k.prec - length), mixed(max(k.prec-length, 1)), plus(k.prec-length, -1)} {
					if n.Sign() == 0 {
						continue
					}
					for i, e := range k.distances() {
						if e > 300 && (i+length)%4 > 0 {
							continue // long divisions: some of them
						}
						a := new(big.Int).Mul(n, d)
						k.placed(a.Lsh(a, uint(e)), d, func(x, y api.Bits, _ int) {
							checkSigns(t, k, x, y, api.Bits{}, false)
						})
					}
				}
			}
		}
	})
}

// P23.1, 4: as far apart as the format has two numbers: all are multiples of the least
// one, and the least one is less than half of all but the first ones.
func TestEnds(t *testing.T) {
	for _, k := range kinds() {
		least, greatest := low(1), k.greatest()
		checkSigns(t, k, greatest, least, api.Bits{}, false)
		checkSigns(t, k, least, greatest, least, false)
		for _, b := range k.numbers()[1:] {
			checkSigns(t, k, b, least, api.Bits{}, false)
		}
		checkSigns(t, k, least, low(2), least, false)
		checkSigns(t, k, low(3), low(2), least, true)
		checkSigns(t, k, low(5), low(2), least, false)
		for _, b := range k.numbers()[3:] {
			checkSigns(t, k, least, b, least, false)
		}
		for d := uint64(2); d < 400; d++ {
			checkBothWays(t, k, greatest, low(d))
			checkBothWays(t, k, k.two(k.emax), low(d))
			checkBothWays(t, k, step(k.infinity(), -int64(d)), k.made(1, big.NewInt(int64(d%3))))
		}
	}
}

// P23.1, 4: two numbers at every distance, held against big integers.
func TestDistances(t *testing.T) {
	inParallel(t, func(t *testing.T, k kind) {
		for _, e := range k.distances() {
			for i, p := range k.fractions() {
				for j, q := range k.fractions() {
					if e > 5000 && (i+j+e)%5 > 0 {
						continue // long divisions: some of them
					}
					for _, bottom := range []int{0, 1, k.emax - e/2, 2*k.emax - e} {
						if bottom >= 0 && bottom+e <= 2*k.emax {
							checkBothWays(t, k, k.made(bottom+e, p), k.made(bottom, q))
						}
					}
				}
			}
		}
	})
}

// P23.1, 4: all fractions, with exponents that are equal or differ by little, and all
// signs.
func TestFractions(t *testing.T) {
	inParallel(t, func(t *testing.T, k kind) {
		for _, a := range k.withFractions() {
			for _, b := range k.withFractions() {
				checkBig(t, k, a, b)
			}
		}
	})
}

// withFractions are numbers of all fractions and both signs, of the least exponents, of
// some within and of the greatest ones.
func (k kind) withFractions() []api.Bits {
	var l []api.Bits
	for _, field := range []int{0, 1, 2, 3, k.emax - 2, k.emax - 1, k.emax, k.emax + 1, 2*k.emax - 1, 2 * k.emax} {
		for _, q := range k.fractions() {
			if b := k.made(field, q); k.prec < 100 || (field+int(q.Bit(0)))%2 == 0 {
				l = append(l, b, k.turned(b))
			}
		}
	}
	return l
}

// P23.1: operands of all classes at the edges of the format, each with each, held
// against big integers and the chapter's cases.
func TestEdges(t *testing.T) {
	inParallel(t, func(t *testing.T, k kind) {
		for _, a := range k.edges() {
			for _, b := range k.edges() {
				checkBig(t, k, a, b)
			}
		}
	})
}

// P23.1, 4: subnormal numbers of every length in each place, with each other and with
// normal numbers: held against big integers. Most remainders are subnormal.
func TestSubnormal(t *testing.T) {
	inParallel(t, func(t *testing.T, k kind) {
		var l []api.Bits
		for i := 1; i < k.prec; i++ {
			l = append(l, bitsOf(power(i-1)), bitsOf(plus(i, -1)), bitsOf(mixed(i)))
		}
		for i, a := range l {
			for j := i % 3; j <= i; j += 3 {
				checkBothWays(t, k, a, l[j])
			}
			for j, q := range k.fractions() {
				for _, field := range []int{0, 1, 2, k.prec, k.emax - i, k.emax} {
					if field >= 0 && (field < 5000 || (i+j)%20 == 0) {
						checkBothWays(t, k, a, k.made(field, q))
					}
				}
			}
		}
	})
}

// P23.1, 4: remainders that are subnormal, of normal numbers and of others, at both
// sides of the least normal number, written out.
func TestBecomesSubnormal(t *testing.T) {
	for _, k := range kinds() {
		normal := k.two(k.least())
		twice, four := k.two(k.least()+1), k.two(k.least()+2)
		checkSigns(t, k, next(normal), normal, low(1), false)
		checkSigns(t, k, step(normal, 5), normal, low(5), false)
		checkSigns(t, k, step(twice, -1), normal, low(1), true)
		checkSigns(t, k, normal, twice, normal, false)
		checkSigns(t, k, normal, next(twice), normal, false)
		checkSigns(t, k, next(normal), twice, step(normal, -1), true)
		checkSigns(t, k, step(normal, 2), next(twice), normal, true)
		checkSigns(t, k, step(normal, 3), next(twice), step(normal, -1), true)
		checkSigns(t, k, step(normal, -1), normal, low(1), true)
		checkSigns(t, k, k.normal(k.least()+1, big.NewInt(3)), four, normal, true)
		checkSigns(t, k, next(k.two(k.emax)), k.two(k.emax), k.two(k.emax-k.prec+1), false)
		checkSigns(t, k, next(k.two(0)), normal, api.Bits{}, false)
	}
}

// P23.1: all numbers of B16 in each place with some others, held against big integers.
func TestAllOfB16(t *testing.T) {
	t.Parallel()
	k := kinds()[0]
	for _, b := range []uint64{0x0003, 0x83ff, 0x0c01, 0x3aab, 0xc200, 0x7001, 0xfbff} {
		t.Run("", func(t *testing.T) {
			t.Parallel()
			for a := range uint64(1 << 16) {
				checkBig(t, k, low(a), low(b))
				checkBig(t, k, low(b), low(a))
			}
		})
	}
}

// scattered visits pairs of numbers without a pattern.
func scattered(n int, visit func(a, b uint64)) {
	state := uint64(1)
	draw := func() uint64 {
		state = state*6364136223846793005 + 1442695040888963407
		return state>>32 | (state*0x9e3779b97f4a7c15)>>32<<32
	}
	for range n {
		visit(draw(), draw())
	}
}

// P23.1: any operands, held against big integers: far apart, and close together.
func TestScattered(t *testing.T) {
	inParallel(t, func(t *testing.T, k kind) {
		scattered(4000, func(a, b uint64) {
			x, y := api.Bits{Hi: a, Lo: b * 3}, api.Bits{Hi: b, Lo: a * 5}
			checkBig(t, k, x, y)
			field := int(a>>40) % (2*k.emax + 1)
			closeBy := k.made(min(max(field+int(b>>50)%7-3, 0), 2*k.emax), k.fractionOf(y))
			checkBig(t, k, k.made(field, k.fractionOf(x)), k.signed(a&2 == 0, closeBy))
		})
	})
}

// fractionOf are the bits of b that are the fraction in the format.
func (k kind) fractionOf(b api.Bits) *big.Int {
	n := bigOf(b)
	return n.And(n, plus(k.prec-1, -1))
}

// P23.1: in the formats that Go has, the results are those of its own remainder: of any
// numbers, and of those whose exponents are equal or differ by little.
func TestAsGoDoes(t *testing.T) {
	t.Parallel()
	scattered(30000, func(a, b uint64) {
		asGo64(t, a, b)
		asGo64(t, a, (a>>52&0x7ff+b&15-8)&0x7ff<<52|b>>12)
		asGo64(t, a>>12, b>>(12+b&31))
		asGo32(t, uint32(a), uint32(b))
		asGo32(t, uint32(a), (uint32(a)>>23&0xff+uint32(b&15)-8)&0xff<<23|uint32(b)>>9)
		asGo32(t, uint32(a)>>9, uint32(b)>>(9+b&15))
	})
}

func asGo64(t *testing.T, a, b uint64) {
	t.Helper()
	rest := math.Remainder(math.Float64frombits(a), math.Float64frombits(b))
	if rest == rest { // no NaN
		check(t, api.B64, low(a), low(b), api.Result{Bits: low(math.Float64bits(rest))})
	}
}

// asGo32 asks for the remainder as a B64 has it: it's exact, and so is the way back.
func asGo32(t *testing.T, a, b uint32) {
	t.Helper()
	rest := math.Remainder(float64(math.Float32frombits(a)), float64(math.Float32frombits(b)))
	if rest == rest { // no NaN
		want := low(uint64(math.Float32bits(float32(rest))))
		check(t, api.B32, low(uint64(a)), low(uint64(b)), api.Result{Bits: want})
	}
}
