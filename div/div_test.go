package div

import (
	"math"
	"math/big"
	"testing"

	"hairsbreadth/api"
)

// check holds Div of any operands against want.
func check(t *testing.T, f api.Format, v api.Env, a, b api.Bits, want api.Result) {
	t.Helper()
	if got := Div(f, v, a, b); got != want {
		t.Fatalf("Div(%d, %v, %x, %x) = %x, want %x", f, v, a, b, got, want)
	}
}

// checkBig holds Div of numbers against big integers, in every mode and with both kinds
// of tininess.
func checkBig(t *testing.T, k kind, a, b api.Bits) {
	t.Helper()
	for _, v := range envs() {
		check(t, k.f, v, a, b, k.want(v, a, b))
	}
}

// checkSigned does so for all signs of the two.
func checkSigned(t *testing.T, k kind, a, b api.Bits) {
	t.Helper()
	for _, x := range []api.Bits{a, k.turned(a)} {
		for _, y := range []api.Bits{b, k.turned(b)} {
			checkBig(t, k, x, y)
		}
	}
}

// inParallel runs a test for each of the formats.
func inParallel(t *testing.T, run func(t *testing.T, k kind)) {
	t.Parallel()
	for _, k := range kinds() {
		t.Run("", func(t *testing.T) {
			t.Parallel()
			run(t, k)
		})
	}
}

// P21.1: written out, in B16: the quotients in the modes Near, Away, Up, Down and Zero,
// all with these flags, with both kinds of tininess.
func TestDivWritten(t *testing.T) {
	for _, x := range []struct {
		a, b  uint64
		want  [5]uint64
		flags api.Flags
	}{
		{0x4600, 0x4000, [5]uint64{0x4200, 0x4200, 0x4200, 0x4200, 0x4200}, 0},
		{0xc600, 0x4000, [5]uint64{0xc200, 0xc200, 0xc200, 0xc200, 0xc200}, 0},
		{0xc600, 0xc000, [5]uint64{0x4200, 0x4200, 0x4200, 0x4200, 0x4200}, 0},
		{0x3c00, 0x4200, [5]uint64{0x3555, 0x3555, 0x3556, 0x3555, 0x3555}, 16},
		{0xbc00, 0x4200, [5]uint64{0xb555, 0xb555, 0xb555, 0xb556, 0xb555}, 16},
		{0x3c00, 0xc200, [5]uint64{0xb555, 0xb555, 0xb555, 0xb556, 0xb555}, 16},
		{0xbc00, 0xc200, [5]uint64{0x3555, 0x3555, 0x3556, 0x3555, 0x3555}, 16},
		{0x4000, 0x4200, [5]uint64{0x3955, 0x3955, 0x3956, 0x3955, 0x3955}, 16},
		{0x3c00, 0x4900, [5]uint64{0x2e66, 0x2e66, 0x2e67, 0x2e66, 0x2e66}, 16}, // 0.1
		{0x4500, 0x4700, [5]uint64{0x39b7, 0x39b7, 0x39b7, 0x39b6, 0x39b6}, 16},
		{0x3bfe, 0x3bff, [5]uint64{0x3bff, 0x3bff, 0x3bff, 0x3bfe, 0x3bfe}, 16}, // just below a number
		{0x3bff, 0x3bfe, [5]uint64{0x3c01, 0x3c01, 0x3c01, 0x3c00, 0x3c00}, 16}, // just above the middle
		{0x3c00, 0x3c01, [5]uint64{0x3bfe, 0x3bfe, 0x3bff, 0x3bfe, 0x3bfe}, 16}, // just above a number
		{0x3c00, 0x3bff, [5]uint64{0x3c01, 0x3c01, 0x3c01, 0x3c00, 0x3c00}, 16},
		{0x4000, 0x3c01, [5]uint64{0x3ffe, 0x3ffe, 0x3fff, 0x3ffe, 0x3ffe}, 16},
		{0x7bff, 0x3c00, [5]uint64{0x7bff, 0x7bff, 0x7bff, 0x7bff, 0x7bff}, 0},
		{0x7bff, 0x3bff, [5]uint64{0x7c00, 0x7c00, 0x7c00, 0x7bff, 0x7bff}, 20}, // 2^16
		{0x7bfe, 0x3bff, [5]uint64{0x7bff, 0x7bff, 0x7bff, 0x7bfe, 0x7bfe}, 16}, // the greatest below that
		{0x7bff, 0xb800, [5]uint64{0xfc00, 0xfc00, 0xfbff, 0xfc00, 0xfbff}, 20},
		{0x7bff, 0x0001, [5]uint64{0x7c00, 0x7c00, 0x7c00, 0x7bff, 0x7bff}, 20},
		{0x3c00, 0x0400, [5]uint64{0x7400, 0x7400, 0x7400, 0x7400, 0x7400}, 0},
		{0x3c00, 0x0101, [5]uint64{0x7bf8, 0x7bf8, 0x7bf9, 0x7bf8, 0x7bf8}, 16},
		{0x3c00, 0x0100, [5]uint64{0x7c00, 0x7c00, 0x7c00, 0x7bff, 0x7bff}, 20},
		{0x0001, 0x7bff, [5]uint64{0, 0, 1, 0, 0}, 24},
		{0x8001, 0x7bff, [5]uint64{0x8000, 0x8000, 0x8000, 0x8001, 0x8000}, 24},
		{0x0001, 0x4000, [5]uint64{0, 1, 1, 0, 0}, 24}, // half of the least number
		{0x0001, 0x4001, [5]uint64{0, 0, 1, 0, 0}, 24},
		{0x0001, 0x3fff, [5]uint64{1, 1, 1, 0, 0}, 24},
		{0x8001, 0x4001, [5]uint64{0x8000, 0x8000, 0x8000, 0x8001, 0x8000}, 24},
		{0x0003, 0x4000, [5]uint64{2, 2, 2, 1, 1}, 24},
		{0x0005, 0x4000, [5]uint64{2, 3, 3, 2, 2}, 24},
		{0x0003, 0x4600, [5]uint64{0, 1, 1, 0, 0}, 24}, // 3 by 6
		{0x000f, 0x4600, [5]uint64{2, 3, 3, 2, 2}, 24},
		{0x0003, 0x4200, [5]uint64{1, 1, 1, 1, 1}, 0},
		{0x0400, 0x4000, [5]uint64{0x200, 0x200, 0x200, 0x200, 0x200}, 0},
		{0x07fe, 0x4000, [5]uint64{0x3ff, 0x3ff, 0x3ff, 0x3ff, 0x3ff}, 0},
		{0x07ff, 0x4000, [5]uint64{0x400, 0x400, 0x400, 0x3ff, 0x3ff}, 24}, // becomes the least normal number
		{0x87ff, 0x4000, [5]uint64{0x8400, 0x8400, 0x83ff, 0x8400, 0x83ff}, 24},
		{0x07ff, 0x4001, [5]uint64{0x3ff, 0x3ff, 0x3ff, 0x3fe, 0x3fe}, 24},
		{0x0400, 0x3c01, [5]uint64{0x3ff, 0x3ff, 0x400, 0x3ff, 0x3ff}, 24},
		{0x8400, 0x3c01, [5]uint64{0x83ff, 0x83ff, 0x83ff, 0x8400, 0x83ff}, 24},
		{0x0001, 0x0001, [5]uint64{0x3c00, 0x3c00, 0x3c00, 0x3c00, 0x3c00}, 0},
		{0x0001, 0x0003, [5]uint64{0x3555, 0x3555, 0x3556, 0x3555, 0x3555}, 16},
		{0x03ff, 0x0400, [5]uint64{0x3bfe, 0x3bfe, 0x3bfe, 0x3bfe, 0x3bfe}, 0},
		{0x0000, 0x0000, [5]uint64{0x7e00, 0x7e00, 0x7e00, 0x7e00, 0x7e00}, 1},
		{0xfc00, 0x7c00, [5]uint64{0x7e00, 0x7e00, 0x7e00, 0x7e00, 0x7e00}, 1},
		{0x3c00, 0x8000, [5]uint64{0xfc00, 0xfc00, 0xfc00, 0xfc00, 0xfc00}, 2},
		{0x7c00, 0x8000, [5]uint64{0xfc00, 0xfc00, 0xfc00, 0xfc00, 0xfc00}, 0},
		{0xfc00, 0xc200, [5]uint64{0x7c00, 0x7c00, 0x7c00, 0x7c00, 0x7c00}, 0},
		{0x3c00, 0xfc00, [5]uint64{0x8000, 0x8000, 0x8000, 0x8000, 0x8000}, 0},
		{0x8000, 0x7c00, [5]uint64{0x8000, 0x8000, 0x8000, 0x8000, 0x8000}, 0},
		{0x8000, 0xbc00, [5]uint64{0, 0, 0, 0, 0}, 0},
		{0x3c00, 0xfe05, [5]uint64{0xfe05, 0xfe05, 0xfe05, 0xfe05, 0xfe05}, 0},
		{0x7c01, 0x0000, [5]uint64{0x7e01, 0x7e01, 0x7e01, 0x7e01, 0x7e01}, 1},
		{0xfe05, 0x7c01, [5]uint64{0xfe05, 0xfe05, 0xfe05, 0xfe05, 0xfe05}, 1},
	} {
		for i, m := range modes() {
			want := api.Result{Bits: low(x.want[i]), Flags: x.flags}
			for _, after := range both() {
				check(t, api.B16, api.Env{Mode: m, After: after}, low(x.a), low(x.b), want)
			}
		}
	}
}

// P21.1: 1 by 3 and other quotients of the wider formats, written out.
func TestWrittenElsewhere(t *testing.T) {
	const third = 0x5555555555555555
	for _, x := range []struct {
		f          api.Format
		a, b, want api.Bits
		flags      api.Flags
	}{
		{api.B64, low(0x3ff << 52), low(0x4024 << 48), low(0x3fb999999999999a), 16},
		{api.B64, low(0x3ff << 52), low(0x4008 << 48), low(0x3fd5555555555555), 16},
		{api.B64, low(1), low(1), low(0x3ff << 52), 0},
		{api.B64, low(1), low(0x4 << 60), low(0), 24},
		{api.B64, low(0x7fe << 52), low(0x3fe << 52), low(0x7ff << 52), 20},
		{api.B32, low(0x3f800000), low(0x40400000), low(0x3eaaaaab), 16},
		{api.B32, low(0x00800000), low(0x40000000), low(0x00400000), 0},
		{api.B32, low(0x3f800000), low(0x80000000), low(0xff800000), 2},
		{api.B128, api.Bits{Hi: 0x3fff << 48}, api.Bits{Hi: 0x40008 << 44}, api.Bits{Hi: 0x3ffd555555555555, Lo: third}, 16},
		{api.B128, api.Bits{Hi: 0x3fff << 48, Lo: 1}, api.Bits{Hi: 0x3fff << 48}, api.Bits{Hi: 0x3fff << 48, Lo: 1}, 0},
		{api.B128, api.Bits{Hi: 1 << 48}, api.Bits{Hi: 0x4000 << 48}, api.Bits{Hi: 1 << 47}, 0},
	} {
		check(t, x.f, api.Env{}, x.a, x.b, api.Result{Bits: x.want, Flags: x.flags})
	}
}

// P21.1: quotients that are exact, near to a power of 2, and others, of every exponent
// below the least normal number and at the ends: held against big integers, with all
// signs.
func TestPairs(t *testing.T) {
	inParallel(t, func(t *testing.T, k kind) {
		for j, p := range k.others() {
			for _, e := range k.ends() {
				for i, at := range k.apart(e) {
					a, b := k.normal(at[0], p[0]), k.normal(at[1], p[1])
					checkBig(t, k, k.signed((e+i)%2 == 0, a), k.signed((e+j)%3 == 0, b))
				}
			}
			checkSigned(t, k, k.normal(0, p[0]), k.normal(1, p[1]))
		}
	})
}

// P21.1: those that are near to a number and to the middle of two.
func TestNear(t *testing.T) {
	inParallel(t, func(t *testing.T, k kind) {
		for j, p := range k.near() {
			for _, e := range k.ends() {
				at := k.apart(e)[(e+j)&1]
				a, b := k.normal(at[0], p[0]), k.normal(at[1], p[1])
				checkBig(t, k, k.signed(e%2 == 0, a), k.signed(e%3 == 0, b))
			}
		}
	})
}

// P21.1: as near as quotients of normal numbers can be to the middle of two numbers and
// to a number, at both sides: what is left over is 1, in units of the last places, and
// nothing else tells. The modes decide as they do for what is beside that.
func TestNearest(t *testing.T) {
	for _, k := range kinds() {
		for _, length := range []int{k.prec, k.prec + 1} {
			for _, rest := range []int64{-1, 1} {
				l := k.besides(length, k.prec, rest)
				if len(l) != 2 {
					t.Fatalf("%d: %d pairs with factors of %d bits", k.f, len(l), length)
				}
				for _, x := range l {
					checkNearest(t, k, x, length, rest > 0)
				}
			}
		}
	}
}

// checkNearest holds the quotient of such a pair, which is just above or below a number
// of length bits, against the neighbors of that, written out.
func checkNearest(t *testing.T, k kind, x nearby, length int, above bool) {
	t.Helper()
	p, q := x.pair[0], x.pair[1]
	a, b := k.normal(p.BitLen()-1, p), k.normal(q.BitLen()-1, q)
	n := new(big.Int).Lsh(p, uint(x.places))
	n.Quo(n.Add(n, big.NewInt(1)), q)
	if n.BitLen() != length || n.Bit(0) == 0 {
		t.Fatalf("%d: the factor is %x, not of %d bits", k.f, n, length)
	}
	exp := length - 1 - x.places
	lower := k.normal(exp, new(big.Int).Rsh(n, uint(length-k.prec)))
	nearest := lower
	switch {
	case length == k.prec && !above:
		lower = step(lower, -1)
	case length > k.prec && above:
		nearest = next(lower)
	}
	for _, v := range envs() {
		want := api.Result{Bits: nearest, Flags: api.Inexact}
		switch v.Mode {
		case api.Up:
			want.Bits = next(lower)
		case api.Down, api.Zero:
			want.Bits = lower
		}
		check(t, k.f, v, a, b, want)
	}
}

// P21.1: as near to the middle of two subnormal numbers of each length, and to one, as
// quotients with divisors of so many bits can be.
func TestNearSubnormal(t *testing.T) {
	inParallel(t, func(t *testing.T, k kind) {
		for length := 1; length <= k.prec; length += 1 + k.prec/40 {
			for _, divisor := range []int{k.prec, k.prec/2 + 1} {
				for _, rest := range []int64{-1, 1} {
					for _, x := range k.besides(length, divisor, rest) {
						for _, half := range []int{0, 1} {
							for i, p := range k.placed(x.pair, k.lowest()+x.places-half) {
								checkBig(t, k, k.signed(i == half, p[0]), k.signed(length%2 == 0, p[1]))
							}
						}
					}
				}
			}
		}
	})
}

// P21.1: all fractions, with equal and with different exponents, and all signs.
func TestFractions(t *testing.T) {
	inParallel(t, func(t *testing.T, k kind) {
		fields := []int{0, 1, 2, k.emax / 2, k.emax, k.emax + 1, 2 * k.emax}
		for _, p := range k.fractions() {
			for _, q := range k.fractions() {
				for _, i := range fields {
					checkSigned(t, k, k.made(i, p), k.made(i, q))
				}
				for _, i := range [][2]int{{0, 2 * k.emax}, {1, 0}, {1, k.emax}, {k.emax, 0}, {k.emax, k.emax + 1}, {2 * k.emax, 1}, {2 * k.emax, k.emax - 1}} {
					checkSigned(t, k, k.made(i[0], p), k.made(i[1], q))
				}
			}
		}
	})
}

// P21.1: operands of all classes at the edges of the format, each with each, held
// against big integers and the chapter's cases.
func TestEdges(t *testing.T) {
	inParallel(t, func(t *testing.T, k kind) {
		for _, a := range k.edges() {
			for _, b := range k.edges() {
				checkBig(t, k, a, b)
			}
		}
	})
}

// P21.1: subnormal numbers of every length in each place, with numbers whose quotients
// are subnormal, normal, or beyond the format.
func TestSubnormal(t *testing.T) {
	inParallel(t, func(t *testing.T, k kind) {
		for i := 1; i < k.prec; i += 1 + k.prec/30 {
			for _, a := range []api.Bits{bitsOf(power(i - 1)), bitsOf(plus(i, -1)), bitsOf(mixed(i))} {
				for _, q := range k.fractions() {
					for _, field := range []int{0, 1, k.emax - i, k.emax, k.emax + i, 2 * k.emax} {
						b := k.made(min(max(field, 0), 2*k.emax), q)
						checkBig(t, k, k.signed(i%2 == 0, a), b)
						checkBig(t, k, b, k.signed(i%3 == 0, a))
					}
				}
			}
		}
	})
}

// P21.1: exact quotients that lose bits, few and all of them, below the least normal
// number, in the middle of two numbers, next to that and at both sides, or none.
func TestLost(t *testing.T) {
	inParallel(t, func(t *testing.T, k kind) {
		for lost := 0; lost <= k.prec+1; lost++ {
			if 3 < lost && lost < k.prec-1 && lost%(1+k.prec/20) != 0 {
				continue
			}
			for _, rest := range []*big.Int{new(big.Int), big.NewInt(1), plus(lost, -1), power(max(lost-1, 0)), plus(max(lost-1, 0), 1), plus(max(lost-1, 0), -1)} {
				for q := range int64(4) {
					n := new(big.Int).Lsh(big.NewInt(q), uint(lost))
					n.Or(n, rest)
					checkLost(t, k, n, lost)
					checkLost(t, k, n.SetBit(n, k.prec-1, 1), lost)
				}
			}
		}
	})
}

// checkLost holds quotients of the magnitude n * 2^-lost, in units of the least
// subnormal number, against big integers, if the format has n: by powers of 2, and by
// others where it has the dividend.
func checkLost(t *testing.T, k kind, n *big.Int, lost int) {
	t.Helper()
	for _, d := range []int64{1, 3, 5, 11} {
		divisor := big.NewInt(d)
		dividend := new(big.Int).Mul(n, divisor)
		if n.Sign() == 0 || dividend.BitLen() > k.prec || divisor.BitLen()-1+lost > k.emax {
			continue
		}
		for i, p := range k.placed(pair{dividend, divisor}, k.lowest()-lost) {
			checkBig(t, k, k.signed(i == 0, p[0]), p[1])
			checkBig(t, k, p[0], k.signed(i == 0, p[1]))
		}
	}
}

// P21.1: below half of the least number, half of it, and above that: the least number by
// those beside 2, by the greatest one, and others.
func TestHalfOfLeast(t *testing.T) {
	for _, k := range kinds() {
		two, far := k.two(1), k.two(k.prec)
		for _, v := range envs() {
			for _, neg := range both() {
				upwards := v.Mode == api.Up && !neg || v.Mode == api.Down && neg
				for _, x := range []struct {
					a, b api.Bits
					up   bool
				}{
					{low(1), next(two), upwards},
					{low(1), two, upwards || v.Mode == api.Away},
					{low(1), step(two, -1), upwards || v.Mode == api.Away || v.Mode == api.Near},
					{low(1), next(k.one()), upwards || v.Mode == api.Away || v.Mode == api.Near},
					{low(1), k.greatest(), upwards},
					{low(3), k.normal(2, big.NewInt(3)), upwards || v.Mode == api.Away},
					{low(3), next(k.normal(2, big.NewInt(3))), upwards},
					{k.two(k.least()), far, upwards || v.Mode == api.Away},
					{k.two(k.least()), next(far), upwards},
					{next(k.two(k.least())), far, upwards || v.Mode == api.Away || v.Mode == api.Near},
				} {
					want := api.Result{Flags: api.Inexact | api.Underflow}
					if x.up {
						want.Bits = low(1)
					}
					want.Bits = k.signed(neg, want.Bits)
					check(t, k.f, v, k.signed(neg, x.a), x.b, want)
					check(t, k.f, v, k.signed(!neg, x.a), k.turned(x.b), want)
				}
			}
		}
	}
}

// P21.1: quotients that become the least normal number by rounding: that in the middle
// of it and the greatest subnormal one, and below the middle in the mode Up alone. They
// are tiny before and after rounding: no quotient is nearer to a power of 2 from below,
// so that with unbounded exponent none is rounded to it.
func TestBecomesLeastNormal(t *testing.T) {
	for _, k := range kinds() {
		normal, one := k.two(k.least()), k.one()
		for _, x := range []struct {
			a, b   api.Bits
			middle bool
		}{
			{step(k.two(k.least()+1), -1), k.two(1), true},
			{step(k.two(0), -1), k.two(k.emax - 1), true},
			{step(k.two(k.least()+1), -2), step(k.two(1), -1), false},
			{step(one, -2), step(k.two(k.emax-1), -1), false},
			{normal, next(one), false},
			{k.two(0), next(k.two(k.emax - 1)), false},
		} {
			for _, v := range envs() {
				want := api.Result{Bits: step(normal, -1), Flags: api.Inexact | api.Underflow}
				if v.Mode == api.Up || x.middle && (v.Mode == api.Near || v.Mode == api.Away) {
					want.Bits = normal
				}
				check(t, k.f, v, x.a, x.b, want)
				check(t, k.f, v, k.turned(x.a), k.turned(x.b), want)
				checkBig(t, k, k.turned(x.a), x.b)
				checkBig(t, k, x.a, k.turned(x.b))
			}
		}
	}
}

// P21.1: quotients at the end of the format: the power of 2 beyond it, the one below
// that which is nearest to it, and those far beyond.
func TestOverflow(t *testing.T) {
	for _, k := range kinds() {
		greatest, one := k.greatest(), k.one()
		for _, v := range envs() {
			for _, neg := range both() {
				sign := func(b api.Bits) api.Bits { return k.signed(neg, b) }
				over := k.over(v.Mode, neg)
				for _, b := range []api.Bits{step(one, -1), k.two(-1), step(one, -2), k.two(k.least()), step(k.two(k.least()), -1), low(1)} {
					check(t, k.f, v, sign(greatest), b, over)
					check(t, k.f, v, greatest, sign(b), over)
				}
				check(t, k.f, v, sign(k.two(k.emax)), k.two(-1), over)
				check(t, k.f, v, sign(one), low(1), over)
				check(t, k.f, v, sign(k.two(1)), k.two(-k.emax), over)
				check(t, k.f, v, sign(one), k.two(-k.emax), api.Result{Bits: sign(k.two(k.emax))})
				check(t, k.f, v, sign(greatest), one, api.Result{Bits: sign(greatest)})
				below := api.Result{Bits: sign(greatest), Flags: api.Inexact}
				if v.Mode == api.Zero || v.Mode == api.Up && neg || v.Mode == api.Down && !neg {
					below.Bits = step(below.Bits, -1)
				}
				check(t, k.f, v, sign(step(greatest, -1)), step(one, -1), below)
			}
		}
	}
}

// P21.1: all numbers of B16 in each place with some others, held against big integers.
func TestAllOfB16(t *testing.T) {
	t.Parallel()
	k, l := kinds()[0], envs()
	for _, b := range []uint64{0x83ff, 0x0c01, 0x3aab, 0x4200, 0xfbff} {
		for a := range uint64(1 << 16) {
			v := l[(a^b)%10]
			check(t, k.f, v, low(a), low(b), k.want(v, low(a), low(b)))
			check(t, k.f, v, low(b), low(a), k.want(v, low(b), low(a)))
		}
	}
}

// scattered visits pairs of numbers without a pattern.
func scattered(n int, visit func(a, b uint64)) {
	state := uint64(1)
	draw := func() uint64 {
		state = state*6364136223846793005 + 1442695040888963407
		return state>>32 | (state*0x9e3779b97f4a7c15)>>32<<32
	}
	for range n {
		visit(draw(), draw())
	}
}

// P21.1: any operands, held against big integers.
func TestScattered(t *testing.T) {
	inParallel(t, func(t *testing.T, k kind) {
		scattered(5000, func(a, b uint64) {
			v := envs()[a>>7%10]
			x, y := api.Bits{Hi: a, Lo: b * 3}, api.Bits{Hi: b, Lo: a * 5}
			check(t, k.f, v, x, y, k.want(v, x, y))
		})
	})
}

// P21.1: in the formats that Go has, in the mode Near, the results are those of its own
// quotients: of any numbers, and of those whose quotient is near the ends.
func TestAsGoDoes(t *testing.T) {
	t.Parallel()
	scattered(50000, func(a, b uint64) {
		asGo64(t, a, b)
		asGo64(t, a, (a>>52&0x7ff+0x3ff+b&63-32)&0x7ff<<52|b>>12)
		asGo32(t, uint32(a), uint32(b))
		asGo32(t, uint32(a), (uint32(a)>>23&0xff+0x7f+uint32(b&31)-16)&0xff<<23|uint32(b)>>9)
	})
}

func asGo64(t *testing.T, a, b uint64) {
	t.Helper()
	x, y := math.Float64frombits(a), math.Float64frombits(b)
	if quotient := x / y; quotient == quotient { // no NaN
		asGo(t, low(a), low(b), Div(api.B64, api.Env{}, low(a), low(b)), math.Float64bits(quotient))
	}
}

func asGo32(t *testing.T, a, b uint32) {
	t.Helper()
	x, y := math.Float32frombits(a), math.Float32frombits(b)
	p, q := low(uint64(a)), low(uint64(b))
	if quotient := x / y; quotient == quotient { // no NaN
		asGo(t, p, q, Div(api.B32, api.Env{}, p, q), uint64(math.Float32bits(quotient)))
	}
}

func asGo(t *testing.T, a, b api.Bits, got api.Result, want uint64) {
	t.Helper()
	if got.Bits != low(want) {
		t.Fatalf("%x / %x = %x, Go has %x", a, b, got, want)
	}
}
