package mul

import (
	"math"
	"math/big"
	"testing"

	"hairsbreadth/api"
)

// check holds Mul of any operands against want.
func check(t *testing.T, f api.Format, v api.Env, a, b api.Bits, want api.Result) {
	t.Helper()
	if got := Mul(f, v, a, b); got != want {
		t.Fatalf("Mul(%d, %v, %x, %x) = %x, want %x", f, v, a, b, got, want)
	}
}

// checkOrders does so for both orders of the operands.
func checkOrders(t *testing.T, f api.Format, v api.Env, a, b api.Bits, want api.Result) {
	t.Helper()
	check(t, f, v, a, b, want)
	check(t, f, v, b, a, want)
}

// checkBig holds Mul of numbers against big integers, in both orders, in every mode and
// with both kinds of tininess.
func checkBig(t *testing.T, k kind, a, b api.Bits) {
	t.Helper()
	for _, v := range envs() {
		checkOrders(t, k.f, v, a, b, k.want(v, a, b))
	}
}

// checkSigned does so for all signs of the two.
func checkSigned(t *testing.T, k kind, a, b api.Bits) {
	t.Helper()
	for _, x := range []api.Bits{a, k.turned(a)} {
		for _, y := range []api.Bits{b, k.turned(b)} {
			checkBig(t, k, x, y)
		}
	}
}

// inParallel runs a test for each of the formats.
func inParallel(t *testing.T, run func(t *testing.T, k kind)) {
	t.Parallel()
	for _, k := range kinds() {
		t.Run("", func(t *testing.T) {
			t.Parallel()
			run(t, k)
		})
	}
}

// P19.1: written out, in B16: the products in the modes Near, Away, Up, Down and Zero,
// all with these flags, with both kinds of tininess.
func TestMulWritten(t *testing.T) {
	for _, x := range []struct {
		a, b  uint64
		want  [5]uint64
		flags api.Flags
	}{
		{0x4000, 0x4200, [5]uint64{0x4600, 0x4600, 0x4600, 0x4600, 0x4600}, 0},
		{0xc000, 0x4200, [5]uint64{0xc600, 0xc600, 0xc600, 0xc600, 0xc600}, 0},
		{0xc000, 0xc200, [5]uint64{0x4600, 0x4600, 0x4600, 0x4600, 0x4600}, 0},
		{0x3c01, 0x3c01, [5]uint64{0x3c02, 0x3c02, 0x3c03, 0x3c02, 0x3c02}, 16},
		{0x3c01, 0xbc01, [5]uint64{0xbc02, 0xbc02, 0xbc02, 0xbc03, 0xbc02}, 16},
		{0x3c01, 0x3e00, [5]uint64{0x3e02, 0x3e02, 0x3e02, 0x3e01, 0x3e01}, 16}, // in the middle
		{0x3c03, 0x3e00, [5]uint64{0x3e04, 0x3e05, 0x3e05, 0x3e04, 0x3e04}, 16},
		{0x3c03, 0xbe00, [5]uint64{0xbe04, 0xbe05, 0xbe04, 0xbe05, 0xbe04}, 16},
		{0x3fff, 0x3fff, [5]uint64{0x43fe, 0x43fe, 0x43ff, 0x43fe, 0x43fe}, 16},
		{0x3c01, 0x3bfe, [5]uint64{0x3c00, 0x3c00, 0x3c00, 0x3bff, 0x3bff}, 16}, // carried
		{0x53e0, 0x5410, [5]uint64{0x6c00, 0x6c00, 0x6c00, 0x6bff, 0x6bff}, 16}, // 63 times 65
		{0x7bff, 0x4000, [5]uint64{0x7c00, 0x7c00, 0x7c00, 0x7bff, 0x7bff}, 20},
		{0x7bff, 0xc000, [5]uint64{0xfc00, 0xfc00, 0xfbff, 0xfc00, 0xfbff}, 20},
		{0x7bff, 0x7bff, [5]uint64{0x7c00, 0x7c00, 0x7c00, 0x7bff, 0x7bff}, 20},
		{0x7800, 0x4000, [5]uint64{0x7c00, 0x7c00, 0x7c00, 0x7bff, 0x7bff}, 20},
		{0x7800, 0x3fff, [5]uint64{0x7bff, 0x7bff, 0x7bff, 0x7bff, 0x7bff}, 0},
		{0x0001, 0x3800, [5]uint64{0, 1, 1, 0, 0}, 24}, // half of the least number
		{0x0001, 0x3801, [5]uint64{1, 1, 1, 0, 0}, 24},
		{0x0001, 0x37ff, [5]uint64{0, 0, 1, 0, 0}, 24},
		{0x8001, 0x37ff, [5]uint64{0x8000, 0x8000, 0x8000, 0x8001, 0x8000}, 24},
		{0x0003, 0x3800, [5]uint64{2, 2, 2, 1, 1}, 24},
		{0x0005, 0x3800, [5]uint64{2, 3, 3, 2, 2}, 24},
		{0x0001, 0x0001, [5]uint64{0, 0, 1, 0, 0}, 24},
		{0x8001, 0x0001, [5]uint64{0x8000, 0x8000, 0x8000, 0x8001, 0x8000}, 24},
		{0x0400, 0x0400, [5]uint64{0, 0, 1, 0, 0}, 24},
		{0x0002, 0x3800, [5]uint64{1, 1, 1, 1, 1}, 0},
		{0x0400, 0x3800, [5]uint64{0x200, 0x200, 0x200, 0x200, 0x200}, 0},
		{0x03ff, 0x4000, [5]uint64{0x7fe, 0x7fe, 0x7fe, 0x7fe, 0x7fe}, 0},
		{0x0001, 0x7bff, [5]uint64{0x1bff, 0x1bff, 0x1bff, 0x1bff, 0x1bff}, 0},
		{0x0000, 0x0000, [5]uint64{0, 0, 0, 0, 0}, 0},
		{0x8000, 0x3c00, [5]uint64{0x8000, 0x8000, 0x8000, 0x8000, 0x8000}, 0},
		{0x8000, 0xfbff, [5]uint64{0, 0, 0, 0, 0}, 0},
		{0x0000, 0xbc00, [5]uint64{0x8000, 0x8000, 0x8000, 0x8000, 0x8000}, 0},
		{0x7c00, 0xfbff, [5]uint64{0xfc00, 0xfc00, 0xfc00, 0xfc00, 0xfc00}, 0},
		{0xfc00, 0x8001, [5]uint64{0x7c00, 0x7c00, 0x7c00, 0x7c00, 0x7c00}, 0},
		{0x7c00, 0xfc00, [5]uint64{0xfc00, 0xfc00, 0xfc00, 0xfc00, 0xfc00}, 0},
		{0x0000, 0x7c00, [5]uint64{0x7e00, 0x7e00, 0x7e00, 0x7e00, 0x7e00}, 1},
		{0x8000, 0x7c00, [5]uint64{0x7e00, 0x7e00, 0x7e00, 0x7e00, 0x7e00}, 1},
		{0x3c00, 0xfe05, [5]uint64{0xfe05, 0xfe05, 0xfe05, 0xfe05, 0xfe05}, 0},
		{0x7c00, 0xfe05, [5]uint64{0xfe05, 0xfe05, 0xfe05, 0xfe05, 0xfe05}, 0},
		{0x0000, 0xfc05, [5]uint64{0xfe05, 0xfe05, 0xfe05, 0xfe05, 0xfe05}, 1},
	} {
		for i, m := range modes() {
			want := api.Result{Bits: low(x.want[i]), Flags: x.flags}
			for _, after := range both() {
				checkOrders(t, api.B16, api.Env{Mode: m, After: after}, low(x.a), low(x.b), want)
			}
		}
	}
}

// P19.1: written out, in B16: products just below the least normal number, which the
// modes round to it or not, and whether they are tiny after rounding, in the modes
// Near, Away, Up, Down and Zero. All are tiny before rounding.
func TestLeastNormalWritten(t *testing.T) {
	yes, no := true, false
	for _, x := range []struct {
		a, b  uint64
		want  [5]uint64
		after [5]bool
	}{
		// 1 - 2^-20, 1 - 2^-11, which is a number with unbounded exponent, 1 - 2^-12.
		{0x0401, 0x3bfe, [5]uint64{0x400, 0x400, 0x400, 0x3ff, 0x3ff}, [5]bool{no, no, no, yes, yes}},
		{0x0400, 0x3bff, [5]uint64{0x400, 0x400, 0x400, 0x3ff, 0x3ff}, [5]bool{yes, yes, yes, yes, yes}},
		{0x17e0, 0x2810, [5]uint64{0x400, 0x400, 0x400, 0x3ff, 0x3ff}, [5]bool{no, no, no, yes, yes}},
		{0x97e0, 0x2810, [5]uint64{0x8400, 0x8400, 0x83ff, 0x8400, 0x83ff}, [5]bool{no, no, yes, no, yes}},
		// Between the two, where the numbers with unbounded exponent are still nearer.
		{0x05b1, 0x399f, [5]uint64{0x400, 0x400, 0x400, 0x3ff, 0x3ff}, [5]bool{yes, yes, no, yes, yes}},
		{0x85b1, 0x399f, [5]uint64{0x8400, 0x8400, 0x83ff, 0x8400, 0x83ff}, [5]bool{yes, yes, yes, no, yes}},
		// Just below 1 - 2^-11, and a number in the middle of two that are less.
		{0x0402, 0x3bfb, [5]uint64{0x3ff, 0x3ff, 0x400, 0x3ff, 0x3ff}, [5]bool{yes, yes, yes, yes, yes}},
		{0x0800, 0x37fd, [5]uint64{0x3fe, 0x3ff, 0x3ff, 0x3fe, 0x3fe}, [5]bool{yes, yes, yes, yes, yes}},
	} {
		for i, m := range modes() {
			want := api.Result{Bits: low(x.want[i]), Flags: api.Inexact | api.Underflow}
			checkOrders(t, api.B16, api.Env{Mode: m}, low(x.a), low(x.b), want)
			if !x.after[i] {
				want.Flags = api.Inexact
			}
			checkOrders(t, api.B16, api.Env{Mode: m, After: true}, low(x.a), low(x.b), want)
		}
	}
}

// P19.1: 0.1 times 3 of B64, and numbers of the other formats.
func TestWrittenElsewhere(t *testing.T) {
	const third = 0x5555555555555555
	for _, x := range []struct {
		f          api.Format
		a, b, want api.Bits
		flags      api.Flags
	}{
		{api.B64, low(0x3fb999999999999a), low(0x4008 << 48), low(0x3fd3333333333334), 16},
		{api.B64, low(0x7fe << 52), low(0x4000 << 48), low(0x7ff << 52), 20},
		{api.B64, low(1), low(1), low(0), 24},
		{api.B32, low(0x40400000), low(0xbeaaaaab), low(0xbf800000), 16},
		{api.B32, low(0x7f7fffff), low(0x3f800000), low(0x7f7fffff), 0},
		{api.B32, low(0x00800000), low(0x3f000000), low(0x00400000), 0},
		{api.B128, api.Bits{Hi: 0x3ffd555555555555, Lo: third}, api.Bits{Hi: 0x40008 << 44}, api.Bits{Hi: 0x3fff << 48}, 16},
		{api.B128, api.Bits{Hi: 0x3fff << 48, Lo: 1}, api.Bits{Hi: 0x3fff << 48, Lo: 3}, api.Bits{Hi: 0x3fff << 48, Lo: 4}, 16},
		{api.B128, api.Bits{Hi: 1 << 48}, api.Bits{Hi: 0x3ffe << 48}, api.Bits{Hi: 1 << 47}, 0},
	} {
		checkOrders(t, x.f, api.Env{}, x.a, x.b, api.Result{Bits: x.want, Flags: x.flags})
	}
}

// P19.1: products that are exact, in the middle of two numbers and next to that, that
// are carried, and others, of every exponent below the least normal number and at the
// ends: held against big integers, with all signs.
func TestFactors(t *testing.T) {
	inParallel(t, func(t *testing.T, k kind) {
		for _, p := range k.factors() {
			for _, e := range k.ends() {
				for i, by := range k.split(e) {
					a, b := k.normal(by[0], p[0]), k.normal(by[1], p[1])
					if i == 0 {
						checkBig(t, k, k.signed(e%2 == 0, a), b)
					} else {
						checkBig(t, k, a, k.signed(e%2 == 0, b))
					}
				}
			}
		}
	})
}

// P19.1: all fractions, with equal and with different exponents, and all signs.
func TestFractions(t *testing.T) {
	inParallel(t, func(t *testing.T, k kind) {
		fields := []int{0, 1, 2, k.emax / 2, k.emax, k.emax + 1, 3 * k.emax / 2, 2*k.emax - 1, 2 * k.emax}
		for _, p := range k.fractions() {
			for _, q := range k.fractions() {
				for _, i := range fields {
					checkSigned(t, k, k.made(i, p), k.made(i, q))
				}
				checkSigned(t, k, k.made(0, p), k.made(2*k.emax, q))
				checkSigned(t, k, k.made(1, p), k.made(k.emax, q))
				checkSigned(t, k, k.made(k.emax, p), k.made(0, q))
				checkSigned(t, k, k.made(k.prec, p), k.made(k.emax-k.prec, q))
			}
		}
	})
}

// P19.1: operands of all classes at the edges of the format, each with each, held
// against big integers and the chapter's cases.
func TestEdges(t *testing.T) {
	inParallel(t, func(t *testing.T, k kind) {
		for _, a := range k.edges() {
			for _, b := range k.edges() {
				v := envs()[(a.Lo^b.Lo)%10]
				check(t, k.f, v, a, b, k.want(v, a, b))
			}
		}
		for _, a := range k.numbers() {
			for _, b := range k.numbers() {
				checkBig(t, k, a, k.turned(b))
			}
		}
	})
}

// P19.1: subnormal numbers of every length, with numbers that leave them subnormal, or
// make normal ones of them.
func TestSubnormal(t *testing.T) {
	inParallel(t, func(t *testing.T, k kind) {
		for i := 1; i < k.prec; i += 1 + k.prec/30 {
			for _, a := range []api.Bits{bitsOf(power(i - 1)), bitsOf(plus(i, -1)), bitsOf(new(big.Int).Quo(power(i+1), big.NewInt(3)))} {
				for _, q := range k.fractions() {
					for _, field := range []int{0, k.emax - k.prec, k.emax - 1, k.emax, k.emax + i, 2*k.emax - 1, 2 * k.emax} {
						checkBig(t, k, a, k.signed(i%2 == 0, k.made(max(field, 0), q)))
					}
				}
			}
		}
	})
}

// P19.1: products that lose bits, few and all of them, below the least normal number, in the
// middle of two numbers, next to that and at both sides.
func TestLost(t *testing.T) {
	inParallel(t, func(t *testing.T, k kind) {
		for lost := 1; lost <= k.prec+3; lost++ {
			if 3 < lost && lost < k.prec-1 && lost%(1+k.prec/20) != 0 {
				continue
			}
			for _, rest := range []*big.Int{new(big.Int), big.NewInt(1), plus(lost-1, -1), power(lost - 1), plus(lost-1, 1), plus(lost, -1)} {
				for q := range int64(3) {
					n := new(big.Int).Lsh(big.NewInt(q), uint(lost))
					n.Or(n, rest)
					checkLost(t, k, n, lost)
					checkLost(t, k, n.SetBit(n, k.prec-1, 1), lost)
				}
			}
		}
	})
}

// checkLost holds products of the magnitude n * 2^-lost, in units of the least
// subnormal number, against big integers, if the format has n.
func checkLost(t *testing.T, k kind, n *big.Int, lost int) {
	t.Helper()
	if n.Sign() == 0 || n.BitLen() > k.prec {
		return
	}
	// Low enough that the other number is normal.
	exp := -(k.prec + 3)
	a, b := k.normal(exp, n), k.two(k.lowest()-lost+n.BitLen()-1-exp)
	checkBig(t, k, a, b)
	checkBig(t, k, k.turned(a), b)
}

// P19.1: below half of the least number, half of it, and above that: the least number
// times those beside 1/2, and products of the least exponents.
func TestHalfOfLeast(t *testing.T) {
	for _, k := range kinds() {
		half := k.two(-1)
		for _, v := range envs() {
			for _, neg := range both() {
				upwards := v.Mode == api.Up && !neg || v.Mode == api.Down && neg
				for _, x := range []struct {
					a, b api.Bits
					up   bool
				}{
					{low(1), step(half, -1), upwards},
					{low(1), half, upwards || v.Mode == api.Away},
					{low(1), next(half), upwards || v.Mode == api.Away || v.Mode == api.Near},
					{low(1), step(k.one(), -1), upwards || v.Mode == api.Away || v.Mode == api.Near},
					{low(1), low(1), upwards},
					{low(1), k.two(k.least()), upwards},
					{k.two(k.least()), k.two(k.least()), upwards},
					{k.two(k.least()), k.two(-k.prec), upwards || v.Mode == api.Away},
					{k.two(k.least()), step(k.two(-k.prec), -1), upwards},
				} {
					want := api.Result{Flags: api.Inexact | api.Underflow}
					if x.up {
						want.Bits = low(1)
					}
					want.Bits = k.signed(neg, want.Bits)
					checkOrders(t, k.f, v, k.signed(neg, x.a), x.b, want)
					checkOrders(t, k.f, v, k.signed(!neg, x.a), k.turned(x.b), want)
				}
			}
		}
	}
}

// P19.1: products that become the least normal number by rounding: they are tiny
// before rounding, and after it only if they are with unbounded exponent too.
func TestBecomesLeastNormal(t *testing.T) {
	for _, k := range kinds() {
		for _, x := range k.almost() {
			for _, v := range envs() {
				want := api.Result{Bits: k.two(k.least()), Flags: api.Inexact}
				switch tiny := x.tinyNearest; v.Mode {
				case api.Down, api.Zero:
					want = api.Result{Bits: step(want.Bits, -1), Flags: api.Inexact | api.Underflow}
				case api.Up:
					tiny = x.tinyUp
					fallthrough
				default:
					if tiny || !v.After {
						want.Flags |= api.Underflow
					}
				}
				checkOrders(t, k.f, v, x.a, x.b, want)
			}
		}
	}
}

// almost is a product that the modes but Down and Zero round to the least normal
// number, and whether it is tiny after rounding to the nearest, and upwards.
type almost struct {
	a, b                api.Bits
	tinyNearest, tinyUp bool
}

// almost are products 1 - 2^-(2p - 2), 1 - 2^-p, 1 - 2^-(p + 1), and one between the
// latter two, times the least normal number.
func (k kind) almost() []almost {
	normal, ones, between := k.two(k.least()), k.ones(), k.between()
	exp := k.least() / 2
	return []almost{
		{next(normal), step(k.one(), -2), false, false},
		{normal, step(k.one(), -1), true, true},
		{k.normal(exp, ones[0]), k.normal(k.least()-1-exp, ones[1]), false, false},
		{k.normal(exp, between[0]), k.normal(k.least()-1-exp, between[1]), true, false},
	}
}

// P19.1: products at the end of the format: the greatest number with 1 and its
// neighbors, and with the least number above all.
func TestOverflow(t *testing.T) {
	for _, k := range kinds() {
		greatest := k.greatest()
		for _, v := range envs() {
			for _, neg := range both() {
				sign := func(b api.Bits) api.Bits { return k.signed(neg, b) }
				over := k.over(v.Mode, neg)
				for _, b := range []api.Bits{k.two(1), k.made(k.emax, power(k.prec-2)), greatest} {
					checkOrders(t, k.f, v, sign(greatest), b, over)
				}
				checkOrders(t, k.f, v, sign(k.two(k.emax)), k.two(1), over)
				checkOrders(t, k.f, v, sign(k.two(k.emax/2+1)), k.two(k.emax-k.emax/2), over)
				checkOrders(t, k.f, v, sign(k.two(k.emax/2)), k.two(k.emax-k.emax/2), api.Result{Bits: sign(k.two(k.emax))})
				// In the middle of the greatest number and the next one, were there one.
				ones := k.ones()
				a, b := k.normal(k.emax/2, ones[0]), k.normal(k.emax-k.emax/2, ones[1])
				beyond := over.Bits != sign(greatest)
				if k.value(a).times(k.value(b)).exponent() != k.emax {
					t.Fatalf("%d: the middle is not at the end", k.f)
				}
				if !beyond {
					over.Flags = api.Inexact
				}
				checkOrders(t, k.f, v, sign(a), b, over)
			}
		}
	}
}

// P19.1: all numbers of B16 with some others, held against big integers.
func TestAllOfB16(t *testing.T) {
	t.Parallel()
	k, l := kinds()[0], envs()
	for _, b := range []uint64{0x83ff, 0x0c01, 0x3aab} {
		for a := range uint64(1 << 16) {
			v := l[(a^b)%10]
			check(t, k.f, v, low(a), low(b), k.want(v, low(a), low(b)))
		}
	}
}

// scattered visits pairs of numbers without a pattern.
func scattered(n int, visit func(a, b uint64)) {
	state := uint64(1)
	draw := func() uint64 {
		state = state*6364136223846793005 + 1442695040888963407
		return state>>32 | (state*0x9e3779b97f4a7c15)>>32<<32
	}
	for range n {
		visit(draw(), draw())
	}
}

// P19.1: any operands, held against big integers.
func TestScattered(t *testing.T) {
	inParallel(t, func(t *testing.T, k kind) {
		scattered(5000, func(a, b uint64) {
			v := envs()[a>>7%10]
			x, y := api.Bits{Hi: a, Lo: b * 3}, api.Bits{Hi: b, Lo: a * 5}
			check(t, k.f, v, x, y, k.want(v, x, y))
		})
	})
}

// P19.1: in the formats that Go has, in the mode Near, the results are those of its own
// products: of any numbers, and of those whose product is near the ends.
func TestAsGoDoes(t *testing.T) {
	t.Parallel()
	scattered(50000, func(a, b uint64) {
		asGo64(t, a, b)
		asGo64(t, a, (0x3ff0-b&63-a>>52&0x7ff)<<52|b>>12)
		asGo32(t, uint32(a), uint32(b))
		asGo32(t, uint32(a), (0x7e-uint32(b&31)-uint32(a)>>23)<<23|uint32(b)>>9)
	})
}

func asGo64(t *testing.T, a, b uint64) {
	t.Helper()
	x, y := math.Float64frombits(a), math.Float64frombits(b)
	if product := x * y; product == product { // no NaN
		asGo(t, low(a), low(b), Mul(api.B64, api.Env{}, low(a), low(b)), math.Float64bits(product))
	}
}

func asGo32(t *testing.T, a, b uint32) {
	t.Helper()
	x, y := math.Float32frombits(a), math.Float32frombits(b)
	p, q := low(uint64(a)), low(uint64(b))
	if product := x * y; product == product { // no NaN
		asGo(t, p, q, Mul(api.B32, api.Env{}, p, q), uint64(math.Float32bits(product)))
	}
}

func asGo(t *testing.T, a, b api.Bits, got api.Result, want uint64) {
	t.Helper()
	if got.Bits != low(want) {
		t.Fatalf("%x * %x = %x, Go has %x", a, b, got, want)
	}
}

// P19.1: one NaN: it is returned, quieted, whatever the other operand is, a zero and an
// infinity too; its sign and its payload are kept, and only a signaling one sets Invalid.
func TestOneNaN(t *testing.T) {
	for _, k := range kinds() {
		others := k.withSigns(append(k.numbers(), k.infinity()))
		for _, n := range k.nans() {
			want := api.Result{Bits: k.quieted(n)}
			if k.isSignaling(n) {
				want.Flags = api.Invalid
			}
			for _, v := range envs() {
				for _, b := range others {
					checkOrders(t, k.f, v, n, b, want)
				}
			}
		}
	}
}

// P19.1: two NaNs: the first one is returned, and either may set Invalid.
func TestTwoNaNs(t *testing.T) {
	for _, k := range kinds() {
		for _, a := range k.nans() {
			for _, b := range k.nans() {
				want := api.Result{Bits: k.quieted(a)}
				if k.isSignaling(a) || k.isSignaling(b) {
					want.Flags = api.Invalid
				}
				for _, v := range envs() {
					check(t, k.f, v, a, b, want)
				}
			}
		}
	}
}

// P19.1: a zero and an infinity: the default NaN, of the sign 0 for all signs.
func TestZeroAndInfinity(t *testing.T) {
	for _, k := range kinds() {
		invalid := api.Result{Bits: k.standard(), Flags: api.Invalid}
		for _, zero := range k.withSigns([]api.Bits{{}}) {
			for _, inf := range k.withSigns([]api.Bits{k.infinity()}) {
				for _, v := range envs() {
					checkOrders(t, k.f, v, zero, inf, invalid)
				}
			}
		}
	}
}

// P19.1: infinities with each other and with numbers: the signs decide that of the
// result, and there are no flags.
func TestInfinities(t *testing.T) {
	for _, k := range kinds() {
		inf := k.infinity()
		for _, v := range envs() {
			for _, b := range append(k.numbers()[1:], inf) {
				for _, neg := range both() {
					want := api.Result{Bits: k.signed(neg, inf)}
					checkOrders(t, k.f, v, inf, k.signed(neg, b), want)
					checkOrders(t, k.f, v, k.turned(inf), k.signed(!neg, b), want)
				}
			}
		}
	}
}

// P19.1: zeros with each other and with numbers: a zero, of which the signs of both
// decide the sign, in every mode, and no flags.
func TestZeros(t *testing.T) {
	for _, k := range kinds() {
		minus := k.turned(api.Bits{})
		for _, v := range envs() {
			for _, b := range k.numbers() {
				for _, neg := range both() {
					want := api.Result{Bits: k.signed(neg, api.Bits{})}
					checkOrders(t, k.f, v, api.Bits{}, k.signed(neg, b), want)
					checkOrders(t, k.f, v, minus, k.signed(!neg, b), want)
				}
			}
		}
	}
}

// P19.1: bits above the width are ignored in both operands, and 0 in the result.
func TestBitsAbove(t *testing.T) {
	inParallel(t, func(t *testing.T, k kind) {
		for _, a := range k.edges() {
			for _, b := range k.edges() {
				v := envs()[(a.Lo^b.Lo)%10]
				checkAbove(t, k, v, a, b)
			}
		}
	})
}

func checkAbove(t *testing.T, k kind, v api.Env, a, b api.Bits) {
	t.Helper()
	want := k.want(v, a, b)
	for _, x := range k.above(a) {
		check(t, k.f, v, x, b, want)
	}
	for _, y := range k.above(b) {
		check(t, k.f, v, a, y, want)
	}
	if l := k.above(a); len(l) > 1 {
		check(t, k.f, v, l[5], k.above(b)[5], want)
		check(t, k.f, v, l[1], k.above(b)[1], want)
	}
}

// operands are encodings of all classes in some of the formats, whatever they are in others.
func operands() []api.Bits {
	l := []api.Bits{{}, low(1), low(0x3c00), low(0x8000), low(0x7bff), low(0x7c00), low(0xfc00), low(0x7c01), low(0x7e00), low(0x7f800001)}
	return append(l, low(1<<63), low(all64), api.Bits{Hi: 1 << 63}, api.Bits{Hi: 0x7fff << 48}, api.Bits{Hi: 0x7fff << 48, Lo: 1}, api.Bits{Hi: all64, Lo: all64})
}

// P19.1: a format that doesn't exist: the zero value, in every mode.
func TestNoFormat(t *testing.T) {
	for f := 4; f <= 255; f++ {
		for _, a := range operands() {
			for _, b := range operands() {
				for _, m := range append(modes(), 5, 255) {
					check(t, api.Format(f), api.Env{Mode: m, After: f%2 == 0}, a, b, api.Result{})
				}
			}
		}
	}
}

// P19.1: a mode that doesn't exist: the zero value, for NaNs, invalid operations,
// infinities and exact products too.
func TestNoMode(t *testing.T) {
	for m := 5; m <= 255; m++ {
		for _, k := range kinds() {
			v := api.Env{Mode: api.Mode(m), After: m%2 == 0}
			for _, a := range []api.Bits{{}, low(1), k.one(), k.turned(k.one()), k.greatest(), k.infinity(), k.turned(k.infinity()), k.standard(), next(k.infinity())} {
				for _, b := range []api.Bits{{}, k.one(), k.greatest(), k.infinity(), k.standard(), next(k.infinity())} {
					check(t, k.f, v, a, b, api.Result{})
				}
			}
		}
	}
}
