package sqrt

import (
	"math"
	"math/big"
	"testing"

	"hairsbreadth/api"
)

// check holds Sqrt of any operand against want.
func check(t *testing.T, f api.Format, v api.Env, a api.Bits, want api.Result) {
	t.Helper()
	if got := Sqrt(f, v, a); got != want {
		t.Fatalf("Sqrt(%d, %v, %x) = %x, want %x", f, v, a, got, want)
	}
}

// checkBig holds Sqrt of an operand against big integers, in every mode and with both
// kinds of tininess.
func checkBig(t *testing.T, k kind, a api.Bits) {
	t.Helper()
	for _, v := range envs() {
		check(t, k.f, v, a, k.want(v, a))
	}
}

// inParallel runs a test for each of the formats.
func inParallel(t *testing.T, run func(t *testing.T, k kind)) {
	t.Parallel()
	for _, k := range kinds() {
		t.Run("", func(t *testing.T) {
			t.Parallel()
			run(t, k)
		})
	}
}

// P22.1: written out, in B16: the roots in the modes Near, Away, Up, Down and Zero, all
// with these flags, with both kinds of tininess.
func TestSqrtWritten(t *testing.T) {
	for _, x := range []struct {
		a     uint64
		want  [5]uint64
		flags api.Flags
	}{
		{0x4400, [5]uint64{0x4000, 0x4000, 0x4000, 0x4000, 0x4000}, 0},
		{0x4000, [5]uint64{0x3da8, 0x3da8, 0x3da9, 0x3da8, 0x3da8}, 16},
		{0x4200, [5]uint64{0x3eee, 0x3eee, 0x3eee, 0x3eed, 0x3eed}, 16},
		{0x4500, [5]uint64{0x4079, 0x4079, 0x4079, 0x4078, 0x4078}, 16},
		{0x4880, [5]uint64{0x4200, 0x4200, 0x4200, 0x4200, 0x4200}, 0},
		{0x3c00, [5]uint64{0x3c00, 0x3c00, 0x3c00, 0x3c00, 0x3c00}, 0},
		{0x3c01, [5]uint64{0x3c00, 0x3c00, 0x3c01, 0x3c00, 0x3c00}, 16},
		{0x3c02, [5]uint64{0x3c01, 0x3c01, 0x3c01, 0x3c00, 0x3c00}, 16},
		{0x3c03, [5]uint64{0x3c01, 0x3c01, 0x3c02, 0x3c01, 0x3c01}, 16},
		{0x3bff, [5]uint64{0x3bff, 0x3bff, 0x3c00, 0x3bff, 0x3bff}, 16},
		{0x3bfe, [5]uint64{0x3bff, 0x3bff, 0x3bff, 0x3bfe, 0x3bfe}, 16},
		{0x3bfd, [5]uint64{0x3bfe, 0x3bfe, 0x3bff, 0x3bfe, 0x3bfe}, 16},
		{0x43ff, [5]uint64{0x3fff, 0x3fff, 0x4000, 0x3fff, 0x3fff}, 16},
		{0x4401, [5]uint64{0x4000, 0x4000, 0x4001, 0x4000, 0x4000}, 16},
		{0x43fe, [5]uint64{0x3fff, 0x3fff, 0x3fff, 0x3ffe, 0x3ffe}, 16},
		{0x4402, [5]uint64{0x4001, 0x4001, 0x4001, 0x4000, 0x4000}, 16},
		{0x3fff, [5]uint64{0x3da8, 0x3da8, 0x3da8, 0x3da7, 0x3da7}, 16},
		{0x3ffe, [5]uint64{0x3da7, 0x3da7, 0x3da8, 0x3da7, 0x3da7}, 16},
		{0x4001, [5]uint64{0x3da9, 0x3da9, 0x3da9, 0x3da8, 0x3da8}, 16},
		{0x4080, [5]uint64{0x3e00, 0x3e00, 0x3e00, 0x3e00, 0x3e00}, 0},
		{0x2e66, [5]uint64{0x350f, 0x350f, 0x3510, 0x350f, 0x350f}, 16},
		{0x5640, [5]uint64{0x4900, 0x4900, 0x4900, 0x4900, 0x4900}, 0},
		{0x7bff, [5]uint64{0x5bff, 0x5bff, 0x5c00, 0x5bff, 0x5bff}, 16},
		{0x7bfe, [5]uint64{0x5bff, 0x5bff, 0x5bff, 0x5bfe, 0x5bfe}, 16},
		{0x7800, [5]uint64{0x59a8, 0x59a8, 0x59a9, 0x59a8, 0x59a8}, 16},
		{0x7801, [5]uint64{0x59a9, 0x59a9, 0x59a9, 0x59a8, 0x59a8}, 16},
		{0x77ff, [5]uint64{0x59a8, 0x59a8, 0x59a8, 0x59a7, 0x59a7}, 16},
		{0x7a00, [5]uint64{0x5aee, 0x5aee, 0x5aee, 0x5aed, 0x5aed}, 16},
		{0x0001, [5]uint64{0x0c00, 0x0c00, 0x0c00, 0x0c00, 0x0c00}, 0},
		{0x0002, [5]uint64{0x0da8, 0x0da8, 0x0da9, 0x0da8, 0x0da8}, 16},
		{0x0003, [5]uint64{0x0eee, 0x0eee, 0x0eee, 0x0eed, 0x0eed}, 16},
		{0x0004, [5]uint64{0x1000, 0x1000, 0x1000, 0x1000, 0x1000}, 0},
		{0x0005, [5]uint64{0x1079, 0x1079, 0x1079, 0x1078, 0x1078}, 16},
		{0x0009, [5]uint64{0x1200, 0x1200, 0x1200, 0x1200, 0x1200}, 0},
		{0x000f, [5]uint64{0x13bf, 0x13bf, 0x13bf, 0x13be, 0x13be}, 16},
		{0x0010, [5]uint64{0x1400, 0x1400, 0x1400, 0x1400, 0x1400}, 0},
		{0x0040, [5]uint64{0x1800, 0x1800, 0x1800, 0x1800, 0x1800}, 0},
		{0x00ff, [5]uint64{0x1bfc, 0x1bfc, 0x1bfc, 0x1bfb, 0x1bfb}, 16},
		{0x0100, [5]uint64{0x1c00, 0x1c00, 0x1c00, 0x1c00, 0x1c00}, 0},
		{0x01ff, [5]uint64{0x1da7, 0x1da7, 0x1da7, 0x1da6, 0x1da6}, 16},
		{0x0200, [5]uint64{0x1da8, 0x1da8, 0x1da9, 0x1da8, 0x1da8}, 16},
		{0x03ff, [5]uint64{0x1fff, 0x1fff, 0x1fff, 0x1ffe, 0x1ffe}, 16},
		{0x03fe, [5]uint64{0x1ffe, 0x1ffe, 0x1ffe, 0x1ffd, 0x1ffd}, 16},
		{0x0384, [5]uint64{0x1f80, 0x1f80, 0x1f80, 0x1f80, 0x1f80}, 0},
		{0x0400, [5]uint64{0x2000, 0x2000, 0x2000, 0x2000, 0x2000}, 0},
		{0x0401, [5]uint64{0x2000, 0x2000, 0x2001, 0x2000, 0x2000}, 16},
		{0x0402, [5]uint64{0x2001, 0x2001, 0x2001, 0x2000, 0x2000}, 16},
		{0x07ff, [5]uint64{0x21a8, 0x21a8, 0x21a8, 0x21a7, 0x21a7}, 16},
		{0x0800, [5]uint64{0x21a8, 0x21a8, 0x21a9, 0x21a8, 0x21a8}, 16},
		{0x0801, [5]uint64{0x21a9, 0x21a9, 0x21a9, 0x21a8, 0x21a8}, 16},
		{0x0802, [5]uint64{0x21aa, 0x21aa, 0x21aa, 0x21a9, 0x21a9}, 16},
		{0x0bff, [5]uint64{0x23ff, 0x23ff, 0x2400, 0x23ff, 0x23ff}, 16},
		{0x0000, [5]uint64{0, 0, 0, 0, 0}, 0},
		{0x8000, [5]uint64{0x8000, 0x8000, 0x8000, 0x8000, 0x8000}, 0},
		{0x7c00, [5]uint64{0x7c00, 0x7c00, 0x7c00, 0x7c00, 0x7c00}, 0},
		{0xfc00, [5]uint64{0x7e00, 0x7e00, 0x7e00, 0x7e00, 0x7e00}, 1},
		{0xbc00, [5]uint64{0x7e00, 0x7e00, 0x7e00, 0x7e00, 0x7e00}, 1},
		{0xc400, [5]uint64{0x7e00, 0x7e00, 0x7e00, 0x7e00, 0x7e00}, 1},
		{0x8001, [5]uint64{0x7e00, 0x7e00, 0x7e00, 0x7e00, 0x7e00}, 1},
		{0xfbff, [5]uint64{0x7e00, 0x7e00, 0x7e00, 0x7e00, 0x7e00}, 1},
		{0x7e05, [5]uint64{0x7e05, 0x7e05, 0x7e05, 0x7e05, 0x7e05}, 0},
		{0xfe05, [5]uint64{0xfe05, 0xfe05, 0xfe05, 0xfe05, 0xfe05}, 0},
		{0x7c01, [5]uint64{0x7e01, 0x7e01, 0x7e01, 0x7e01, 0x7e01}, 1},
		{0xfc01, [5]uint64{0xfe01, 0xfe01, 0xfe01, 0xfe01, 0xfe01}, 1},
	} {
		for i, m := range modes() {
			want := api.Result{Bits: low(x.want[i]), Flags: x.flags}
			for _, after := range both() {
				check(t, api.B16, api.Env{Mode: m, After: after}, low(x.a), want)
			}
		}
	}
}

// P22.1: the roots of 2, 3, 0.1 and others in the wider formats, written out, in the
// modes Near and Down.
func TestWrittenElsewhere(t *testing.T) {
	for _, x := range []struct {
		f             api.Format
		a, near, down api.Bits
		flags         api.Flags
	}{
		{api.B32, low(0x40000000), low(0x3fb504f3), low(0x3fb504f3), 16},
		{api.B32, low(0x40400000), low(0x3fddb3d7), low(0x3fddb3d7), 16},
		{api.B32, low(0x3dcccccd), low(0x3ea1e89b), low(0x3ea1e89b), 16},
		{api.B32, low(0x41100000), low(0x40400000), low(0x40400000), 0},
		{api.B32, low(0x7f7fffff), low(0x5f7fffff), low(0x5f7fffff), 16},
		{api.B32, low(0x00000001), low(0x1a3504f3), low(0x1a3504f3), 16},
		{api.B32, low(0x00000002), low(0x1a800000), low(0x1a800000), 0},
		{api.B32, low(0xbf800000), low(0x7fc00000), low(0x7fc00000), 1},
		{api.B64, low(0x4000 << 48), low(0x3ff6a09e667f3bcd), low(0x3ff6a09e667f3bcc), 16},
		{api.B64, low(0x4008 << 48), low(0x3ffbb67ae8584caa), low(0x3ffbb67ae8584caa), 16},
		{api.B64, low(0x3fb999999999999a), low(0x3fd43d136248490f), low(0x3fd43d136248490f), 16},
		{api.B64, low(0x4022 << 48), low(0x4008 << 48), low(0x4008 << 48), 0},
		{api.B64, low(0x7fefffffffffffff), low(0x5fefffffffffffff), low(0x5fefffffffffffff), 16},
		{api.B64, low(1), low(0x1e6 << 52), low(0x1e6 << 52), 0},
		{api.B64, low(2), low(0x1e66a09e667f3bcd), low(0x1e66a09e667f3bcc), 16},
		{api.B128, api.Bits{Hi: 0x4000 << 48}, api.Bits{Hi: 0x3fff6a09e667f3bc, Lo: 0xc908b2fb1366ea95}, api.Bits{Hi: 0x3fff6a09e667f3bc, Lo: 0xc908b2fb1366ea95}, 16},
		{api.B128, api.Bits{Hi: 0x40008 << 44}, api.Bits{Hi: 0x3fffbb67ae8584ca, Lo: 0xa73b25742d7078b8}, api.Bits{Hi: 0x3fffbb67ae8584ca, Lo: 0xa73b25742d7078b8}, 16},
		{api.B128, api.Bits{Hi: 0x3ffb999999999999, Lo: 0x999999999999999a}, api.Bits{Hi: 0x3ffd43d136248490, Lo: 0xedb36e896cf3d7b0}, api.Bits{Hi: 0x3ffd43d136248490, Lo: 0xedb36e896cf3d7b0}, 16},
		{api.B128, api.Bits{Hi: 0x40022 << 44}, api.Bits{Hi: 0x40008 << 44}, api.Bits{Hi: 0x40008 << 44}, 0},
		{api.B128, api.Bits{Hi: 0x7ffeffffffffffff, Lo: all64}, api.Bits{Hi: 0x5ffeffffffffffff, Lo: all64}, api.Bits{Hi: 0x5ffeffffffffffff, Lo: all64}, 16},
		{api.B128, low(1), api.Bits{Hi: 0x1fc8 << 48}, api.Bits{Hi: 0x1fc8 << 48}, 0},
		{api.B128, low(2), api.Bits{Hi: 0x1fc86a09e667f3bc, Lo: 0xc908b2fb1366ea95}, api.Bits{Hi: 0x1fc86a09e667f3bc, Lo: 0xc908b2fb1366ea95}, 16},
	} {
		check(t, x.f, api.Env{}, x.a, api.Result{Bits: x.near, Flags: x.flags})
		check(t, x.f, api.Env{Mode: api.Down}, x.a, api.Result{Bits: x.down, Flags: x.flags})
	}
}

// P22.1: even and odd exponents from one end of the format to the other, with fractions
// of both ends and between, held against big integers.
func TestExponents(t *testing.T) {
	inParallel(t, func(t *testing.T, k kind) {
		for _, field := range k.fields() {
			for _, q := range k.fractions() {
				checkBig(t, k, k.made(field, q))
			}
		}
	})
}

// P22.1: every single bit of the fraction, and all below it, with an even and an odd
// exponent.
func TestBitsOfFraction(t *testing.T) {
	inParallel(t, func(t *testing.T, k kind) {
		for i := range k.prec - 1 {
			for _, field := range []int{1, 2, k.emax, k.emax + 1, 2*k.emax - 1, 2 * k.emax} {
				checkBig(t, k, k.made(field, power(i)))
				checkBig(t, k, k.made(field, plus(i, -1)))
				checkBig(t, k, k.made(field, new(big.Int).Sub(plus(k.prec-1, -1), power(i))))
			}
		}
	})
}

// P22.1: subnormal numbers of every length.
func TestSubnormal(t *testing.T) {
	inParallel(t, func(t *testing.T, k kind) {
		for i := 1; i < k.prec; i++ {
			for _, n := range []*big.Int{power(i - 1), plus(i-1, 1), plus(i, -2), plus(i, -1), mixed(i), power(i - 1 + i&1)} {
				checkBig(t, k, bitsOf(n))
			}
		}
		for n := range uint64(200) {
			checkBig(t, k, low(n))
		}
	})
}

// P22.1: both ends of the format, and operands of all classes at the edges, held
// against big integers and the chapter's cases.
func TestEdges(t *testing.T) {
	inParallel(t, func(t *testing.T, k kind) {
		for _, a := range k.edges() {
			checkBig(t, k, a)
		}
		for d := range int64(100) {
			checkBig(t, k, step(k.greatest(), -d))
			checkBig(t, k, step(k.two(k.least()), d-50))
		}
	})
}

// P22.1: all encodings of B16, in every environment.
func TestAllOfB16(t *testing.T) {
	t.Parallel()
	k := kinds()[0]
	for _, v := range envs() {
		t.Run("", func(t *testing.T) {
			t.Parallel()
			for a := range uint64(1 << 16) {
				check(t, k.f, v, low(a), k.want(v, low(a)))
			}
		})
	}
}

// scattered visits pairs of numbers without a pattern.
func scattered(n int, visit func(a, b uint64)) {
	state := uint64(1)
	draw := func() uint64 {
		state = state*6364136223846793005 + 1442695040888963407
		return state>>32 | (state*0x9e3779b97f4a7c15)>>32<<32
	}
	for range n {
		visit(draw(), draw())
	}
}

// P22.1: any operands, held against big integers.
func TestScattered(t *testing.T) {
	inParallel(t, func(t *testing.T, k kind) {
		scattered(5000, func(a, b uint64) {
			v := envs()[a>>7%10]
			x := api.Bits{Hi: a, Lo: b * 3}
			check(t, k.f, v, x, k.want(v, x))
			n := k.unsigned(x) // and without the sign, which half of them have
			check(t, k.f, v, bitsOf(n), k.want(v, bitsOf(n)))
		})
	})
}

// P22.1: in the formats that Go has, in the mode Near, the results are those of its own
// roots.
func TestAsGoDoes(t *testing.T) {
	t.Parallel()
	scattered(20000, func(a, b uint64) {
		asGo64(t, a>>1)
		asGo64(t, b>>12) // subnormal
		asGo64(t, 0x3ff<<52+b>>11)
		asGo32(t, uint32(a)>>1)
		asGo32(t, uint32(b)>>9)
		asGo32(t, 0x3f800000+uint32(b)>>8)
	})
}

func asGo64(t *testing.T, a uint64) {
	t.Helper()
	if root := math.Sqrt(math.Float64frombits(a)); root == root { // no NaN
		asGo(t, low(a), Sqrt(api.B64, api.Env{}, low(a)), math.Float64bits(root))
	}
}

// asGo32 rounds twice, but roots with that many bits more come to the same.
func asGo32(t *testing.T, a uint32) {
	t.Helper()
	if root := math.Sqrt(float64(math.Float32frombits(a))); root == root { // no NaN
		b := low(uint64(a))
		asGo(t, b, Sqrt(api.B32, api.Env{}, b), uint64(math.Float32bits(float32(root))))
	}
}

func asGo(t *testing.T, a api.Bits, got api.Result, want uint64) {
	t.Helper()
	if got.Bits != low(want) {
		t.Fatalf("the root of %x = %x, Go has %x", a, got, want)
	}
}
