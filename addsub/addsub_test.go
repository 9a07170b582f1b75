package addsub

import (
	"math"
	"math/big"
	"testing"

	"hairsbreadth/api"
)

// checkAdd holds Add of encodings without bits above the width against want.
func checkAdd(t *testing.T, f api.Format, v api.Env, a, b api.Bits, want api.Result) {
	t.Helper()
	if got := Add(f, v, a, b); got != want {
		t.Fatalf("Add(%d, %v, %x, %x) = %x, want %x", f, v, a, b, got, want)
	}
}

func checkSub(t *testing.T, f api.Format, v api.Env, a, b api.Bits, want api.Result) {
	t.Helper()
	if got := Sub(f, v, a, b); got != want {
		t.Fatalf("Sub(%d, %v, %x, %x) = %x, want %x", f, v, a, b, got, want)
	}
}

// checkBig holds Add and Sub against big integers, in both orders, in every mode and
// with both kinds of tininess.
func checkBig(t *testing.T, k kind, a, b api.Bits) {
	t.Helper()
	for _, m := range modes() {
		v := api.Env{Mode: m}
		sum, under, over := k.want(v, a, b), k.wantSub(v, a, b), k.wantSub(v, b, a)
		turned := k.want(v, b, a)
		for _, v.After = range both() {
			checkAdd(t, k.f, v, a, b, sum)
			checkAdd(t, k.f, v, b, a, turned)
			checkSub(t, k.f, v, a, b, under)
			checkSub(t, k.f, v, b, a, over)
		}
	}
}

// checkSigned does so for all signs of the two.
func checkSigned(t *testing.T, k kind, a, b api.Bits) {
	t.Helper()
	for _, x := range []api.Bits{a, k.turned(a)} {
		for _, y := range []api.Bits{b, k.turned(b)} {
			checkBig(t, k, x, y)
		}
	}
}

// P18.1: written out, in B16: the sums in the modes Near, Away, Up, Down and Zero, all
// with these flags, or those of overflow where one of the columns says so.
func TestAddWritten(t *testing.T) {
	const over = 1 << 16 // Overflow beside Inexact
	for _, x := range []struct {
		a, b  uint64
		want  [5]uint64
		flags api.Flags
	}{
		{0x3c00, 0x3c00, [5]uint64{0x4000, 0x4000, 0x4000, 0x4000, 0x4000}, 0},
		{0x3c00, 0xbc00, [5]uint64{0, 0, 0, 0x8000, 0}, 0},
		{0x3c00, 0xb800, [5]uint64{0x3800, 0x3800, 0x3800, 0x3800, 0x3800}, 0},
		{0x3c00, 0xbc01, [5]uint64{0x9400, 0x9400, 0x9400, 0x9400, 0x9400}, 0},
		{0x3c00, 0x0001, [5]uint64{0x3c00, 0x3c00, 0x3c01, 0x3c00, 0x3c00}, 16},
		{0x3c00, 0x8001, [5]uint64{0x3c00, 0x3c00, 0x3c00, 0x3bff, 0x3bff}, 16},
		{0xbc00, 0x0001, [5]uint64{0xbc00, 0xbc00, 0xbbff, 0xbc00, 0xbbff}, 16},
		{0x3c00, 0x1000, [5]uint64{0x3c00, 0x3c01, 0x3c01, 0x3c00, 0x3c00}, 16},
		{0x3c01, 0x1000, [5]uint64{0x3c02, 0x3c02, 0x3c02, 0x3c01, 0x3c01}, 16},
		{0xbc01, 0x9000, [5]uint64{0xbc02, 0xbc02, 0xbc01, 0xbc02, 0xbc01}, 16},
		{0x3c00, 0x0fff, [5]uint64{0x3c00, 0x3c00, 0x3c01, 0x3c00, 0x3c00}, 16},
		{0x3c00, 0x1001, [5]uint64{0x3c01, 0x3c01, 0x3c01, 0x3c00, 0x3c00}, 16},
		{0x3c00, 0x8c00, [5]uint64{0x3c00, 0x3c00, 0x3c00, 0x3bff, 0x3bff}, 16},
		{0x3c00, 0x8bff, [5]uint64{0x3c00, 0x3c00, 0x3c00, 0x3bff, 0x3bff}, 16},
		{0x3c00, 0x8c01, [5]uint64{0x3bff, 0x3bff, 0x3c00, 0x3bff, 0x3bff}, 16},
		{0x3fff, 0x1400, [5]uint64{0x4000, 0x4000, 0x4000, 0x4000, 0x4000}, 0},
		{0x3fff, 0x1000, [5]uint64{0x4000, 0x4000, 0x4000, 0x3fff, 0x3fff}, 16},
		{0x4000, 0xbfff, [5]uint64{0x1400, 0x1400, 0x1400, 0x1400, 0x1400}, 0},
		{0x7bff, 0x0001, [5]uint64{0x7bff, 0x7bff, over | 0x7c00, 0x7bff, 0x7bff}, 16},
		{0x7bff, 0x4bff, [5]uint64{0x7bff, 0x7bff, over | 0x7c00, 0x7bff, 0x7bff}, 16},
		{0x7bff, 0x4c00, [5]uint64{over | 0x7c00, over | 0x7c00, over | 0x7c00, 0x7bff, 0x7bff}, 16},
		{0x7bff, 0x5000, [5]uint64{over | 0x7c00, over | 0x7c00, over | 0x7c00, over | 0x7bff, over | 0x7bff}, 16},
		{0x7bff, 0x7bff, [5]uint64{over | 0x7c00, over | 0x7c00, over | 0x7c00, over | 0x7bff, over | 0x7bff}, 16},
		{0xfbff, 0xfbff, [5]uint64{over | 0xfc00, over | 0xfc00, over | 0xfbff, over | 0xfc00, over | 0xfbff}, 16},
		{0x7bff, 0xfbfe, [5]uint64{0x5000, 0x5000, 0x5000, 0x5000, 0x5000}, 0},
		{0x0001, 0x0001, [5]uint64{2, 2, 2, 2, 2}, 0},
		{0x03ff, 0x0001, [5]uint64{0x400, 0x400, 0x400, 0x400, 0x400}, 0},
		{0x0400, 0x8001, [5]uint64{0x3ff, 0x3ff, 0x3ff, 0x3ff, 0x3ff}, 0},
		{0x0801, 0x8800, [5]uint64{2, 2, 2, 2, 2}, 0},
		{0x0001, 0x8400, [5]uint64{0x83ff, 0x83ff, 0x83ff, 0x83ff, 0x83ff}, 0},
		{0x0001, 0x8001, [5]uint64{0, 0, 0, 0x8000, 0}, 0},
		{0x0000, 0x0000, [5]uint64{0, 0, 0, 0, 0}, 0},
		{0x8000, 0x8000, [5]uint64{0x8000, 0x8000, 0x8000, 0x8000, 0x8000}, 0},
		{0x0000, 0x8000, [5]uint64{0, 0, 0, 0x8000, 0}, 0},
		{0x0000, 0x8001, [5]uint64{0x8001, 0x8001, 0x8001, 0x8001, 0x8001}, 0},
		{0x8000, 0x3c00, [5]uint64{0x3c00, 0x3c00, 0x3c00, 0x3c00, 0x3c00}, 0},
		{0x8000, 0x7bff, [5]uint64{0x7bff, 0x7bff, 0x7bff, 0x7bff, 0x7bff}, 0},
		{0x7c00, 0xfbff, [5]uint64{0x7c00, 0x7c00, 0x7c00, 0x7c00, 0x7c00}, 0},
		{0xfc00, 0xfc00, [5]uint64{0xfc00, 0xfc00, 0xfc00, 0xfc00, 0xfc00}, 0},
		{0x7c00, 0xfc00, [5]uint64{0x7e00, 0x7e00, 0x7e00, 0x7e00, 0x7e00}, 1},
		{0x3c00, 0xfe05, [5]uint64{0xfe05, 0xfe05, 0xfe05, 0xfe05, 0xfe05}, 0},
		{0x7c00, 0xfc05, [5]uint64{0xfe05, 0xfe05, 0xfe05, 0xfe05, 0xfe05}, 1},
	} {
		for i, m := range modes() {
			want := api.Result{Bits: low(x.want[i] &^ over), Flags: x.flags}
			if x.want[i]&over != 0 {
				want.Flags |= api.Overflow
			}
			for _, after := range both() {
				v := api.Env{Mode: m, After: after}
				checkAdd(t, api.B16, v, low(x.a), low(x.b), want)
				checkAdd(t, api.B16, v, low(x.b), low(x.a), want)
				if x.b&0x7fff <= 0x7c00 {
					checkSub(t, api.B16, v, low(x.a), low(x.b^0x8000), want)
				}
			}
		}
	}
}

// P18.1: 0.1 + 0.2 of B64, and what is left of it without 0.3.
func TestTenths(t *testing.T) {
	a, b, sum, third := low(0x3fb999999999999a), low(0x3fc999999999999a), low(0x3fd3333333333334), low(0x3fd3333333333333)
	checkAdd(t, api.B64, api.Env{}, a, b, api.Result{Bits: sum, Flags: api.Inexact})
	checkAdd(t, api.B64, api.Env{Mode: api.Down}, a, b, api.Result{Bits: third, Flags: api.Inexact})
	checkSub(t, api.B64, api.Env{}, sum, third, api.Result{Bits: low(0x3c90000000000000)})
}

// P18.1: equal and different exponents, all signs, each order, held against big integers.
func TestApart(t *testing.T) {
	t.Parallel()
	for _, k := range kinds() {
		t.Run("", func(t *testing.T) {
			t.Parallel()
			k.apart(func(a, b api.Bits) { checkSigned(t, k, a, b) })
		})
	}
}

// P18.1: operands of all classes at the edges of the format, each with each, held
// against big integers and the chapter's cases.
func TestEdges(t *testing.T) {
	t.Parallel()
	for _, k := range kinds() {
		t.Run("", func(t *testing.T) {
			t.Parallel()
			for _, a := range k.edges() {
				for _, b := range k.edges() {
					checkBig(t, k, a, b)
				}
			}
		})
	}
}

// P18.1: subnormal numbers of every length, together and with the first normal ones.
func TestSubnormal(t *testing.T) {
	t.Parallel()
	for _, k := range kinds() {
		t.Run("", func(t *testing.T) {
			t.Parallel()
			var l []api.Bits
			for i := 0; i <= k.prec+1; i += 1 + k.prec/15 {
				l = append(l, bitsOf(power(i)), bitsOf(plus(i, -1)))
			}
			for _, a := range l {
				for _, b := range l {
					checkSigned(t, k, a, b)
				}
			}
		})
	}
}

// P18.1: all numbers of B16 with some others, held against big integers.
func TestAllOfB16(t *testing.T) {
	t.Parallel()
	k, l := kinds()[0], envs()
	for _, b := range []uint64{0x83ff, 0x0c01, 0xc0ff, 0x7bff} {
		for a := range uint64(1 << 16) {
			v := l[(a^b)%10]
			checkAdd(t, k.f, v, low(a), low(b), k.want(v, low(a), low(b)))
			checkSub(t, k.f, v, low(b), low(a), k.wantSub(v, low(b), low(a)))
		}
	}
}

// scattered visits pairs of numbers without a pattern.
func scattered(n int, visit func(a, b uint64)) {
	state := uint64(1)
	draw := func() uint64 {
		state = state*6364136223846793005 + 1442695040888963407
		return state>>32 | (state*0x9e3779b97f4a7c15)>>32<<32
	}
	for range n {
		visit(draw(), draw())
	}
}

// P18.1: in the formats that Go has, in the mode Near, the results are those of its own
// sums and differences: of any numbers, and of near ones.
func TestAsGoDoes(t *testing.T) {
	t.Parallel()
	scattered(50000, func(a, b uint64) {
		asGo64(t, a, b)
		asGo64(t, a, a>>52<<52^b>>12^(b&31)<<52)
		asGo32(t, uint32(a), uint32(b))
		asGo32(t, uint32(a), uint32(a)>>23<<23^uint32(b)>>9^uint32(a>>32&15)<<23)
	})
}

func asGo64(t *testing.T, a, b uint64) {
	t.Helper()
	x, y := math.Float64frombits(a), math.Float64frombits(b)
	if sum := x + y; sum == sum { // no NaN
		asGo(t, "+", low(a), low(b), Add(api.B64, api.Env{}, low(a), low(b)), math.Float64bits(sum))
	}
	if diff := x - y; diff == diff {
		asGo(t, "-", low(a), low(b), Sub(api.B64, api.Env{}, low(a), low(b)), math.Float64bits(diff))
	}
}

func asGo32(t *testing.T, a, b uint32) {
	t.Helper()
	x, y := math.Float32frombits(a), math.Float32frombits(b)
	p, q := low(uint64(a)), low(uint64(b))
	if sum := x + y; sum == sum { // no NaN
		asGo(t, "+", p, q, Add(api.B32, api.Env{}, p, q), uint64(math.Float32bits(sum)))
	}
	if diff := x - y; diff == diff {
		asGo(t, "-", p, q, Sub(api.B32, api.Env{}, p, q), uint64(math.Float32bits(diff)))
	}
}

func asGo(t *testing.T, op string, a, b api.Bits, got api.Result, want uint64) {
	t.Helper()
	if got.Bits != low(want) {
		t.Fatalf("%x %s %x = %x, Go has %x", a, op, b, got, want)
	}
}

// rest is where a number is between two neighbors of the format.
type rest int

const (
	less rest = iota
	half
	more
)

// choice is whether a positive number is rounded to the greater one of its neighbors.
func choice(m api.Mode, odd bool, r rest) bool {
	switch m {
	case api.Near:
		return r == more || r == half && odd
	case api.Away:
		return r >= half
	}
	return m == api.Up
}

func mirrored(m api.Mode) api.Mode {
	switch m {
	case api.Up:
		return api.Down
	case api.Down:
		return api.Up
	}
	return m
}

// between is what a number between x and its next one, rest from x, comes to.
func (k kind) between(m api.Mode, neg bool, x api.Bits, r rest) api.Result {
	if neg {
		m = mirrored(m)
	}
	want := api.Result{Bits: x, Flags: api.Inexact}
	if choice(m, x.Lo%2 == 1, r) {
		want.Bits = next(x)
	}
	if want.Bits == k.infinity() {
		want.Flags |= api.Overflow
	}
	want.Bits = k.signed(neg, want.Bits)
	return want
}

// P18.1: sums and differences halfway between two neighbors, just below it and just
// above it: from the lower neighbor, from the upper one where it is a number. The
// lower one is even or odd; the upper one has the next exponent or is beyond all.
func TestHalfway(t *testing.T) {
	for _, k := range kinds() {
		field := k.prec + 2
		for _, at := range []int{field, field + 1, k.emax + 3, 2*k.emax - 1, 2 * k.emax} {
			for _, fraction := range append(k.fractions(), big.NewInt(2), big.NewInt(3)) {
				x := k.made(at, fraction)
				// Half a unit of the last place of x, and its neighbors.
				middle := k.made(at-k.prec, new(big.Int))
				for _, v := range envs() {
					checkHalfway(t, k, v, x, middle)
				}
			}
		}
	}
}

func checkHalfway(t *testing.T, k kind, v api.Env, x, middle api.Bits) {
	t.Helper()
	parts := [3]api.Bits{step(middle, -1), middle, next(middle)}
	for _, neg := range both() {
		sign := func(b api.Bits) api.Bits { return k.signed(neg, b) }
		for _, r := range []rest{less, half, more} {
			want := k.between(v.Mode, neg, x, r)
			checkAdd(t, k.f, v, sign(x), sign(parts[r]), want)
			checkAdd(t, k.f, v, sign(parts[r]), sign(x), want)
			checkSub(t, k.f, v, sign(x), k.turned(sign(parts[r])), want)
			if x == k.greatest() {
				continue
			}
			upper, back := sign(next(x)), sign(parts[more-r])
			checkSub(t, k.f, v, upper, back, want)
			checkAdd(t, k.f, v, upper, k.turned(back), want)
			checkSub(t, k.f, v, k.turned(back), k.turned(upper), want)
		}
	}
}

// P18.1: the least part that can be added, to numbers of every exponent above it, is
// seen by the modes, however far it is away.
func TestLeastPart(t *testing.T) {
	for _, k := range kinds() {
		for field := k.prec + 3; field <= 2*k.emax; field += 1 + k.emax/60 {
			for _, fraction := range k.fractions() {
				x := k.made(field, fraction)
				for _, v := range envs() {
					for _, neg := range both() {
						checkAdd(t, k.f, v, k.signed(neg, x), k.signed(neg, low(1)), k.between(v.Mode, neg, x, less))
						checkSub(t, k.f, v, k.signed(neg, x), k.signed(neg, low(1)), k.between(v.Mode, neg, step(x, -1), more))
					}
				}
			}
		}
	}
}

// P18.1: differences of neighbors are a unit of the last place, exactly, at every
// exponent.
func TestNeighbors(t *testing.T) {
	for _, k := range kinds() {
		for field := 0; field <= 2*k.emax; field += 1 + k.emax/60 {
			for _, fraction := range k.fractions() {
				x, unit := k.made(field, fraction), k.unit(field)
				if next(x) == k.infinity() {
					continue
				}
				for _, v := range envs() {
					checkSub(t, k.f, v, next(x), x, api.Result{Bits: unit})
					checkSub(t, k.f, v, x, next(x), api.Result{Bits: k.turned(unit)})
					checkAdd(t, k.f, v, k.turned(x), next(x), api.Result{Bits: unit})
					checkAdd(t, k.f, v, x, unit, api.Result{Bits: next(x)})
				}
			}
		}
	}
}

// unit is the last place of numbers with that exponent field.
func (k kind) unit(field int) api.Bits {
	if field < k.prec {
		return bitsOf(power(max(field, 1) - 1))
	}
	return k.made(field-(k.prec-1), new(big.Int))
}

// P18.1: one NaN: it is returned, quieted, whatever the other operand is; its sign and
// its payload are kept, by Sub as well, and only a signaling one sets Invalid.
func TestOneNaN(t *testing.T) {
	for _, k := range kinds() {
		others := k.withSigns(append(k.numbers(), k.infinity()))
		for _, n := range k.nans() {
			want := api.Result{Bits: k.quieted(n)}
			if k.isSignaling(n) {
				want.Flags = api.Invalid
			}
			for _, v := range envs() {
				for _, b := range others {
					checkAdd(t, k.f, v, n, b, want)
					checkAdd(t, k.f, v, b, n, want)
					checkSub(t, k.f, v, n, b, want)
					checkSub(t, k.f, v, b, n, want)
				}
			}
		}
	}
}

// P18.1: two NaNs: the first one is returned, and either may set Invalid.
func TestTwoNaNs(t *testing.T) {
	for _, k := range kinds() {
		for _, a := range k.nans() {
			for _, b := range k.nans() {
				want := api.Result{Bits: k.quieted(a)}
				if k.isSignaling(a) || k.isSignaling(b) {
					want.Flags = api.Invalid
				}
				for _, v := range envs() {
					checkAdd(t, k.f, v, a, b, want)
					checkSub(t, k.f, v, a, b, want)
				}
			}
		}
	}
}

// P18.1: infinities with each other and with numbers.
func TestInfinities(t *testing.T) {
	for _, k := range kinds() {
		for _, neg := range both() {
			inf := k.signed(neg, k.infinity())
			same, invalid := api.Result{Bits: inf}, api.Result{Bits: k.standard(), Flags: api.Invalid}
			for _, v := range envs() {
				checkAdd(t, k.f, v, inf, inf, same)
				checkAdd(t, k.f, v, inf, k.turned(inf), invalid)
				checkSub(t, k.f, v, inf, inf, invalid)
				checkSub(t, k.f, v, inf, k.turned(inf), same)
				for _, b := range k.withSigns(k.numbers()) {
					checkAdd(t, k.f, v, inf, b, same)
					checkAdd(t, k.f, v, b, inf, same)
					checkSub(t, k.f, v, inf, b, same)
					checkSub(t, k.f, v, b, k.turned(inf), same)
				}
			}
		}
	}
}

// P18.1: the sign of an exact zero sum: of zeros, and of numbers.
func TestZeros(t *testing.T) {
	for _, k := range kinds() {
		plus, minus := api.Bits{}, k.signed(true, api.Bits{})
		for _, v := range envs() {
			mixed := api.Result{Bits: plus}
			if v.Mode == api.Down {
				mixed.Bits = minus
			}
			checkAdd(t, k.f, v, plus, plus, api.Result{Bits: plus})
			checkAdd(t, k.f, v, minus, minus, api.Result{Bits: minus})
			checkAdd(t, k.f, v, plus, minus, mixed)
			checkAdd(t, k.f, v, minus, plus, mixed)
			checkSub(t, k.f, v, plus, plus, mixed)
			checkSub(t, k.f, v, minus, minus, mixed)
			checkSub(t, k.f, v, plus, minus, api.Result{Bits: plus})
			checkSub(t, k.f, v, minus, plus, api.Result{Bits: minus})
			for _, b := range k.withSigns(k.numbers()) {
				checkAdd(t, k.f, v, b, k.turned(b), mixed)
				checkSub(t, k.f, v, b, b, mixed)
			}
		}
	}
}

// P18.1: a zero added to another number leaves it as it is.
func TestZeroAdded(t *testing.T) {
	for _, k := range kinds() {
		for _, zero := range k.withSigns([]api.Bits{{}}) {
			for _, b := range k.withSigns(k.numbers()[1:]) {
				for _, v := range envs() {
					checkAdd(t, k.f, v, zero, b, api.Result{Bits: b})
					checkAdd(t, k.f, v, b, zero, api.Result{Bits: b})
					checkSub(t, k.f, v, b, zero, api.Result{Bits: b})
					checkSub(t, k.f, v, zero, b, api.Result{Bits: k.turned(b)})
				}
			}
		}
	}
}

// P18.1: bits above the width are ignored in both operands, and 0 in the result.
func TestBitsAbove(t *testing.T) {
	for _, k := range kinds() {
		for _, a := range k.edges() {
			for _, b := range k.edges() {
				for _, m := range []api.Mode{api.Near, api.Down} {
					v := api.Env{Mode: m}
					checkAbove(t, k, v, a, b)
				}
			}
		}
	}
}

func checkAbove(t *testing.T, k kind, v api.Env, a, b api.Bits) {
	t.Helper()
	sum, diff := k.want(v, a, b), k.wantSub(v, a, b)
	for _, x := range k.above(a) {
		checkAdd(t, k.f, v, x, b, sum)
		checkSub(t, k.f, v, x, b, diff)
	}
	for _, y := range k.above(b) {
		checkAdd(t, k.f, v, a, y, sum)
		checkSub(t, k.f, v, a, y, diff)
	}
	if l := k.above(a); len(l) > 1 {
		checkAdd(t, k.f, v, l[5], k.above(b)[5], sum)
		checkSub(t, k.f, v, l[5], k.above(b)[1], diff)
	}
}

// operands are encodings of all classes in some of the formats, whatever they are in others.
func operands() []api.Bits {
	l := []api.Bits{{}, low(1), low(0x3c00), low(0x8000), low(0x7bff), low(0x7c00), low(0xfc00), low(0x7c01), low(0x7e00), low(0x7f800001)}
	return append(l, low(1<<63), low(all64), api.Bits{Hi: 1 << 63}, api.Bits{Hi: 0x7fff << 48}, api.Bits{Hi: 0x7fff << 48, Lo: 1}, api.Bits{Hi: all64, Lo: all64})
}

// P18.1, P18.2: a format that doesn't exist: zero values, in every mode.
func TestNoFormat(t *testing.T) {
	for f := 4; f <= 255; f++ {
		for _, a := range operands() {
			if b := Turn(api.Format(f), a); b != (api.Bits{}) {
				t.Fatalf("Turn(%d, %x) = %x", f, a, b)
			}
			for _, b := range operands() {
				for _, m := range append(modes(), 5, 255) {
					v := api.Env{Mode: m, After: f%2 == 0}
					checkAdd(t, api.Format(f), v, a, b, api.Result{})
					checkSub(t, api.Format(f), v, a, b, api.Result{})
				}
			}
		}
	}
}

// P18.1: a mode that doesn't exist: zero values, for NaNs, infinities and exact sums too.
func TestNoMode(t *testing.T) {
	for m := 5; m <= 255; m++ {
		for _, k := range kinds() {
			v := api.Env{Mode: api.Mode(m), After: m%2 == 0}
			for _, a := range []api.Bits{{}, low(1), k.one(), k.turned(k.one()), k.greatest(), k.infinity(), k.turned(k.infinity()), k.standard(), next(k.infinity())} {
				for _, b := range []api.Bits{{}, k.one(), k.greatest(), k.infinity(), k.standard(), next(k.infinity())} {
					checkAdd(t, k.f, v, a, b, api.Result{})
					checkSub(t, k.f, v, a, b, api.Result{})
				}
			}
		}
	}
}

// P18.2: Turn inverts the sign bit and no other one, for each class, and clears what
// is above the width.
func TestTurn(t *testing.T) {
	for _, k := range kinds() {
		for _, b := range k.edges() {
			for _, x := range k.above(b) {
				if got, want := Turn(k.f, x), k.turned(b); got != want {
					t.Errorf("Turn(%d, %x) = %x, want %x", k.f, x, got, want)
				}
			}
			if got := Turn(k.f, Turn(k.f, b)); got != b {
				t.Errorf("%d: %x turned twice is %x", k.f, b, got)
			}
		}
		for i := range k.width {
			b := bitsOf(power(i))
			want := bitsOf(new(big.Int).Xor(power(i), power(k.width-1)))
			if got := Turn(k.f, b); got != want {
				t.Errorf("Turn(%d, %x) = %x, want %x", k.f, b, got, want)
			}
		}
	}
}

// P18.2: written out, and all encodings of B16.
func TestTurnWritten(t *testing.T) {
	for _, x := range []struct {
		f       api.Format
		b, want api.Bits
	}{
		{api.B32, low(0x3f800000), low(0xbf800000)},
		{api.B32, low(0xff800001), low(0x7f800001)},
		{api.B64, low(0x8000000000000000), low(0)},
		{api.B64, api.Bits{Hi: all64, Lo: 0x7ff8000000000000}, low(0xfff8000000000000)},
		{api.B128, api.Bits{Hi: 0x7fff800000000000, Lo: 5}, api.Bits{Hi: 0xffff800000000000, Lo: 5}},
		{api.B128, api.Bits{Hi: all64, Lo: all64}, api.Bits{Hi: math.MaxInt64, Lo: all64}},
	} {
		if got := Turn(x.f, x.b); got != x.want {
			t.Errorf("Turn(%d, %x) = %x, want %x", x.f, x.b, got, x.want)
		}
	}
	for b := range uint64(1 << 16) {
		if got := Turn(api.B16, api.Bits{Hi: b, Lo: b<<16 | b}); got != low(b^0x8000) {
			t.Fatalf("Turn(B16, %x) = %x", b, got)
		}
	}
}

// P18.2: both signs of both numbers in all modes that a byte can name.
func TestNought(t *testing.T) {
	for m := range 256 {
		for _, after := range both() {
			v := api.Env{Mode: api.Mode(m), After: after}
			mixed := m == 3 // Down
			for _, x := range []struct{ a, b, want bool }{{false, false, false}, {true, true, true}, {false, true, mixed}, {true, false, mixed}} {
				if got := Nought(v, x.a, x.b); got != x.want {
					t.Errorf("Nought(%v, %v, %v) = %v", v, x.a, x.b, got)
				}
			}
		}
	}
}

// P18.3: the order of the operands matters for two NaNs alone, and there for the bits alone.
func TestCommutative(t *testing.T) {
	t.Parallel()
	for _, k := range kinds() {
		for _, v := range envs() {
			for _, a := range k.edges() {
				for _, b := range k.edges() {
					commutes(t, k, v, a, b)
				}
			}
		}
		scattered(2000, func(a, b uint64) {
			for _, v := range envs() {
				commutes(t, k, v, api.Bits{Hi: a, Lo: b * 3}, api.Bits{Hi: b, Lo: a * 5})
				commutes(t, k, v, api.Bits{Hi: a, Lo: b}, api.Bits{Hi: a, Lo: a})
			}
		})
	}
}

func commutes(t *testing.T, k kind, v api.Env, a, b api.Bits) {
	t.Helper()
	r, s := Add(k.f, v, a, b), Add(k.f, v, b, a)
	if k.isNaN(a) && k.isNaN(b) {
		if r.Flags != s.Flags || r.Bits != k.quieted(a) || s.Bits != k.quieted(b) {
			t.Fatalf("format %d, %v: %x and %x add up to %x and %x", k.f, v, a, b, r, s)
		}
	} else if r != s {
		t.Fatalf("format %d, %v: %x + %x = %x, turned round %x", k.f, v, a, b, r, s)
	}
}

// P18.3: a finite number less itself is a zero without flags, -0 in the mode Down.
func TestLessItself(t *testing.T) {
	t.Parallel()
	for _, k := range kinds() {
		t.Run("", func(t *testing.T) {
			t.Parallel()
			for _, b := range k.finite() {
				for _, v := range envs() {
					zero := api.Result{Bits: k.signed(v.Mode == api.Down, api.Bits{})}
					checkSub(t, k.f, v, b, b, zero)
					checkAdd(t, k.f, v, b, k.turned(b), zero)
				}
			}
		})
	}
}

// P18.3: what is below the least normal number is exact, and nothing sets Underflow:
// the numbers beside the subnormal ones and among them, and any others.
func TestNoUnderflow(t *testing.T) {
	t.Parallel()
	for _, k := range kinds() {
		t.Run("", func(t *testing.T) {
			t.Parallel()
			for _, v := range envs() {
				for _, a := range k.withSigns(k.lowest()) {
					for _, b := range k.lowest() {
						exactIfTiny(t, k, a, b, Add(k.f, v, a, b))
						exactIfTiny(t, k, a, b, Sub(k.f, v, a, b))
					}
				}
			}
			scattered(2000, func(a, b uint64) {
				x, y := api.Bits{Hi: a, Lo: b * 3}, api.Bits{Hi: b, Lo: a * 5}
				for _, v := range envs() {
					exactIfTiny(t, k, x, y, Add(k.f, v, x, y))
					exactIfTiny(t, k, x, y, Sub(k.f, v, x, y))
				}
			})
		})
	}
}

// lowest are numbers from 0 up to some that are too great for a difference to be
// below the least normal one with any bits lost.
func (k kind) lowest() []api.Bits {
	var l []api.Bits
	for i := 0; i <= k.prec+1; i += 1 + k.prec/15 {
		l = append(l, bitsOf(power(i)), bitsOf(plus(i, -1)), bitsOf(plus(i, 1)))
	}
	for _, fraction := range k.fractions() {
		for _, field := range []int{0, 1, 2, k.prec - 1, k.prec, k.prec + 1} {
			l = append(l, k.made(field, fraction))
		}
	}
	return l
}

func exactIfTiny(t *testing.T, k kind, a, b api.Bits, r api.Result) {
	t.Helper()
	tiny := k.unsigned(r.Bits).BitLen() < k.prec
	if r.Flags&api.Underflow != 0 || tiny && r.Flags != 0 {
		t.Fatalf("format %d: %x and %x come to %x", k.f, a, b, r)
	}
}
