package over

import (
	"math"
	"testing"

	"hairsbreadth/api"
	"hairsbreadth/mode"
	"hairsbreadth/word"
)

const all64 = math.MaxUint64

// limits are a format's numbers without their sign, written out, its sign bit, and
// the exponents of the first power of 2 beyond it and of the least normal number.
type limits struct {
	f                           api.Format
	sign                        api.Bits
	inf, greatest, normal, tiny api.Bits
	beyond, least               int
}

func four() []limits {
	return []limits{
		{api.B16, low(0x8000), low(0x7c00), low(0x7bff), low(0x0400), low(1), 16, -14},
		{api.B32, low(0x80000000), low(0x7f800000), low(0x7f7fffff), low(0x00800000), low(1), 128, -126},
		{api.B64, low(0x8000000000000000), low(0x7ff0000000000000), low(0x7fefffffffffffff), low(0x0010000000000000), low(1), 1024, -1022},
		{api.B128, high(0x8000000000000000, 0), high(0x7fff000000000000, 0), high(0x7ffeffffffffffff, all64), high(0x0001000000000000, 0), low(1), 16384, -16382},
	}
}

func low(n uint64) api.Bits {
	return api.Bits{Lo: n}
}

func high(hi, lo uint64) api.Bits {
	return api.Bits{Hi: hi, Lo: lo}
}

// signed is the encoding of that magnitude and sign.
func (x limits) signed(neg bool, magnitude api.Bits) api.Bits {
	if neg {
		return high(x.sign.Hi|magnitude.Hi, x.sign.Lo|magnitude.Lo)
	}
	return magnitude
}

// magnitude is b without the sign bit.
func (x limits) magnitude(b api.Bits) api.Bits {
	return high(b.Hi&^x.sign.Hi, b.Lo&^x.sign.Lo)
}

func modes() []api.Mode {
	return []api.Mode{api.Near, api.Away, api.Up, api.Down, api.Zero}
}

// others are all formats that don't exist.
func others() []api.Format {
	var l []api.Format
	for f := 4; f <= 255; f++ {
		l = append(l, api.Format(f))
	}
	return l
}

func both() []bool {
	return []bool{false, true}
}

// farOff are exponents far from any range, to both sides.
func farOff() []int {
	return []int{math.MinInt, math.MinInt + 1, math.MinInt32, -1 << 40, -1 << 20, -1 << 16, 1 << 16, 1 << 20, 1 << 40, math.MaxInt32, math.MaxInt - 1, math.MaxInt}
}

// P14.1: every mode of every format, both signs, in words: i is an infinity, m the
// finite number of the greatest magnitude; the number that isn't negative first.
func TestOver(t *testing.T) {
	for m, ends := range map[api.Mode]string{api.Near: "ii", api.Away: "ii", api.Up: "im", api.Down: "mi", api.Zero: "mm"} {
		for _, x := range four() {
			for i, neg := range both() {
				want := x.signed(neg, x.greatest)
				if ends[i] == 'i' {
					want = x.signed(neg, x.inf)
				}
				r := Over(x.f, m, neg)
				if r.Bits != want {
					t.Errorf("Over(%d, %d, %v) has the bits %x, want %x", x.f, m, neg, r.Bits, want)
				}
				if r.Flags != 4|16 {
					t.Errorf("Over(%d, %d, %v) has the flags %d, want Overflow and Inexact", x.f, m, neg, r.Flags)
				}
			}
		}
	}
}

// P14.1: of all formats and modes that a byte can name, those where one of the two
// doesn't exist: neither bits nor flags.
func TestOverOfNoFormatOrMode(t *testing.T) {
	for f := range 256 {
		for m := range 256 {
			if f < 4 && m < 5 {
				continue
			}
			for _, neg := range both() {
				if r := Over(api.Format(f), api.Mode(m), neg); r != (api.Result{}) {
					t.Fatalf("Over(%d, %d, %v) = %x", f, m, neg, r)
				}
			}
		}
	}
}

// P14.1: in the formats that Go has, the results are its infinities and its
// greatest numbers.
func TestOverIsThatOfGo(t *testing.T) {
	for sign, neg := range map[int]bool{1: false, -1: true} {
		if r := Over(api.B64, api.Near, neg); r.Bits != low(math.Float64bits(math.Inf(sign))) {
			t.Errorf("Over(B64, Near, %v) = %x", neg, r)
		}
		if r := Over(api.B64, api.Zero, neg); r.Bits != low(math.Float64bits(float64(sign)*math.MaxFloat64)) {
			t.Errorf("Over(B64, Zero, %v) = %x", neg, r)
		}
		if r := Over(api.B32, api.Away, neg); r.Bits != low(uint64(math.Float32bits(float32(math.Inf(sign))))) {
			t.Errorf("Over(B32, Away, %v) = %x", neg, r)
		}
		if r := Over(api.B32, api.Zero, neg); r.Bits != low(uint64(math.Float32bits(float32(sign)*math.MaxFloat32))) {
			t.Errorf("Over(B32, Zero, %v) = %x", neg, r)
		}
	}
}

// P14.2: both numbers of each format, of both signs.
func TestLeastAndNormal(t *testing.T) {
	for _, x := range four() {
		for _, neg := range both() {
			if got, want := Least(x.f, neg), x.signed(neg, x.tiny); got != want {
				t.Errorf("Least(%d, %v) = %x, want %x", x.f, neg, got, want)
			}
			if got, want := Normal(x.f, neg), x.signed(neg, x.normal); got != want {
				t.Errorf("Normal(%d, %v) = %x, want %x", x.f, neg, got, want)
			}
		}
	}
}

// P14.2: in the formats that Go has, they are its least number and the power of 2
// below which it has fewer bits.
func TestLeastAndNormalAreThoseOfGo(t *testing.T) {
	for sign, neg := range map[float64]bool{1: false, -1: true} {
		if b := Least(api.B64, neg); b != low(math.Float64bits(sign*math.SmallestNonzeroFloat64)) {
			t.Errorf("Least(B64, %v) = %x", neg, b)
		}
		if b := Least(api.B32, neg); b != low(uint64(math.Float32bits(float32(sign*math.SmallestNonzeroFloat32)))) {
			t.Errorf("Least(B32, %v) = %x", neg, b)
		}
		if b := Normal(api.B64, neg); b != low(math.Float64bits(sign*0x1p-1022)) {
			t.Errorf("Normal(B64, %v) = %x", neg, b)
		}
		if b := Normal(api.B32, neg); b != low(uint64(math.Float32bits(float32(sign*0x1p-126)))) {
			t.Errorf("Normal(B32, %v) = %x", neg, b)
		}
	}
}

// P14.2: a format that doesn't exist has neither, of either sign.
func TestLeastAndNormalOfNoFormat(t *testing.T) {
	for _, f := range others() {
		for _, neg := range both() {
			if Least(f, neg) != (api.Bits{}) || Normal(f, neg) != (api.Bits{}) {
				t.Fatalf("format %d, %v: %x, %x", f, neg, Least(f, neg), Normal(f, neg))
			}
		}
	}
}

// P14.3: the last exponent within the range and the first one that isn't, at both
// ends, and 0, which is in every range.
func TestBeyondAndTinyEdges(t *testing.T) {
	for _, x := range four() {
		for _, y := range []struct {
			exp          int
			beyond, tiny bool
		}{
			{x.beyond, true, false},
			{x.beyond - 1, false, false},
			{x.least, false, false},
			{x.least - 1, false, true},
			{0, false, false},
		} {
			if beyond, tiny := Beyond(x.f, y.exp), Tiny(x.f, y.exp); beyond != y.beyond || tiny != y.tiny {
				t.Errorf("format %d, exponent %d: %v, %v; want %v, %v", x.f, y.exp, beyond, tiny, y.beyond, y.tiny)
			}
		}
	}
}

// P14.3: every exponent in and about the ranges, and those far off.
func TestBeyondAndTiny(t *testing.T) {
	exponents := farOff()
	for exp := -20000; exp <= 20000; exp++ {
		exponents = append(exponents, exp)
	}
	for _, x := range four() {
		for _, exp := range exponents {
			if got, want := Beyond(x.f, exp), exp >= x.beyond; got != want {
				t.Fatalf("Beyond(%d, %d) = %v", x.f, exp, got)
			}
			if got, want := Tiny(x.f, exp), exp < x.least; got != want {
				t.Fatalf("Tiny(%d, %d) = %v", x.f, exp, got)
			}
		}
	}
}

// P14.3: the powers of 2 themselves, held against the greatest and the least normal
// number of the formats whose numbers Go can tell.
func TestBeyondAndTinyOfThePowers(t *testing.T) {
	for _, x := range []struct {
		f              api.Format
		greatest, tiny float64
	}{{api.B16, 65504, 0x1p-14}, {api.B32, math.MaxFloat32, 0x1p-126}, {api.B64, math.MaxFloat64, 0x1p-1022}} {
		for exp := -1074; exp <= 1100; exp++ {
			power := math.Ldexp(1, exp)
			if got, want := Beyond(x.f, exp), power > x.greatest; got != want {
				t.Errorf("Beyond(%d, %d) = %v", x.f, exp, got)
			}
			if got, want := Tiny(x.f, exp), power < x.tiny; got != want {
				t.Errorf("Tiny(%d, %d) = %v", x.f, exp, got)
			}
		}
	}
}

// P14.3: a format that doesn't exist has no range to be out of.
func TestBeyondAndTinyOfNoFormat(t *testing.T) {
	exponents := append(farOff(), -16383, -15, -2, -1, 0, 1, 2, 16, 16384)
	for _, f := range others() {
		for _, exp := range exponents {
			if Beyond(f, exp) || Tiny(f, exp) {
				t.Fatalf("format %d, exponent %d: %v, %v", f, exp, Beyond(f, exp), Tiny(f, exp))
			}
		}
	}
}

// P14.4: no magnitude is less than that of the greatest finite number.
func TestOverAtLeastTheGreatest(t *testing.T) {
	for _, x := range four() {
		for _, m := range modes() {
			for _, neg := range both() {
				if got := x.magnitude(Over(x.f, m, neg).Bits); word.Cmp(got, x.greatest) < 0 {
					t.Errorf("Over(%d, %d, %v) has the magnitude %x", x.f, m, neg, got)
				}
			}
		}
	}
}

// P14.4: a negative number overflows as its absolute value does in the mirrored mode.
func TestOverMirrored(t *testing.T) {
	for _, x := range four() {
		for _, m := range modes() {
			got, want := Over(x.f, m, true).Bits, Over(x.f, mode.Mirror(m), false).Bits
			if x.magnitude(got) != x.magnitude(want) {
				t.Errorf("format %d, mode %d: %x, mirrored %x", x.f, m, got, want)
			}
		}
	}
}
