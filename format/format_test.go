package format

import (
	"fmt"
	"math"
	"strconv"
	"strings"
	"testing"

	"hairsbreadth/api"
)

const all64 = math.MaxUint64

var (
	none = api.Bits{}
	all  = api.Bits{Hi: all64, Lo: all64}
)

// formats are the four with their parameters, as the chapter's table has them.
var formats = []struct {
	f                 api.Format
	width, prec, emax int
}{
	{api.B16, 16, 11, 15},
	{api.B32, 32, 24, 127},
	{api.B64, 64, 53, 1023},
	{api.B128, 128, 113, 16383},
}

// text writes b as 128 binary digits.
func text(b api.Bits) string {
	return fmt.Sprintf("%064b%064b", b.Hi, b.Lo)
}

// parsed reads at most 128 binary digits.
func parsed(t *testing.T, digits string) api.Bits {
	t.Helper()
	s := strings.Repeat("0", 128-len(digits)) + digits
	hi, err := strconv.ParseUint(s[:64], 2, 64)
	if err != nil {
		t.Fatal(err)
	}
	lo, err := strconv.ParseUint(s[64:], 2, 64)
	if err != nil {
		t.Fatal(err)
	}
	return api.Bits{Hi: hi, Lo: lo}
}

// lastOf are the last n digits of b.
func lastOf(b api.Bits, n int) string {
	return text(b)[128-n:]
}

// samples are single bits, all bits but one, all those up to one, and mixtures.
func samples() []api.Bits {
	l := []api.Bits{
		none, all, {Hi: all64}, {Lo: all64},
		{Hi: 0x0123456789abcdef, Lo: 0xfedcba9876543210},
		{Hi: 0xfedcba9876543210, Lo: 0x0123456789abcdef},
		{Hi: 0x9e3779b97f4a7c15, Lo: 0x5bd1e995a3c59ac3},
		{Hi: 0x61c88646a3c59ac3, Lo: 0xa42e166a5c3a653c},
		{Lo: 0x3c01}, {Lo: 0xbc01}, {Lo: 0x7c00}, {Lo: 0xfbff},
		{Lo: 0xc0490fdb}, {Lo: 0x7f800001}, {Lo: 0x3fd3333333333334}, {Hi: 0xbfff << 48, Lo: 1},
	}
	one := none
	for i := range 128 {
		if i < 64 {
			one = api.Bits{Lo: 1 << i}
		} else {
			one = api.Bits{Hi: 1 << (i - 64)}
		}
		l = append(l, one, api.Bits{Hi: ^one.Hi, Lo: ^one.Lo})
	}
	up := none
	for range 128 {
		up = api.Bits{Hi: up.Hi<<1 | up.Lo>>63, Lo: up.Lo<<1 | 1}
		l = append(l, up)
	}
	return l
}

// exponents are negative, in the fields, about their ends, above them, about
// 2^20, and at both ends of an int.
func exponents() []int {
	l := []int{
		0, 1, 2, 3, 5, 0b10101, 0b10101010, 0b101_0101_0101, 0b101_0101_0101_0101,
		-1, -2, -31, -32, -1 << 20, math.MinInt, math.MinInt + 1,
		1<<20 - 1, 1 << 20, 1<<20 + 1, 1<<20 + 31, 1<<21 - 1, 1 << 32, 1<<32 + 1, 1<<40 + 5, math.MaxInt,
	}
	for n := 1; n <= 20; n++ {
		l = append(l, 1<<n-2, 1<<n-1, 1<<n, min(1<<n+1, 1<<20), 1<<n|1<<(n-1))
	}
	return l
}

// others are all formats that don't exist.
func others() []api.Format {
	var l []api.Format
	for f := 4; f <= 255; f++ {
		l = append(l, api.Format(f))
	}
	return l
}

// P7.1: the table's parameters, of each of the four.
func TestParameters(t *testing.T) {
	for _, x := range formats {
		if !Known(x.f) {
			t.Errorf("Known(%d) = false", x.f)
		}
		if w, p, e := Width(x.f), Prec(x.f), Emax(x.f); w != x.width || p != x.prec || e != x.emax {
			t.Errorf("format %d: %d, %d, %d; want %d, %d, %d", x.f, w, p, e, x.width, x.prec, x.emax)
		}
	}
}

// P7.1: a format that doesn't exist is not known and has no parameters.
func TestParametersOfNoFormat(t *testing.T) {
	for _, f := range others() {
		if Known(f) || Width(f) != 0 || Prec(f) != 0 || Emax(f) != 0 {
			t.Fatalf("format %d: %v, %d, %d, %d", f, Known(f), Width(f), Prec(f), Emax(f))
		}
	}
}

// P7.2: the examples, and the bits at both sides of the width.
func TestFitsAndCutEdges(t *testing.T) {
	for _, x := range []struct {
		f    api.Format
		b    api.Bits
		fits bool
		cut  api.Bits
	}{
		{api.B16, none, true, none},
		{api.B16, api.Bits{Lo: 0xffff}, true, api.Bits{Lo: 0xffff}},
		{api.B16, api.Bits{Lo: 0x10000}, false, none},
		{api.B16, api.Bits{Lo: 0x1ffff}, false, api.Bits{Lo: 0xffff}},
		{api.B16, api.Bits{Hi: 1, Lo: 0x3c00}, false, api.Bits{Lo: 0x3c00}},
		{api.B32, api.Bits{Lo: 1<<32 - 1}, true, api.Bits{Lo: 1<<32 - 1}},
		{api.B32, api.Bits{Lo: 1 << 32}, false, none},
		{api.B32, api.Bits{Hi: 1 << 63, Lo: 7}, false, api.Bits{Lo: 7}},
		{api.B64, api.Bits{Lo: all64}, true, api.Bits{Lo: all64}},
		{api.B64, api.Bits{Hi: 1}, false, none},
		{api.B64, all, false, api.Bits{Lo: all64}},
		{api.B128, none, true, none},
		{api.B128, all, true, all},
		{api.B128, api.Bits{Hi: 1 << 63}, true, api.Bits{Hi: 1 << 63}},
	} {
		if fits, cut := Fits(x.f, x.b), Cut(x.f, x.b); fits != x.fits || cut != x.cut {
			t.Errorf("format %d, %x: %v, %x; want %v, %x", x.f, x.b, fits, cut, x.fits, x.cut)
		}
	}
}

// P7.2: every bit at either side of the width, held against the binary digits.
func TestFitsAndCut(t *testing.T) {
	for _, x := range formats {
		for _, b := range samples() {
			want := parsed(t, lastOf(b, x.width))
			if fits, cut := Fits(x.f, b), Cut(x.f, b); fits != (b == want) || cut != want {
				t.Fatalf("format %d, %x: %v, %x; want %v, %x", x.f, b, fits, cut, b == want, want)
			}
		}
	}
}

// P7.2: nothing fits a format that doesn't exist, not even 0, and nothing is
// left of what is cut.
func TestFitsAndCutOfNoFormat(t *testing.T) {
	for _, f := range others() {
		for _, b := range []api.Bits{none, {Lo: 1}, {Lo: 0x3c00}, all} {
			if Fits(f, b) || Cut(f, b) != none {
				t.Fatalf("format %d, %x: %v, %x", f, b, Fits(f, b), Cut(f, b))
			}
		}
	}
}

// P7.3: numbers that are known, both ways.
func TestSplitAndMakeKnownNumbers(t *testing.T) {
	for _, x := range []struct {
		f    api.Format
		b    api.Bits
		neg  bool
		exp  int
		frac api.Bits
	}{
		{api.B16, api.Bits{Lo: 0x3c01}, false, 15, api.Bits{Lo: 1}},
		{api.B16, api.Bits{Lo: 0x8000}, true, 0, none},
		{api.B16, api.Bits{Lo: 0x03ff}, false, 0, api.Bits{Lo: 0x3ff}},
		{api.B16, api.Bits{Lo: 0x0400}, false, 1, none},
		{api.B16, api.Bits{Lo: 0xffff}, true, 31, api.Bits{Lo: 0x3ff}},
		{api.B32, api.Bits{Lo: 0xc0490fdb}, true, 128, api.Bits{Lo: 0x490fdb}},
		{api.B32, api.Bits{Lo: 0x7f800000}, false, 255, none},
		{api.B64, api.Bits{Lo: 0x3fd3333333333334}, false, 1021, api.Bits{Lo: 0x3333333333334}},
		{api.B64, api.Bits{Lo: 1 << 63}, true, 0, none},
		{api.B128, api.Bits{Hi: 0xbfff << 48, Lo: 1}, true, 16383, api.Bits{Lo: 1}},
		{api.B128, all, true, 32767, api.Bits{Hi: 1<<48 - 1, Lo: all64}},
	} {
		if neg, exp, frac := Split(x.f, x.b); neg != x.neg || exp != x.exp || frac != x.frac {
			t.Errorf("Split(%d, %x) = %v, %d, %x; want %v, %d, %x", x.f, x.b, neg, exp, frac, x.neg, x.exp, x.frac)
		}
		if b := Make(x.f, x.neg, x.exp, x.frac); b != x.b {
			t.Errorf("Make(%d, %v, %d, %x) = %x; want %x", x.f, x.neg, x.exp, x.frac, b, x.b)
		}
	}
}

// P7.3: Split, with any bits above the width, held against the binary digits.
func TestSplit(t *testing.T) {
	for _, x := range formats {
		for _, b := range samples() {
			digits := lastOf(b, x.width)
			field, fraction := digits[1:1+x.width-x.prec], digits[1+x.width-x.prec:]
			wantNeg, wantExp, wantFrac := digits[0] == '1', int(parsed(t, field).Lo), parsed(t, fraction)
			if neg, exp, frac := Split(x.f, b); neg != wantNeg || exp != wantExp || frac != wantFrac {
				t.Fatalf("Split(%d, %x) = %v, %d, %x; want %v, %d, %x", x.f, b, neg, exp, frac, wantNeg, wantExp, wantFrac)
			}
		}
	}
}

// P7.3: Make, with exponents of any size and fractions of too many bits, held
// against the binary digits.
func TestMake(t *testing.T) {
	for _, x := range formats {
		for _, exp := range exponents() {
			field := strings.Repeat("0", x.width-x.prec)
			if exp >= 0 && exp <= 1<<20 {
				field = lastOf(api.Bits{Lo: uint64(exp)}, x.width-x.prec)
			}
			for _, frac := range samples() {
				for sign, neg := range map[string]bool{"0": false, "1": true} {
					want := parsed(t, sign+field+lastOf(frac, x.prec-1))
					if b := Make(x.f, neg, exp, frac); b != want {
						t.Fatalf("Make(%d, %v, %d, %x) = %x; want %x", x.f, neg, exp, frac, b, want)
					}
				}
			}
		}
	}
}

// P7.3: the exponents about 2^20: its bits are used, those of the next are not.
func TestMakeAboutTheGreatestExponent(t *testing.T) {
	for _, x := range formats {
		full := Make(x.f, false, 1<<(x.width-x.prec)-1, none)
		for exp, want := range map[int]api.Bits{1<<20 - 1: full, 1 << 20: none, 1<<20 + 1: none, 1<<21 - 1: none, -1: none} {
			if b := Make(x.f, false, exp, none); b != want {
				t.Errorf("Make(%d, false, %d, 0) = %x; want %x", x.f, exp, b, want)
			}
		}
	}
}

// P7.3: a format that doesn't exist has no fields, whatever the arguments.
func TestSplitAndMakeOfNoFormat(t *testing.T) {
	for _, f := range others() {
		for _, b := range []api.Bits{none, {Lo: 1}, {Lo: 0xbc01}, all} {
			if neg, exp, frac := Split(f, b); neg || exp != 0 || frac != none {
				t.Fatalf("Split(%d, %x) = %v, %d, %x", f, b, neg, exp, frac)
			}
			for _, exp := range []int{-1, 0, 1, 15, 1 << 20, math.MaxInt, math.MinInt} {
				if Make(f, false, exp, b) != none || Make(f, true, exp, b) != none {
					t.Fatalf("Make(%d, .., %d, %x) = %x, %x", f, exp, b, Make(f, false, exp, b), Make(f, true, exp, b))
				}
			}
		}
	}
}

// P7.4: the encodings of each format, of both signs.
func TestInfMaxNought(t *testing.T) {
	for _, x := range []struct {
		f                api.Format
		neg              bool
		inf, max, nought api.Bits
	}{
		{api.B16, false, api.Bits{Lo: 0x7c00}, api.Bits{Lo: 0x7bff}, none},
		{api.B16, true, api.Bits{Lo: 0xfc00}, api.Bits{Lo: 0xfbff}, api.Bits{Lo: 0x8000}},
		{api.B32, false, api.Bits{Lo: 0x7f800000}, api.Bits{Lo: 0x7f7fffff}, none},
		{api.B32, true, api.Bits{Lo: 0xff800000}, api.Bits{Lo: 0xff7fffff}, api.Bits{Lo: 0x80000000}},
		{api.B64, false, api.Bits{Lo: 0x7ff0000000000000}, api.Bits{Lo: 0x7fefffffffffffff}, none},
		{api.B64, true, api.Bits{Lo: 0xfff0000000000000}, api.Bits{Lo: 0xffefffffffffffff}, api.Bits{Lo: 1 << 63}},
		{api.B128, false, api.Bits{Hi: 0x7fff000000000000}, api.Bits{Hi: 0x7ffeffffffffffff, Lo: all64}, none},
		{api.B128, true, api.Bits{Hi: 0xffff000000000000}, api.Bits{Hi: 0xfffeffffffffffff, Lo: all64}, api.Bits{Hi: 1 << 63}},
	} {
		if inf, max, nought := Inf(x.f, x.neg), Max(x.f, x.neg), Nought(x.f, x.neg); inf != x.inf || max != x.max || nought != x.nought {
			t.Errorf("format %d, %v: %x, %x, %x; want %x, %x, %x", x.f, x.neg, inf, max, nought, x.inf, x.max, x.nought)
		}
	}
}

// P7.4: Inf and Max of the formats that Go has are the infinity and the greatest
// number there.
func TestInfAndMaxAreThoseOfGo(t *testing.T) {
	for sign, neg := range map[int]bool{1: false, -1: true} {
		if b := Inf(api.B64, neg); b != (api.Bits{Lo: math.Float64bits(math.Inf(sign))}) {
			t.Errorf("Inf(B64, %v) = %x", neg, b)
		}
		if b := Max(api.B64, neg); b != (api.Bits{Lo: math.Float64bits(float64(sign) * math.MaxFloat64)}) {
			t.Errorf("Max(B64, %v) = %x", neg, b)
		}
		if b := Max(api.B32, neg); b != (api.Bits{Lo: uint64(math.Float32bits(float32(sign) * math.MaxFloat32))}) {
			t.Errorf("Max(B32, %v) = %x", neg, b)
		}
	}
}

// P7.4: a format that doesn't exist has none of the three, of either sign.
func TestInfMaxNoughtOfNoFormat(t *testing.T) {
	for _, f := range others() {
		for _, neg := range []bool{false, true} {
			if Inf(f, neg) != none || Max(f, neg) != none || Nought(f, neg) != none {
				t.Fatalf("format %d, %v: %x, %x, %x", f, neg, Inf(f, neg), Max(f, neg), Nought(f, neg))
			}
		}
	}
}

// P7.5: Make puts together what Split took apart, less the bits above the width;
// of a format that doesn't exist that is 0 too.
func TestMakeOfSplitIsCut(t *testing.T) {
	for f := range 256 {
		f := api.Format(f)
		for _, b := range samples() {
			neg, exp, frac := Split(f, b)
			if got, want := Make(f, neg, exp, frac), Cut(f, b); got != want {
				t.Fatalf("format %d: Make of Split of %x = %x; Cut = %x", f, b, got, want)
			}
		}
	}
}

// P7.5: every encoding of 16 bits.
func TestMakeOfSplitOfAllB16(t *testing.T) {
	for n := range uint64(1 << 16) {
		b := api.Bits{Lo: n}
		neg, exp, frac := Split(api.B16, b)
		if got := Make(api.B16, neg, exp, frac); got != b {
			t.Fatalf("Make of Split of %x = %x, from %v, %d, %x", b, got, neg, exp, frac)
		}
	}
}
