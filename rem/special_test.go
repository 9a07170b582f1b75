package rem

import (
	"testing"

	"hairsbreadth/api"
)

// P23.1, 1: one NaN, in each place: it is returned, quieted, whatever the other operand
// is, an infinity and a zero too; its sign and its payload are kept, and only a
// signaling one sets Invalid.
func TestOneNaN(t *testing.T) {
	for _, k := range kinds() {
		others := k.withSigns(append(k.numbers(), k.infinity()))
		for _, n := range k.nans() {
			want := api.Result{Bits: k.quieted(n)}
			if k.isSignaling(n) {
				want.Flags = api.Invalid
			}
			for _, x := range others {
				check(t, k.f, n, x, want)
				check(t, k.f, x, n, want)
			}
		}
	}
}

// P23.1, 1: two NaNs: the first one is returned, and either may set Invalid.
func TestTwoNaNs(t *testing.T) {
	for _, k := range kinds() {
		for _, a := range k.nans() {
			for _, b := range k.nans() {
				want := api.Result{Bits: k.quieted(a)}
				if k.isSignaling(a) || k.isSignaling(b) {
					want.Flags = api.Invalid
				}
				check(t, k.f, a, b, want)
			}
		}
	}
}

// checkInvalid holds Rem of two operands, with all signs, against the default NaN, of
// the sign 0, and Invalid.
func checkInvalid(t *testing.T, k kind, a, b api.Bits) {
	t.Helper()
	for _, x := range k.withSigns([]api.Bits{a}) {
		for _, y := range k.withSigns([]api.Bits{b}) {
			check(t, k.f, x, y, api.Result{Bits: k.standard(), Flags: api.Invalid})
		}
	}
}

// P23.1, 2: a is an infinity, with numbers, zeros and infinities.
func TestOfInfinity(t *testing.T) {
	for _, k := range kinds() {
		for _, b := range append(k.numbers(), k.infinity()) {
			checkInvalid(t, k, k.infinity(), b)
		}
	}
}

// P23.1, 2: b is a zero, with numbers, zeros and infinities: no DivZero.
func TestByZero(t *testing.T) {
	for _, k := range kinds() {
		for _, a := range append(k.numbers(), k.infinity()) {
			checkInvalid(t, k, a, api.Bits{})
		}
	}
}

// P23.1, 3: b is an infinity: a itself, without flags, also a zero and a subnormal one.
func TestByInfinity(t *testing.T) {
	for _, k := range kinds() {
		for _, a := range append(k.finite(), k.numbers()...) {
			checkSigns(t, k, a, k.infinity(), a, false)
		}
	}
}

// P23.1, 4: a is a zero: a itself, whatever the exponent of b is.
func TestOfZero(t *testing.T) {
	for _, k := range kinds() {
		for _, b := range append(k.finite(), k.numbers()[1:]...) {
			checkSigns(t, k, api.Bits{}, b, api.Bits{}, false)
		}
	}
}

// P23.1: bits above the width are ignored in both operands, and 0 in the result.
func TestBitsAbove(t *testing.T) {
	inParallel(t, func(t *testing.T, k kind) {
		for _, a := range k.edges() {
			for _, b := range k.edges() {
				checkAbove(t, k, a, b)
			}
		}
	})
}

func checkAbove(t *testing.T, k kind, a, b api.Bits) {
	t.Helper()
	want := k.want(a, b)
	l, m := k.above(a), k.above(b)
	for i := range l[1:] {
		check(t, k.f, l[1+i], b, want)
		check(t, k.f, a, m[1+i], want)
		check(t, k.f, l[1+i], m[len(m)-1-i], want)
	}
}

// operands are encodings of all classes in some of the formats, whatever they are in others.
func operands() []api.Bits {
	l := []api.Bits{{}, low(1), low(0x3c00), low(0x8000), low(0x7bff), low(0x7c00), low(0xfc00), low(0x7c01), low(0x7e00), low(0x7f800001)}
	return append(l, low(1<<63), low(all64), api.Bits{Hi: 1 << 63}, api.Bits{Hi: 0x7fff << 48}, api.Bits{Hi: 0x7fff << 48, Lo: 1}, api.Bits{Hi: all64, Lo: all64})
}

// P23.1: a format that doesn't exist: the zero value.
func TestNoFormat(t *testing.T) {
	for f := 4; f <= 255; f++ {
		for _, a := range operands() {
			for _, b := range operands() {
				check(t, api.Format(f), a, b, api.Result{})
			}
		}
	}
}
