package sqrt

import (
	"testing"

	"hairsbreadth/api"
)

// checkAlways holds Sqrt of a against the same result in every environment.
func checkAlways(t *testing.T, k kind, a api.Bits, want api.Result) {
	t.Helper()
	for _, v := range envs() {
		check(t, k.f, v, a, want)
	}
}

// P22.1, 1: a quiet NaN: it is returned as it is, its sign and its payload kept, and no
// flag is set, for a negative one neither.
func TestQuietNaN(t *testing.T) {
	for _, k := range kinds() {
		for _, b := range k.withSigns(k.quiet()) {
			checkAlways(t, k, b, api.Result{Bits: b})
		}
	}
}

// P22.1, 1: a signaling NaN: it is returned, quieted, its sign and the rest of its
// payload kept, with Invalid.
func TestSignalingNaN(t *testing.T) {
	for _, k := range kinds() {
		for _, b := range k.withSigns(k.signaling()) {
			checkAlways(t, k, b, api.Result{Bits: k.quieted(b), Flags: api.Invalid})
		}
	}
}

// P22.1, 1: all NaNs of B16.
func TestNaNsOfB16(t *testing.T) {
	k := kinds()[0]
	for b := uint64(0x7c01); b < 0x8000; b++ {
		want := api.Result{Bits: low(b | 0x200)}
		if b < 0x7e00 {
			want.Flags = api.Invalid
		}
		checkAlways(t, k, low(b), want)
		want.Bits.Lo |= 0x8000
		checkAlways(t, k, low(b|0x8000), want)
	}
}

// P22.1, 1: negative numbers, subnormal and normal, squares with the sign 1 and others,
// and the negative infinity: the default NaN, of the sign 0, and no flag but Invalid.
func TestNegative(t *testing.T) {
	inParallel(t, func(t *testing.T, k kind) {
		invalid := api.Result{Bits: k.standard(), Flags: api.Invalid}
		for _, b := range append(k.finite(), k.infinity(), k.two(2), k.two(k.least())) {
			checkAlways(t, k, k.turned(b), invalid)
		}
		for _, b := range k.numbers()[1:] {
			checkAlways(t, k, k.turned(b), invalid)
		}
	})
}

// P22.1, 2: a zero of either sign and the positive infinity: the operand, without flags,
// in every mode, so that the root of -0 is -0, and in the mode Down that of 0 is 0.
func TestItself(t *testing.T) {
	for _, k := range kinds() {
		for _, b := range []api.Bits{{}, k.turned(api.Bits{}), k.infinity()} {
			checkAlways(t, k, b, api.Result{Bits: b})
		}
	}
}

// P22.1: bits above the width are ignored in the operand, and 0 in the result, that of
// a zero, of an infinity and of a NaN too.
func TestBitsAbove(t *testing.T) {
	inParallel(t, func(t *testing.T, k kind) {
		for _, a := range k.edges() {
			for _, v := range envs() {
				want := k.want(v, a)
				if k.cut(want.Bits).Cmp(bigOf(want.Bits)) != 0 {
					t.Fatalf("%d: %x has bits above the width", k.f, want)
				}
				for _, b := range k.above(a) {
					check(t, k.f, v, b, want)
				}
			}
		}
	})
}

// operands are encodings of all classes in some of the formats, whatever they are in others.
func operands() []api.Bits {
	l := []api.Bits{{}, low(1), low(0x3c00), low(0x4400), low(0x8000), low(0xbc00), low(0x7bff), low(0x7c00), low(0xfc00), low(0x7c01), low(0x7e00), low(0x7f800001)}
	return append(l, low(1<<63), low(all64), api.Bits{Hi: 1 << 63}, api.Bits{Hi: 0x7fff << 48}, api.Bits{Hi: 0x7fff << 48, Lo: 1}, api.Bits{Hi: all64, Lo: all64})
}

// P22.1: a format that doesn't exist: the zero value, in every mode.
func TestNoFormat(t *testing.T) {
	for f := 4; f <= 255; f++ {
		for _, a := range operands() {
			for _, m := range append(modes(), 5, 255) {
				for _, after := range both() {
					check(t, api.Format(f), api.Env{Mode: m, After: after}, a, api.Result{})
				}
			}
		}
	}
}

// P22.1: a mode that doesn't exist: the zero value, for NaNs, negative numbers, zeros,
// infinities and exact roots too.
func TestNoMode(t *testing.T) {
	for m := 5; m <= 255; m++ {
		for _, k := range kinds() {
			for _, after := range both() {
				for _, a := range append(k.edges(), operands()...) {
					check(t, k.f, api.Env{Mode: api.Mode(m), After: after}, a, api.Result{})
				}
			}
		}
	}
}
