package rint

import (
	"testing"

	"hairsbreadth/api"
)

// checkAlways holds Rint of a against the same result in every mode, exactly true and
// false.
func checkAlways(t *testing.T, k kind, a api.Bits, want api.Result) {
	t.Helper()
	for _, m := range modes() {
		for _, exactly := range both() {
			check(t, k.f, m, exactly, a, want)
		}
	}
}

// P24.1, 1: a quiet NaN: it is returned as it is, its sign and its payload kept, and no
// flag is set.
func TestQuietNaN(t *testing.T) {
	for _, k := range kinds() {
		for _, b := range k.withSigns(k.quiet()) {
			checkAlways(t, k, b, api.Result{Bits: b})
		}
	}
}

// P24.1, 1: a signaling NaN: it is returned, quieted, its sign and the rest of its
// payload kept, with Invalid and no other flag.
func TestSignalingNaN(t *testing.T) {
	for _, k := range kinds() {
		for _, b := range k.withSigns(k.signaling()) {
			checkAlways(t, k, b, api.Result{Bits: k.quieted(b), Flags: api.Invalid})
		}
	}
}

// P24.1, 1: all NaNs of B16.
func TestNaNsOfB16(t *testing.T) {
	k := kinds()[0]
	for b := uint64(0x7c01); b < 0x8000; b++ {
		want := api.Result{Bits: low(b | 0x200)}
		if b < 0x7e00 {
			want.Flags = api.Invalid
		}
		checkAlways(t, k, low(b), want)
		want.Bits.Lo |= 0x8000
		checkAlways(t, k, low(b|0x8000), want)
	}
}

// P24.1, 2: infinities and zeros of either sign: the operand, without flags.
func TestItself(t *testing.T) {
	for _, k := range kinds() {
		for _, b := range k.withSigns([]api.Bits{{}, k.infinity()}) {
			checkAlways(t, k, b, api.Result{Bits: b})
		}
	}
}

// P24.1, 3: a result that is a zero has the sign of the operand, and sets Inexact if
// exactly is true, not Underflow, of subnormal operands neither.
func TestZeroResults(t *testing.T) {
	inParallel(t, func(t *testing.T, k kind) {
		minus := k.turned(api.Bits{})
		for _, b := range append(k.finite(), k.numbers()[1:]...) {
			if bigOf(b).Cmp(bigOf(k.one())) >= 0 {
				continue
			}
			for _, m := range []api.Mode{api.Down, api.Zero} {
				checkTo(t, k, m, b, api.Bits{}, true)
			}
			for _, m := range []api.Mode{api.Up, api.Zero} {
				checkTo(t, k, m, k.turned(b), minus, true)
			}
			if bigOf(b).Cmp(bigOf(k.two(-1))) <= 0 {
				checkTo(t, k, api.Near, b, api.Bits{}, true)
				checkTo(t, k, api.Near, k.turned(b), minus, true)
			}
		}
	})
}

// P24.1: bits above the width are ignored in the operand, and 0 in the result, that of
// a zero, of an infinity and of a NaN too.
func TestBitsAbove(t *testing.T) {
	inParallel(t, func(t *testing.T, k kind) {
		for _, a := range k.edges() {
			for _, m := range modes() {
				for _, exactly := range both() {
					want := k.want(m, exactly, a)
					if k.cut(want.Bits).Cmp(bigOf(want.Bits)) != 0 {
						t.Fatalf("%d: %x has bits above the width", k.f, want)
					}
					for _, b := range k.above(a) {
						check(t, k.f, m, exactly, b, want)
					}
				}
			}
		}
	})
}

// operands are encodings of all classes in some of the formats, whatever they are in others.
func operands() []api.Bits {
	l := []api.Bits{{}, low(1), low(0x3800), low(0x3c00), low(0x4100), low(0x8000), low(0xbc00), low(0x7bff), low(0x7c00), low(0xfc00), low(0x7c01), low(0x7e00), low(0x7f800001)}
	return append(l, low(1<<63), low(all64), api.Bits{Hi: 1 << 63}, api.Bits{Hi: 0x7fff << 48}, api.Bits{Hi: 0x7fff << 48, Lo: 1}, api.Bits{Hi: all64, Lo: all64})
}

// P24.1: a format that doesn't exist: the zero value, in every mode.
func TestNoFormat(t *testing.T) {
	for f := 4; f <= 255; f++ {
		for _, a := range operands() {
			for _, m := range append(modes(), 5, 255) {
				for _, exactly := range both() {
					check(t, api.Format(f), m, exactly, a, api.Result{})
				}
			}
		}
	}
}

// P24.1: a mode that doesn't exist: the zero value, for NaNs, zeros, infinities and
// integers too.
func TestNoMode(t *testing.T) {
	for m := 5; m <= 255; m++ {
		for _, k := range kinds() {
			for _, exactly := range both() {
				for _, a := range append(k.edges(), operands()...) {
					check(t, k.f, api.Mode(m), exactly, a, api.Result{})
				}
			}
		}
	}
}
