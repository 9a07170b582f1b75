package div

import (
	"testing"

	"hairsbreadth/api"
)

// checkSpecial holds Div of operands of the sign 0, with all signs and in every
// environment, against a result that is negative if and only if these differ.
func checkSpecial(t *testing.T, k kind, a, b api.Bits, want api.Result) {
	t.Helper()
	for _, v := range envs() {
		for _, p := range both() {
			for _, q := range both() {
				r := api.Result{Bits: k.signed(p != q, want.Bits), Flags: want.Flags}
				check(t, k.f, v, k.signed(p, a), k.signed(q, b), r)
			}
		}
	}
}

// P21.1, 1: one NaN, in each place: it is returned, quieted, whatever the other operand
// is, a zero and an infinity too; its sign and its payload are kept, and only a
// signaling one sets Invalid.
func TestOneNaN(t *testing.T) {
	for _, k := range kinds() {
		others := k.withSigns(append(k.numbers(), k.infinity()))
		for _, n := range k.nans() {
			want := api.Result{Bits: k.quieted(n)}
			if k.isSignaling(n) {
				want.Flags = api.Invalid
			}
			for _, v := range envs() {
				for _, x := range others {
					check(t, k.f, v, n, x, want)
					check(t, k.f, v, x, n, want)
				}
			}
		}
	}
}

// P21.1, 1: two NaNs: the first one is returned, and either may set Invalid.
func TestTwoNaNs(t *testing.T) {
	for _, k := range kinds() {
		for _, a := range k.nans() {
			for _, b := range k.nans() {
				want := api.Result{Bits: k.quieted(a)}
				if k.isSignaling(a) || k.isSignaling(b) {
					want.Flags = api.Invalid
				}
				for _, v := range envs() {
					check(t, k.f, v, a, b, want)
				}
			}
		}
	}
}

// P21.1, 1: two infinities and two zeros: the default NaN, of the sign 0 for all signs,
// and no flag but Invalid.
func TestInvalid(t *testing.T) {
	for _, k := range kinds() {
		invalid := api.Result{Bits: k.standard(), Flags: api.Invalid}
		for _, b := range []api.Bits{{}, k.infinity()} {
			for _, v := range envs() {
				for _, x := range k.withSigns([]api.Bits{b}) {
					for _, y := range k.withSigns([]api.Bits{b}) {
						check(t, k.f, v, x, y, invalid)
					}
				}
			}
		}
	}
}

// P21.1, 2: an infinity by numbers and by zeros: an infinity, without flags, so that an
// infinity by a zero is no division by zero.
func TestInfinityBy(t *testing.T) {
	for _, k := range kinds() {
		for _, b := range k.numbers() {
			checkSpecial(t, k, k.infinity(), b, api.Result{Bits: k.infinity()})
		}
	}
}

// P21.1, 3: numbers and zeros by an infinity: a zero, without flags, in every mode.
func TestByInfinity(t *testing.T) {
	for _, k := range kinds() {
		for _, a := range k.numbers() {
			checkSpecial(t, k, a, k.infinity(), api.Result{})
		}
	}
}

// P21.1, 3: a zero by numbers: a zero, without flags, in every mode.
func TestZeroBy(t *testing.T) {
	for _, k := range kinds() {
		for _, b := range k.numbers()[1:] {
			checkSpecial(t, k, api.Bits{}, b, api.Result{})
		}
	}
}

// P21.1, 4: numbers by a zero: an infinity in every mode, with DivZero and no other flag.
func TestByZero(t *testing.T) {
	for _, k := range kinds() {
		for _, a := range k.numbers()[1:] {
			checkSpecial(t, k, a, api.Bits{}, api.Result{Bits: k.infinity(), Flags: api.DivZero})
		}
	}
}

// P21.1: bits above the width are ignored in both operands, and 0 in the result.
func TestBitsAbove(t *testing.T) {
	inParallel(t, func(t *testing.T, k kind) {
		for i, a := range k.edges() {
			for j, b := range k.edges() {
				checkAbove(t, k, envs()[(i+j)%10], a, b)
			}
		}
	})
}

func checkAbove(t *testing.T, k kind, v api.Env, a, b api.Bits) {
	t.Helper()
	want := k.want(v, a, b)
	l, m := k.above(a), k.above(b)
	for i := range l {
		check(t, k.f, v, l[i], b, want)
		check(t, k.f, v, a, m[i], want)
		check(t, k.f, v, l[i], m[len(m)-1-i], want)
	}
	check(t, k.f, v, l[len(l)-1], m[len(m)-1], want)
}

// operands are encodings of all classes in some of the formats, whatever they are in others.
func operands() []api.Bits {
	l := []api.Bits{{}, low(1), low(0x3c00), low(0x8000), low(0x7bff), low(0x7c00), low(0xfc00), low(0x7c01), low(0x7e00), low(0x7f800001)}
	return append(l, low(1<<63), low(all64), api.Bits{Hi: 1 << 63}, api.Bits{Hi: 0x7fff << 48}, api.Bits{Hi: 0x7fff << 48, Lo: 1}, api.Bits{Hi: all64, Lo: all64})
}

// P21.1: a format that doesn't exist: the zero value, in every mode.
func TestNoFormat(t *testing.T) {
	for f := 4; f <= 255; f++ {
		for _, a := range operands() {
			for _, b := range operands() {
				for _, m := range append(modes(), 5, 255) {
					check(t, api.Format(f), api.Env{Mode: m, After: f%2 == 0}, a, b, api.Result{})
				}
			}
		}
	}
}

// P21.1: a mode that doesn't exist: the zero value, for NaNs, invalid operations,
// divisions by zero, infinities and exact quotients too.
func TestNoMode(t *testing.T) {
	for m := 5; m <= 255; m++ {
		for _, k := range kinds() {
			v := api.Env{Mode: api.Mode(m), After: m%2 == 0}
			l := []api.Bits{{}, low(1), k.one(), k.turned(k.one()), k.greatest(), k.infinity(), k.turned(k.infinity()), k.standard(), next(k.infinity())}
			for _, a := range l {
				for _, b := range l {
					check(t, k.f, v, a, b, api.Result{})
				}
			}
		}
	}
}
