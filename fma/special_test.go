package fma

import (
	"testing"

	"hairsbreadth/api"
)

// others are operands that are no NaNs: zeros, numbers and infinities of both signs.
func (k kind) others() []api.Bits {
	return k.withSigns([]api.Bits{{}, low(1), k.one(), k.greatest(), k.infinity()})
}

// infinities are those of both signs.
func (k kind) infinities() []api.Bits {
	return k.withSigns([]api.Bits{k.infinity()})
}

// handed is the result that is the NaN n, quieted, with or without Invalid.
func (k kind) handed(n api.Bits, invalid bool) api.Result {
	r := api.Result{Bits: k.quieted(n)}
	if invalid {
		r.Flags = api.Invalid
	}
	return r
}

// P20.1: one NaN, in each of the three places: it is returned, quieted, whatever the
// other operands are; its sign and its payload are kept, and only a signaling one sets
// Invalid, or a zero and an infinity as the factors beside it.
func TestOneNaN(t *testing.T) {
	for _, k := range kinds() {
		for _, n := range k.nans() {
			signaling := k.isSignaling(n)
			for _, p := range k.others() {
				for _, q := range k.others() {
					bad := k.isZero(p) && k.isInfinite(q) || k.isInfinite(p) && k.isZero(q)
					for _, v := range envs() {
						check(t, k.f, v, n, p, q, k.handed(n, signaling))
						check(t, k.f, v, p, n, q, k.handed(n, signaling))
						check(t, k.f, v, p, q, n, k.handed(n, signaling || bad))
					}
				}
			}
		}
	}
}

// P20.1: two NaNs, in each two of the three places: the first one is returned, and each
// may set Invalid.
func TestTwoNaNs(t *testing.T) {
	for _, k := range kinds() {
		for _, m := range k.nans() {
			for _, n := range k.nans() {
				want := k.handed(m, k.isSignaling(m) || k.isSignaling(n))
				for _, x := range k.others() {
					for _, mode := range modes() {
						v := api.Env{Mode: mode, After: k.isZero(x)}
						check(t, k.f, v, m, n, x, want)
						check(t, k.f, v, m, x, n, want)
						check(t, k.f, v, x, m, n, want)
					}
				}
			}
		}
	}
}

// P20.1: three NaNs.
func TestThreeNaNs(t *testing.T) {
	for _, k := range kinds() {
		for i, a := range k.nans() {
			for _, b := range k.nans() {
				for _, c := range k.nans() {
					want := k.handed(a, k.isSignaling(a) || k.isSignaling(b) || k.isSignaling(c))
					check(t, k.f, envs()[i%10], a, b, c, want)
				}
			}
		}
	}
}

// P20.1: a zero and an infinity as factors, in each order, with each kind of third
// operand: the default NaN, of the sign 0 for all signs, or the third operand if it is
// a NaN; it is invalid in any case, beside a quiet NaN too.
func TestZeroAndInfinity(t *testing.T) {
	for _, k := range kinds() {
		for _, zero := range k.withSigns([]api.Bits{{}}) {
			for _, inf := range k.infinities() {
				for _, v := range envs() {
					for _, c := range k.withSigns(append(k.numbers(), k.infinity())) {
						checkOrders(t, k.f, v, zero, inf, c, k.handed(k.standard(), true))
					}
					for _, c := range k.nans() {
						checkOrders(t, k.f, v, zero, inf, c, k.handed(c, true))
					}
				}
			}
		}
	}
}

// P20.1: a product that is infinite, with a number or an infinity of its sign: that
// infinity, without flags; with an infinity of the other sign: the default NaN.
func TestInfiniteProduct(t *testing.T) {
	for _, k := range kinds() {
		inf := k.infinity()
		for _, a := range k.infinities() {
			for _, b := range k.withSigns([]api.Bits{low(1), k.two(k.least()), k.one(), k.greatest(), inf}) {
				neg := k.negative(a) != k.negative(b)
				want := api.Result{Bits: k.signed(neg, inf)}
				for _, v := range envs() {
					for _, c := range k.withSigns(k.numbers()) {
						checkOrders(t, k.f, v, a, b, c, want)
					}
					checkOrders(t, k.f, v, a, b, want.Bits, want)
					checkOrders(t, k.f, v, a, b, k.turned(want.Bits), k.handed(k.standard(), true))
				}
			}
		}
	}
}

// P20.1: a NaN beside infinities of opposite signs: it is returned, and they are not
// invalid, wherever it is.
func TestNaNAmongInfinities(t *testing.T) {
	for _, k := range kinds() {
		for _, n := range k.nans() {
			want := k.handed(n, k.isSignaling(n))
			for _, p := range k.infinities() {
				for _, q := range k.infinities() {
					for _, v := range envs() {
						checkOrders(t, k.f, v, n, p, q, want)
						check(t, k.f, v, p, q, n, want)
					}
				}
			}
		}
	}
}

// P20.1: an infinity as the third operand alone: it is returned, without flags, for
// products that are zeros, numbers or beyond the format.
func TestInfiniteThird(t *testing.T) {
	for _, k := range kinds() {
		for _, c := range k.infinities() {
			for _, a := range k.withSigns(k.numbers()) {
				for _, b := range k.withSigns([]api.Bits{{}, low(1), k.one(), k.greatest()}) {
					for _, v := range envs() {
						check(t, k.f, v, a, b, c, api.Result{Bits: c})
					}
				}
			}
		}
	}
}

// P20.1: products that are zeros, with zeros: of equal signs that one, of opposite signs
// the one that the mode asks; and with numbers these themselves. There are no flags.
func TestZeroProduct(t *testing.T) {
	for _, k := range kinds() {
		for _, a := range k.withSigns([]api.Bits{{}}) {
			for _, b := range k.withSigns(k.numbers()) {
				neg := k.negative(a) != k.negative(b)
				for _, v := range envs() {
					zero := api.Result{Bits: k.signed(neg, api.Bits{})}
					checkOrders(t, k.f, v, a, b, zero.Bits, zero)
					zero.Bits = k.signed(v.Mode == api.Down, api.Bits{})
					checkOrders(t, k.f, v, a, b, k.signed(!neg, api.Bits{}), zero)
					for _, c := range k.withSigns(k.numbers()[1:]) {
						check(t, k.f, v, a, b, c, api.Result{Bits: c})
					}
				}
			}
		}
	}
}

// P20.1: the product of a number and 1, with that number of the other sign: an exact sum
// of 0, of the sign that the mode asks.
func TestExactZero(t *testing.T) {
	for _, k := range kinds() {
		for _, v := range envs() {
			zero := api.Result{Bits: k.signed(v.Mode == api.Down, api.Bits{})}
			for _, b := range k.withSigns(k.numbers()[1:]) {
				checkOrders(t, k.f, v, b, k.one(), k.turned(b), zero)
				checkOrders(t, k.f, v, b, k.turned(k.one()), b, zero)
			}
		}
	}
}

// P20.1: bits above the width are ignored in all operands, and 0 in the result.
func TestBitsAbove(t *testing.T) {
	inParallel(t, func(t *testing.T, k kind) {
		l := append(k.others(), k.nans()...)
		for i, a := range l {
			for j, b := range l {
				for n, c := range l {
					checkAbove(t, k, envs()[(i+j+n)%10], a, b, c)
				}
			}
		}
	})
}

func checkAbove(t *testing.T, k kind, v api.Env, a, b, c api.Bits) {
	t.Helper()
	want := k.want(v, a, b, c)
	l, m, n := k.above(a), k.above(b), k.above(c)
	for i := range l {
		check(t, k.f, v, l[i], b, c, want)
		check(t, k.f, v, a, m[i], c, want)
		check(t, k.f, v, a, b, n[i], want)
		check(t, k.f, v, l[i], m[len(m)-1-i], n[i/2], want)
	}
}

// operands are encodings of all classes in some of the formats, whatever they are in others.
func operands() []api.Bits {
	l := []api.Bits{{}, low(1), low(0x3c00), low(0x8000), low(0x7bff), low(0x7c00), low(0xfc00), low(0x7c01), low(0x7e00), low(0x7f800001)}
	return append(l, low(1<<63), low(all64), api.Bits{Hi: 0x7fff << 48}, api.Bits{Hi: 0x7fff << 48, Lo: 1}, api.Bits{Hi: all64, Lo: all64})
}

// P20.1: a format that doesn't exist: the zero value, in every mode.
func TestNoFormat(t *testing.T) {
	for f := 4; f <= 255; f++ {
		for i, a := range operands() {
			for j, b := range operands() {
				for _, c := range operands() {
					m := append(modes(), 5, 255)[(f+i+j)%7]
					check(t, api.Format(f), api.Env{Mode: m, After: f%2 == 0}, a, b, c, api.Result{})
				}
			}
		}
	}
}

// P20.1: a mode that doesn't exist: the zero value, for NaNs, invalid operations,
// infinities and exact sums too.
func TestNoMode(t *testing.T) {
	for m := 5; m <= 255; m++ {
		for _, k := range kinds() {
			v := api.Env{Mode: api.Mode(m), After: m%2 == 0}
			l := []api.Bits{{}, low(1), k.one(), k.turned(k.one()), k.greatest(), k.infinity(), k.standard(), next(k.infinity())}
			for _, a := range l {
				for _, b := range l[1:6] {
					for _, c := range append(l, k.turned(k.infinity())) {
						check(t, k.f, v, a, b, c, api.Result{})
					}
				}
			}
		}
	}
}
