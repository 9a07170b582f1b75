package pack

import (
	"math"
	"math/big"
	"testing"

	"hairsbreadth/api"
	"hairsbreadth/fields"
	"hairsbreadth/shift"
	"hairsbreadth/wide"
)

const (
	all64 = math.MaxUint64
	top   = 1 << 63
)

func ones() api.Wide {
	return api.Wide{all64, all64, all64, all64}
}

func low(n uint64) api.Bits {
	return api.Bits{Lo: n}
}

// beyondRange are exponents above that of every format, up to the greatest int.
func beyondRange() []int {
	return []int{1 << 15, 1 << 16, 1 << 20, 1 << 31, 1 << 32, 1<<40 - 256, 1<<40 - 1, 1 << 40, 1<<40 + 1, 1<<40 + 255, 1 << 41,
		1 << 62, math.MaxInt - 256, math.MaxInt - 255, math.MaxInt - 1, math.MaxInt}
}

// belowRange are exponents below that of every format, down to the least int.
func belowRange() []int {
	return []int{-1 << 15, -1 << 16, -1 << 20, -1 << 31, -1 << 32, -1<<40 + 1, -1 << 40, -1<<40 - 1, -1<<40 - 255, -1 << 41,
		-1 << 62, math.MinInt + 256, math.MinInt + 255, math.MinInt + 254, math.MinInt + 1, math.MinInt}
}

// some are integers with zeros and without zeros at their ends.
func some() []api.Wide {
	return []api.Wide{{1}, {3}, {all64}, {0, 1}, {0, 0, top}, {1, 0, 0, 1}, {0, 0, 0, top}, {1, 0, 0, top}, {all64, 0, all64, all64}, ones()}
}

func checkRound(t *testing.T, f api.Format, v api.Env, neg bool, g given, want api.Result) {
	t.Helper()
	if got := Round(f, v, neg, g.exp, g.sig); got != want {
		t.Fatalf("Round(%d, %v, %v, %d, %x) = %x, want %x", f, v, neg, g.exp, g.sig, got, want)
	}
}

// P16.1: written out, in B16: the results in the modes Near, Away, Up, Down and Zero,
// all with these flags, or those of overflow, with both kinds of tininess.
func TestRoundWritten(t *testing.T) {
	for _, x := range []struct {
		exp   int
		sig   api.Wide
		bits  [5]uint64
		flags api.Flags
	}{
		{0, api.Wide{0, 0, 0, top}, [5]uint64{0x3c00, 0x3c00, 0x3c00, 0x3c00, 0x3c00}, 0},
		{255, api.Wide{3}, [5]uint64{0x4200, 0x4200, 0x4200, 0x4200, 0x4200}, 0},
		{0, api.Wide{0, 0, 0, top | 1<<52}, [5]uint64{0x3c00, 0x3c01, 0x3c01, 0x3c00, 0x3c00}, 16},
		{0, api.Wide{0, 0, 0, top | 3<<52}, [5]uint64{0x3c02, 0x3c02, 0x3c02, 0x3c01, 0x3c01}, 16},
		{0, api.Wide{1, 0, 0, top | 1<<52}, [5]uint64{0x3c01, 0x3c01, 0x3c01, 0x3c00, 0x3c00}, 16},
		{0, api.Wide{1, 0, 0, top}, [5]uint64{0x3c00, 0x3c00, 0x3c01, 0x3c00, 0x3c00}, 16},
		{0, ones(), [5]uint64{0x4000, 0x4000, 0x4000, 0x3fff, 0x3fff}, 16},
		{15, api.Wide{0, 0, 0, 0xffe << 52}, [5]uint64{0x7bff, 0x7bff, 0x7bff, 0x7bff, 0x7bff}, 0},
		{15, api.Wide{1, 0, 0, 0xffe << 52}, [5]uint64{0x7bff, 0x7bff, 0x7c00, 0x7bff, 0x7bff}, 16},
		{-14, api.Wide{0, 0, 0, top}, [5]uint64{0x400, 0x400, 0x400, 0x400, 0x400}, 0},
		{-15, api.Wide{0, 0, 0, top}, [5]uint64{0x200, 0x200, 0x200, 0x200, 0x200}, 0},
		{-15, api.Wide{0, 0, 0, 0xffe << 52}, [5]uint64{0x400, 0x400, 0x400, 0x3ff, 0x3ff}, 24},
		{-24, api.Wide{0, 0, 0, top}, [5]uint64{1, 1, 1, 1, 1}, 0},
		{-24, api.Wide{0, 0, 0, 3 << 62}, [5]uint64{2, 2, 2, 1, 1}, 24},
		{-25, api.Wide{0, 0, 0, top}, [5]uint64{0, 1, 1, 0, 0}, 24},
		{-25, api.Wide{1, 0, 0, top}, [5]uint64{1, 1, 1, 0, 0}, 24},
		{-26, ones(), [5]uint64{0, 0, 1, 0, 0}, 24},
		{-300, api.Wide{0, 0, 0, top}, [5]uint64{0, 0, 1, 0, 0}, 24},
	} {
		for i, m := range modes() {
			want := api.Result{Bits: low(x.bits[i]), Flags: x.flags}
			if x.bits[i] == 0x7c00 {
				want.Flags = 20
			}
			checkRound(t, api.B16, api.Env{Mode: m}, false, given{x.exp, x.sig}, want)
			checkRound(t, api.B16, api.Env{Mode: m, After: true}, false, given{x.exp, x.sig}, want)
		}
	}
}

// P16.1: the numbers made for each format, held against big integers, in every
// mode, with both signs and both kinds of tininess.
func TestRoundAgainstBig(t *testing.T) {
	t.Parallel()
	for _, k := range kinds() {
		for _, g := range k.all() {
			for _, v := range envs() {
				for _, neg := range both() {
					checkRound(t, k.f, v, neg, g, k.want(v, neg, g))
				}
			}
		}
	}
}

// P16.1: in the formats that Go has, the results are those of its own rounding.
func TestRoundAsGoDoes(t *testing.T) {
	for _, g := range kinds()[1].all() {
		x, inexact := goNumber(g).Float32()
		checkAsGo(t, api.B32, g, uint64(math.Float32bits(x)), inexact != big.Exact)
	}
	for _, g := range kinds()[2].all() {
		x, inexact := goNumber(g).Float64()
		checkAsGo(t, api.B64, g, math.Float64bits(x), inexact != big.Exact)
	}
}

func goNumber(g given) *big.Float {
	x := new(big.Float).SetPrec(256).SetInt(bigOf(g.sig))
	return x.SetMantExp(x, g.exp-255)
}

func checkAsGo(t *testing.T, f api.Format, g given, bits uint64, inexact bool) {
	t.Helper()
	r := Round(f, api.Env{}, false, g.exp, g.sig)
	if r.Bits != low(bits) || (r.Flags&api.Inexact != 0) != inexact {
		t.Fatalf("Round(%d, Near, false, %d, %x) = %x, Go has %x, %v", f, g.exp, g.sig, r, bits, inexact)
	}
}

// P16.1: all numbers of B16 that are just between two of the format, and the one
// just beyond the greatest: the encodings are in the order of the numbers, so that
// the next one of b is b + 1.
func TestRoundMiddles(t *testing.T) {
	t.Parallel()
	for b := range uint64(0x7c00) {
		g := middle(b)
		for i, bits := range [5]uint64{b + b&1, b + 1, b + 1, b, b} {
			want := api.Result{Bits: low(bits), Flags: api.Inexact}
			switch {
			case bits == 0x7c00:
				want.Flags |= api.Overflow
			case b < 0x400:
				want.Flags |= api.Underflow
			}
			checkRound(t, api.B16, api.Env{Mode: modes()[i]}, false, g, want)
			checkRound(t, api.B16, api.Env{Mode: modes()[i], After: true}, false, g, want)
		}
	}
}

// middle is the number between the one that b encodes in B16 and the next one.
func middle(b uint64) given {
	field, m := int(b>>10), b&0x3ff
	if field > 0 {
		m |= 0x400
	}
	return given{max(field, 1) - 25 - 1 + 255, api.Wide{2*m + 1}}
}

// P16.1: the number rounded with unbounded exponent decides: the last one that is
// rounded to the greatest number, and the first that would be 2^(emax + 1).
func TestRoundNextToTheGreatest(t *testing.T) {
	for _, k := range kinds() {
		greatest := plus(k.prec, -1)
		unit := k.emax - (k.prec - 1)
		exact, least, below, half, above, last := split(around(greatest, unit))
		finite := api.Result{Bits: bitsOf(new(big.Int).Sub(k.infinity(), big.NewInt(1)))}
		inexact := api.Result{Bits: finite.Bits, Flags: 16}
		over := api.Result{Bits: bitsOf(k.infinity()), Flags: 20}
		for _, after := range both() {
			near, away, up := api.Env{Mode: api.Near, After: after}, api.Env{Mode: api.Away, After: after}, api.Env{Mode: api.Up, After: after}
			down, zero := api.Env{Mode: api.Down, After: after}, api.Env{Mode: api.Zero, After: after}
			for _, v := range []api.Env{near, away, up, down, zero} {
				checkRound(t, k.f, v, false, exact, finite)
			}
			for _, g := range []given{least, below} {
				checkRound(t, k.f, near, false, g, inexact)
				checkRound(t, k.f, away, false, g, inexact)
			}
			for _, g := range []given{half, above, last} {
				checkRound(t, k.f, near, false, g, over)
				checkRound(t, k.f, away, false, g, over)
			}
			for _, g := range []given{least, below, half, above, last} {
				checkRound(t, k.f, up, false, g, over)
				checkRound(t, k.f, down, false, g, inexact)
				checkRound(t, k.f, zero, false, g, inexact)
			}
			// The next number, 2^(emax + 1), overflows in every mode.
			beyond := withExponent(big.NewInt(1), k.emax+1)
			checkRound(t, k.f, up, false, beyond, over)
			checkRound(t, k.f, down, false, beyond, api.Result{Bits: finite.Bits, Flags: 20})
			checkRound(t, k.f, zero, false, beyond, api.Result{Bits: finite.Bits, Flags: 20})
		}
	}
}

// split names the numbers that around returns.
func split(l []given) (exact, least, below, half, above, last given) {
	return l[0], l[1], l[2], l[3], l[4], l[5]
}

// P16.1: what is rounded up to the least normal number is tiny before rounding; it
// is tiny after it only if prec bits are enough to tell the two apart.
func TestRoundNextToTheLeastNormal(t *testing.T) {
	for _, k := range kinds() {
		normal := bitsOf(power(k.prec - 1))
		// Multiples of half of the least subnormal number: the greatest below the
		// least normal number has prec bits.
		exact, least, below, half, above, last := split(around(plus(k.prec, -1), k.lowest()-1))
		for _, m := range []api.Mode{api.Near, api.Away, api.Up} {
			before, after := api.Env{Mode: m}, api.Env{Mode: m, After: true}
			for _, g := range []given{exact, least, below, half, above, last} {
				checkRound(t, k.f, before, false, g, api.Result{Bits: normal, Flags: 24})
			}
			checkRound(t, k.f, after, false, exact, api.Result{Bits: normal, Flags: 24})
			for _, g := range []given{half, above, last} {
				checkRound(t, k.f, after, false, g, api.Result{Bits: normal, Flags: 16})
			}
			flags := api.Flags(24)
			if m == api.Up {
				flags = 16
			}
			for _, g := range []given{least, below} {
				checkRound(t, k.f, after, false, g, api.Result{Bits: normal, Flags: flags})
			}
		}
		for _, after := range both() {
			greatest := api.Result{Bits: bitsOf(plus(k.prec-1, -1)), Flags: 24}
			checkRound(t, k.f, api.Env{Mode: api.Down, After: after}, false, last, greatest)
			checkRound(t, k.f, api.Env{Mode: api.Zero, After: after}, true, last, api.Result{Bits: k.signed(true, greatest.Bits), Flags: 24})
			checkRound(t, k.f, api.Env{After: after}, false, withExponent(big.NewInt(1), k.least()), api.Result{Bits: normal})
		}
	}
}

// P16.1: a zero keeps the sign, that of the integer 0 and those that are rounded to.
func TestRoundToZero(t *testing.T) {
	exponents := append(append(beyondRange(), belowRange()...), -1, 0, 1, 255)
	for _, k := range kinds() {
		for _, v := range envs() {
			for _, neg := range both() {
				zero := k.signed(neg, api.Bits{})
				for _, exp := range exponents {
					checkRound(t, k.f, v, neg, given{exp, api.Wide{}}, api.Result{Bits: zero})
				}
				if v.Mode == api.Near || v.Mode == api.Zero {
					checkRound(t, k.f, v, neg, withExponent(big.NewInt(1), k.lowest()-1), api.Result{Bits: zero, Flags: 24})
				}
			}
		}
	}
}

// P16.1: exponents far out of the range, the least and the greatest int among them.
func TestRoundFarOff(t *testing.T) {
	for _, k := range kinds() {
		for _, v := range envs() {
			for _, neg := range both() {
				for _, sig := range some() {
					for _, exp := range beyondRange() {
						checkRound(t, k.f, v, neg, given{exp, sig}, k.over(v.Mode, neg))
					}
					for _, exp := range belowRange() {
						checkRound(t, k.f, v, neg, given{exp, sig}, k.under(v.Mode, neg))
					}
				}
			}
		}
	}
}

// P16.1, P16.2: formats that don't exist have no numbers, 0 neither.
func TestNoFormat(t *testing.T) {
	exponents := []int{math.MinInt, -1 << 40, -14, 0, 255, 1 << 40, math.MaxInt}
	for f := 4; f <= 255; f++ {
		for _, sig := range append(some(), api.Wide{}) {
			for _, exp := range exponents {
				for _, neg := range both() {
					for _, m := range append(modes(), 5, 6, 128, 255) {
						checkRound(t, api.Format(f), api.Env{Mode: m}, neg, given{exp, sig}, api.Result{})
						checkRound(t, api.Format(f), api.Env{Mode: m, After: true}, neg, given{exp, sig}, api.Result{})
					}
					checkExact(t, api.Format(f), neg, given{exp, sig}, api.Bits{}, false)
				}
			}
		}
	}
}

// P16.1: in modes that don't exist nothing is rounded, what needs no rounding neither.
func TestNoMode(t *testing.T) {
	exponents := []int{math.MinInt, -1 << 40, -14, 0, 255, 1 << 40, math.MaxInt}
	for m := 5; m <= 255; m++ {
		for _, k := range kinds() {
			for _, sig := range append(some(), api.Wide{}) {
				for _, exp := range exponents {
					for _, neg := range both() {
						checkRound(t, k.f, api.Env{Mode: api.Mode(m)}, neg, given{exp, sig}, api.Result{})
						checkRound(t, k.f, api.Env{Mode: api.Mode(m), After: true}, neg, given{exp, sig}, api.Result{})
					}
				}
			}
		}
	}
}

func checkExact(t *testing.T, f api.Format, neg bool, g given, want api.Bits, ok bool) {
	t.Helper()
	if b, is := Exact(f, neg, g.exp, g.sig); b != want || is != ok {
		t.Fatalf("Exact(%d, %v, %d, %x) = %x, %v; want %x, %v", f, neg, g.exp, g.sig, b, is, want, ok)
	}
}

// P16.2: written out, in B16: the ends of the format, and what is just out of it.
func TestExactWritten(t *testing.T) {
	for _, x := range []struct {
		neg  bool
		g    given
		bits uint64
		ok   bool
	}{
		{false, given{255, api.Wide{}}, 0, true},
		{true, given{-1 << 50, api.Wide{}}, 0x8000, true},
		{true, given{255, api.Wide{3}}, 0xc200, true},
		{false, given{0, api.Wide{0, 0, 0, top}}, 0x3c00, true},
		{false, given{255, api.Wide{2047}}, 0x67ff, true},
		{false, given{255, api.Wide{2049}}, 0, false},
		{false, given{255, api.Wide{2050}}, 0x6801, true},
		{false, given{255, api.Wide{65504}}, 0x7bff, true},
		{true, given{255, api.Wide{65520}}, 0, false},
		{false, given{255, api.Wide{65536}}, 0, false},
		{false, given{255 - 24, api.Wide{1}}, 1, true},
		{true, given{255 - 24, api.Wide{1023}}, 0x83ff, true},
		{false, given{255 - 25, api.Wide{1}}, 0, false},
		{false, given{255 - 25, api.Wide{2}}, 1, true},
		{false, given{255 - 25, api.Wide{3}}, 0, false},
		{false, given{255 - 25, api.Wide{2047}}, 0, false},
		{false, given{255 - 25, api.Wide{2048}}, 0x400, true},
		{false, given{0, api.Wide{1, 0, 0, top}}, 0, false},
	} {
		checkExact(t, api.B16, x.neg, x.g, low(x.bits), x.ok)
	}
}

// P16.2: the numbers made for each format, held against big integers.
func TestExactAgainstBig(t *testing.T) {
	for _, k := range kinds() {
		for _, g := range k.all() {
			for _, neg := range both() {
				b, ok := k.wantExact(neg, g)
				checkExact(t, k.f, neg, g, b, ok)
			}
		}
	}
}

// P16.2: zeros below the last bit change nothing: an integer of prec bits is one of
// the format wherever it stands, and one of a bit more is not.
func TestExactShifted(t *testing.T) {
	for _, k := range kinds() {
		for _, e := range []int{k.least(), 0, k.emax} {
			for by := 0; by+k.prec <= 256; by++ {
				for _, q := range k.fractions() {
					want := k.encoding(true, q, e-(k.prec-1))
					checkExact(t, k.f, true, withExponent(new(big.Int).Lsh(q, uint(by)), e), want, true)
				}
			}
			for by := 0; by+k.prec+1 <= 256; by++ {
				for _, q := range []*big.Int{plus(k.prec, 1), plus(k.prec+1, -1)} {
					checkExact(t, k.f, true, withExponent(new(big.Int).Lsh(q, uint(by)), e), api.Bits{}, false)
				}
			}
		}
	}
}

// P16.2: subnormal numbers have as many bits as their exponent leaves them.
func TestExactSubnormal(t *testing.T) {
	for _, k := range kinds() {
		for length := 1; length < k.prec; length++ {
			e := k.lowest() + length - 1
			for _, q := range []*big.Int{power(length - 1), plus(length, -1)} {
				checkExact(t, k.f, false, withExponent(q, e), bitsOf(q), true)
			}
			checkExact(t, k.f, false, withExponent(plus(length, 1), e), api.Bits{}, false)
			checkExact(t, k.f, false, withExponent(plus(length+1, -1), e), api.Bits{}, false)
		}
	}
}

// P16.2: exponents far out of the range, the least and the greatest int among them.
func TestExactFarOff(t *testing.T) {
	for _, k := range kinds() {
		for _, neg := range both() {
			for _, exp := range append(beyondRange(), belowRange()...) {
				for _, sig := range some() {
					checkExact(t, k.f, neg, given{exp, sig}, api.Bits{}, false)
				}
				checkExact(t, k.f, neg, given{exp, api.Wide{}}, k.signed(neg, api.Bits{}), true)
			}
		}
	}
}

// finite are the encodings of finite numbers that are not negative: all of them in
// B16, in the other formats those of the ends and of some exponents between.
func (k kind) finite() []api.Bits {
	var l []api.Bits
	if k.f == api.B16 {
		for b := range uint64(0x7c00) {
			l = append(l, low(b))
		}
		return l
	}
	for field := 0; field <= 2*k.emax; field += 1 + 2*k.emax/200 {
		for _, q := range k.fractions() {
			n := new(big.Int).Lsh(big.NewInt(int64(field)), uint(k.prec-1))
			l = append(l, bitsOf(n.Or(n, q.SetBit(q, k.prec-1, 0))))
		}
	}
	for i := range k.prec {
		l = append(l, bitsOf(power(i)), bitsOf(plus(i, -1)), bitsOf(plus(i, 1)))
		l = append(l, bitsOf(new(big.Int).Sub(k.infinity(), power(i))))
	}
	return l
}

// P16.3: what the format has is rounded to itself without flags, and is exact.
func TestRoundOfTheFormat(t *testing.T) {
	t.Parallel()
	for _, k := range kinds() {
		for _, b := range k.finite() {
			for _, neg := range both() {
				want := k.signed(neg, b)
				n := fields.Unpack(k.f, want)
				g := given{n.Exp, wide.Join(n.Sig, api.Bits{})}
				for _, v := range envs() {
					checkRound(t, k.f, v, n.Neg, g, api.Result{Bits: want})
				}
				checkExact(t, k.f, n.Neg, g, want, true)
			}
		}
	}
}

// jammed are numbers of both ends of the format, with rests of each category, whose
// bit 255 is 1.
func (k kind) jammed() []given {
	var l []given
	for _, e := range k.atEnds() {
		for _, q := range []*big.Int{plus(k.prec-1, 0), plus(k.prec, -1)} {
			l = append(l, around(q, e-(k.prec-1))...)
		}
	}
	return append(l, around(big.NewInt(1), k.lowest())...)
}

// P16.3: jammed to any number of bits that is at least prec + 2, a number is rounded
// to the same.
func TestRoundJammed(t *testing.T) {
	t.Parallel()
	for _, k := range kinds() {
		for i, g := range k.jammed() {
			for _, v := range envs() {
				neg := i%2 == 1
				want := Round(k.f, v, neg, g.exp, g.sig)
				for n := 0; 256-n >= k.prec+2; n++ {
					checkRound(t, k.f, v, neg, given{g.exp + n, shift.WideJam(g.sig, n)}, want)
				}
			}
		}
	}
}

// P16.3: Down and Up answer the number or its neighbors, one on each side.
func TestRoundDownAndUp(t *testing.T) {
	for _, k := range kinds() {
		inf := bitsOf(k.infinity())
		for _, g := range k.all() {
			down := Round(k.f, api.Env{Mode: api.Down}, false, g.exp, g.sig).Bits
			up := Round(k.f, api.Env{Mode: api.Up}, false, g.exp, g.sig).Bits
			under, above := k.compare(g, down), -1 // infinity is above every number
			if up != inf {
				above = k.compare(g, up)
			}
			apart := new(big.Int).Sub(bigBits(up), bigBits(down))
			same := apart.Sign() == 0 && under == 0
			if next := apart.Cmp(big.NewInt(1)) == 0 && under > 0 && above < 0; !same && !next {
				t.Fatalf("format %d: %d, %x, whose order to %x is %d and to %x %d", k.f, g.exp, g.sig, down, under, up, above)
			}
		}
	}
}
