package mag

import (
	"math"
	"math/big"
	"testing"

	"hairsbreadth/api"
	"hairsbreadth/fields"
)

func checkCmp(t *testing.T, a, b Term, want int) {
	t.Helper()
	if got := Cmp(a, b); got != want {
		t.Fatalf("Cmp(%d %x, %d %x) = %d, want %d", a.Exp, a.Sig, b.Exp, b.Sig, got, want)
	}
}

func checkSum(t *testing.T, a, b, want Term) {
	t.Helper()
	if got := Sum(a, b); got != want {
		t.Fatalf("Sum(%d %x, %d %x) = %d %x, want %d %x", a.Exp, a.Sig, b.Exp, b.Sig, got.Exp, got.Sig, want.Exp, want.Sig)
	}
}

func checkDiff(t *testing.T, a, b, want Term, above bool) {
	t.Helper()
	if got, turned := Diff(a, b); got != want || turned != above {
		t.Fatalf("Diff(%d %x, %d %x) = %d %x, %v, want %d %x, %v",
			a.Exp, a.Sig, b.Exp, b.Sig, got.Exp, got.Sig, turned, want.Exp, want.Sig, above)
	}
}

// checkCmpBig holds Cmp against big integers.
func checkCmpBig(t *testing.T) func(a, b Term) {
	return func(a, b Term) {
		t.Helper()
		checkCmp(t, a, b, wantCmp(a, b))
	}
}

// checkBoth holds Sum and Diff against big integers.
func checkBoth(t *testing.T) func(a, b Term) {
	return func(a, b Term) {
		t.Helper()
		exp, n := wantSum(a, b)
		if n.BitLen() > 256 {
			t.Fatalf("the sum of %d %x and %d %x has %d bits", a.Exp, a.Sig, b.Exp, b.Sig, n.BitLen())
		}
		checkSum(t, a, b, Term{exp, wideOf(n)})
		exp, n, above := wantDiff(a, b)
		checkDiff(t, a, b, Term{exp, wideOf(n)}, above)
	}
}

// P17.1: the upper half is Sig and the lower one 0, whatever the sign and the class are.
func TestOf(t *testing.T) {
	for _, class := range []api.Class{api.ClZero, api.ClSub, api.ClNormal, api.ClInf, api.ClQuiet, api.ClSignal, api.ClSignal + 1, 255} {
		for _, exp := range extremes() {
			for _, sig := range []api.Bits{{}, {Lo: 1}, {Hi: top}, {Hi: top, Lo: 1}, {Hi: 1}, {Lo: top}, {Hi: all64, Lo: all64}, {Hi: 2, Lo: 3}} {
				for _, neg := range []bool{false, true} {
					n := api.Num{Neg: neg, Class: class, Exp: exp, Sig: sig}
					want := Term{exp, api.Wide{0, 0, sig.Lo, sig.Hi}}
					if got := Of(n); got != want {
						t.Fatalf("Of(%v) = %d %x, want %d %x", n, got.Exp, got.Sig, want.Exp, want.Sig)
					}
				}
			}
		}
	}
}

// P17.1: the numbers that encodings have.
func TestOfEncodings(t *testing.T) {
	for _, x := range []struct {
		bits uint64
		want Term
	}{
		{0x0000, Term{}},
		{0x8000, Term{}},
		{0x0001, Term{-24, highest()}},
		{0x8003, Term{-23, api.Wide{3: 3 << 62}}},
		{0x3c00, Term{0, highest()}},
		{0xbc01, Term{0, api.Wide{3: top + 1<<53}}},
		{0x7bff, Term{15, api.Wide{3: 0xffe << 52}}},
		{0x7c00, Term{}},
		{0xfc00, Term{}},
		{0x7e01, Term{}},
		{0x7c01, Term{}},
	} {
		if got := Of(fields.Unpack(api.B16, api.Bits{Lo: x.bits})); got != x.want {
			t.Errorf("Of(%x) = %d %x, want %d %x", x.bits, got.Exp, got.Sig, x.want.Exp, x.want.Sig)
		}
	}
}

// P17.2: written out.
func TestCmpWritten(t *testing.T) {
	for _, x := range []struct {
		a, b Term
		want int
	}{
		{Term{}, Term{}, 0},
		{Term{0, highest()}, Term{0, highest()}, 0},
		{Term{0, highest()}, Term{1, highest()}, -1},
		{Term{1, api.Wide{1}}, Term{0, api.Wide{2}}, 0},
		{Term{1, api.Wide{1}}, Term{0, api.Wide{3}}, -1},
		{Term{1, api.Wide{1}}, Term{0, api.Wide{1}}, 1},
		{Term{255, api.Wide{1}}, Term{0, highest()}, 0},
		{Term{255, api.Wide{1}}, Term{0, api.Wide{1, 0, 0, top}}, -1},
		{Term{255, api.Wide{1}}, Term{0, api.Wide{all64, all64, all64, top - 1}}, 1},
		{Term{255, api.Wide{1}}, Term{0, ones()}, -1},
		{Term{256, api.Wide{1}}, Term{0, ones()}, 1},
		{Term{1 << 50, api.Wide{1}}, Term{0, ones()}, 1},
		{Term{5, api.Wide{}}, Term{-300, api.Wide{1}}, -1},
		{Term{5, api.Wide{}}, Term{300, api.Wide{}}, 0},
	} {
		checkCmp(t, x.a, x.b, x.want)
		checkCmp(t, x.b, x.a, -x.want)
	}
}

// P17.2: the same magnitude with all the exponents that it can have, and what it
// becomes if the lowest bit of one of the terms is another.
func TestCmpOfEqual(t *testing.T) {
	for _, s := range sigs() {
		n := bigOf(s)
		for by := range int(n.TrailingZeroBits()) + 1 {
			upper := Term{by - 9, wideOf(new(big.Int).Rsh(n, uint(by)))}
			lower := Term{-9, s}
			checkCmp(t, upper, lower, 0)
			checkCmp(t, lower, upper, 0)
			checkNextTo(t, upper, lower)
			checkNextTo(t, lower, upper)
		}
	}
}

// checkNextTo changes the lowest bit of a, which is as great as b.
func checkNextTo(t *testing.T, a, b Term) {
	t.Helper()
	order := 1
	if a.Sig[0]%2 == 1 {
		order = -1
	}
	a.Sig[0] ^= 1
	checkCmp(t, a, b, order)
	checkCmp(t, b, a, -order)
}

// P17.2: held against big integers: Sigs of all kinds and a 0 among them, exponents
// near and far.
func TestCmpAgainstBig(t *testing.T) {
	apart(append(sigs(), api.Wide{}), checkCmpBig(t))
	falling(uppers(), 0, checkCmpBig(t))
}

// P17.2: the greater exponent has the smaller magnitude, up to the width and not beyond.
func TestCmpGreaterExponent(t *testing.T) {
	for by := 1; by <= 255; by++ {
		upper := Term{by, api.Wide{1}}
		for _, n := range []*big.Int{plus(by, 1), new(big.Int).Sub(power(256), big.NewInt(1))} {
			checkCmp(t, upper, Term{0, wideOf(n)}, -1)
			checkCmp(t, Term{0, wideOf(n)}, upper, 1)
		}
	}
	for _, by := range []int{256, 257, 300, 1 << 20, 1 << 40, 1 << 41, math.MaxInt} {
		checkCmp(t, Term{by, api.Wide{1}}, Term{0, ones()}, 1)
		checkCmp(t, Term{0, ones()}, Term{by, api.Wide{1}}, -1)
	}
}

// P17.2: a zero is less than every number and equal to a zero, whatever the exponents are.
func TestCmpOfZero(t *testing.T) {
	for _, e := range extremes() {
		for _, g := range extremes() {
			checkCmp(t, Term{Exp: e}, Term{Exp: g}, 0)
			for _, s := range sigs() {
				checkCmp(t, Term{Exp: e}, Term{g, s}, -1)
				checkCmp(t, Term{g, s}, Term{Exp: e}, 1)
			}
		}
	}
}

// P17.2: exponents at both ends and beyond them, held against big integers.
func TestCmpExtremes(t *testing.T) {
	l := []api.Wide{{}, {1}, {2}, {1 << 1, 0, 0, top}, highest(), ones()}
	extremePairs(l, checkCmpBig(t))
	for _, e := range []int{math.MaxInt, math.MaxInt - 1, limit + 1} {
		checkCmp(t, Term{e, highest()}, Term{limit, highest()}, 0)
		checkCmp(t, Term{e, api.Wide{1}}, Term{limit, api.Wide{2}}, -1)
		checkCmp(t, Term{e, api.Wide{1}}, Term{limit - 1, api.Wide{2}}, 0)
	}
	for _, e := range []int{math.MinInt, math.MinInt + 1, -limit - 1} {
		checkCmp(t, Term{e, highest()}, Term{-limit, highest()}, 0)
		checkCmp(t, Term{e, api.Wide{2}}, Term{-limit, api.Wide{1}}, 1)
		checkCmp(t, Term{e, api.Wide{2}}, Term{-limit + 1, api.Wide{1}}, 0)
	}
}

// P17.3: written out.
func TestSumWritten(t *testing.T) {
	one := Term{0, highest()}
	for _, x := range []struct{ a, b, want Term }{
		{one, one, Term{1, highest()}},
		{one, Term{1, highest()}, Term{2, api.Wide{3: 3 << 61}}},
		{one, Term{2, highest()}, Term{3, api.Wide{3: 5 << 60}}},
		{one, Term{-127, highest()}, Term{1, api.Wide{0, 1 << 63, 0, 1 << 62}}},
		{one, Term{-128, highest()}, Term{1, api.Wide{0, 1 << 62, 0, 1 << 62}}},
		{one, Term{-254, highest()}, Term{1, api.Wide{1, 0, 0, 1 << 62}}},
		{one, Term{-255, highest()}, Term{1, api.Wide{1, 0, 0, 1 << 62}}},
		{one, Term{-256, highest()}, Term{1, api.Wide{1, 0, 0, 1 << 62}}},
		{one, Term{-257, highest()}, Term{1, api.Wide{1, 0, 0, 1 << 62}}},
		{one, Term{-300, highest()}, Term{1, api.Wide{1, 0, 0, 1 << 62}}},
		{one, Term{math.MinInt, api.Wide{1}}, Term{1, api.Wide{1, 0, 0, 1 << 62}}},
		{Term{3, ones()}, Term{3, ones()}, Term{4, api.Wide{all64 - 1, all64, all64, all64}}},
		{Term{3, ones()}, Term{2, ones()}, Term{4, api.Wide{all64 - 1, all64, all64, 0xbfffffffffffffff}}},
		{Term{3, ones()}, Term{-253, ones()}, Term{4, api.Wide{0, 0, 0, top}}},
		{Term{0, api.Wide{1}}, Term{0, api.Wide{1}}, Term{1, api.Wide{2}}},
		{Term{0, api.Wide{1}}, Term{0, api.Wide{2}}, Term{1, api.Wide{2}}},
		{Term{0, api.Wide{4}}, Term{-1, api.Wide{8}}, Term{1, api.Wide{4}}},
		{Term{0, api.Wide{4}}, Term{-1, api.Wide{9}}, Term{1, api.Wide{5}}},
		{Term{0, api.Wide{4}}, Term{-1, api.Wide{12}}, Term{1, api.Wide{5}}},
		{Term{0, api.Wide{4}}, Term{-1, api.Wide{15}}, Term{1, api.Wide{5}}},
		{Term{5, api.Wide{}}, Term{-9, api.Wide{4}}, Term{-8, api.Wide{2}}},
		{Term{-9, api.Wide{}}, Term{5, api.Wide{4}}, Term{6, api.Wide{2}}},
		{Term{-9, api.Wide{}}, Term{5, api.Wide{}}, Term{6, api.Wide{}}},
	} {
		checkSum(t, x.a, x.b, x.want)
		checkSum(t, x.b, x.a, x.want)
	}
}

// P17.3: written out; the terms may be the other way round, and then above too, unless
// the magnitudes are equal.
func TestDiffWritten(t *testing.T) {
	one := Term{0, highest()}
	for _, x := range []struct {
		a, b, want Term
		equal      bool
	}{
		{one, one, Term{}, true},
		{Term{1, highest()}, one, Term{1, api.Wide{3: 1 << 62}}, false},
		{Term{2, highest()}, one, Term{2, api.Wide{3: 3 << 61}}, false},
		{one, Term{-127, highest()}, Term{0, api.Wide{0, 0, all64, top - 1}}, false},
		{one, Term{-128, highest()}, Term{0, api.Wide{0, top, all64, top - 1}}, false},
		{one, Term{-255, highest()}, Term{0, api.Wide{all64, all64, all64, top - 1}}, false},
		{one, Term{-256, highest()}, Term{0, api.Wide{all64, all64, all64, top - 1}}, false},
		{one, Term{-257, highest()}, Term{0, api.Wide{all64, all64, all64, top - 1}}, false},
		{one, Term{math.MinInt, api.Wide{1}}, Term{0, api.Wide{all64, all64, all64, top - 1}}, false},
		{Term{3, ones()}, Term{3, ones()}, Term{3, api.Wide{}}, true},
		{Term{3, ones()}, Term{2, ones()}, Term{3, api.Wide{0, 0, 0, top}}, false},
		{Term{3, ones()}, Term{-253, ones()}, Term{3, api.Wide{all64 - 1, all64, all64, all64}}, false},
		{Term{1, api.Wide{4}}, Term{0, api.Wide{8}}, Term{1, api.Wide{}}, true},
		{Term{0, api.Wide{9}}, Term{1, api.Wide{4}}, Term{1, api.Wide{1}}, false},
		{Term{0, api.Wide{7}}, Term{1, api.Wide{3}}, Term{1, api.Wide{}}, false},
		{Term{0, ones()}, Term{200, api.Wide{1}}, Term{200, api.Wide{1<<56 - 2}}, false},
		{Term{-9, api.Wide{4}}, Term{5, api.Wide{}}, Term{-9, api.Wide{4}}, false},
		{Term{5, api.Wide{4}}, Term{-9, api.Wide{}}, Term{5, api.Wide{4}}, false},
		{Term{5, api.Wide{}}, Term{-9, api.Wide{}}, Term{5, api.Wide{}}, true},
	} {
		checkDiff(t, x.a, x.b, x.want, false)
		checkDiff(t, x.b, x.a, x.want, !x.equal)
	}
}

// P17.3: held against big integers: Sigs of all kinds and a 0 among them, exponents
// near and far, each order.
func TestSumAndDiffAgainstBig(t *testing.T) {
	apart(append(sigs(), api.Wide{}), checkBoth(t))
}

// P17.3: what falls off is 0 and not 0.
func TestSumAndDiffFalling(t *testing.T) {
	falling(uppers(), 0, checkBoth(t))
}

// P17.3: terms whose magnitudes are equal have the difference 0, at the level.
func TestDiffOfEqual(t *testing.T) {
	for _, s := range sigs() {
		n := bigOf(s)
		for by := range int(n.TrailingZeroBits()) + 1 {
			upper := Term{by + 11, wideOf(new(big.Int).Rsh(n, uint(by)))}
			lower := Term{11, s}
			both(upper, lower, func(a, b Term) {
				checkDiff(t, a, b, Term{Exp: by + 11}, false)
				checkBoth(t)(a, b)
			})
		}
	}
}

// P17.3: the greatest Sigs of both: the sum is less than 2^256 at every distance.
func TestSumOfGreatest(t *testing.T) {
	for by := range 300 {
		both(Term{by, ones()}, Term{0, ones()}, checkBoth(t))
	}
	for _, by := range distances() {
		both(Term{by, ones()}, Term{0, ones()}, checkBoth(t))
	}
}

// P17.3: a zero, with whatever exponent, leaves the level to the other term; of two
// zeros, the greater exponent is the level.
func TestSumAndDiffOfZero(t *testing.T) {
	for _, e := range extremes() {
		for _, g := range extremes() {
			zero := Term{Exp: e}
			level := max(clamped(zero), clamped(Term{Exp: g}))
			checkSum(t, zero, Term{Exp: g}, Term{Exp: level + 1})
			checkDiff(t, zero, Term{Exp: g}, Term{Exp: level}, false)
			for _, s := range sigs() {
				number := Term{g, s}
				exp := clamped(number)
				half := Term{exp + 1, wideOf(jam(bigOf(s), 1))}
				checkSum(t, zero, number, half)
				checkSum(t, number, zero, half)
				checkDiff(t, zero, number, Term{exp, s}, true)
				checkDiff(t, number, zero, Term{exp, s}, false)
			}
		}
	}
}

// P17.3: exponents at both ends and beyond them, held against big integers, and some
// of them written out.
func TestSumAndDiffExtremes(t *testing.T) {
	extremePairs([]api.Wide{{}, {1}, {2}, {2, 0, 0, top}, highest(), ones()}, checkBoth(t))
	for _, e := range []int{math.MaxInt, math.MaxInt - 1, limit + 1, limit} {
		greatest := Term{e, highest()}
		checkSum(t, greatest, greatest, Term{limit + 1, highest()})
		checkDiff(t, greatest, Term{limit, highest()}, Term{Exp: limit}, false)
		checkDiff(t, Term{limit - 1, highest()}, greatest, Term{limit, api.Wide{3: 1 << 62}}, true)
		for _, g := range []int{math.MinInt, math.MinInt + 1, -limit - 1, -limit, 0} {
			checkSum(t, Term{g, api.Wide{1}}, greatest, Term{limit + 1, api.Wide{1, 0, 0, 1 << 62}})
			checkDiff(t, Term{g, api.Wide{1}}, greatest, Term{limit, api.Wide{all64, all64, all64, top - 1}}, true)
		}
	}
	for _, e := range []int{math.MinInt, math.MinInt + 1, -limit - 1, -limit} {
		least := Term{e, highest()}
		checkSum(t, least, least, Term{-limit + 1, highest()})
		checkDiff(t, least, Term{-limit, highest()}, Term{Exp: -limit}, false)
		checkDiff(t, least, Term{-limit + 1, highest()}, Term{-limit + 1, api.Wide{3: 1 << 62}}, true)
	}
}

// checkExact holds Sum and Diff against the exact values, for terms as P17.4 supposes
// them. The exponents of the results are known too: the greater exponent is that of
// a number, so it is the level.
func checkExact(t *testing.T) func(a, b Term) {
	return func(a, b Term) {
		t.Helper()
		level := max(clamped(a), clamped(b))
		checkSum(t, a, b, Term{level + 1, wideOf(exactSum(a, b))})
		n, none := exactDiff(a, b)
		checkDiff(t, a, b, Term{level, wideOf(n)}, wantCmp(a, b) < 0)
		if d, _ := Diff(a, b); isZero(d) != none {
			t.Fatalf("Diff(%d %x, %d %x) = %x, the exact one is 0: %v", a.Exp, a.Sig, b.Exp, b.Sig, d.Sig, none)
		}
	}
}

// P17.4: the exact sum and difference, at all distances that the width has and far off.
func TestSumAndDiffExact(t *testing.T) {
	for _, s := range supposed() {
		for _, r := range below() {
			for _, by := range distances() {
				both(Term{by - 40, s}, Term{-40, r}, checkExact(t))
			}
		}
		for by := range 262 {
			for _, r := range supposed() {
				both(Term{by, s}, Term{0, r}, checkExact(t))
			}
		}
	}
}

// P17.4: what falls off is 0 and not 0, below an even place and below an odd one.
func TestSumAndDiffExactFalling(t *testing.T) {
	falling(supposed(), 2, checkExact(t))
}

// P17.4: exponents that count as others: of two that are cut off to the same, one
// term's bit 255 is enough.
func TestSumAndDiffExactExtremes(t *testing.T) {
	for _, e := range extremes() {
		for _, g := range extremes() {
			for _, s := range supposed() {
				for _, r := range []api.Wide{{}, {4}, {8}, {4, 0, 1}, highest(), {all64 - 3, all64, all64, all64}} {
					if clamped(Term{Exp: e}) >= clamped(Term{Exp: g}) {
						both(Term{e, s}, Term{g, r}, checkExact(t))
					}
				}
			}
		}
	}
}
