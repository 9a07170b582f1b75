package mag

import (
	"math"
	"math/big"

	"hairsbreadth/api"
)

const (
	all64 = math.MaxUint64
	top   = 1 << 63

	// limit is where exponents end, as the chapter has it.
	limit = 1 << 40

	// enough is a distance of exponents at which a 256-bit integer is all behind the
	// last place of another one: greater ones change no order and no sticky bit.
	enough = 1000
)

func ones() api.Wide {
	return api.Wide{all64, all64, all64, all64}
}

func highest() api.Wide {
	return api.Wide{3: top}
}

func bigOf(w api.Wide) *big.Int {
	n := new(big.Int)
	for i := range w {
		n.Lsh(n, 64)
		n.Or(n, new(big.Int).SetUint64(w[3-i]))
	}
	return n
}

func wideOf(n *big.Int) api.Wide {
	var w api.Wide
	for i := range w {
		w[i] = new(big.Int).Rsh(n, uint(64*i)).Uint64() // the lowest 64 bits
	}
	return w
}

func power(n int) *big.Int {
	return new(big.Int).Lsh(big.NewInt(1), uint(n))
}

// plus is 2^n + d.
func plus(n int, d int64) *big.Int {
	return new(big.Int).Add(power(n), big.NewInt(d))
}

// jam is the jamming shift of layer 3, for integers of any size.
func jam(n *big.Int, by int) *big.Int {
	by = max(by, 0)
	q := new(big.Int).Rsh(n, uint(by))
	if n.Sign() != 0 && n.TrailingZeroBits() < uint(by) {
		q.SetBit(q, 0, 1)
	}
	return q
}

// clamped is the exponent of t as the chapter means it.
func clamped(t Term) int {
	return min(max(t.Exp, -limit), limit)
}

func isZero(t Term) bool {
	return t.Sig == api.Wide{}
}

// levelOf is the level, by the chapter's words.
func levelOf(a, b Term) int {
	switch {
	case isZero(a) && !isZero(b):
		return clamped(b)
	case isZero(b) && !isZero(a):
		return clamped(a)
	}
	return max(clamped(a), clamped(b))
}

// common are both magnitudes in units that make both of them integers, and how many
// places the greater exponent is above the last one.
func common(a, b Term) (x, y *big.Int, above int) {
	low := min(clamped(a), clamped(b))
	left := func(t Term) (*big.Int, int) {
		by := min(clamped(t)-low, enough)
		n := bigOf(t.Sig)
		return n.Lsh(n, uint(by)), by
	}
	x, i := left(a)
	y, j := left(b)
	return x, y, max(i, j)
}

// wantCmp is what Cmp should answer.
func wantCmp(a, b Term) int {
	x, y, _ := common(a, b)
	return x.Cmp(y)
}

// alignedBig is the Sig of t, aligned to exp.
func alignedBig(t Term, exp int) *big.Int {
	return jam(bigOf(t.Sig), exp-clamped(t))
}

// wantSum is what Sum should answer, the Sig as an integer of any size.
func wantSum(a, b Term) (int, *big.Int) {
	exp := levelOf(a, b) + 1
	x := alignedBig(a, exp)
	return exp, x.Add(x, alignedBig(b, exp))
}

// wantDiff is what Diff should answer.
func wantDiff(a, b Term) (int, *big.Int, bool) {
	exp := levelOf(a, b)
	x, y := alignedBig(a, exp), alignedBig(b, exp)
	if wantCmp(a, b) < 0 {
		return exp, y.Sub(y, x), true
	}
	return exp, x.Sub(x, y), false
}

// exactSum is the exact sum after a jamming shift to the place above the greater exponent.
func exactSum(a, b Term) *big.Int {
	x, y, above := common(a, b)
	return jam(x.Add(x, y), above+1)
}

// exactDiff is the exact difference after a jamming shift to the greater exponent, and
// whether the exact one is 0.
func exactDiff(a, b Term) (*big.Int, bool) {
	x, y, above := common(a, b)
	x.Sub(x, y)
	x.Abs(x)
	return jam(x, above), x.Sign() == 0
}

// sigs are integers with few bits and with many, at both ends and between, a zero not
// among them.
func sigs() []api.Wide {
	l := []api.Wide{ones(), {all64 - 3, all64, all64, all64}, {0x5555555555555555, 1, 0, top}, {1 << 40, 7, all64, 3 << 61}}
	for _, n := range []int64{1, 2, 3, 4, 5, 6, 7, 8} {
		l = append(l, wideOf(big.NewInt(n)))
	}
	for _, n := range []int{64, 127, 128, 129, 192, 254, 255} {
		l = append(l, wideOf(power(n)), wideOf(plus(n, 1)), wideOf(plus(n, -1)))
	}
	return l
}

// distances are those of exponents at the width and its parts, what is beside them,
// and some that are much greater.
func distances() []int {
	return []int{0, 1, 2, 3, 63, 64, 65, 126, 127, 128, 129, 191, 192, 193, 254, 255, 256, 257, 258, 300,
		511, 512, 513, 16384, 1 << 31, 1 << 32, 1<<40 - 1, 1 << 40}
}

// extremes are exponents at both ends of what counts and beyond them.
func extremes() []int {
	return []int{math.MinInt, math.MinInt + 1, math.MinInt / 2, -limit - 300, -limit - 1, -limit, -limit + 1, -limit + 255, -limit + 300,
		-1, 0, 1, limit - 300, limit - 255, limit - 1, limit, limit + 1, limit + 300, math.MaxInt / 2, math.MaxInt - 1, math.MaxInt}
}

// both visits a and b in each order.
func both(a, b Term, visit func(a, b Term)) {
	visit(a, b)
	visit(b, a)
}

// apart visits terms of all those Sigs, in each order, whose exponents are those
// distances apart.
func apart(l []api.Wide, visit func(a, b Term)) {
	for _, s := range l {
		for _, t := range l {
			for _, by := range distances() {
				both(Term{by, s}, Term{0, t}, visit)
				both(Term{-16494, s}, Term{-16494 - by, t}, visit)
			}
		}
	}
}

// rests are what may fall off in by places: nothing, the least, the greatest and what
// is around a half.
func rests(by int) []*big.Int {
	if by == 0 {
		return []*big.Int{new(big.Int)}
	}
	return []*big.Int{new(big.Int), big.NewInt(1), plus(by-1, -1), power(by - 1), plus(by-1, 1), plus(by, -1)}
}

// uppers are Sigs, of any kind, of a term above another one.
func uppers() []api.Wide {
	return []api.Wide{highest(), ones(), {1}, {2}, {4, 0, 0, top}}
}

// falling visits terms, in each order, of which the upper one has one of those Sigs,
// and the lower one is shifted, by every distance up to beyond the width, by what
// falls off; what stays of it is even or odd. Its last places, as many as spare, are 0.
func falling(uppers []api.Wide, spare int, visit func(a, b Term)) {
	for by := 0; by <= 260; by++ {
		for _, rest := range rests(by) {
			for _, q := range []int64{0, 1, 2, 3} {
				n := new(big.Int).Lsh(big.NewInt(q), uint(by))
				n.Lsh(n.Add(n, rest), uint(spare))
				lower := Term{7 - by - spare, wideOf(n)}
				for _, s := range uppers {
					both(Term{7, s}, lower, visit)
				}
			}
		}
	}
}

// supposed are Sigs as P17.4 has them, of the term with the greater exponent.
func supposed() []api.Wide {
	return []api.Wide{highest(), {4, 0, 0, top}, {8, 0, 0, top}, {12, 0, 0, top}, {all64 - 3, all64, all64, all64},
		{all64 - 7, all64, all64, all64}, {0, 0, 0, 3 << 62}, {0, 0, 1, top}, {0, top, all64, all64}, {0x5555555555555554, 1 << 50, 1, top + 9}}
}

// below are Sigs of the other term: of every length, with few bits and with many.
func below() []api.Wide {
	l := append(supposed(), api.Wide{})
	for i := 2; i < 256; i++ {
		l = append(l, wideOf(power(i)), wideOf(plus(i+1, -4)))
	}
	for _, i := range []int{64, 127, 128, 200, 255} {
		l = append(l, wideOf(plus(i, 4)), wideOf(plus(i, -8)), wideOf(plus(i, 12)))
	}
	return l
}

// extremePairs visits terms of all those Sigs and all extreme exponents.
func extremePairs(l []api.Wide, visit func(a, b Term)) {
	for _, e := range extremes() {
		for _, g := range extremes() {
			for _, s := range l {
				for _, r := range l {
					visit(Term{e, s}, Term{g, r})
				}
			}
		}
	}
}
