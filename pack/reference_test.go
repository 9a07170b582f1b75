package pack

import (
	"math/big"

	"hairsbreadth/api"
)

// kind is a format with its parameters, as the table of chapter 7 has them.
type kind struct {
	f                 api.Format
	width, prec, emax int
}

func kinds() []kind {
	return []kind{
		{api.B16, 16, 11, 15},
		{api.B32, 32, 24, 127},
		{api.B64, 64, 53, 1023},
		{api.B128, 128, 113, 16383},
	}
}

// least is the exponent of the least normal number.
func (k kind) least() int {
	return 1 - k.emax
}

// lowest is the exponent of the least subnormal number.
func (k kind) lowest() int {
	return k.least() - (k.prec - 1)
}

// given is a number without its sign, as Round and Exact take it.
type given struct {
	exp int
	sig api.Wide
}

// exponent is that of the number, which is not 0.
func (g given) exponent() int {
	return bigOf(g.sig).BitLen() - 1 + g.exp - 255
}

func modes() []api.Mode {
	return []api.Mode{api.Near, api.Away, api.Up, api.Down, api.Zero}
}

func envs() []api.Env {
	var l []api.Env
	for _, m := range modes() {
		l = append(l, api.Env{Mode: m}, api.Env{Mode: m, After: true})
	}
	return l
}

func both() []bool {
	return []bool{false, true}
}

func bigOf(w api.Wide) *big.Int {
	n := new(big.Int)
	for i := range w {
		n.Lsh(n, 64)
		n.Or(n, new(big.Int).SetUint64(w[3-i]))
	}
	return n
}

func wideOf(n *big.Int) api.Wide {
	var w api.Wide
	for i := range w {
		w[i] = new(big.Int).Rsh(n, uint(64*i)).Uint64() // the lowest 64 bits
	}
	return w
}

func bitsOf(n *big.Int) api.Bits {
	w := wideOf(n)
	return api.Bits{Hi: w[1], Lo: w[0]}
}

func bigBits(b api.Bits) *big.Int {
	return bigOf(api.Wide{b.Lo, b.Hi})
}

func power(n int) *big.Int {
	return new(big.Int).Lsh(big.NewInt(1), uint(n))
}

// plus is 2^n + d.
func plus(n int, d int64) *big.Int {
	return new(big.Int).Add(power(n), big.NewInt(d))
}

// whole is the integer to which m rounds n / unit, found from the numbers with their
// sign by the division of big integers: the one below, the one above, the nearer.
func whole(n, unit *big.Int, m api.Mode) *big.Int {
	below := new(big.Int).Div(n, unit) // towards minus infinity, since unit is positive
	above := new(big.Int).Neg(new(big.Int).Div(new(big.Int).Neg(n), unit))
	switch m {
	case api.Up:
		return above
	case api.Down:
		return below
	case api.Zero:
		return new(big.Int).Quo(n, unit)
	}
	down := new(big.Int).Sub(n, new(big.Int).Mul(below, unit))
	up := new(big.Int).Sub(new(big.Int).Mul(above, unit), n)
	switch order := down.Cmp(up); {
	case order < 0:
		return below
	case order > 0:
		return above
	case m == api.Near && below.Bit(0) == 0, m == api.Away && n.Sign() < 0:
		return below
	}
	return above
}

// multiple is the magnitude of the number, rounded to a multiple of 2^unit, in
// these, and whether that is the number itself.
func (g given) multiple(unit int, m api.Mode, neg bool) (*big.Int, bool) {
	n := bigOf(g.sig)
	by := g.exp - 255 - unit
	if by >= 0 {
		return n.Lsh(n, uint(by)), true
	}
	if neg {
		n.Neg(n)
	}
	q := whole(n, power(-by), m)
	exact := new(big.Int).Lsh(q, uint(-by)).Cmp(n) == 0
	return q.Abs(q), exact
}

// encoding is that of q * 2^unit, which the format has, told by chapter 9.
func (k kind) encoding(neg bool, q *big.Int, unit int) api.Bits {
	n := new(big.Int)
	exp := q.BitLen() - 1 + unit
	switch {
	case q.Sign() == 0:
	case exp < k.least():
		n.Lsh(q, uint(unit-k.lowest()))
	default:
		// More bits than the format has are zeros at the end.
		m := new(big.Int).Lsh(q, uint(k.prec))
		m.Rsh(m, uint(q.BitLen()))
		frac := m.Sub(m, power(k.prec-1))
		n.Lsh(big.NewInt(int64(exp+k.emax)), uint(k.prec-1))
		n.Or(n, frac)
	}
	return k.signed(neg, bitsOf(n))
}

func (k kind) signed(neg bool, b api.Bits) api.Bits {
	n := bigBits(b)
	if neg {
		n.SetBit(n, k.width-1, 1)
	}
	return bitsOf(n)
}

// infinity is the magnitude of an infinity: the encoding next to that of the
// greatest finite number.
func (k kind) infinity() *big.Int {
	n := big.NewInt(int64(2*k.emax + 1))
	return n.Lsh(n, uint(k.prec-1))
}

// over is what a number that overflows comes to.
func (k kind) over(m api.Mode, neg bool) api.Result {
	n := k.infinity()
	if m == api.Zero || m == api.Up && neg || m == api.Down && !neg {
		n.Sub(n, big.NewInt(1))
	}
	return api.Result{Bits: k.signed(neg, bitsOf(n)), Flags: api.Overflow | api.Inexact}
}

// under is what a number far below the least subnormal one comes to.
func (k kind) under(m api.Mode, neg bool) api.Result {
	b := api.Bits{}
	if m == api.Up && !neg || m == api.Down && neg {
		b.Lo = 1
	}
	return api.Result{Bits: k.signed(neg, b), Flags: api.Underflow | api.Inexact}
}

// want is what Round should answer, by the terms of the chapter one after the other.
func (k kind) want(v api.Env, neg bool, g given) api.Result {
	if bigOf(g.sig).Sign() == 0 {
		return api.Result{Bits: k.signed(neg, api.Bits{})}
	}
	e := g.exponent()
	free := e - (k.prec - 1)
	unbounded, _ := g.multiple(free, v.Mode, neg)
	after := unbounded.BitLen() - 1 + free
	if after > k.emax {
		return k.over(v.Mode, neg)
	}
	unit := max(e, k.least()) - (k.prec - 1)
	q, exact := g.multiple(unit, v.Mode, neg)
	r := api.Result{Bits: k.encoding(neg, q, unit)}
	if exact {
		return r
	}
	r.Flags = api.Inexact
	if !v.After && e < k.least() || v.After && after < k.least() {
		r.Flags |= api.Underflow
	}
	return r
}

// wantExact is what Exact should answer.
func (k kind) wantExact(neg bool, g given) (api.Bits, bool) {
	if bigOf(g.sig).Sign() == 0 {
		return k.signed(neg, api.Bits{}), true
	}
	e := g.exponent()
	unit := max(e, k.least()) - (k.prec - 1)
	q, exact := g.multiple(unit, api.Zero, neg)
	if !exact || e > k.emax {
		return api.Bits{}, false
	}
	return k.encoding(neg, q, unit), true
}

// compare holds g against the magnitude of b, which is finite.
func (k kind) compare(g given, b api.Bits) int {
	n := bigBits(b)
	field := new(big.Int).Rsh(n, uint(k.prec-1)).Int64()
	m := new(big.Int).And(n, plus(k.prec-1, -1))
	if field > 0 {
		m.SetBit(m, k.prec-1, 1)
	}
	unit := max(int(field), 1) - k.emax - (k.prec - 1)
	l := bigOf(g.sig)
	by := g.exp - 255 - unit
	return l.Lsh(l, uint(max(by, 0))).Cmp(m.Lsh(m, uint(max(-by, 0))))
}

// around are the numbers (q + rest) * 2^unit for rests of each category: none, the
// least and the greatest of those less than a half, a half, those more than it.
func around(q *big.Int, unit int) []given {
	room := min(256-q.BitLen(), 255)
	var l []given
	for _, rest := range []*big.Int{new(big.Int), big.NewInt(1), plus(room-1, -1), power(room - 1), plus(room-1, 1), plus(room, -1)} {
		n := new(big.Int).Lsh(q, uint(room))
		l = append(l, given{unit + 255 - room, wideOf(n.Add(n, rest))})
	}
	return l
}

// fractions are integers of as many bits as the format has: the least, the greatest
// and some between, even ones and odd ones.
func (k kind) fractions() []*big.Int {
	mixed := new(big.Int).Quo(power(k.prec+1), big.NewInt(3)) // its bits are 1 and 0 in turn
	other := new(big.Int).Xor(mixed, big.NewInt(1))
	return []*big.Int{plus(k.prec-1, 0), plus(k.prec-1, 1), mixed, other, plus(k.prec, -2), plus(k.prec, -1)}
}

// ends are the exponents at both ends of the format and some within, those from far
// below the least subnormal number to the least normal one all among them.
func (k kind) ends() []int {
	l := []int{-2, -1, 0, 1, 2, k.emax - 2, k.emax - 1, k.emax, k.emax + 1, k.emax + 2, k.emax + 300}
	l = append(l, k.lowest()-300, k.lowest()-257, k.lowest()-256, k.lowest()-255, k.lowest()-100)
	for e := k.lowest() - 4; e <= k.least()+3; e++ {
		l = append(l, e)
	}
	return l
}

// numbers are those of all ends, and the first and the last multiples of the least
// subnormal number up to the least normal one, each with what is around it.
func (k kind) numbers() []given {
	var l []given
	for _, e := range k.ends() {
		for _, q := range k.fractions() {
			l = append(l, around(q, e-(k.prec-1))...)
		}
	}
	for q := range int64(9) {
		l = append(l, around(big.NewInt(q), k.lowest())...)
	}
	for d := int64(-3); d <= 3; d++ {
		l = append(l, around(plus(k.prec-2, d), k.lowest())...)
		l = append(l, around(plus(k.prec-1, d), k.lowest())...)
	}
	return l
}

// atEnds are the exponents beside the least subnormal number, the least normal one
// and the greatest one.
func (k kind) atEnds() []int {
	var l []int
	for d := -2; d <= 2; d++ {
		l = append(l, k.lowest()+d, k.least()+d, k.emax+d)
	}
	return l
}

// withExponent is the number of that exponent whose bits are those of n.
func withExponent(n *big.Int, e int) given {
	return given{e + 255 - (n.BitLen() - 1), wideOf(n)}
}

// raised are numbers whose highest bit that is 1 is any of the 256, with the exponents
// that bring them near the ends.
func (k kind) raised() []given {
	var l []given
	for length := 1; length <= 256; length++ {
		for _, e := range k.atEnds() {
			l = append(l, withExponent(power(length-1), e), withExponent(plus(length, -1), e))
		}
	}
	return l
}

// small are the least integers, with all exponents that bring them near the ends.
func (k kind) small() []given {
	var l []given
	for _, n := range []int64{1, 2, 3, 4, 5, 6, 7, 8, 9} {
		for _, e := range k.ends() {
			l = append(l, withExponent(big.NewInt(n), e))
		}
	}
	return l
}

// all are the numbers that are told one by one above.
func (k kind) all() []given {
	return append(append(k.numbers(), k.raised()...), k.small()...)
}
