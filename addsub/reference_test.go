package addsub

import (
	"math"
	"math/big"

	"hairsbreadth/api"
)

const all64 = math.MaxUint64

// kind is a format with its parameters, as the table of chapter 7 has them.
type kind struct {
	f                 api.Format
	width, prec, emax int
}

func kinds() []kind {
	return []kind{
		{api.B16, 16, 11, 15},
		{api.B32, 32, 24, 127},
		{api.B64, 64, 53, 1023},
		{api.B128, 128, 113, 16383},
	}
}

func modes() []api.Mode {
	return []api.Mode{api.Near, api.Away, api.Up, api.Down, api.Zero}
}

func envs() []api.Env {
	var l []api.Env
	for _, m := range modes() {
		l = append(l, api.Env{Mode: m}, api.Env{Mode: m, After: true})
	}
	return l
}

func both() []bool {
	return []bool{false, true}
}

func low(n uint64) api.Bits {
	return api.Bits{Lo: n}
}

func bigOf(b api.Bits) *big.Int {
	n := new(big.Int).SetUint64(b.Hi)
	return n.Or(n.Lsh(n, 64), new(big.Int).SetUint64(b.Lo))
}

func bitsOf(n *big.Int) api.Bits {
	return api.Bits{Hi: new(big.Int).Rsh(n, 64).Uint64(), Lo: new(big.Int).And(n, plus(64, -1)).Uint64()}
}

func power(n int) *big.Int {
	return new(big.Int).Lsh(big.NewInt(1), uint(n))
}

// plus is 2^n + d.
func plus(n int, d int64) *big.Int {
	return new(big.Int).Add(power(n), big.NewInt(d))
}

// next is b + 1.
func next(b api.Bits) api.Bits {
	return step(b, 1)
}

// step is b + d.
func step(b api.Bits, d int64) api.Bits {
	n := bigOf(b)
	return bitsOf(n.Add(n, big.NewInt(d)))
}

// cut is b without the bits above the width.
func (k kind) cut(b api.Bits) *big.Int {
	n := bigOf(b)
	return n.And(n, plus(k.width, -1))
}

func (k kind) negative(b api.Bits) bool {
	return k.cut(b).Bit(k.width-1) == 1
}

// turned is b with the other sign, the bits above the width left as they are.
func (k kind) turned(b api.Bits) api.Bits {
	n := bigOf(b)
	return bitsOf(n.SetBit(n, k.width-1, 1-n.Bit(k.width-1)))
}

// signed is an encoding of the sign 0, with that sign.
func (k kind) signed(neg bool, b api.Bits) api.Bits {
	if neg {
		return k.turned(b)
	}
	return b
}

// unsigned is b without its sign and the bits above it: exponent field and fraction.
func (k kind) unsigned(b api.Bits) *big.Int {
	n := k.cut(b)
	return n.SetBit(n, k.width-1, 0)
}

// above are b and encodings that differ from it in bits that are ignored.
func (k kind) above(b api.Bits) []api.Bits {
	if k.width == 128 {
		return []api.Bits{b}
	}
	l := []api.Bits{b}
	for _, i := range []int{k.width, k.width + 1, 126, 127} {
		n := bigOf(b)
		l = append(l, bitsOf(n.SetBit(n, i, 1)))
	}
	all := plus(128-k.width, -1)
	all.Lsh(all, uint(k.width))
	return append(l, bitsOf(all.Or(all, bigOf(b))))
}

// made is the encoding of those two fields.
func (k kind) made(field int, fraction *big.Int) api.Bits {
	n := new(big.Int).Lsh(big.NewInt(int64(field)), uint(k.prec-1))
	return bitsOf(n.Or(n, fraction))
}

func (k kind) one() api.Bits {
	return k.made(k.emax, new(big.Int))
}

func (k kind) infinity() api.Bits {
	return k.made(2*k.emax+1, new(big.Int))
}

func (k kind) greatest() api.Bits {
	return step(k.infinity(), -1)
}

// standard is the default NaN.
func (k kind) standard() api.Bits {
	return k.made(2*k.emax+1, power(k.prec-2))
}

func (k kind) isInfinite(b api.Bits) bool {
	return k.unsigned(b).Cmp(bigOf(k.infinity())) == 0
}

func (k kind) isNaN(b api.Bits) bool {
	return k.unsigned(b).Cmp(bigOf(k.infinity())) > 0
}

func (k kind) isSignaling(b api.Bits) bool {
	return k.isNaN(b) && bigOf(b).Bit(k.prec-2) == 0
}

func (k kind) quieted(b api.Bits) api.Bits {
	n := k.cut(b)
	return bitsOf(n.SetBit(n, k.prec-2, 1))
}

// value is a finite number in units of the least subnormal one, of which every number
// of the format is a multiple, and so is every sum: chapter 9's formula.
func (k kind) value(b api.Bits) *big.Int {
	n := k.unsigned(b)
	field := int(new(big.Int).Rsh(n, uint(k.prec-1)).Int64())
	m := n.And(n, plus(k.prec-1, -1))
	if field > 0 {
		m.SetBit(m, k.prec-1, 1)
	}
	m.Lsh(m, uint(max(field, 1)-1))
	if k.negative(b) {
		m.Neg(m)
	}
	return m
}

// whole is the integer to which m rounds n / 2^by: the one below, or the one above.
func whole(n *big.Int, by int, m api.Mode) *big.Int {
	below := new(big.Int).Rsh(n, uint(by)) // towards minus infinity, for negative numbers too
	rest := new(big.Int).Lsh(below, uint(by))
	rest.Sub(n, rest)
	if rest.Sign() == 0 || m == api.Down || m == api.Zero && n.Sign() > 0 {
		return below
	}
	above := new(big.Int).Add(below, big.NewInt(1))
	if m == api.Up || m == api.Zero {
		return above
	}
	switch order := rest.Cmp(power(by - 1)); {
	case order < 0:
		return below
	case order > 0:
		return above
	case m == api.Near && below.Bit(0) == 0, m == api.Away && n.Sign() < 0:
		return below
	}
	return above
}

// rounded is what a number that is not 0, in units of the least subnormal one, comes
// to in the format. A number that is tiny, before or after rounding, has in these
// units no more bits than the format: none that is inexact is tiny.
func (k kind) rounded(n *big.Int, m api.Mode) api.Result {
	neg := n.Sign() < 0
	by := max(n.BitLen()-k.prec, 0)
	q := whole(n, by, m)
	inexact := new(big.Int).Lsh(q, uint(by)).Cmp(n) != 0
	q.Abs(q)
	// 2^(emax + 1) in units of 2^(1 - emax - (prec - 1)).
	if q.BitLen()+by > k.emax+1-(1-k.emax-(k.prec-1)) {
		return k.over(m, neg)
	}
	r := api.Result{Bits: k.signed(neg, k.encoding(q, by))}
	if inexact {
		r.Flags = api.Inexact
	}
	return r
}

// encoding is that of q * 2^by units, which the format has.
func (k kind) encoding(q *big.Int, by int) api.Bits {
	if q.BitLen() > k.prec {
		// It was rounded to a power of 2.
		return k.encoding(new(big.Int).Rsh(q, 1), by+1)
	}
	if q.BitLen() < k.prec {
		return k.made(0, q)
	}
	return k.made(by+1, new(big.Int).Sub(q, power(k.prec-1)))
}

// over is what a number that overflows comes to.
func (k kind) over(m api.Mode, neg bool) api.Result {
	b := k.infinity()
	if m == api.Zero || m == api.Up && neg || m == api.Down && !neg {
		b = k.greatest()
	}
	return api.Result{Bits: k.signed(neg, b), Flags: api.Overflow | api.Inexact}
}

// picked is the result for NaNs and invalid operations.
func (k kind) picked(a, b api.Bits) api.Result {
	r := api.Result{Bits: k.standard()}
	switch {
	case k.isNaN(a):
		r.Bits = k.quieted(a)
	case k.isNaN(b):
		r.Bits = k.quieted(b)
	default:
		r.Flags = api.Invalid
	}
	if k.isSignaling(a) || k.isSignaling(b) {
		r.Flags = api.Invalid
	}
	return r
}

// want is what Add should answer, by the cases of the chapter one after the other.
func (k kind) want(v api.Env, a, b api.Bits) api.Result {
	opposed := k.negative(a) != k.negative(b)
	switch {
	case k.isNaN(a), k.isNaN(b), k.isInfinite(a) && k.isInfinite(b) && opposed:
		return k.picked(a, b)
	case k.isInfinite(a):
		return api.Result{Bits: bitsOf(k.cut(a))}
	case k.isInfinite(b):
		return api.Result{Bits: bitsOf(k.cut(b))}
	}
	n := k.value(a)
	n.Add(n, k.value(b))
	if n.Sign() != 0 {
		return k.rounded(n, v.Mode)
	}
	return api.Result{Bits: k.signed(!opposed && k.negative(a) || opposed && v.Mode == api.Down, api.Bits{})}
}

// wantSub is what Sub should answer.
func (k kind) wantSub(v api.Env, a, b api.Bits) api.Result {
	if k.isNaN(b) {
		return k.want(v, a, b)
	}
	return k.want(v, a, k.turned(b))
}

// fractions are those of both ends, and some between, even ones and odd ones.
func (k kind) fractions() []*big.Int {
	mixed := new(big.Int).Quo(power(k.prec-1), big.NewInt(3)) // its bits are 1 and 0 in turn
	return []*big.Int{new(big.Int), big.NewInt(1), mixed, plus(k.prec-2, 0), plus(k.prec-1, -2), plus(k.prec-1, -1)}
}

// distances are those of exponents at which the sum changes its kind, what is beside
// them, and the greatest one of normal numbers.
func (k kind) distances() []int {
	l := []int{0, 1, 2, 3, k.prec - 2, k.prec - 1, k.prec, k.prec + 1, k.prec + 2, k.prec + 3}
	return append(l, 126, 127, 128, 129, 254, 255, 256, 257, 2*k.emax-1, 2*k.emax)
}

// apart visits numbers of all fractions whose exponents are those distances apart, at
// both ends of the format and within it, the lower one subnormal too.
func (k kind) apart(visit func(a, b api.Bits)) {
	for _, by := range k.distances() {
		for _, field := range []int{by, by + 1, (2*k.emax + by) / 2, 2 * k.emax} {
			if field < by || field > 2*k.emax {
				continue
			}
			for _, p := range k.fractions() {
				for _, q := range k.fractions() {
					visit(k.made(field, p), k.made(field-by, q))
				}
			}
		}
	}
}

// numbers are those at the edges of the format and some within, of the sign 0.
func (k kind) numbers() []api.Bits {
	one, normal := k.one(), k.made(1, new(big.Int))
	l := []api.Bits{{}, low(1), low(2), low(3), bitsOf(power(k.prec - 2)), step(normal, -2), step(normal, -1), normal, next(normal)}
	l = append(l, step(one, -1), one, next(one), k.made(k.emax, power(k.prec-2)), k.made(k.emax+1, new(big.Int)))
	l = append(l, k.made(2*k.emax, new(big.Int)), step(k.greatest(), -1), k.greatest())
	return l
}

// quiet and signaling are NaNs at both ends of their fractions, of the sign 0.
func (k kind) quiet() []api.Bits {
	return []api.Bits{k.standard(), next(k.standard()), k.made(2*k.emax+1, plus(k.prec-1, -1))}
}

func (k kind) signaling() []api.Bits {
	return []api.Bits{next(k.infinity()), step(k.standard(), -1), k.made(2*k.emax+1, power(k.prec-3))}
}

func (k kind) nans() []api.Bits {
	return k.withSigns(append(k.quiet(), k.signaling()...))
}

// withSigns are those of l with both signs.
func (k kind) withSigns(l []api.Bits) []api.Bits {
	var out []api.Bits
	for _, b := range l {
		out = append(out, b, k.turned(b))
	}
	return out
}

// edges are operands of all classes with both signs.
func (k kind) edges() []api.Bits {
	return append(k.withSigns(append(k.numbers(), k.infinity())), k.nans()...)
}

// finite are finite numbers of both signs: all of them in B16, in the other formats
// those of some exponents and those beside the powers of 2 as integers.
func (k kind) finite() []api.Bits {
	var l []api.Bits
	if k.f == api.B16 {
		for b := range uint64(0x7c00) {
			l = append(l, low(b))
		}
		return k.withSigns(l)
	}
	for field := 0; field <= 2*k.emax; field += 1 + k.emax/50 {
		for _, q := range k.fractions() {
			l = append(l, k.made(field, q))
		}
	}
	for i := range k.prec {
		l = append(l, bitsOf(power(i)), bitsOf(plus(i, 1)), bitsOf(plus(i, -1)), step(k.infinity(), -1-int64(i)))
	}
	return k.withSigns(l)
}
