package div

import (
	"math/big"

	"hairsbreadth/api"
)

// pair are a dividend and a divisor, integers of no more bits than the format has.
type pair [2]*big.Int

// nearby is a pair whose dividend, times 2^places, is little more or less than a
// multiple of the divisor: the quotient is as near to that multiple over 2^places.
type nearby struct {
	pair
	places int
}

// mixed is an integer of length bits, which are 1 and 0 in turn.
func mixed(length int) *big.Int {
	return new(big.Int).Quo(power(length+1), big.NewInt(3))
}

// beside is a pair with an odd divisor of that many bits, whose dividend, times 2^places,
// is the divisor times a factor of length bits, and rest. It is false if none was found;
// places are at least 1.
func (k kind) beside(length, divisor, places int, rest int64) (nearby, bool) {
	modulus, most := power(places), plus(k.prec, -1)
	b := mixed(divisor)
	b.SetBit(b, 0, 1)
	for range 200 {
		// The divisor and the rest decide the last bits of the factor: the first integer
		// from the mixed one on that ends with these.
		m := mixed(length)
		last := new(big.Int).ModInverse(b, modulus)
		last.Mul(last, big.NewInt(-rest))
		m.Add(m, last.Mod(last.Sub(last, m), modulus))
		a := new(big.Int).Mul(m, b)
		a.Rsh(a.Add(a, big.NewInt(rest)), uint(places))
		if m.BitLen() == length && b.BitLen() == divisor && a.Sign() > 0 && a.Cmp(most) <= 0 {
			return nearby{pair{a, b}, places}, true
		}
		b = new(big.Int).Add(b, big.NewInt(2))
	}
	return nearby{}, false
}

// besides are such pairs for each number of places for which there can be any.
func (k kind) besides(length, divisor int, rest int64) []nearby {
	var l []nearby
	for _, d := range []int{-1, 0} {
		places := length + divisor + d - k.prec
		if places < 1 {
			continue
		}
		if x, ok := k.beside(length, divisor, places, rest); ok {
			l = append(l, x)
		}
	}
	return l
}

// near are pairs whose quotients are as near to a number, and to the middle of two, as
// quotients with divisors of so many bits can be, and somewhat less near.
func (k kind) near() []pair {
	var l []pair
	for _, length := range []int{1, 2, k.prec / 2, k.prec - 1, k.prec, k.prec + 1} {
		for _, divisor := range []int{k.prec, k.prec - 1, 2 * k.prec / 3, k.prec / 2} {
			for _, rest := range []int64{-3, -2, -1, 1, 2, 3} {
				for _, x := range k.besides(length, divisor, rest) {
					l = append(l, x.pair)
				}
			}
		}
	}
	return l
}

// exact are pairs whose quotients have no more bits than the format.
func (k kind) exact() []pair {
	full, least := plus(k.prec, -1), power(k.prec-1)
	l := []pair{{least, least}, {full, least}, {full, full}, {mixed(k.prec), least}, {big.NewInt(15), big.NewInt(5)}}
	for _, d := range []int64{3, 5, 7, 100} {
		divisor := big.NewInt(d)
		q := new(big.Int).Quo(full, divisor)
		product := new(big.Int).Mul(q, divisor)
		l = append(l, pair{product, divisor}, pair{product, q})
	}
	half := k.prec / 2
	return append(l, pair{new(big.Int).Mul(plus(half, -1), plus(half, -1)), plus(half, -1)})
}

// powers are pairs whose quotients are just below and just above a power of 2.
func (k kind) powers() []pair {
	full, least := plus(k.prec, -1), power(k.prec-1)
	below, above := plus(k.prec, -2), plus(k.prec-1, 1)
	return []pair{
		{below, full}, {full, below}, {least, above}, {above, least}, {full, above}, {above, full},
		{least, full}, {least, below}, {above, plus(k.prec-1, 2)}, {plus(k.prec-1, 2), above},
	}
}

// simple are pairs of small integers, whose quotients have the same bits again and
// again, and of integers of all bits.
func (k kind) simple() []pair {
	var l []pair
	for _, x := range [][2]int64{{1, 3}, {2, 3}, {1, 5}, {1, 7}, {1, 10}, {3, 10}, {22, 7}, {1, 85}} {
		l = append(l, pair{big.NewInt(x[0]), big.NewInt(x[1])})
	}
	full, some := plus(k.prec, -1), mixed(k.prec)
	return append(l, pair{some, full}, pair{full, some}, pair{some, mixed(k.prec - 1)}, pair{power(k.prec - 1), some})
}

// others are the pairs that are not near.
func (k kind) others() []pair {
	return append(append(k.exact(), k.powers()...), k.simple()...)
}

// ends are exponents of quotients at both ends of the format and some within, those
// from below the least subnormal number to the least normal one all among them.
func (k kind) ends() []int {
	l := []int{-2, -1, 0, 1, 2, k.emax - 2, k.emax - 1, k.emax, k.emax + 1, k.emax + 2, 2*k.emax - 1}
	l = append(l, 1-2*k.emax, 2-2*k.emax, k.lowest()-3)
	for e := k.lowest() - 2; e <= k.least()+2; e++ {
		l = append(l, e)
	}
	return l
}

// apart are exponents of two normal numbers that differ by e: as near to 0 as can be,
// and at the end.
func (k kind) apart(e int) [2][2]int {
	far := [2]int{k.emax, k.emax - e}
	if e < 1 {
		far = [2]int{k.least(), k.least() - e}
	}
	return [2][2]int{{e - e>>1, -(e >> 1)}, far}
}

// placed are encodings of the dividend and the divisor whose quotient is theirs times
// 2^unit: with the dividend as low as can be, and with the divisor as high.
func (k kind) placed(p pair, unit int) [2][2]api.Bits {
	high := k.emax - (p[1].BitLen() - 1)
	return [2][2]api.Bits{
		{k.encoding(p[0], k.lowest()), k.encoding(p[1], k.lowest()-unit)},
		{k.encoding(p[0], high+unit), k.encoding(p[1], high)},
	}
}
