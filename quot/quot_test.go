package quot

import (
	"math"
	"math/big"
	"testing"

	"hairsbreadth/api"
	"hairsbreadth/wide"
	"hairsbreadth/word"
)

const all64 = math.MaxUint64

var (
	one  = api.Bits{Lo: 1}
	all  = api.Bits{Hi: all64, Lo: all64}
	half = api.Bits{Hi: 1 << 63}
)

// edgeDigits are numbers of 64 bits about the edges and in between.
func edgeDigits() []uint64 {
	return []uint64{
		0, 1, 2, 3, 7, 10, 1<<32 - 1, 1 << 32, 1<<32 + 1,
		0x123456789abcdef0, 0x9e3779b97f4a7c15,
		1<<63 - 1, 1 << 63, 1<<63 + 1, all64 - 1, all64,
	}
}

// power returns 2^i.
func power(i int) api.Bits {
	if i < 64 {
		return api.Bits{Lo: 1 << i}
	}
	return api.Bits{Hi: 1 << (i - 64)}
}

func sum(a, b api.Bits) api.Bits {
	s, _ := word.Add(a, b)
	return s
}

func difference(a, b api.Bits) api.Bits {
	s, _ := word.Sub(a, b)
	return s
}

// divisors are numbers of every bit length: the power of 2, the numbers about
// it, the one just below the next power, and two in between.
func divisors() []api.Bits {
	l := []api.Bits{one, all}
	for i := 1; i < 128; i++ {
		at := power(i)
		below := difference(at, one)
		mixed := api.Bits{Hi: 0x9e3779b97f4a7c15 & below.Hi, Lo: 0x0123456789abcdef & below.Lo}
		l = append(l, at, below, sum(at, one), sum(at, power(i-1)), sum(at, mixed), sum(at, power(i/2)))
	}
	return l
}

// wides are all numbers whose four digits are about the edges or in between.
func wides() []api.Wide {
	l := []api.Wide{{}}
	for i := range 4 {
		var longer []api.Wide
		for _, w := range l {
			for _, d := range []uint64{0, 1, 0x9e3779b97f4a7c15, 1 << 63, all64} {
				w[i] = d
				longer = append(longer, w)
			}
		}
		l = longer
	}
	return l
}

// multiples are numbers at, just below and just above multiples of d, where
// they fit, with factors at the ends of the digits.
func multiples(d api.Bits) []api.Wide {
	var l []api.Wide
	for _, f := range []api.Bits{one, {Lo: 3}, {Lo: 1 << 63}, {Lo: all64}, {Hi: 1}, {Hi: 1, Lo: 1}, half, all} {
		at := wide.Mul(d, f)
		below, _ := wide.Sub(at, wide.Of(one))
		l = append(l, below, at)
		if above, carry := wide.Add(at, wide.Of(one)); !carry {
			l = append(l, above)
		}
	}
	return l
}

func bigOf(w api.Wide) *big.Int {
	n := new(big.Int)
	for i := range 4 {
		n.Lsh(n, 64)
		n.Or(n, new(big.Int).SetUint64(w[3-i]))
	}
	return n
}

func bigOfBits(a api.Bits) *big.Int {
	return bigOf(wide.Of(a))
}

// P5.1: the examples, the ends of the digits, and a hi that is not less than d.
func TestStepEdges(t *testing.T) {
	for _, x := range []struct {
		hi, lo, d, q, r uint64
		ok              bool
	}{
		{1, 0, 2, 1 << 63, 0, true},
		{2, 0, 2, 0, 0, false},
		{3, 0, 2, 0, 0, false},
		{0, 0, 0, 0, 0, false},
		{0, 5, 0, 0, 0, false},
		{all64, all64, 0, 0, 0, false},
		{0, 0, 1, 0, 0, true},
		{0, 7, 2, 3, 1, true},
		{0, 7, 7, 1, 0, true},
		{0, 6, 7, 0, 6, true},
		{0, 100, 7, 14, 2, true},
		{0, all64, 1, all64, 0, true},
		{1, 0, 1, 0, 0, false},
		{0, all64, all64, 1, 0, true},
		{1, 0, 3, 6148914691236517205, 1, true},
		{1, all64, 2, all64, 1, true},
		{9, 9, 10, 16602069666338596455, 3, true},
		{1<<63 - 1, all64, 1 << 63, all64, 1<<63 - 1, true},
		{1 << 63, 0, 1 << 63, 0, 0, false},
		{all64 - 1, all64, all64, all64, all64 - 1, true},
		{all64 - 1, all64 - 1, all64, all64, all64 - 2, true},
		{all64, 0, all64, 0, 0, false},
		{all64, all64, all64, 0, 0, false},
	} {
		if q, r, ok := Step(x.hi, x.lo, x.d); q != x.q || r != x.r || ok != x.ok {
			t.Errorf("Step(%d, %d, %d) = %d, %d, %v; want %d, %d, %v", x.hi, x.lo, x.d, q, r, ok, x.q, x.r, x.ok)
		}
	}
}

func checkStep(t *testing.T, hi, lo, d uint64) {
	t.Helper()
	q, r, ok := Step(hi, lo, d)
	if hi >= d {
		if q != 0 || r != 0 || ok {
			t.Fatalf("Step(%x, %x, %x) = %x, %x, %v; want 0, 0, false", hi, lo, d, q, r, ok)
		}
		return
	}
	n := bigOfBits(api.Bits{Hi: hi, Lo: lo})
	wantQ, wantR := n.QuoRem(n, new(big.Int).SetUint64(d), new(big.Int))
	if !ok || q != wantQ.Uint64() || r != wantR.Uint64() {
		t.Fatalf("Step(%x, %x, %x) = %x, %x, %v; want %x, %x, true", hi, lo, d, q, r, ok, wantQ, wantR)
	}
}

// P5.1: divisors of every bit length and all digits about the edges, held
// against math/big; hi just below d, at it and above it.
func TestStepAgainstBig(t *testing.T) {
	divisors := edgeDigits()
	for i := range 64 {
		divisors = append(divisors, 1<<i, 1<<i-1, 1<<i+1, 1<<i|0x0123456789abcdef&(1<<i-1))
	}
	for _, d := range divisors {
		for _, hi := range append(edgeDigits(), d-2, d-1, d, d+1, d/2) {
			for _, lo := range append(edgeDigits(), d-1, d, d+1) {
				checkStep(t, hi, lo, d)
			}
		}
	}
}

// P5.2: the examples, 0, and the ends of the digits.
func TestDivEdges(t *testing.T) {
	highest := api.Wide{all64, all64, all64, all64}
	for _, x := range []struct {
		n  api.Wide
		d  api.Bits
		q  api.Wide
		r  api.Bits
		ok bool
	}{
		{api.Wide{7}, api.Bits{Lo: 2}, api.Wide{3}, one, true},
		{api.Wide{7}, api.Bits{}, api.Wide{}, api.Bits{}, false},
		{api.Wide{}, api.Bits{}, api.Wide{}, api.Bits{}, false},
		{highest, api.Bits{}, api.Wide{}, api.Bits{}, false},
		{api.Wide{}, one, api.Wide{}, api.Bits{}, true},
		{api.Wide{}, all, api.Wide{}, api.Bits{}, true},
		{api.Wide{1}, one, api.Wide{1}, api.Bits{}, true},
		{api.Wide{2}, api.Bits{Lo: 3}, api.Wide{}, api.Bits{Lo: 2}, true},
		{api.Wide{3}, api.Bits{Lo: 3}, api.Wide{1}, api.Bits{}, true},
		{api.Wide{100}, api.Bits{Lo: 7}, api.Wide{14}, api.Bits{Lo: 2}, true},
		{highest, one, highest, api.Bits{}, true},
		{highest, all, api.Wide{1, 0, 1}, api.Bits{}, true},
		{highest, half, api.Wide{all64, all64, 1}, difference(half, one), true},
		{highest, api.Bits{Lo: all64}, api.Wide{1, 1, 1, 1}, api.Bits{}, true},
		{highest, api.Bits{Hi: 1}, api.Wide{all64, all64, all64}, api.Bits{Lo: all64}, true},
		{api.Wide{0, 0, 0, 1}, api.Bits{Hi: 1}, api.Wide{0, 0, 1}, api.Bits{}, true},
		{api.Wide{0, 0, 0, 1 << 63}, half, api.Wide{0, 0, 1}, api.Bits{}, true},
		{api.Wide{0, 0, 1}, all, api.Wide{1}, one, true},
		{api.Wide{all64, all64}, all, api.Wide{1}, api.Bits{}, true},
		{api.Wide{all64 - 1, all64}, all, api.Wide{}, api.Bits{Hi: all64, Lo: all64 - 1}, true},
		{api.Wide{0, 1}, api.Bits{Lo: all64}, api.Wide{1}, one, true},
		{api.Wide{all64, 0, 0, 0}, api.Bits{Hi: 1}, api.Wide{}, api.Bits{Lo: all64}, true},
		{api.Wide{0, 0, all64 - 1, all64}, all, api.Wide{all64 - 1, all64}, api.Bits{Hi: all64, Lo: all64 - 1}, true},
	} {
		if q, r, ok := Div(x.n, x.d); q != x.q || r != x.r || ok != x.ok {
			t.Errorf("Div(%x, %x) = %x, %x, %v; want %x, %x, %v", x.n, x.d, q, r, ok, x.q, x.r, x.ok)
		}
	}
}

func checkDiv(t *testing.T, n api.Wide, d api.Bits) {
	t.Helper()
	q, r, ok := Div(n, d)
	wantQ, wantR := new(big.Int).QuoRem(bigOf(n), bigOfBits(d), new(big.Int))
	if !ok || bigOf(q).Cmp(wantQ) != 0 || bigOfBits(r).Cmp(wantR) != 0 {
		t.Fatalf("Div(%x, %x) = %x, %x, %v; want %x, %x, true", n, d, q, r, ok, wantQ, wantR)
	}
}

// P5.2: divisors of every bit length, held against math/big: at their
// multiples and about them, and all digits about the edges.
func TestDivAgainstBig(t *testing.T) {
	for _, d := range divisors() {
		for _, n := range multiples(d) {
			checkDiv(t, n, d)
		}
	}
	for i, n := range wides() {
		for j, d := range divisors() {
			if (i+j)%5 == 0 || d.Hi>>63 == 1 { // all pairs would take long
				checkDiv(t, n, d)
			}
		}
	}
}

// P5.2: a divisor that is 0, whatever the dividend.
func TestDivByZero(t *testing.T) {
	for _, n := range wides() {
		if q, r, ok := Div(n, api.Bits{}); q != (api.Wide{}) || r != (api.Bits{}) || ok {
			t.Fatalf("Div(%x, 0) = %x, %x, %v; want 0, 0, false", n, q, r, ok)
		}
	}
}

// P5.3: the example, the distances 0 and 40,000, a carry beyond the highest
// bit, and arguments that are not valid.
func TestModEdges(t *testing.T) {
	for _, x := range []struct {
		r       api.Bits
		by      int
		d, m    api.Bits
		odd, ok bool
	}{
		{one, 3, api.Bits{Lo: 3}, api.Bits{Lo: 2}, false, true},
		{one, 2, api.Bits{Lo: 3}, one, true, true},
		{one, 1, api.Bits{Lo: 2}, api.Bits{}, true, true},
		{one, 2, api.Bits{Lo: 2}, api.Bits{}, false, true},
		{api.Bits{Lo: 2}, 0, api.Bits{Lo: 3}, api.Bits{Lo: 2}, false, true},
		{api.Bits{Lo: 2}, 1, api.Bits{Lo: 3}, one, true, true},
		{api.Bits{}, 0, one, api.Bits{}, false, true},
		{api.Bits{}, 40000, one, api.Bits{}, false, true},
		{api.Bits{}, 40000, all, api.Bits{}, false, true},
		{one, 40000, api.Bits{Lo: 3}, one, true, true},
		{one, 39999, api.Bits{Lo: 3}, api.Bits{Lo: 2}, false, true},
		{difference(all, one), 0, all, difference(all, one), false, true},
		{difference(all, one), 1, all, api.Bits{Hi: all64, Lo: all64 - 2}, true, true},
		{one, 127, all, half, false, true},
		{one, 128, all, one, true, true},
		{one, 40000, all, power(40000 % 128), false, true},
		{one, 127, half, api.Bits{}, true, true},
		{one, 128, half, api.Bits{}, false, true},
		{one, 126, half, power(126), false, true},

		{api.Bits{}, 0, api.Bits{}, api.Bits{}, false, false},
		{api.Bits{}, 5, api.Bits{}, api.Bits{}, false, false},
		{one, 3, api.Bits{}, api.Bits{}, false, false},
		{one, 3, one, api.Bits{}, false, false},
		{api.Bits{Lo: 3}, 0, api.Bits{Lo: 3}, api.Bits{}, false, false},
		{api.Bits{Lo: 4}, 1, api.Bits{Lo: 3}, api.Bits{}, false, false},
		{api.Bits{Hi: 1}, 1, api.Bits{Lo: all64}, api.Bits{}, false, false},
		{all, 1, all, api.Bits{}, false, false},
		{one, -1, api.Bits{Lo: 3}, api.Bits{}, false, false},
		{one, math.MinInt, api.Bits{Lo: 3}, api.Bits{}, false, false},
		{one, 40001, api.Bits{Lo: 3}, api.Bits{}, false, false},
		{one, math.MaxInt, api.Bits{Lo: 3}, api.Bits{}, false, false},
		{api.Bits{}, 40001, one, api.Bits{}, false, false},
		{api.Bits{Lo: 4}, -1, api.Bits{Lo: 3}, api.Bits{}, false, false},
	} {
		if m, odd, ok := Mod(x.r, x.by, x.d); m != x.m || odd != x.odd || ok != x.ok {
			t.Errorf("Mod(%x, %d, %x) = %x, %v, %v; want %x, %v, %v", x.r, x.by, x.d, m, odd, ok, x.m, x.odd, x.ok)
		}
	}
}

func checkMod(t *testing.T, r api.Bits, by int, d api.Bits) {
	t.Helper()
	m, odd, ok := Mod(r, by, d)
	n := new(big.Int).Lsh(bigOfBits(r), uint(by))
	q, want := n.QuoRem(n, bigOfBits(d), new(big.Int))
	if !ok || bigOfBits(m).Cmp(want) != 0 || odd != (q.Bit(0) == 1) {
		t.Fatalf("Mod(%x, %d, %x) = %x, %v, %v; want %x, %v, true", r, by, d, m, odd, ok, want, q.Bit(0) == 1)
	}
}

// rests are numbers less than d: at both ends and in between.
func rests(d api.Bits) []api.Bits {
	l := []api.Bits{{}, difference(d, one)}
	for _, r := range []api.Bits{one, {Lo: 2}, {Lo: all64}, {Hi: 1}, {Hi: 1 << 62, Lo: 3}, half, difference(d, api.Bits{Lo: 2})} {
		if word.Cmp(r, d) < 0 {
			l = append(l, r)
		}
	}
	return l
}

// P5.3: divisors of every bit length at many distances, held against math/big.
func TestModAgainstBig(t *testing.T) {
	for _, d := range divisors() {
		for _, r := range rests(d) {
			for _, by := range []int{0, 1, 2, 63, 64, 65, 127, 128, 129, 300} {
				checkMod(t, r, by, d)
			}
		}
	}
}

// P5.3: the greatest distance and those of the widest format, held against math/big.
func TestModFar(t *testing.T) {
	for _, d := range []api.Bits{
		one, {Lo: 3}, {Lo: 10}, {Lo: 1 << 63}, {Lo: all64}, {Hi: 1}, {Hi: 1, Lo: 1},
		{Hi: 1 << 48, Lo: 7}, {Hi: 1 << 62, Lo: 1}, half, sum(half, one), difference(half, one), all,
	} {
		for _, r := range rests(d) {
			for _, by := range []int{16383, 32765, 39999, 40000} {
				checkMod(t, r, by, d)
			}
		}
	}
}

// P5.3: a number that is not less than the divisor, and a distance out of range.
func TestModNotValid(t *testing.T) {
	none := func(r api.Bits, by int, d api.Bits) {
		if m, odd, ok := Mod(r, by, d); m != (api.Bits{}) || odd || ok {
			t.Errorf("Mod(%x, %d, %x) = %x, %v, %v; want 0, false, false", r, by, d, m, odd, ok)
		}
	}
	for _, d := range append(divisors(), api.Bits{}) {
		for _, r := range []api.Bits{d, sum(d, one), all} {
			if word.Cmp(r, d) < 0 {
				continue // d + 1 is beyond the width
			}
			for _, by := range []int{0, 1, 128, 40000} {
				none(r, by, d)
			}
		}
		for _, by := range []int{math.MinInt, -40000, -1, 40001, 1 << 20, math.MaxInt} {
			none(api.Bits{}, by, d)
		}
	}
}

// whole returns q * d + r, and whether it is within 256 bits.
func whole(q api.Wide, d, r api.Bits) (api.Wide, bool) {
	upper := wide.Mul(wide.High(q), d)
	n, over := wide.Add(wide.Mul(wide.Low(q), d), wide.Join(wide.Low(upper), api.Bits{}))
	n, beyond := wide.Add(n, wide.Of(r))
	return n, !over && !beyond && wide.High(upper) == api.Bits{}
}

// P5.4: the quotient times d, plus the remainder, is the dividend; the
// remainder is less than d.
func TestPropertiesOfDiv(t *testing.T) {
	for _, d := range divisors() {
		for _, n := range append(multiples(d), api.Wide{}, api.Wide{1, 2, 3, 4}, api.Wide{all64, all64, all64, all64}) {
			q, r, ok := Div(n, d)
			if back, fits := whole(q, d, r); !ok || !fits || back != n || word.Cmp(r, d) >= 0 {
				t.Fatalf("Div(%x, %x) = %x, %x, %v; back to %x", n, d, q, r, ok, back)
			}
		}
	}
}

// P5.4: the same for Step, whose quotient is that of Div too.
func TestPropertiesOfStep(t *testing.T) {
	for _, d := range edgeDigits() {
		for _, hi := range append(edgeDigits(), d-1, d/2) {
			if hi >= d {
				continue
			}
			for _, lo := range edgeDigits() {
				q, r, ok := Step(hi, lo, d)
				n := api.Bits{Hi: hi, Lo: lo}
				if back := sum(word.Mul(q, d), api.Bits{Lo: r}); !ok || back != n || r >= d {
					t.Fatalf("Step(%x, %x, %x) = %x, %x, %v; back to %x", hi, lo, d, q, r, ok, back)
				}
				if wq, wr, _ := Div(wide.Of(n), api.Bits{Lo: d}); wq != (api.Wide{q}) || wr != (api.Bits{Lo: r}) {
					t.Fatalf("Div(%x, %x) = %x, %x; Step says %x, %x", n, d, wq, wr, q, r)
				}
			}
		}
	}
}

// P5.4: a remainder of Mod is less than d, and two distances, one after the
// other, come to that of their sum.
func TestPropertiesOfMod(t *testing.T) {
	for _, d := range divisors() {
		for _, r := range rests(d) {
			once, odd, ok := Mod(r, 200, d)
			middle, _, _ := Mod(r, 77, d)
			twice, oddToo, okToo := Mod(middle, 123, d)
			if !ok || !okToo || once != twice || odd != oddToo || word.Cmp(once, d) >= 0 {
				t.Fatalf("Mod(%x, 200, %x) = %x, %v, %v; by 77 and 123: %x, %v, %v", r, d, once, odd, ok, twice, oddToo, okToo)
			}
		}
	}
}
