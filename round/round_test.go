package round

import (
	"math"
	"math/big"
	"testing"

	"hairsbreadth/api"
	"hairsbreadth/mode"
	"hairsbreadth/shift"
)

const (
	all64 = math.MaxUint64
	top   = 1 << 63
)

func modes() []api.Mode {
	return []api.Mode{api.Near, api.Away, api.Up, api.Down, api.Zero}
}

func both() []bool {
	return []bool{false, true}
}

// outside are numbers of bits that can't be kept, next to the range and far off.
func outside() []int {
	return []int{math.MinInt, math.MinInt + 1, math.MinInt32, -257, -256, -255, -129, -128, -127, -64, -2, -1,
		128, 129, 191, 192, 254, 255, 256, 257, 512, math.MaxInt32, math.MaxInt - 256, math.MaxInt - 1, math.MaxInt}
}

func ones() api.Wide {
	return api.Wide{all64, all64, all64, all64}
}

func bigOf(w api.Wide) *big.Int {
	n := new(big.Int)
	for i := range w {
		n.Lsh(n, 64)
		n.Or(n, new(big.Int).SetUint64(w[3-i]))
	}
	return n
}

func bigBits(b api.Bits) *big.Int {
	return bigOf(api.Wide{b.Lo, b.Hi})
}

func wideOf(n *big.Int) api.Wide {
	var w api.Wide
	for i := range w {
		w[i] = new(big.Int).Rsh(n, uint(64*i)).Uint64() // the lowest 64 bits
	}
	return w
}

func power(n int) *big.Int {
	return new(big.Int).Lsh(big.NewInt(1), uint(n))
}

// rests are the remainders of each kind below keep bits, by the category that they
// have: the least and the greatest of those that are less or more than a half.
func rests(keep int) map[mode.Rest][]*big.Int {
	unit, half, one := power(256-keep), power(255-keep), big.NewInt(1)
	return map[mode.Rest][]*big.Int{
		mode.None: {big.NewInt(0)},
		mode.Less: {one, new(big.Int).Sub(half, one)},
		mode.Half: {half},
		mode.More: {new(big.Int).Add(half, one), new(big.Int).Sub(unit, one)},
	}
}

// floors are numbers of at most keep bits, even ones and odd ones: the least, the
// greatest, and some between.
func floors(keep int) []*big.Int {
	count := power(keep)
	var l []*big.Int
	for _, n := range []int64{0, 1, 2, 3, -1, -2, 1 << 40, 1<<40 + 1, -1 << 50, 0x5555555555555555} {
		l = append(l, new(big.Int).Mod(big.NewInt(n), count))
	}
	// The one whose leading bit alone is 1, and the greatest without that bit.
	return append(l, new(big.Int).Rsh(count, 1), new(big.Int).Rsh(new(big.Int).Sub(count, big.NewInt(1)), 1))
}

// number is the one with that floor and that remainder.
func number(keep int, floor, rest *big.Int) api.Wide {
	n := new(big.Int).Lsh(floor, uint(256-keep))
	return wideOf(n.Add(n, rest))
}

// numbers are one for each floor and each remainder.
func numbers(keep int) []api.Wide {
	l := []api.Wide{{}, ones()}
	for _, remainders := range rests(keep) {
		for _, rest := range remainders {
			for _, floor := range floors(keep) {
				l = append(l, number(keep, floor, rest))
			}
		}
	}
	return l
}

// whole is the integer to which m rounds n / unit, found from the numbers with their
// sign by the division of big integers: the one below, the one above, the nearer.
func whole(n, unit *big.Int, m api.Mode) *big.Int {
	below := new(big.Int).Div(n, unit) // towards minus infinity, since unit is positive
	above := new(big.Int).Neg(new(big.Int).Div(new(big.Int).Neg(n), unit))
	switch m {
	case api.Up:
		return above
	case api.Down:
		return below
	case api.Zero:
		return new(big.Int).Quo(n, unit)
	}
	down := new(big.Int).Sub(n, new(big.Int).Mul(below, unit))
	up := new(big.Int).Sub(new(big.Int).Mul(above, unit), n)
	switch order := down.Cmp(up); {
	case order < 0:
		return below
	case order > 0:
		return above
	case m == api.Near && below.Bit(0) == 0, m == api.Away && n.Sign() < 0:
		return below
	}
	return above
}

// category is that of the remainder of w, held against the half.
func category(w api.Wide, keep int) mode.Rest {
	rest := new(big.Int).Mod(bigOf(w), power(256-keep))
	if rest.Sign() == 0 {
		return mode.None
	}
	return [...]mode.Rest{mode.Less, mode.Half, mode.More}[rest.Cmp(power(255-keep))+1]
}

// cutBig is what Cut should answer.
func cutBig(w api.Wide, keep int, m api.Mode, neg bool) (*big.Int, bool) {
	n := bigOf(w)
	if neg {
		n.Neg(n)
	}
	unit := power(256 - keep)
	inexact := new(big.Int).Mod(n, unit).Sign() != 0
	return new(big.Int).Abs(whole(n, unit, m)), inexact
}

// P15.1: written out: the categories at both ends of what can be kept and between.
func TestRestWritten(t *testing.T) {
	for _, x := range []struct {
		w    api.Wide
		keep int
		want mode.Rest
	}{
		{api.Wide{}, 0, mode.None},
		{api.Wide{}, 127, mode.None},
		{ones(), 0, mode.More},
		{ones(), 127, mode.More},
		{api.Wide{0, 0, 0, top}, 1, mode.None},
		{api.Wide{0, 0, 0, top}, 0, mode.Half},
		{api.Wide{1, 0, 0, top}, 0, mode.More},
		{api.Wide{0, 0, 0, top - 1}, 0, mode.Less},
		{api.Wide{0, 0, 0, 1 << 62}, 1, mode.Half},
		{api.Wide{0, 0, 0, 1 << 62}, 0, mode.Less},
		{api.Wide{0, 0, 0, 3 << 62}, 1, mode.Half},
		{api.Wide{0, 0, 0, 3 << 62}, 2, mode.None},
		{api.Wide{1, 0, 0, 3 << 62}, 2, mode.Less},
		{api.Wide{0, 0, 1, 0}, 127, mode.Half},
		{api.Wide{1, 0, 1, 0}, 127, mode.More},
		{api.Wide{0, 0, 2, 0}, 127, mode.None},
		{api.Wide{all64, all64, 0, 0}, 127, mode.Less},
		{api.Wide{1, 0, 0, 0}, 127, mode.Less},
		{api.Wide{0, 0, top, 0}, 64, mode.Half},
		{api.Wide{0, 0, 0, 1}, 64, mode.None},
		{api.Wide{0, 0, 0, 1}, 63, mode.Half},
	} {
		if got := Rest(x.w, x.keep); got != x.want {
			t.Errorf("Rest(%x, %d) = %d, want %d", x.w, x.keep, got, x.want)
		}
	}
}

// P15.1: every keep with remainders made for each category.
func TestRestOfEachCategory(t *testing.T) {
	for keep := 0; keep <= 127; keep++ {
		for want, remainders := range rests(keep) {
			for _, rest := range remainders {
				for _, floor := range floors(keep) {
					w := number(keep, floor, rest)
					if got := Rest(w, keep); got != want {
						t.Fatalf("Rest(%x, %d) = %d, want %d", w, keep, got, want)
					}
				}
			}
		}
	}
}

// P15.1: every keep, held against math/big: numbers made for this keep, 0 and
// 2^256 - 1, and those of one bit, wherever it is.
func TestRestAgainstBig(t *testing.T) {
	for keep := 0; keep <= 127; keep++ {
		l := numbers(keep)
		for i := range 256 {
			l = append(l, wideOf(power(i)))
		}
		for _, w := range l {
			if got, want := Rest(w, keep), category(w, keep); got != want {
				t.Fatalf("Rest(%x, %d) = %d, want %d", w, keep, got, want)
			}
		}
	}
}

// P15.2: written out: for each number what the modes Near, Away, Up, Down and Zero
// make of it, of either sign, and whether it is inexact.
func TestCutWritten(t *testing.T) {
	for _, x := range []struct {
		w        api.Wide
		keep     int
		pos, neg [5]uint64
		inexact  bool
	}{
		{api.Wide{}, 0, [5]uint64{}, [5]uint64{}, false},
		{ones(), 0, [5]uint64{1, 1, 1, 0, 0}, [5]uint64{1, 1, 0, 1, 0}, true},
		{ones(), 8, [5]uint64{256, 256, 256, 255, 255}, [5]uint64{256, 256, 255, 256, 255}, true},
		{api.Wide{0, 0, 0, top}, 0, [5]uint64{0, 1, 1, 0, 0}, [5]uint64{0, 1, 0, 1, 0}, true},
		{api.Wide{1, 0, 0, top}, 0, [5]uint64{1, 1, 1, 0, 0}, [5]uint64{1, 1, 0, 1, 0}, true},
		{api.Wide{1}, 0, [5]uint64{0, 0, 1, 0, 0}, [5]uint64{0, 0, 0, 1, 0}, true},
		{api.Wide{0, 0, 0, top}, 1, [5]uint64{1, 1, 1, 1, 1}, [5]uint64{1, 1, 1, 1, 1}, false},
		{api.Wide{0, 0, 0, 5 << 61}, 2, [5]uint64{2, 3, 3, 2, 2}, [5]uint64{2, 3, 2, 3, 2}, true},
		{api.Wide{0, 0, 0, 7 << 61}, 2, [5]uint64{4, 4, 4, 3, 3}, [5]uint64{4, 4, 3, 4, 3}, true},
		{api.Wide{all64, all64, all64, 7<<61 - 1}, 2, [5]uint64{3, 3, 4, 3, 3}, [5]uint64{3, 3, 3, 4, 3}, true},
		{api.Wide{0, 0, 0, all64}, 64, [5]uint64{all64, all64, all64, all64, all64}, [5]uint64{all64, all64, all64, all64, all64}, false},
	} {
		for i, m := range modes() {
			if got, inexact := Cut(x.w, x.keep, m, false); got != (api.Bits{Lo: x.pos[i]}) || inexact != x.inexact {
				t.Errorf("Cut(%x, %d, %d, false) = %x, %v; want %x", x.w, x.keep, m, got, inexact, x.pos[i])
			}
			if got, inexact := Cut(x.w, x.keep, m, true); got != (api.Bits{Lo: x.neg[i]}) || inexact != x.inexact {
				t.Errorf("Cut(%x, %d, %d, true) = %x, %v; want %x", x.w, x.keep, m, got, inexact, x.neg[i])
			}
		}
	}
}

// P15.2: every keep, mode and sign, held against math/big, with floors of both
// parities and remainders of each kind.
func TestCutAgainstBig(t *testing.T) {
	for keep := 0; keep <= 127; keep++ {
		for _, w := range numbers(keep) {
			for _, m := range modes() {
				for _, neg := range both() {
					got, inexact := Cut(w, keep, m, neg)
					want, wantInexact := cutBig(w, keep, m, neg)
					if bigBits(got).Cmp(want) != 0 || inexact != wantInexact {
						t.Fatalf("Cut(%x, %d, %d, %v) = %x, %v; want %x, %v", w, keep, m, neg, got, inexact, want, wantInexact)
					}
				}
			}
		}
	}
}

// P15.2: the bits that are kept may be all ones, and are rounded to 2^keep.
func TestCutToThePower(t *testing.T) {
	for keep := 0; keep <= 127; keep++ {
		for _, x := range []struct {
			m   api.Mode
			neg bool
		}{{api.Near, false}, {api.Near, true}, {api.Away, false}, {api.Away, true}, {api.Up, false}, {api.Down, true}} {
			got, inexact := Cut(ones(), keep, x.m, x.neg)
			if bigBits(got).Cmp(power(keep)) != 0 || !inexact {
				t.Errorf("Cut(2^256 - 1, %d, %d, %v) = %x, %v", keep, x.m, x.neg, got, inexact)
			}
		}
	}
	if got, _ := Cut(ones(), 127, api.Up, false); got != (api.Bits{Hi: top}) {
		t.Errorf("Cut(2^256 - 1, 127, Up, false) = %x", got)
	}
}

// P15.2: a number that has no rest is returned in every mode, beside false.
func TestCutExact(t *testing.T) {
	for keep := 0; keep <= 127; keep++ {
		for _, floor := range floors(keep) {
			w := number(keep, floor, new(big.Int))
			for _, m := range modes() {
				for _, neg := range both() {
					if got, inexact := Cut(w, keep, m, neg); bigBits(got).Cmp(floor) != 0 || inexact {
						t.Fatalf("Cut(%x, %d, %d, %v) = %x, %v; want %x", w, keep, m, neg, got, inexact, floor)
					}
				}
			}
		}
	}
}

// some are numbers that would be rounded up, that are inexact, and that are neither.
func some() []api.Wide {
	return []api.Wide{{}, {1}, ones(), {0, 0, 0, top}, {1, 0, 0, top}, {0, 0, 0, 3 << 62}, {all64, all64, 0, 0}, {0, top, 1, 1}, {top, 0, 0, 0}}
}

// P15.1, P15.2: what can't be kept, in every mode, those that don't exist as well.
func TestKeepOutside(t *testing.T) {
	for _, keep := range outside() {
		for _, w := range some() {
			if got := Rest(w, keep); got != mode.None {
				t.Errorf("Rest(%x, %d) = %d", w, keep, got)
			}
			for m := range 256 {
				for _, neg := range both() {
					if got, inexact := Cut(w, keep, api.Mode(m), neg); got != (api.Bits{}) || inexact {
						t.Fatalf("Cut(%x, %d, %d, %v) = %x, %v", w, keep, m, neg, got, inexact)
					}
				}
			}
		}
	}
}

// P15.2: modes that don't exist, whatever is kept.
func TestCutInNoMode(t *testing.T) {
	for m := 5; m <= 255; m++ {
		for keep := 0; keep <= 127; keep++ {
			for _, w := range some() {
				for _, neg := range both() {
					if got, inexact := Cut(w, keep, api.Mode(m), neg); got != (api.Bits{}) || inexact {
						t.Fatalf("Cut(%x, %d, %d, %v) = %x, %v", w, keep, m, neg, got, inexact)
					}
				}
			}
		}
	}
}

// P15.3: the result is nearer to the number than 1, and in the modes to the nearest
// no farther than 1/2.
func TestCutIsNear(t *testing.T) {
	for keep := 0; keep <= 127; keep++ {
		unit, half := power(256-keep), power(255-keep)
		for _, w := range numbers(keep) {
			for _, m := range modes() {
				for _, neg := range both() {
					got, _ := Cut(w, keep, m, neg)
					away := new(big.Int).Sub(new(big.Int).Mul(bigBits(got), unit), bigOf(w))
					away.Abs(away)
					if away.Cmp(unit) >= 0 {
						t.Fatalf("Cut(%x, %d, %d, %v) = %x, 1 or more from the number", w, keep, m, neg, got)
					}
					if (m == api.Near || m == api.Away) && away.Cmp(half) > 0 {
						t.Fatalf("Cut(%x, %d, %d, %v) = %x, more than 1/2 from the number", w, keep, m, neg, got)
					}
				}
			}
		}
	}
}

// jammed are numbers of each category at keep, over an even and an odd floor.
func jammed(keep int) []api.Wide {
	l := []api.Wide{{}}
	greatest := new(big.Int).Sub(power(keep), big.NewInt(1))
	for _, remainders := range rests(keep) {
		for _, rest := range remainders {
			l = append(l, number(keep, greatest, rest), number(keep, new(big.Int).Rsh(greatest, 1), rest))
			if keep > 0 {
				l = append(l, number(keep, new(big.Int).Sub(greatest, big.NewInt(1)), rest))
			}
		}
	}
	return l
}

// P15.3: a number that was jammed is cut to the same, by every distance that leaves
// its bits in reach.
func TestCutJammed(t *testing.T) {
	for keep := 0; keep <= 127; keep++ {
		for _, w := range jammed(keep) {
			for n := 0; keep+n <= 127; n++ {
				right := shift.WideJam(w, n)
				for _, m := range modes() {
					for _, neg := range both() {
						want, wantInexact := Cut(w, keep, m, neg)
						if got, inexact := Cut(right, keep+n, m, neg); got != want || inexact != wantInexact {
							t.Fatalf("Cut(%x, %d, %d, %v) = %x, %v; of that jammed by %d: %x, %v", w, keep, m, neg, want, wantInexact, n, got, inexact)
						}
					}
				}
				if Rest(right, keep+n) != Rest(w, keep) {
					t.Fatalf("Rest(%x, %d) = %d, of that jammed by %d: %d", w, keep, Rest(w, keep), n, Rest(right, keep+n))
				}
			}
		}
	}
}
