package mode

import (
	"testing"

	"hairsbreadth/api"
)

func modes() []api.Mode {
	return []api.Mode{api.Near, api.Away, api.Up, api.Down, api.Zero}
}

func every() []api.Mode {
	var l []api.Mode
	for m := range 256 {
		l = append(l, api.Mode(m))
	}
	return l
}

func both() []bool {
	return []bool{false, true}
}

// whole is the integer to which the mode m rounds n eighths: found among the
// integers around it by the distance and the order of the numbers, signs and all.
func whole(m api.Mode, n int) int {
	best, found := 0, false
	for i := n/8 - 2; i <= n/8+2; i++ {
		if allowed(m, n, 8*i) && (!found || better(m, n, i, best)) {
			best, found = i, true
		}
	}
	return best
}

// allowed tells whether a number may be rounded to that one, which is on the side
// that a directed mode asks for.
func allowed(m api.Mode, n, to int) bool {
	switch m {
	case api.Up:
		return to >= n
	case api.Down:
		return to <= n
	case api.Zero:
		return size(to) <= size(n) && to*n >= 0
	}
	return true
}

// better tells whether the integer i is nearer to n eighths than the integer j, or
// as near and the one that a tie goes to.
func better(m api.Mode, n, i, j int) bool {
	di, dj := size(n-8*i), size(n-8*j)
	if di != dj {
		return di < dj
	}
	if m == api.Near {
		return i%2 == 0
	}
	return size(i) > size(j)
}

func size(n int) int {
	if n < 0 {
		return -n
	}
	return n
}

// rest is the category of some eighths.
func rest(eighths int) Rest {
	switch {
	case eighths == 0:
		return None
	case eighths < 4:
		return Less
	case eighths == 4:
		return Half
	}
	return More
}

// magnitude is what a magnitude with that floor and rest is rounded to.
func magnitude(m api.Mode, neg bool, floor int, r Rest) int {
	if Next(m, neg, floor%2 == 1, r) {
		return floor + 1
	}
	return floor
}

// The categories are numbered in the chapter's order.
func TestRests(t *testing.T) {
	for i, r := range []Rest{None, Less, Half, More} {
		if int(r) != i {
			t.Errorf("category %d is %d", i, r)
		}
	}
}

// P13.1: the five modes are known, and nothing else.
func TestKnown(t *testing.T) {
	for _, m := range every() {
		if got, want := Known(m), m < 5; got != want {
			t.Errorf("Known(%d) = %v", m, got)
		}
	}
}

// P13.1: the chapter's table, written out: a letter for each category from None to
// More, y where the next integer is returned.
func TestNextTable(t *testing.T) {
	type row struct {
		m         api.Mode
		neg, odd  bool
		decisions string
	}
	for _, x := range []row{
		{api.Near, false, false, "nnny"},
		{api.Near, false, true, "nnyy"},
		{api.Near, true, false, "nnny"},
		{api.Near, true, true, "nnyy"},
		{api.Away, false, false, "nnyy"},
		{api.Away, false, true, "nnyy"},
		{api.Away, true, false, "nnyy"},
		{api.Away, true, true, "nnyy"},
		{api.Up, false, false, "nyyy"},
		{api.Up, false, true, "nyyy"},
		{api.Up, true, false, "nnnn"},
		{api.Up, true, true, "nnnn"},
		{api.Down, false, false, "nnnn"},
		{api.Down, false, true, "nnnn"},
		{api.Down, true, false, "nyyy"},
		{api.Down, true, true, "nyyy"},
		{api.Zero, false, false, "nnnn"},
		{api.Zero, false, true, "nnnn"},
		{api.Zero, true, false, "nnnn"},
		{api.Zero, true, true, "nnnn"},
	} {
		for r, decision := range x.decisions {
			if got, want := Next(x.m, x.neg, x.odd, Rest(r)), decision == 'y'; got != want {
				t.Errorf("Next(%d, %v, %v, %d) = %v", x.m, x.neg, x.odd, r, got)
			}
		}
	}
}

// P13.1: a mode or a category that does not exist is not rounded to the next
// integer, whatever the other arguments are.
func TestNextUnknown(t *testing.T) {
	for _, m := range every() {
		for r := range 256 {
			if m < 5 && r < 4 {
				continue
			}
			for _, neg := range both() {
				for _, odd := range both() {
					if Next(m, neg, odd, Rest(r)) {
						t.Fatalf("Next(%d, %v, %v, %d) = true", m, neg, odd, r)
					}
				}
			}
		}
	}
}

// P13.1: the decisions are those that round numbers of both signs rightly.
func TestNextRounds(t *testing.T) {
	for _, m := range modes() {
		for n := range 80 {
			floor, r := n/8, rest(n%8)
			if got, want := magnitude(m, false, floor, r), size(whole(m, n)); got != want {
				t.Errorf("mode %d: %d/8 is rounded to %d, want %d", m, n, got, want)
			}
			if got, want := magnitude(m, true, floor, r), size(whole(m, -n)); n > 0 && got != want {
				t.Errorf("mode %d: -%d/8 is rounded to -%d, want -%d", m, n, got, want)
			}
		}
	}
}

// P13.2: the category for all four pairs of bits.
func TestOf(t *testing.T) {
	for _, x := range []struct {
		half, below bool
		want        Rest
	}{{false, false, None}, {false, true, Less}, {true, false, Half}, {true, true, More}} {
		if got := Of(x.half, x.below); got != x.want {
			t.Errorf("Of(%v, %v) = %d, want %d", x.half, x.below, got, x.want)
		}
	}
}

// P13.2: the bits of a rest of eighths tell its category.
func TestOfBits(t *testing.T) {
	for n := range 8 {
		if got, want := Of(n&4 != 0, n&3 != 0), rest(n); got != want {
			t.Errorf("%d/8 has category %d, want %d", n, got, want)
		}
	}
}

// P13.2: Up and Down change places, and every other value stays, those that are no
// modes among them.
func TestMirror(t *testing.T) {
	for _, m := range every() {
		want := m
		if m == 2 {
			want = 3
		} else if m == 3 {
			want = 2
		}
		if got := Mirror(m); got != want {
			t.Errorf("Mirror(%d) = %d, want %d", m, got, want)
		}
	}
}

// P13.3: an infinity where the mode rounds away from zero or to the nearest, and
// never in a mode that does not exist.
func TestInfinite(t *testing.T) {
	for _, m := range every() {
		for _, neg := range both() {
			want := m == api.Near || m == api.Away || m == api.Up && !neg || m == api.Down && neg
			if got := Infinite(m, neg); got != want {
				t.Errorf("Infinite(%d, %v) = %v", m, neg, got)
			}
		}
	}
}

// P13.4: a negative number is rounded as its absolute value in the mirrored mode,
// and a positive one as its opposite in it.
func TestMirrored(t *testing.T) {
	for _, m := range modes() {
		for floor := range 4 {
			for r := None; r <= More; r++ {
				for _, neg := range both() {
					got, want := magnitude(Mirror(m), !neg, floor, r), magnitude(m, neg, floor, r)
					if got != want {
						t.Errorf("mode %d, neg %v, floor %d, rest %d: %d, mirrored %d", m, neg, floor, r, want, got)
					}
				}
			}
		}
	}
}

// P13.4: no magnitude is smaller than that of Zero.
func TestZeroLeast(t *testing.T) {
	for _, m := range modes() {
		for floor := range 4 {
			for r := None; r <= More; r++ {
				for _, neg := range both() {
					got, least := magnitude(m, neg, floor, r), magnitude(api.Zero, neg, floor, r)
					if got < least {
						t.Errorf("mode %d, neg %v, floor %d, rest %d: %d, Zero %d", m, neg, floor, r, got, least)
					}
				}
			}
		}
	}
}

// P13.4: no magnitude is greater than that of the mode that rounds away from zero,
// Down for negative numbers and Up for the others.
func TestAwayGreatest(t *testing.T) {
	outward := map[bool]api.Mode{false: api.Up, true: api.Down}
	for _, m := range modes() {
		for floor := range 4 {
			for r := None; r <= More; r++ {
				for _, neg := range both() {
					got, greatest := magnitude(m, neg, floor, r), magnitude(outward[neg], neg, floor, r)
					if got > greatest {
						t.Errorf("mode %d, neg %v, floor %d, rest %d: %d, outward %d", m, neg, floor, r, got, greatest)
					}
				}
			}
		}
	}
}
