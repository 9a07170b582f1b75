package flag

import (
	"slices"
	"strings"
	"testing"

	"hairsbreadth/api"
)

// one is a flag with its name; all five are listed in the order of the chapter.
type one struct {
	value int
	name  string
}

func five() []one {
	return []one{{1, "invalid"}, {2, "divzero"}, {4, "overflow"}, {8, "underflow"}, {16, "inexact"}}
}

// in tells by division whether the bit of that value is 1 in s.
func in(s api.Flags, value int) bool {
	return int(s)/value%2 == 1
}

// union is the sum of the flags that are in an element of l.
func union(l []api.Flags) api.Flags {
	sum := 0
	for _, o := range five() {
		if slices.ContainsFunc(l, func(s api.Flags) bool { return in(s, o.value) }) {
			sum += o.value
		}
	}
	return api.Flags(sum)
}

// namesOf are the names of the flags in s, with spaces between them.
func namesOf(s api.Flags) string {
	var l []string
	for _, o := range five() {
		if in(s, o.value) {
			l = append(l, o.name)
		}
	}
	return strings.Join(l, " ")
}

func every() []api.Flags {
	var l []api.Flags
	for s := range 256 {
		l = append(l, api.Flags(s))
	}
	return l
}

// orders are all the orders of l.
func orders(l []api.Flags) [][]api.Flags {
	if len(l) == 0 {
		return [][]api.Flags{nil}
	}
	var all [][]api.Flags
	for i, first := range l {
		rest := slices.Concat(l[:i], l[i+1:])
		for _, o := range orders(rest) {
			all = append(all, append([]api.Flags{first}, o...))
		}
	}
	return all
}

// lists are arguments for Join: such as share flags and such as share none, with
// bits that do not represent flags in none of them, in some and in all.
func lists() [][]api.Flags {
	return [][]api.Flags{
		{1, 16},
		{1, 2, 4, 8, 16},
		{3, 6, 12, 24},
		{31, 31, 31},
		{0, 0, 0},
		{5, 0, 10},
		{17, 17, 1},
		{1, 34, 4},
		{32, 64, 128},
		{224, 224},
		{33, 66, 132},
		{255, 0},
		{255, 255, 255, 255},
		{161, 65, 1, 48},
	}
}

// P12.1: Join of no argument, whether the list is nil or empty, has no flag.
func TestJoinNone(t *testing.T) {
	for _, l := range [][]api.Flags{nil, {}} {
		if s := Join(l...); s != 0 {
			t.Errorf("Join of no argument = %d", s)
		}
	}
	if s := Join(); s != 0 {
		t.Errorf("Join() = %d", s)
	}
}

// P12.1: Join of one argument drops the bits that do not represent flags, and
// keeps the others.
func TestJoinOne(t *testing.T) {
	for _, s := range every() {
		if got, want := Join(s), s%32; got != want {
			t.Errorf("Join(%d) = %d, want %d", s, got, want)
		}
	}
}

// P12.1, P12.3: Join of two arguments is their union, in both orders.
func TestJoinTwo(t *testing.T) {
	for _, a := range every() {
		for _, b := range every() {
			want := union([]api.Flags{a, b})
			if got, back := Join(a, b), Join(b, a); got != want || back != want {
				t.Fatalf("Join(%d, %d) = %d, the other way round %d, want %d", a, b, got, back, want)
			}
		}
	}
}

// P12.1: results written out as numbers.
func TestJoinNumbers(t *testing.T) {
	for _, c := range []struct {
		l    []api.Flags
		want api.Flags
	}{
		{[]api.Flags{api.Invalid, api.Inexact}, 17},
		{[]api.Flags{32}, 0},
		{[]api.Flags{1, 2, 4, 8, 16}, 31},
		{[]api.Flags{3, 6, 12}, 15},
		{[]api.Flags{5, 0, 10}, 15},
		{[]api.Flags{17, 17, 1}, 17},
		{[]api.Flags{1, 34, 4}, 7},
		{[]api.Flags{32, 64, 128}, 0},
		{[]api.Flags{33, 66, 132}, 7},
		{[]api.Flags{255, 0}, 31},
		{[]api.Flags{api.Overflow | api.Inexact, api.Underflow | api.Inexact, 64}, 28},
	} {
		if got := Join(c.l...); got != c.want {
			t.Errorf("Join(%v) = %d, want %d", c.l, got, c.want)
		}
	}
}

// P12.3: the order of the arguments doesn't matter, with many of them too.
func TestJoinOrders(t *testing.T) {
	for _, l := range lists() {
		want := union(l)
		for _, o := range orders(l) {
			if got := Join(o...); got != want {
				t.Errorf("Join(%v) = %d, want %d", o, got, want)
			}
		}
	}
}

// P12.1, P12.3: one flag is found at each place of a long list.
func TestJoinMany(t *testing.T) {
	for _, o := range five() {
		for place := range 300 {
			l := make([]api.Flags, 300)
			l[place] = api.Flags(o.value)
			l[299-place] |= 128
			if got := Join(l...); got != api.Flags(o.value) {
				t.Fatalf("Join with %d at place %d = %d", o.value, place, got)
			}
		}
	}
	if got := Join(every()...); got != 31 {
		t.Errorf("Join of all values = %d", got)
	}
}

// P12.3: Join contains every flag of every argument, and no other flag.
func TestJoinContains(t *testing.T) {
	for _, l := range lists() {
		s := Join(l...)
		for _, o := range five() {
			some := false
			for _, argument := range l {
				some = some || Has(argument, api.Flags(o.value))
			}
			if Has(s, api.Flags(o.value)) != some {
				t.Errorf("Join(%v) = %d: %s", l, s, o.name)
			}
		}
		if !Good(s) {
			t.Errorf("Join(%v) = %d is not valid", l, s)
		}
	}
}

// P12.1: Join leaves its arguments as they were.
func TestJoinKeeps(t *testing.T) {
	for _, l := range lists() {
		was := slices.Clone(l)
		Join(l...)
		if !slices.Equal(l, was) {
			t.Errorf("Join made %v of its arguments %v", l, was)
		}
	}
}

// P12.1: Has asks for every bit of part, those that do not represent flags too.
func TestHas(t *testing.T) {
	for _, s := range every() {
		for _, part := range every() {
			want := true
			for value := 1; value < 256; value *= 2 {
				want = want && (in(s, value) || !in(part, value))
			}
			if Has(s, part) != want {
				t.Fatalf("Has(%d, %d) = %t", s, part, !want)
			}
		}
	}
}

// P12.1: results written out.
func TestHasNumbers(t *testing.T) {
	for _, c := range []struct {
		s, part api.Flags
		want    bool
	}{
		{17, 1, true}, {16, 1, false}, {17, 17, true}, {16, 17, false}, {0, 0, true}, {31, 0, true}, {0, 1, false},
		{31, 32, false}, {32, 32, true}, {1, 33, false}, {33, 33, true}, {33, 1, true}, {224, 96, true}, {96, 224, false}, {255, 255, true}, {127, 255, false},
	} {
		if got := Has(c.s, c.part); got != c.want {
			t.Errorf("Has(%d, %d) = %t", c.s, c.part, got)
		}
	}
}

// P12.2: Names tells the flags alone, in their order.
func TestNames(t *testing.T) {
	for _, s := range every() {
		if got, want := strings.Join(Names(s), " "), namesOf(s); got != want {
			t.Errorf("Names(%d) = %q, want %q", s, got, want)
		}
	}
}

// P12.2: results written out; the empty set has no name, not an empty one.
func TestNamesTexts(t *testing.T) {
	for s, want := range map[api.Flags][]string{
		0:             {},
		32:            {},
		224:           {},
		api.Invalid:   {"invalid"},
		api.DivZero:   {"divzero"},
		api.Overflow:  {"overflow"},
		api.Underflow: {"underflow"},
		api.Inexact:   {"inexact"},
		20:            {"overflow", "inexact"},
		9:             {"invalid", "underflow"},
		66:            {"divzero"},
		31:            {"invalid", "divzero", "overflow", "underflow", "inexact"},
		255:           {"invalid", "divzero", "overflow", "underflow", "inexact"},
	} {
		if got := Names(s); !slices.Equal(got, want) {
			t.Errorf("Names(%d) = %q, want %q", s, got, want)
		}
	}
}

// P12.2: what is written over a result, or behind it, is seen by no other call.
func TestNamesOwn(t *testing.T) {
	for _, s := range every() {
		first, second := Names(s), Names(s)
		whole := first[:cap(first)]
		for i := range whole {
			whole[i] = "x"
		}
		third := Names(s)
		if want := namesOf(s); strings.Join(second, " ") != want || strings.Join(third, " ") != want {
			t.Errorf("Names(%d) = %q and %q, after another result was changed", s, second, third)
		}
	}
}

// P12.2: the sets below 32 are valid, and no others.
func TestGood(t *testing.T) {
	for _, s := range every() {
		if got, want := Good(s), s < 32; got != want {
			t.Errorf("Good(%d) = %t", s, got)
		}
	}
}

// P12.3: valid sets have the same names if and only if they are equal.
func TestNamesTell(t *testing.T) {
	for _, a := range every()[:32] {
		for _, b := range every()[:32] {
			if same := slices.Equal(Names(a), Names(b)); same != (a == b) {
				t.Errorf("Names(%d) = %q, Names(%d) = %q", a, Names(a), b, Names(b))
			}
		}
	}
}

// P12.2, P12.3: a visit of the flags ends where the visitor stops it.
func TestFlagsStop(t *testing.T) {
	var seen []string
	for part, name := range flags(255) {
		seen = append(seen, name)
		if part == api.DivZero {
			break
		}
	}
	if want := []string{"invalid", "divzero"}; !slices.Equal(seen, want) {
		t.Errorf("visited %q, want %q", seen, want)
	}
}
