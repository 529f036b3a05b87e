package moons_test

import (
	"math"
	"slices"
	"testing"

	"ephemeris/api"
	"ephemeris/cut"
	"ephemeris/moons"
	"ephemeris/nat"
	"ephemeris/orb"
	"ephemeris/rat"
	"ephemeris/whole"
)

// known are days, and the months in which their beginnings are: in one that isn't leap,
// in some of which the next or the one ahead of it is, and at which another is expunged.
var known = []struct {
	day                  int64
	month                moons.Month
	number, lost         int
	leap                 bool
	nextNumber, nextLost int
	nextLeap             bool
}{
	{716980, moons.Month{First: 716955, Next: 716985, Sign: 7, Then: 9}, 9, 10, false, 11, 0, false},
	{717044, moons.Month{First: 717014, Next: 717044, Sign: 10, Then: 11}, 12, 0, false, 1, 0, true},
	{717050, moons.Month{First: 717044, Next: 717073, Sign: 11, Then: 11}, 1, 0, true, 1, 0, false},
	{717080, moons.Month{First: 717073, Next: 717103, Sign: 11, Then: 0}, 1, 0, false, 2, 0, false},
	{717110, moons.Month{First: 717103, Next: 717132, Sign: 0, Then: 1}, 2, 0, false, 3, 0, false},
	{723900, moons.Month{First: 723894, Next: 723924, Sign: 7, Then: 8}, 9, 0, false, 10, 11, false},
	{723950, moons.Month{First: 723924, Next: 723954, Sign: 8, Then: 10}, 10, 11, false, 12, 0, true},
	{723960, moons.Month{First: 723954, Next: 723983, Sign: 10, Then: 10}, 12, 0, true, 12, 0, false},
	{503990, moons.Month{First: 503980, Next: 504009, Sign: 6, Then: 8}, 8, 9, false, 10, 0, false},
	{-api.MaxDay, moons.Month{First: -3000002, Next: -2999972, Sign: 5, Then: 6}, 7, 0, false, 8, 0, false},
	{api.MaxDay, moons.Month{First: 2999994, Next: 3000024, Sign: 1, Then: 2}, 3, 0, false, 4, 0, false},
	{730120, moons.Month{First: 730096, Next: 730125, Sign: 7, Then: 8}, 9, 0, false, 10, 0, false},
	{0, moons.Month{First: -19, Next: 11, Sign: 9, Then: 10}, 11, 0, false, 12, 0, false},
	{api.Kali, moons.Month{First: -1132960, Next: -1132930, Sign: 0, Then: 1}, 2, 0, false, 3, 0, true},
	{-1132985, moons.Month{First: -1132989, Next: -1132960, Sign: 11, Then: 0}, 1, 0, false, 2, 0, false},
}

// beside are months at whose new moon the sun enters a sign between the two moments
// that layer 15 answers.
var beside = []moons.Month{
	{First: -2966956, Next: -2966927, Sign: 11, Then: 11}, {First: -2891831, Next: -2891802, Sign: 7, Then: 7}, {First: -2877951, Next: -2877922, Sign: 7, Then: 8},
	{First: -2737208, Next: -2737179, Sign: 11, Then: 11}, {First: -1230026, Next: -1229997, Sign: 3, Then: 3}, {First: 126667, Next: 126697, Sign: 7, Then: 8},
	{First: 192107, Next: 192137, Sign: 9, Then: 9}, {First: 428736, Next: 428766, Sign: 7, Then: 8}, {First: 2047987, Next: 2048017, Sign: 9, Then: 10},
}

// tiny is less than any step by which moments are looked for.
func tiny() rat.Rat {
	return rat.Make(whole.Of(1), whole.Int{Abs: nat.Nat{0, 0, 0, 1}})
}

// waning tells if the phase is 180 or more at t.
func waning(t rat.Rat) bool { return orb.Phase(t).Cmp(rat.Whole(180)) >= 0 }

// comes tells if a new moon comes in day n.
func comes(n int64) bool { return waning(rat.Whole(n)) && !waning(rat.Whole(n+1)) }

// newMoon is the chapters', word by word: day n, of whose 1024 parts one is looked for.
func newMoon(n int64) (rat.Rat, rat.Rat) {
	left, right := int64(0), int64(1024)
	for right-left > 1 {
		mid := (left + right) / 2
		if waning(rat.Whole(n).Add(rat.Of(mid, 1024))) {
			left = mid
		} else {
			right = mid
		}
	}
	return rat.Whole(n).Add(rat.Of(left, 1024)), rat.Whole(n).Add(rat.Of(right, 1024))
}

// signOf is the chapter's, word by word.
func signOf(n int64) int {
	_, at := newMoon(n)
	return orb.At(at).Sign
}

// monthOf is the one whose new moon comes in day n; the next one is looked for day by day.
func monthOf(n int64) moons.Month {
	next := n + 1
	for !comes(next) {
		next++
	}
	return moons.Month{First: n, Next: next, Sign: signOf(n), Then: signOf(next)}
}

// ahead is the month that ends with the new moon of day n.
func ahead(n int64) moons.Month {
	first := n - 1
	for !comes(first) {
		first--
	}
	return monthOf(first)
}

// days are the first days of months, from one end of the days that may be to the other,
// and far from them.
func days() []int64 {
	l := []int64{}
	for _, from := range []int64{-api.MaxDay - 2, -2000000, api.Kali - 1, -19, 730096, 716955, 723924, 2000000, 2999994, 1 << 40, -1 << 40} {
		for !comes(from) {
			from++
		}
		l = append(l, from)
	}
	return l
}

// P19.1, Of, At, After, SignOf: months that are known; their numbers, and what is leap
// and expunged there.
func TestKnown(t *testing.T) {
	for _, c := range known {
		if got := moons.At(rat.Whole(c.day)); got != c.month {
			t.Errorf("At %d: %v, not %v", c.day, got, c.month)
		}
		m := moons.Of(c.month.First)
		if m != c.month || moons.SignOf(m.First) != m.Sign || moons.SignOf(m.Next) != m.Then {
			t.Errorf("Of %d: %v, not %v", c.month.First, m, c.month)
		}
		if m.Number() != c.number || m.Leap() != c.leap || m.Lost() != c.lost {
			t.Errorf("%v: number %d, leap %t, expunged %d", m, m.Number(), m.Leap(), m.Lost())
		}
		after := m.After()
		if after.First != m.Next || after.Sign != m.Then || after.Number() != c.nextNumber || after.Leap() != c.nextLeap || after.Lost() != c.nextLost {
			t.Errorf("after %v: %v, number %d, leap %t, expunged %d", m, after, after.Number(), after.Leap(), after.Lost())
		}
	}
}

// P19.1, SignOf, Of, After: word by word.
func TestWords(t *testing.T) {
	for _, n := range days() {
		m := moons.Of(n)
		for range 4 {
			want := monthOf(m.First)
			if m != want || moons.SignOf(m.First) != want.Sign {
				t.Errorf("month %v, sign %d; not %v", m, moons.SignOf(m.First), want)
			}
			after := m.After()
			if after != moons.Of(want.Next) {
				t.Errorf("after %v: %v", m, after)
			}
			m = after
		}
	}
}

// P19.1, SignOf: the sign is that of the right end of where the new moon is, also where
// that of the left end is another one; by it a month is leap, or isn't.
func TestRightEnd(t *testing.T) {
	for _, m := range beside {
		lo, hi := newMoon(m.First)
		if old := orb.At(lo).Sign; !comes(m.First) || old == m.Sign || orb.At(hi).Sign != m.Sign {
			t.Fatalf("%v: sign %d, then %d", m, old, orb.At(hi).Sign)
		}
		if got := moons.SignOf(m.First); got != m.Sign {
			t.Errorf("SignOf %d: %d, not %d", m.First, got, m.Sign)
		}
		if got := moons.Of(m.First); got != m || got.Leap() != (m.Sign == m.Then) {
			t.Errorf("Of %d: %v, not %v", m.First, got, m)
		}
		if got := ahead(m.First); moons.Of(got.First) != got || got.Then != m.Sign || moons.Of(got.First).After() != m {
			t.Errorf("Of %d: %v, not %v", got.First, moons.Of(got.First), got)
		}
	}
}

// P19.1, At: within a month's first day, ahead of the new moon and behind it; at its
// beginning and its end, and those of the next one's.
func TestAt(t *testing.T) {
	for _, n := range append(days(), beside[0].First, beside[5].First) {
		m, old := monthOf(n), ahead(n)
		lo, hi := newMoon(n)
		nextLo, nextHi := newMoon(m.Next)
		for _, c := range []struct {
			at   rat.Rat
			want moons.Month
		}{
			{rat.Whole(n), old}, {lo, old}, {hi, m}, {rat.Whole(n + 1).Sub(tiny()), m}, {rat.Whole(n + 1), m}, {rat.Whole(n).Sub(tiny()), old}, {rat.Whole(n - 1), old},
			{rat.Of(2*n+29, 2), m}, {rat.Whole(m.Next), m}, {nextLo, m}, {nextHi, monthOf(m.Next)}, {rat.Whole(m.Next + 1), monthOf(m.Next)},
		} {
			if got := moons.At(c.at); got != c.want {
				t.Errorf("At %s: %v, not %v", cut.Text(c.at), got, c.want)
			}
		}
	}
}

// P19.1, At: of moments no day's number is great enough for it ends all the same.
func TestFar(t *testing.T) {
	huge := rat.Make(whole.Int{Abs: nat.Nat{0, 0, 0, 0, 1}}, whole.Of(3))
	for _, at := range []rat.Rat{huge, huge.Opp(), rat.Whole(math.MaxInt64), rat.Whole(math.MinInt64)} {
		if got := moons.At(at); got.Number() < 1 || got.Number() > 12 {
			t.Errorf("At %s: %v", cut.Text(at), got)
		}
		if row := moons.Row(at, 2); len(row) != 2 {
			t.Errorf("Row at %s: %v", cut.Text(at), row)
		}
	}
}

// P19.1, Number, Leap, Lost: of all Signs that may stand beside one another, whatever the
// days are; the first sign stands behind the last one, the first month behind the twelfth.
func TestNames(t *testing.T) {
	numbers := [12]int{2, 3, 4, 5, 6, 7, 8, 9, 10, 11, 12, 1}
	for sign := range 12 {
		for then := range 12 {
			m := moons.Month{First: int64(sign - 3), Next: int64(50 * then), Sign: sign, Then: then}
			lost := 0
			if then == sign+2 || then == sign-10 {
				lost = numbers[(sign+1)%12]
			}
			if m.Number() != numbers[sign] || m.Leap() != (sign == then) || m.Lost() != lost {
				t.Errorf("%v: number %d, leap %t, expunged %d", m, m.Number(), m.Leap(), m.Lost())
			}
		}
	}
	for _, c := range []struct {
		sign, then, number, lost int
		leap                     bool
	}{{11, 11, 1, 0, true}, {11, 0, 1, 0, false}, {11, 1, 1, 2, false}, {0, 0, 2, 0, true}, {0, 1, 2, 0, false}, {0, 2, 2, 3, false}, {10, 10, 12, 0, true}, {10, 11, 12, 0, false}, {10, 0, 12, 1, false}, {9, 11, 11, 12, false}, {9, 10, 11, 0, false}, {0, 11, 2, 0, false}, {1, 11, 3, 0, false}} {
		m := moons.Month{Sign: c.sign, Then: c.then}
		if m.Number() != c.number || m.Leap() != c.leap || m.Lost() != c.lost {
			t.Errorf("%v: number %d, leap %t, expunged %d", m, m.Number(), m.Leap(), m.Lost())
		}
	}
}

// P19.1, Row: the month of the moment, and those behind it, from none to forty; what is
// done with an answer changes no other one.
func TestRow(t *testing.T) {
	lo, hi := newMoon(716955)
	for _, at := range []rat.Rat{lo, hi, rat.Whole(-api.MaxDay), rat.Whole(api.Kali), rat.Of(-1, 2)} {
		want := []moons.Month{moons.At(at)}
		for len(want) < 40 {
			want = append(want, moons.Of(want[len(want)-1].Next))
		}
		for _, c := range [][2]int{{-1, 0}, {math.MinInt, 0}, {0, 0}, {1, 1}, {2, 2}, {13, 13}, {39, 39}, {40, 40}, {41, 40}, {math.MaxInt, 40}} {
			got := moons.Row(at, c[0])
			if !slices.Equal(got, want[:c[1]]) {
				t.Errorf("Row at %s, %d: %v", cut.Text(at), c[0], got)
			}
			clear(got)
		}
	}
}

// flow fails if two months one behind the other aren't as they should be; it tells by
// how many signs the sun goes on.
func flow(t *testing.T, m, after moons.Month) int {
	t.Helper()
	step := (after.Sign - m.Sign + 12) % 12
	if step > 2 || after.Sign != m.Then || after.First != m.Next || m.Next-m.First < 28 || m.Next-m.First > 31 {
		t.Errorf("%v, then %v", m, after)
	}
	if m.Leap() != (step == 0) || m.Leap() && after.Leap() {
		t.Errorf("%v, leap %t, then %v, leap %t", m, m.Leap(), after, after.Leap())
	}
	lost := 0
	if step == 2 {
		lost = m.Number()%12 + 1
	}
	if m.Lost() != lost || after.Number() != (m.Number()+step-1)%12+1 {
		t.Errorf("%v, number %d, expunged %d, then %v, number %d", m, m.Number(), m.Lost(), after, after.Number())
	}
	return step
}

// P19.2: from a month to the next one the sun's sign stays, or is the next one, or the
// one behind that, and numbers likewise; no two months one behind the other are leap. At
// both ends of the days that may be, and where months are leap and expunged.
func TestFlow(t *testing.T) {
	steps, leaps := [3]int{}, map[int]int{}
	for _, from := range []int64{-api.MaxDay, -998271, api.Kali, 0, 503980, 510949, 716955, 723924, 1509201, 2003426, 2507424, api.MaxDay - 1100} {
		m := moons.At(rat.Whole(from - 150))
		for range 38 {
			after := m.After()
			steps[flow(t, m, after)]++
			if m.Leap() {
				leaps[m.Number()]++
			}
			m = after
		}
	}
	if steps[0] < 12 || steps[1] < 12*34 || steps[2] < 8 {
		t.Errorf("signs stay, go on by one, by two: %v; leap %v", steps, leaps)
	}
}

// P19.2: likewise from one end of the days that may be to the other; but one month in
// 33 or so is leap.
func TestAllTheWay(t *testing.T) {
	leap, all := 0, 0
	for n := int64(-api.MaxDay); n <= api.MaxDay; n += 9973 {
		m := moons.At(rat.Whole(n))
		flow(t, m, m.After())
		if m.First > n || m.Next < n {
			t.Errorf("At %d: %v", n, m)
		}
		if m.Leap() {
			leap++
		}
		all++
	}
	if leap < all/45 || leap > all/20 {
		t.Errorf("%d of %d leap", leap, all)
	}
}
