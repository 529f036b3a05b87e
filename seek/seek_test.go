package seek_test

import (
	"math"
	"testing"

	"ephemeris/api"
	"ephemeris/cut"
	"ephemeris/mean"
	"ephemeris/nat"
	"ephemeris/orb"
	"ephemeris/place"
	"ephemeris/rat"
	"ephemeris/rise"
	"ephemeris/seek"
	"ephemeris/whole"
)

// tiny is less than any step by which moments are looked for.
func tiny() rat.Rat {
	return rat.Make(whole.Of(1), whole.Int{Abs: nat.Nat{0, 0, 0, 1}})
}

// after is the beginning of day n + 1.
func after(n int64) rat.Rat { return rat.Whole(n).Add(rat.Whole(1)) }

// waning tells if the phase is 180 or more at t.
func waning(t rat.Rat) bool { return orb.Phase(t).Cmp(rat.Whole(180)) >= 0 }

// comes is the chapter's, word by word.
func comes(n int64, t rat.Rat) bool {
	return waning(rat.Whole(n)) && !waning(t)
}

// index is the chapter's, word by word.
func index(kind int, t rat.Rat) int {
	e := orb.At(t)
	return [...]int{e.Sign, e.Tithi - 1, e.Star - 1, e.Yoga - 1, e.Half - 1}[kind]
}

func parts(kind int) int { return [...]int{12, 30, 27, 27, 60}[kind] }

// days are both ends of what may be, those beside them, days ahead of day 0 and
// behind it, and far ones.
func days() []int64 {
	l := []int64{-api.MaxDay, 1 - api.MaxDay, api.MaxDay, api.MaxDay - 1, api.Kali, 0, 1, -1, 730120, -714403429586, 1e12, -1e12, math.MaxInt64, math.MaxInt64 - 1, math.MinInt64, math.MinInt64 + 1}
	for n := int64(-api.MaxDay); n <= api.MaxDay; n += 199999 {
		l = append(l, n)
	}
	return l
}

// text is an interval's.
func text(lo, hi rat.Rat) string { return cut.Text(lo) + " " + cut.Text(hi) }

// width is how far apart both ends are.
func width(lo, hi rat.Rat) string { return cut.Text(hi.Sub(lo)) }

// P15.1, Bisect: halved as often as is said, 0 and 64 times at the ends; what is less
// counts as 0, what is more as 64. Of each middle it is asked once, of nothing else.
func TestHalvings(t *testing.T) {
	for _, c := range [][2]int{{0, 0}, {1, 1}, {2, 2}, {21, 21}, {63, 63}, {64, 64}, {65, 64}, {1000, 64}, {math.MaxInt, 64}, {-1, 0}, {-64, 0}, {math.MinInt, 0}} {
		for _, limit := range []rat.Rat{rat.Of(1, 3), rat.Of(5, 7), rat.Whole(-1), rat.Whole(2)} {
			asked := []rat.Rat{}
			lo, hi := seek.Bisect(rat.Rat{}, rat.Whole(1), c[0], func(x rat.Rat) bool {
				asked = append(asked, x)
				return x.Cmp(limit) > 0
			})
			left, right := rat.Rat{}, rat.Whole(1)
			for i := range c[1] {
				mid := left.Add(right).Div(rat.Whole(2))
				if i >= len(asked) || !asked[i].Same(mid) {
					t.Fatalf("%d halvings, %s: asked of %d, not of %s", c[0], cut.Text(limit), len(asked), cut.Text(mid))
				}
				if mid.Cmp(limit) > 0 {
					right = mid
				} else {
					left = mid
				}
			}
			if len(asked) != c[1] || !lo.Same(left) || !hi.Same(right) {
				t.Errorf("%d halvings, %s: %s, asked %d times", c[0], cut.Text(limit), text(lo, hi), len(asked))
			}
		}
	}
}

// P15.1, Bisect: the document's example; of what is so just at the right end, at both
// ends, at none; an interval of no length, and one the other way round.
func TestIntervals(t *testing.T) {
	above := func(limit rat.Rat) func(rat.Rat) bool {
		return func(x rat.Rat) bool { return x.Cmp(limit) > 0 }
	}
	from := func(limit rat.Rat) func(rat.Rat) bool {
		return func(x rat.Rat) bool { return x.Cmp(limit) >= 0 }
	}
	always := func(rat.Rat) bool { return true }
	never := func(rat.Rat) bool { return false }
	for _, c := range []struct {
		lo, hi   rat.Rat
		halvings int
		right    func(rat.Rat) bool
		want     string
	}{
		{rat.Rat{}, rat.Whole(1), 21, above(rat.Of(1, 3)), "699050/2097152 699051/2097152"},
		{rat.Rat{}, rat.Whole(1), 3, from(rat.Of(1, 2)), "3/8 1/2"}, {rat.Rat{}, rat.Whole(1), 3, above(rat.Of(1, 2)), "1/2 5/8"},
		{rat.Rat{}, rat.Whole(1), 4, from(rat.Whole(1)), "15/16 1"}, {rat.Rat{}, rat.Whole(1), 4, never, "15/16 1"}, {rat.Rat{}, rat.Whole(1), 4, always, "0 1/16"},
		{rat.Of(-7, 3), rat.Of(-1, 3), 2, from(rat.Of(-1, 1)), "-4/3 -5/6"}, {rat.Of(-7, 3), rat.Of(-1, 3), 2, always, "-7/3 -11/6"},
		{rat.Of(5, 7), rat.Of(5, 7), 64, always, "5/7 5/7"}, {rat.Of(5, 7), rat.Of(5, 7), 64, never, "5/7 5/7"}, {rat.Whole(1), rat.Rat{}, 2, always, "1 3/4"},
		{rat.Rat{}, rat.Whole(1), 0, always, "0 1"}, {rat.Rat{}, rat.Whole(1), -5, always, "0 1"}, {rat.Rat{}, rat.Whole(1), 1, always, "0 1/2"}, {rat.Rat{}, rat.Whole(1), 1, never, "1/2 1"},
		{rat.Rat{}, rat.Whole(1), 1, nil, "1/2 1"},
	} {
		lo, hi := seek.Bisect(c.lo, c.hi, c.halvings, c.right)
		want := c.want
		if want == "699050/2097152 699051/2097152" {
			want = text(rat.Of(699050, 2097152), rat.Of(699051, 2097152))
		}
		if got := text(lo, hi); got != want {
			t.Errorf("%s, %d times: %s, not %s", text(c.lo, c.hi), c.halvings, got, want)
		}
	}
	if seek.Halvings != 21 || seek.MoonHalvings != 10 {
		t.Errorf("%d, %d halvings", seek.Halvings, seek.MoonHalvings)
	}
}

// P15.1, Comes, Enters: of any day, those of two months beside one another.
func TestDays(t *testing.T) {
	moons, entries := 0, 0
	for _, first := range days() {
		for n := first; n < math.MaxInt64 && n < first+60; n++ {
			came, entered := comes(n, after(n)), orb.Sign(rat.Whole(n)) != orb.Sign(after(n))
			if seek.Comes(n) != came || seek.Enters(n) != entered {
				t.Fatalf("day %d: %t, %t", n, seek.Comes(n), seek.Enters(n))
			}
			if came {
				moons++
			}
			if entered {
				entries++
			}
		}
	}
	if moons < 60 || entries < 60 {
		t.Errorf("%d moons, %d entries", moons, entries)
	}
	for _, n := range []int64{math.MaxInt64, math.MinInt64} {
		if seek.Comes(n) != comes(n, after(n)) || seek.Enters(n) != (orb.Sign(rat.Whole(n)) != orb.Sign(after(n))) {
			t.Errorf("day %d", n)
		}
	}
}

// last is the greatest day below n in which a new moon comes.
func last(n int64) int64 {
	for n--; !comes(n, after(n)); n-- {
	}
	return n
}

// next is the least day above n in which one comes.
func next(n int64) int64 {
	for n++; !comes(n, after(n)); n++ {
	}
	return n
}

// inner are days far enough from those that are numbers of 64 bits last.
func inner() []int64 {
	l := []int64{}
	for _, n := range days() {
		if n < 2e12 && n > -2e12 {
			l = append(l, n)
		}
	}
	return l
}

// P15.1, P15.3: Last at every day of a month, and within it; Next of the days in which
// one comes; from one to the next one there are from 28 to 31 days.
func TestMoons(t *testing.T) {
	for i, n := range inner() {
		from := last(n)
		to := next(from)
		if got := seek.Next(from); got != to || to-from < 28 || to-from > 31 {
			t.Fatalf("Next of %d: %d, not %d", from, got, to)
		}
		for m := from + 1; m <= to; m += 1 + int64(i%3) {
			if got := seek.Last(rat.Whole(m)); got != from {
				t.Errorf("Last of %d: %d, not %d", m, got, from)
			}
			if got := seek.Last(rat.Whole(m).Sub(tiny())); m > from+1 && got != from {
				t.Errorf("Last just ahead of %d: %d, not %d", m, got, from)
			}
		}
	}
}

// P15.3: one behind the other, at both ends of what may be and in between.
func TestMonths(t *testing.T) {
	seen := map[int64]int{}
	for _, first := range []int64{-api.MaxDay, api.Kali, -30, 738000, api.MaxDay - 1500} {
		n := seek.Next(last(first))
		for range 50 {
			m := seek.Next(n)
			seen[m-n]++
			if m-n < 28 || m-n > 31 || m != next(n) || seek.Last(rat.Whole(m)) != n {
				t.Fatalf("from %d to %d, last %d", n, m, seek.Last(rat.Whole(m)))
			}
			n = m
		}
	}
	if seen[29] == 0 || seen[30] == 0 {
		t.Errorf("months: %v", seen)
	}
}

// P15.1, Last: within the day in which a new moon comes it is that day from the new
// moon on, and the one ahead of it up to there; P15.2: both ends of the halved day.
func TestNewMoon(t *testing.T) {
	for _, at := range inner() {
		from := last(at)
		n := next(from)
		lo, hi := seek.NewMoon(n)
		if !waning(lo) || waning(hi) || width(lo, hi) != "1/1024" || lo.Cmp(rat.Whole(n)) < 0 || hi.Cmp(after(n)) > 0 || !cut.Frac(lo.Mul(rat.Whole(1024))).Same(rat.Rat{}) {
			t.Fatalf("day %d: %s", n, text(lo, hi))
		}
		for _, c := range []struct {
			at   rat.Rat
			want int64
		}{{lo, from}, {hi, n}, {rat.Whole(n), from}, {after(n), n}, {after(n).Sub(tiny()), n}, {rat.Whole(n).Sub(tiny()), from}} {
			if got := seek.Last(c.at); got != c.want {
				t.Errorf("Last at %s: %d, not %d", cut.Text(c.at), got, c.want)
			}
		}
	}
}

// P15.1, Last: at the creation the moon is new, at that very moment, and just ahead of
// it it isn't; that is the beginning of a day, in which none comes.
func TestCreation(t *testing.T) {
	n, ok := cut.Days(mean.Creation())
	if !ok || !rat.Whole(n).Same(mean.Creation()) {
		t.Fatalf("creation: %d", n)
	}
	if seek.Comes(n) || !seek.Comes(n-1) || seek.Last(mean.Creation()) != n-1 || seek.Last(mean.Creation().Sub(tiny())) != last(n-1) {
		t.Errorf("%t, %t, %d", seek.Comes(n), seek.Comes(n-1), seek.Last(mean.Creation()))
	}
	if lo, hi := seek.NewMoon(n - 1); !hi.Same(mean.Creation()) || width(lo, hi) != "1/1024" {
		t.Errorf("new moon: %s", text(lo, hi))
	}
	if lo, hi := seek.Entry(n - 1); !seek.Enters(n-1) || !hi.Same(mean.Creation()) || width(lo, hi) != "1/2097152" {
		t.Errorf("entry: %s", text(lo, hi))
	}
}

// P15.1: days in which nothing comes, or is entered, are halved all the same: the moon
// waxes all day, or not at all.
func TestNothingComes(t *testing.T) {
	part := func(n int64, of int64, last bool) string {
		if last {
			return text(after(n).Sub(rat.Of(1, of)), after(n))
		}
		return text(rat.Whole(n), rat.Whole(n).Add(rat.Of(1, of)))
	}
	waxed, waned := 0, 0
	for _, first := range append(inner(), math.MinInt64, math.MaxInt64-40) {
		for n := first; n < first+31; n += 3 {
			if lo, hi := seek.Entry(n); !seek.Enters(n) && text(lo, hi) != part(n, 1<<21, true) {
				t.Errorf("Entry of %d: %s", n, text(lo, hi))
			}
			start, end := waning(rat.Whole(n)), waning(after(n))
			if start != end {
				continue
			}
			if lo, hi := seek.NewMoon(n); text(lo, hi) != part(n, 1024, start) {
				t.Errorf("NewMoon of %d: %s", n, text(lo, hi))
			}
			if start {
				waned++
			} else {
				waxed++
			}
		}
	}
	if waxed == 0 || waned == 0 {
		t.Errorf("%d waxed, %d waned", waxed, waned)
	}
}

// P15.1: the last days that are numbers of 64 bits, and moments beyond them.
func TestFar(t *testing.T) {
	if got := seek.Last(rat.Whole(math.MaxInt64)); got != last(math.MaxInt64) && !comes(math.MaxInt64, rat.Whole(math.MaxInt64)) {
		t.Errorf("Last: %d", got)
	}
	from := last(math.MaxInt64)
	if !comes(from, after(from)) || seek.Next(last(from)) != from {
		t.Errorf("Next: %d, not %d", seek.Next(last(from)), from)
	}
	if got := seek.Next(from); got != 0 {
		t.Errorf("Next of %d: %d", from, got)
	}
	if got := seek.Next(math.MaxInt64); got != 0 {
		t.Errorf("Next of the last one: %d", got)
	}
	first := next(math.MinInt64)
	if seek.Last(rat.Whole(next(first))) != first || seek.Last(rat.Whole(first+1)) != first || seek.Last(rat.Whole(math.MinInt64)) != 0 {
		t.Errorf("Last, of the first days: %d, %d", seek.Last(rat.Whole(first+1)), seek.Last(rat.Whole(math.MinInt64)))
	}
	for n := int64(math.MinInt64); n <= first; n++ {
		if got := seek.Last(rat.Whole(n)); got != 0 {
			t.Errorf("Last of %d: %d", n, got)
		}
	}
	beyond := rat.Whole(math.MaxInt64).Mul(rat.Whole(math.MaxInt64))
	if seek.Last(beyond) != 0 || seek.Last(beyond.Opp()) != 0 || seek.Last(after(math.MaxInt64)) != 0 {
		t.Error("Last, beyond all of them")
	}
	for kind := range 5 {
		for _, at := range []rat.Rat{beyond, beyond.Opp()} {
			if lo, hi := seek.End(kind, at); index(kind, lo) != index(kind, at) || index(kind, hi) != (index(kind, at)+1)%parts(kind) {
				t.Errorf("End of kind %d: %s", kind, text(lo, hi))
			}
		}
	}
}

// P15.1, Parts, Index, End: kinds that are none.
func TestNoKinds(t *testing.T) {
	for _, kind := range []int{-1, 5, 6, -5, 60, math.MaxInt, math.MinInt} {
		at := rat.Of(730120*7+3, 7)
		lo, hi := seek.End(kind, at)
		if seek.Parts(kind) != 0 || seek.Index(kind, at) != 0 || !lo.Same(rat.Rat{}) || !hi.Same(rat.Rat{}) {
			t.Errorf("kind %d: %d parts, index %d, %s", kind, seek.Parts(kind), seek.Index(kind, at), text(lo, hi))
		}
	}
	if seek.Sign != 0 || seek.Tithi != 1 || seek.Star != 2 || seek.Yoga != 3 || seek.Half != 4 {
		t.Error("kinds")
	}
}

// P15.1, Parts, Index: all kinds, all indexes of each.
func TestIndexes(t *testing.T) {
	for kind := range 5 {
		seen := make([]bool, parts(kind))
		if seek.Parts(kind) != len(seen) {
			t.Errorf("kind %d: %d parts", kind, seek.Parts(kind))
		}
		step := rat.Of(2, 5)
		if kind == 0 {
			step = rat.Whole(11)
		}
		at := rat.Whole(-20)
		for range 90 {
			got := seek.Index(kind, at)
			if got != index(kind, at) || got < 0 || got >= len(seen) {
				t.Fatalf("kind %d at %s: %d", kind, cut.Text(at), got)
			}
			seen[got] = true
			at = at.Add(step)
		}
		for k, ok := range seen {
			if !ok {
				t.Errorf("kind %d: no index %d", kind, k)
			}
		}
		if seek.Index(kind, mean.Creation()) != 0 || seek.Index(kind, mean.Creation().Sub(tiny())) != parts(kind)-1 {
			t.Errorf("kind %d at the creation: %d, %d", kind, seek.Index(kind, mean.Creation()), seek.Index(kind, mean.Creation().Sub(tiny())))
		}
	}
}

// stride is how far apart moments are looked at.
func stride(kind int) rat.Rat {
	if kind == 0 {
		return rat.Whole(1)
	}
	return rat.Of(1, 4)
}

// fits tells what is wrong with what End answers, if anything is: it lies on the grid of
// halves within the first stride behind t at whose end the index isn't t's.
func fits(kind int, t, lo, hi rat.Rat) (int64, string) {
	small := stride(kind).Mul(rat.Of(1, 1<<21))
	old := index(kind, t)
	strides, _ := cut.Days(lo.Sub(t).Div(stride(kind)))
	end := t.Add(stride(kind).Mul(rat.Whole(strides)))
	switch {
	case index(kind, lo) != old:
		return strides, "left"
	case index(kind, hi) != (old+1)%parts(kind):
		return strides, "right"
	case !hi.Sub(lo).Same(small) || hi.Sub(lo).Cmp(rat.Of(1, 1<<20)) >= 0:
		return strides, "width"
	case !cut.Frac(lo.Sub(t).Div(small)).Same(rat.Rat{}):
		return strides, "grid"
	case index(kind, end) != old || index(kind, end.Add(stride(kind))) == old:
		return strides, "stride"
	}
	return strides, ""
}

// P15.2, End: of all kinds, at sunrises and other moments; it ends within the first
// stride, or several later; behind the last index comes the first one.
func TestEnds(t *testing.T) {
	for kind := range 5 {
		most, none, wrapped := int64(0), 0, 0
		for i, n := range inner() {
			at := rat.Whole(n).Add(rat.Of(int64(i), 31))
			if i%2 == 0 && n <= api.MaxDay && n >= -api.MaxDay {
				at = rise.Sunrise(n, place.Ujjain())
			}
			lo, hi := seek.End(kind, at)
			strides, wrong := fits(kind, at, lo, hi)
			if wrong != "" {
				t.Fatalf("kind %d at %s: %s, %s", kind, cut.Text(at), text(lo, hi), wrong)
			}
			most = max(most, strides)
			if strides == 0 {
				none++
			}
			if index(kind, hi) == 0 {
				wrapped++
			}
		}
		if most < 1 || none == 0 || kind > 0 && kind < 4 && most < 3 {
			t.Errorf("kind %d: %d at once, at most %d strides, %d wrapped", kind, none, most, wrapped)
		}
	}
}

// P15.2, End: all that come one behind the other, from the first index to the first
// one again, each from where the one ahead of it ended.
func TestOneBehindTheOther(t *testing.T) {
	for kind := range 5 {
		at := rat.Whole(738000)
		for range parts(kind) + 2 {
			lo, hi := seek.End(kind, at)
			if _, wrong := fits(kind, at, lo, hi); wrong != "" {
				t.Fatalf("kind %d at %s: %s, %s", kind, cut.Text(at), text(lo, hi), wrong)
			}
			at = hi
		}
	}
}

// P15.2, End: ends that fall on the end of a stride, exactly and by the grid, and
// just beside it.
func TestOnStrides(t *testing.T) {
	for kind := range 5 {
		small := stride(kind).Mul(rat.Of(1, 1<<21))
		for strides := int64(1); strides <= 2; strides++ {
			back := stride(kind).Mul(rat.Whole(strides))
			at := mean.Creation().Sub(back)
			if lo, hi := seek.End(kind, at); !hi.Same(mean.Creation()) || !lo.Same(hi.Sub(small)) {
				t.Errorf("kind %d, %d strides ahead: %s", kind, strides, text(lo, hi))
			}
			if lo, hi := seek.End(kind, at.Sub(tiny())); !lo.Same(mean.Creation().Sub(tiny())) || !hi.Same(lo.Add(small)) {
				t.Errorf("kind %d, more than %d strides ahead: %s", kind, strides, text(lo, hi))
			}
			if lo, hi := seek.End(kind, at.Add(tiny())); !hi.Same(mean.Creation().Add(tiny())) || !lo.Same(hi.Sub(small)) {
				t.Errorf("kind %d, less than %d strides ahead: %s", kind, strides, text(lo, hi))
			}
		}
		left, right := seek.End(kind, rat.Whole(-738000))
		if lo, hi := seek.End(kind, right.Sub(stride(kind))); !lo.Same(left) || !hi.Same(right) {
			t.Errorf("kind %d, a stride ahead of the right end: %s", kind, text(lo, hi))
		}
		if lo, hi := seek.End(kind, left.Sub(stride(kind))); !lo.Same(left) || !hi.Same(right) {
			t.Errorf("kind %d, a stride ahead of the left end: %s", kind, text(lo, hi))
		}
		if lo, hi := seek.End(kind, left); !lo.Same(left) || !hi.Same(right) {
			t.Errorf("kind %d, from the left end: %s", kind, text(lo, hi))
		}
	}
}

// P15.2, Entry: of the days in which a sign is entered, all signs, the first behind
// the last one.
func TestEntry(t *testing.T) {
	for _, first := range []int64{-api.MaxDay, api.Kali - 3, -200, 738000, api.MaxDay - 400} {
		signs := 0
		for n := first; n < first+366; n++ {
			if !seek.Enters(n) {
				continue
			}
			signs++
			lo, hi := seek.Entry(n)
			old := orb.Sign(rat.Whole(n))
			if orb.Sign(lo) != old || orb.Sign(hi) != (old+1)%12 || width(lo, hi) != "1/2097152" || lo.Cmp(rat.Whole(n)) < 0 || hi.Cmp(after(n)) > 0 || !cut.Frac(lo.Mul(rat.Whole(1<<21))).Same(rat.Rat{}) {
				t.Errorf("day %d: %s", n, text(lo, hi))
			}
		}
		if signs < 12 || signs > 13 {
			t.Errorf("from %d on: %d signs", first, signs)
		}
	}
}

// P15.1: no call changes what it is asked of, nor what others answer.
func TestNothingChanges(t *testing.T) {
	at := rat.Of(730120*3+1, 3)
	lo, hi := seek.End(seek.Tithi, at)
	want := text(lo, hi)
	for _, x := range []rat.Rat{lo, hi, at} {
		clear(x.Num().Abs)
		clear(x.Den())
	}
	left, right := seek.Bisect(at, at, 0, nil)
	clear(left.Num().Abs)
	clear(right.Den())
	lo, hi = seek.End(seek.Tithi, at)
	if text(lo, hi) != want || !at.Same(rat.Of(730120*3+1, 3)) {
		t.Errorf("%s, not %s, at %s", text(lo, hi), want, cut.Text(at))
	}
}
