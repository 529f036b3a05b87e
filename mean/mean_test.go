package mean_test

import (
	"math"
	"math/big"
	"testing"

	"ephemeris/api"
	"ephemeris/mean"
	"ephemeris/nat"
	"ephemeris/rat"
	"ephemeris/whole"
)

// integer is math/big's number of the same sign and limbs: it knows nothing of
// the layers.
func integer(x whole.Int) *big.Int {
	v := new(big.Int)
	for i := len(x.Abs) - 1; i >= 0; i-- {
		v.Lsh(v, 32).Or(v, big.NewInt(int64(x.Abs[i])))
	}
	if x.Neg {
		v.Neg(v)
	}
	return v
}

// value is math/big's number of what stands above and below.
func value(x rat.Rat) *big.Rat {
	return new(big.Rat).SetFrac(integer(x.Num()), integer(whole.Int{Abs: x.Den()}))
}

// is tells if x is n over d.
func is(x rat.Rat, n, d int64) bool {
	return value(x).Cmp(big.NewRat(n, d)) == 0
}

// long is n over d, of limbs.
func long(neg bool, n, d nat.Nat) rat.Rat {
	return rat.Make(whole.Int{Neg: neg, Abs: n}, whole.Int{Abs: d})
}

// creation is the document's: so many ways of the sun ahead of day Kali.
func creation() *big.Rat {
	days := new(big.Rat).Mul(big.NewRat(1955880000, 1), big.NewRat(1577917828000, 4320000000))
	return days.Sub(big.NewRat(-1132959, 1), days)
}

// turns is by math/big what Turns is.
func turns(t, period *big.Rat) *big.Rat {
	if period.Sign() == 0 {
		return new(big.Rat)
	}
	days := new(big.Rat).Sub(t, creation())
	return days.Quo(days, period)
}

// degrees is by math/big what Of is.
func degrees(t, period *big.Rat) *big.Rat {
	if period.Sign() <= 0 {
		return new(big.Rat)
	}
	x := turns(t, period)
	floor := new(big.Int).Div(x.Num(), x.Denom())
	x.Sub(x, new(big.Rat).SetInt(floor))
	return x.Mul(x, big.NewRat(360, 1))
}

// moments are days and what lies between them, near the creation, day Kali and
// day 0, just beside each, and far ahead of all and far behind.
func moments() []rat.Rat {
	tiny := long(false, nat.Nat{1}, nat.Nat{0, 0, 0, 1})
	l := []rat.Rat{}
	for _, day := range []rat.Rat{mean.Creation(), rat.Whole(api.Kali), {}, rat.Whole(730120), rat.Whole(api.MaxDay), rat.Whole(-api.MaxDay)} {
		for _, more := range []rat.Rat{{}, tiny, rat.Of(1, 3), rat.Of(1, 4), rat.Of(765, 1024), rat.Whole(1), rat.Whole(14), rat.Of(365, 2), rat.Whole(12345)} {
			l = append(l, day.Add(more), day.Sub(more))
		}
	}
	for _, neg := range []bool{false, true} {
		l = append(l,
			long(neg, nat.Nat{1}, nat.Nat{1, 2, 3}), long(neg, nat.Nat{5, 0, 0, 9}, nat.Nat{7}), long(neg, nat.Nat{1, 2, 3, 4, 5, 6, 7, 8}, nat.Nat{1}),
			long(neg, nat.Nat{1, 2, 3, 4, 5, 6, 7, 8}, nat.Nat{9, 8, 7, 6}))
	}
	return append(l, rat.Whole(math.MaxInt64), rat.Whole(math.MinInt64), rat.Of(math.MinInt64, 3), rat.Whole(-1e12), rat.Whole(1e12))
}

// periods are those of the document, others above 0, and what is none.
func periods() []rat.Rat {
	l := []rat.Rat{
		mean.Year(), mean.Month(), mean.Synodic(), mean.AnomalyYear(), mean.AnomalyMonth(),
		rat.Whole(1), rat.Whole(4), rat.Of(1, 7), rat.Of(math.MaxInt64, 3), long(false, nat.Nat{1}, nat.Nat{1, 2, 3}), long(false, nat.Nat{5, 0, 0, 9}, nat.Nat{7}),
	}
	for _, period := range l {
		l = append(l, period.Opp())
	}
	return append(l, rat.Rat{})
}

// P11.1, Year, Month, Synodic, AnomalyYear, AnomalyMonth.
func TestPeriods(t *testing.T) {
	for _, c := range []struct {
		name       string
		x          rat.Rat
		days, ways int64
	}{
		{"Year", mean.Year(), 1577917828000, 4320000000},
		{"AnomalyYear", mean.AnomalyYear(), 1577917828000, 4319999613},
		{"Month", mean.Month(), 1577917828, 57753336},
		{"Synodic", mean.Synodic(), 1577917828, 53433336},
		{"AnomalyMonth", mean.AnomalyMonth(), 1577917828, 57265137},
	} {
		if !is(c.x, c.days, c.ways) {
			t.Errorf("%s: %v", c.name, value(c.x))
		}
	}
	if year := mean.Year(); !is(rat.Make(year.Num(), whole.Of(1)), 394479457, 1) || !is(rat.Make(whole.Int{Abs: year.Den()}, whole.Of(1)), 1080000, 1) {
		t.Errorf("Year: %v over %v", year.Num(), year.Den())
	}
}

// P11.1, Creation: so many ways of the sun ahead of day Kali.
func TestCreation(t *testing.T) {
	if got := mean.Creation(); !is(got, -714403429586, 1) || value(got).Cmp(creation()) != 0 {
		t.Errorf("Creation: %v", value(got))
	}
	if got := rat.Whole(api.Kali).Sub(mean.Year().Mul(rat.Whole(1955880000))); !got.Same(mean.Creation()) {
		t.Errorf("ways of the sun ahead of day Kali: %v", value(got))
	}
}

// P11.1, Turns, Of: so many days behind the creation, or ahead of it.
func TestFromCreation(t *testing.T) {
	for _, c := range []struct {
		days, by         int64 // behind the creation
		period, of       int64
		above, below     int64 // of Turns
		degrees, degreeD int64
	}{
		{0, 1, 4, 1, 0, 1, 0, 1}, {1, 1, 4, 1, 1, 4, 90, 1}, {3, 1, 4, 1, 3, 4, 270, 1}, {4, 1, 4, 1, 1, 1, 0, 1}, {5, 1, 4, 1, 5, 4, 90, 1}, {7, 2, 4, 1, 7, 8, 315, 1}, {400, 1, 4, 1, 100, 1, 0, 1}, {1, 7, 3, 5, 5, 21, 600, 7},
		{-1, 1, 4, 1, -1, 4, 270, 1}, {-3, 1, 4, 1, -3, 4, 90, 1}, {-4, 1, 4, 1, -1, 1, 0, 1}, {-5, 1, 4, 1, -5, 4, 270, 1}, {-1, 1000, 4, 1, -1, 4000, 35991, 100}, {-7, 1, 2, 3, -21, 2, 180, 1},
		{1, 1, 0, 1, 0, 1, 0, 1}, {-1, 1, 0, 1, 0, 1, 0, 1}, {0, 1, 0, 1, 0, 1, 0, 1}, {1, 1, -4, 1, -1, 4, 0, 1}, {-1, 1, -4, 1, 1, 4, 0, 1}, {0, 1, -4, 1, 0, 1, 0, 1}, {1, 1, -1, 1e15, -1e15, 1, 0, 1},
	} {
		at, period := mean.Creation().Add(rat.Of(c.days, c.by)), rat.Of(c.period, c.of)
		if got := mean.Turns(at, period); !is(got, c.above, c.below) {
			t.Errorf("Turns of %+v: %v", c, value(got))
		}
		if got := mean.Of(at, period); !is(got, c.degrees, c.degreeD) {
			t.Errorf("Of %+v: %v", c, value(got))
		}
	}
}

// P11.1, Turns, Of, Sun, Moon: of any moment and any period.
func TestMoments(t *testing.T) {
	year, month := big.NewRat(394479457, 1080000), big.NewRat(1577917828, 57753336)
	for _, at := range moments() {
		v := value(at)
		for _, period := range periods() {
			p := value(period)
			if got := mean.Turns(at, period); value(got).Cmp(turns(v, p)) != 0 {
				t.Fatalf("Turns of %v, %v: %v", v, p, value(got))
			}
			if got := mean.Of(at, period); value(got).Cmp(degrees(v, p)) != 0 {
				t.Fatalf("Of %v, %v: %v", v, p, value(got))
			}
		}
		if got := mean.Sun(at); value(got).Cmp(degrees(v, year)) != 0 {
			t.Fatalf("Sun at %v: %v", v, value(got))
		}
		if got := mean.Moon(at); value(got).Cmp(degrees(v, month)) != 0 {
			t.Fatalf("Moon at %v: %v", v, value(got))
		}
	}
}

// P11.1: no answer is below 0, or a whole circle; of a moment just ahead of a
// beginning it is almost that.
func TestCircle(t *testing.T) {
	circle := rat.Whole(360)
	for _, at := range moments() {
		for _, x := range []rat.Rat{mean.Sun(at), mean.Moon(at), mean.Of(at, mean.Synodic()), mean.Of(at, mean.AnomalyYear()), mean.Of(at, mean.AnomalyMonth())} {
			if x.Sign() < 0 || x.Cmp(circle) >= 0 {
				t.Errorf("%v: %v", value(at), value(x))
			}
		}
	}
	tiny := long(false, nat.Nat{1}, nat.Nat{0, 0, 0, 1})
	for _, day := range []rat.Rat{mean.Creation(), rat.Whole(api.Kali)} {
		for _, x := range []rat.Rat{mean.Sun(day.Sub(tiny)), mean.Moon(day.Sub(tiny))} {
			if x.Cmp(rat.Of(359999, 1000)) <= 0 {
				t.Errorf("just ahead of %v: %v", value(day), value(x))
			}
		}
	}
}

// P11.1: no call changes what it is asked of, nor what others answer.
func TestNothingChanges(t *testing.T) {
	for _, at := range moments() {
		for _, period := range periods() {
			v, p := value(at), value(period)
			for _, x := range []rat.Rat{mean.Turns(at, period), mean.Of(at, period), mean.Sun(at), mean.Moon(at), mean.Year(), mean.Creation()} {
				clear(x.Num().Abs)
				clear(x.Den())
			}
			if value(at).Cmp(v) != 0 || value(period).Cmp(p) != 0 {
				t.Fatalf("%v, %v: now %v, %v", v, p, value(at), value(period))
			}
		}
	}
	if !is(mean.Year(), 394479457, 1080000) || !is(mean.Creation(), -714403429586, 1) {
		t.Errorf("Year %v, Creation %v", value(mean.Year()), value(mean.Creation()))
	}
}

// P11.2: a period more changes nothing, but that there was a turn more.
func TestPeriodMore(t *testing.T) {
	for _, at := range moments() {
		for _, period := range periods() {
			for _, n := range []int64{1, -1, 7, 1e12, -1e12} {
				more := at.Add(period.Mul(rat.Whole(n)))
				if got := mean.Of(more, period); !got.Same(mean.Of(at, period)) {
					t.Fatalf("%v and %d times %v: %v", value(at), n, value(period), value(got))
				}
				if got := mean.Turns(more, period).Sub(mean.Turns(at, period)); period.Sign() != 0 && !got.Same(rat.Whole(n)) {
					t.Fatalf("%v and %d times %v: %v turns more", value(at), n, value(period), value(got))
				}
			}
		}
		if sun, moon := at.Add(mean.Year()), at.Sub(mean.Month()); !mean.Sun(sun).Same(mean.Sun(at)) || !mean.Moon(moon).Same(mean.Moon(at)) {
			t.Fatalf("%v: %v, %v", value(at), value(mean.Sun(sun)), value(mean.Moon(moon)))
		}
	}
}

// P11.3: at the beginning of day Kali, as at the creation, both stand at 0; they
// went round so often since.
func TestBeginnings(t *testing.T) {
	for _, day := range []rat.Rat{rat.Whole(api.Kali), rat.Whole(-1132959), mean.Creation()} {
		if sun, moon := mean.Sun(day), mean.Moon(day); sun.Sign() != 0 || moon.Sign() != 0 {
			t.Errorf("%v: %v, %v", value(day), value(sun), value(moon))
		}
	}
	kali := rat.Whole(api.Kali)
	if sun, moon := mean.Turns(kali, mean.Year()), mean.Turns(kali, mean.Month()); !is(sun, 1955880000, 1) || !is(moon, 26147822874, 1) {
		t.Errorf("turns: %v, %v", value(sun), value(moon))
	}
	if a, b := mean.Of(mean.Creation(), mean.AnomalyYear()), mean.Of(mean.Creation(), mean.AnomalyMonth()); a.Sign() != 0 || b.Sign() != 0 {
		t.Errorf("at the creation: %v, %v", value(a), value(b))
	}
}

// P11.4: the mean moon less the mean sun is what Synodic says, by whole circles.
func TestSynodic(t *testing.T) {
	for _, at := range moments() {
		less := mean.Moon(at).Sub(mean.Sun(at))
		if less.Sign() < 0 {
			less = less.Add(rat.Whole(360))
		}
		if got := mean.Of(at, mean.Synodic()); !got.Same(less) {
			t.Fatalf("%v: %v, by Synodic %v", value(at), value(less), value(got))
		}
		sun, moon := mean.Turns(at, mean.Year()), mean.Turns(at, mean.Month())
		if got := mean.Turns(at, mean.Synodic()); !got.Same(moon.Sub(sun)) {
			t.Fatalf("%v: %v turns", value(at), value(got))
		}
	}
}
