package oldmoon_test

import (
	"math"
	"math/big"
	"testing"

	"ephemeris/api"
	"ephemeris/cut"
	"ephemeris/oldmoon"
	"ephemeris/oldsun"
	"ephemeris/rat"
)

// The days that may be begin with the first one of the seventh month of firstYear and
// end in the third one of lastYear.
const (
	firstYear = -5112
	lastYear  = 11315
)

// In parts of which a quarter of a day, when the sun rises, has quarterParts, a month of
// the moon has moonParts: whole numbers both.
const (
	quarterParts = 2226389
	moonParts    = 262986250
)

// So many lunations have as many days as so many months of the sun, and no fewer have.
const (
	roundMoons = 2226389
	roundSuns  = 2160000
)

// known are days whose dates are in books.
var known = []struct {
	day  int64
	date oldmoon.Date
}{
	{-214193, oldmoon.Date{Year: 2515, Month: 6, Day: 11}},
	{-61387, oldmoon.Date{Year: 2933, Month: 9, Day: 26}},
	{25469, oldmoon.Date{Year: 3171, Month: 8, Day: 3}},
	{49217, oldmoon.Date{Year: 3236, Month: 8, Day: 9}},
	{171307, oldmoon.Date{Year: 3570, Month: 11, Leap: true, Day: 19}},
	{210155, oldmoon.Date{Year: 3677, Month: 3, Day: 5}},
	{253427, oldmoon.Date{Year: 3795, Month: 9, Day: 15}},
	{369740, oldmoon.Date{Year: 4114, Month: 2, Day: 7}},
	{434355, oldmoon.Date{Year: 4291, Month: 1, Day: 9}},
	{470160, oldmoon.Date{Year: 4389, Month: 1, Day: 23}},
	{524156, oldmoon.Date{Year: 4536, Month: 11, Day: 7}},
	{601716, oldmoon.Date{Year: 4749, Month: 3, Day: 20}},
	{671401, oldmoon.Date{Year: 4940, Month: 1, Leap: true, Day: 13}},
	{709580, oldmoon.Date{Year: 5044, Month: 7, Day: 9}},
	{728714, oldmoon.Date{Year: 5096, Month: 12, Day: 7}},
	{730120, oldmoon.Date{Year: 5100, Month: 9, Day: 25}},
	{744313, oldmoon.Date{Year: 5139, Month: 8, Day: 14}},
	{764652, oldmoon.Date{Year: 5195, Month: 4, Day: 6}},
}

// edges are the days around which something begins or ends: the Kali Yuga, leap months
// and those behind them, lunar days that no day has, and the days that may be.
var edges = []struct {
	day  int64
	date oldmoon.Date
}{
	{-api.MaxDay, oldmoon.Date{Year: firstYear, Month: 7, Day: 1}},
	{-api.MaxDay + 1, oldmoon.Date{Year: firstYear, Month: 7, Day: 2}},
	{-2999972, oldmoon.Date{Year: firstYear, Month: 7, Day: 30}},
	{-2999971, oldmoon.Date{Year: firstYear, Month: 8, Day: 1}},
	{-2999734, oldmoon.Date{Year: -5111, Month: 4, Leap: true, Day: 1}},
	{-2999706, oldmoon.Date{Year: -5111, Month: 4, Leap: true, Day: 30}},
	{-2999705, oldmoon.Date{Year: -5111, Month: 4, Day: 1}},
	{2999993, oldmoon.Date{Year: lastYear, Month: 2, Day: 30}},
	{2999994, oldmoon.Date{Year: lastYear, Month: 3, Day: 1}},
	{api.MaxDay - 1, oldmoon.Date{Year: lastYear, Month: 3, Day: 6}},
	{api.MaxDay, oldmoon.Date{Year: lastYear, Month: 3, Day: 7}},
	{api.Kali - 30, oldmoon.Date{Year: -1, Month: 12, Day: 30}},
	{api.Kali - 29, oldmoon.Date{Year: 0, Month: 1, Leap: true, Day: 1}},
	{api.Kali - 16, oldmoon.Date{Year: 0, Month: 1, Leap: true, Day: 14}},
	{api.Kali - 15, oldmoon.Date{Year: 0, Month: 1, Leap: true, Day: 16}},
	{api.Kali - 2, oldmoon.Date{Year: 0, Month: 1, Leap: true, Day: 29}},
	{api.Kali - 1, oldmoon.Date{Year: 0, Month: 1, Leap: true, Day: 30}},
	{api.Kali, oldmoon.Date{Year: 0, Month: 1, Day: 1}},
	{api.Kali + 1, oldmoon.Date{Year: 0, Month: 1, Day: 2}},
	{api.Kali + 29, oldmoon.Date{Year: 0, Month: 1, Day: 30}},
	{api.Kali + 30, oldmoon.Date{Year: 0, Month: 2, Day: 1}},
	{-1, oldmoon.Date{Year: 3101, Month: 10, Day: 18}},
	{0, oldmoon.Date{Year: 3101, Month: 10, Day: 19}},
	{1, oldmoon.Date{Year: 3101, Month: 10, Day: 20}},
	{729830, oldmoon.Date{Year: 5100, Month: 1, Leap: true, Day: 1}},
	{729860, oldmoon.Date{Year: 5100, Month: 1, Day: 1}},
	{730134, oldmoon.Date{Year: 5100, Month: 10, Day: 9}},
	{730135, oldmoon.Date{Year: 5100, Month: 10, Day: 11}},
	{730213, oldmoon.Date{Year: 5100, Month: 12, Day: 30}},
	{730214, oldmoon.Date{Year: 5101, Month: 1, Day: 1}},
	{730449, oldmoon.Date{Year: 5101, Month: 8, Day: 29}},
	{730450, oldmoon.Date{Year: 5101, Month: 9, Day: 1}},
	{730833, oldmoon.Date{Year: 5102, Month: 9, Leap: true, Day: 30}},
	{730834, oldmoon.Date{Year: 5102, Month: 9, Day: 1}},
	{730952, oldmoon.Date{Year: 5102, Month: 12, Day: 30}},
	{730953, oldmoon.Date{Year: 5103, Month: 1, Day: 2}},
}

// floor: n by d, which is above 0, rounded down.
func floor(n, d int64) int64 {
	q := n / d
	if q*d > n {
		q--
	}
	return q
}

// lunation is the one that a day is in, by whole parts of a day; of days that aren't far
// from those that may be.
func lunation(day int64) int64 {
	return floor((4*(day-api.Kali)+1)*quarterParts, moonParts)
}

// sunmonth is a lunation's month of the sun.
func sunmonth(lunation int64) int64 {
	return -floor(-lunation*roundSuns, roundMoons)
}

// dateOf is a day's date, also of one that may not be.
func dateOf(day int64) oldmoon.Date {
	j := lunation(day)
	u := sunmonth(j)
	within := (4*(day-api.Kali)+1)*quarterParts - j*moonParts
	return oldmoon.Date{Year: floor(u, 12), Month: int(u-12*floor(u, 12)) + 1, Leap: sunmonth(j+1) == u, Day: int(30*within/moonParts) + 1}
}

// firstOf is the first day of a year, also of one that may not be: about 365 and a
// quarter days a year, and from some months ahead on as many more as it takes.
func firstOf(year int64) int64 {
	day := api.Kali + floor(year*1461, 4) - 150
	for dateOf(day).Year < year {
		day++
	}
	return day
}

// may tells if a day may be.
func may(day int64) bool { return day >= -3000000 && day <= 3000000 }

// is fails if day and date aren't each other's.
func is(t *testing.T, day int64, date oldmoon.Date) {
	t.Helper()
	if got, errno := oldmoon.Of(day); got != date || errno != api.OK {
		t.Errorf("Of %d: %v, %d; not %v", day, got, errno, date)
	}
	if got, errno := oldmoon.Fixed(date); got != day || errno != api.OK {
		t.Errorf("Fixed of %v: %d, %d; not %d", date, got, errno, day)
	}
}

// P17.1, Fixed and Of: of days and dates that are known.
func TestKnown(t *testing.T) {
	for _, c := range known {
		is(t, c.day, c.date)
	}
	for _, c := range edges {
		is(t, c.day, c.date)
	}
}

// P17.1, Month, Day: exactly; what is done with an answer changes no other one.
func TestLengths(t *testing.T) {
	for range 2 {
		month, day := oldmoon.Month(), oldmoon.Day()
		if got := cut.Text(month) + " " + cut.Text(day); got != "131493125/4452778 26298625/26716668" {
			t.Errorf("Month, Day: %s", got)
		}
		if !month.Same(rat.Of(1577917500, 53433336)) || !day.Mul(rat.Whole(30)).Same(month) {
			t.Errorf("Month, Day: %s, %s", cut.Text(month), cut.Text(day))
		}
		for _, x := range []rat.Rat{month, day} {
			clear(x.Num().Abs)
			clear(x.Den())
		}
	}
	if oldmoon.MaxYear != 20000 {
		t.Errorf("MaxYear %d", oldmoon.MaxYear)
	}
}

// quotient is n times a by b, rounded down, of numbers of any size.
func quotient(n *big.Int, a, b int64) int64 {
	return new(big.Int).Div(new(big.Int).Mul(n, big.NewInt(a)), big.NewInt(b)).Int64()
}

// P17.1, Lunation: as far away as days are asked of.
func TestLunation(t *testing.T) {
	for _, c := range []struct{ day, want int64 }{
		{api.Kali, 0}, {api.Kali - 1, -1}, {api.Kali + 29, 0}, {api.Kali + 30, 1}, {api.Kali - 29, -1}, {api.Kali - 30, -2}, {729829, 63079}, {729830, 63080}, {729859, 63080}, {729860, 63081},
		{1 << 40, 37233020598}, {-1 << 40, -37232943868}, {1<<40 - 1, 37233020598}, {1 - 1<<40, -37232943868},
	} {
		if got := oldmoon.Lunation(c.day); got != c.want {
			t.Errorf("Lunation of %d: %d, not %d", c.day, got, c.want)
		}
	}
	for _, around := range []int64{0, api.Kali, -api.MaxDay, api.MaxDay, 1e9, -1e9, 1e12, -1e12, 1<<40 - 70, 70 - 1<<40} {
		for day := around - 70; day <= around+70; day++ {
			sun := big.NewInt(4*(day-api.Kali) + 1)
			if got := oldmoon.Lunation(day); got != quotient(sun, quarterParts, moonParts) {
				t.Errorf("Lunation of %d: %d", day, got)
			}
		}
	}
}

// P17.1, Sunmonth: as far away as lunations are asked of.
func TestSunmonth(t *testing.T) {
	for _, c := range []struct{ lunation, want int64 }{
		{0, 0}, {1, 1}, {-1, 0}, {2, 2}, {-2, -1}, {32, 32}, {33, 33}, {34, 33}, {35, 34}, {63080, 61200}, {63081, 61200},
		{1 << 40, 1066725139226}, {-1 << 40, -1066725139225}, {1<<40 - 1, 1066725139225}, {1 - 1<<40, -1066725139224},
	} {
		if got := oldmoon.Sunmonth(c.lunation); got != c.want {
			t.Errorf("Sunmonth of %d: %d, not %d", c.lunation, got, c.want)
		}
	}
	for _, around := range []int64{0, 63080, -63220, 139940, 1e9, -1e9, 1e12, -1e12, 1<<40 - 70, 70 - 1<<40} {
		for j := around - 70; j <= around+70; j++ {
			if got := oldmoon.Sunmonth(j); got != -quotient(big.NewInt(-j), roundSuns, roundMoons) {
				t.Errorf("Sunmonth of %d: %d", j, got)
			}
		}
	}
}

// P17.1, Sunmonth: of lunations that begin just when a month of the sun ends it is that
// one, not the next one.
func TestTogether(t *testing.T) {
	for _, n := range []int64{0, 1, 2, 3, 1000, 493857, -1, -2, -3, -1000, -493857} {
		j, u := n*roundMoons, n*roundSuns
		if got := oldmoon.Sunmonth(j); got != u {
			t.Errorf("Sunmonth of %d: %d, not %d", j, got, u)
		}
		if got := oldmoon.Sunmonth(j - 1); got != u {
			t.Errorf("Sunmonth of %d: %d, not %d", j-1, got, u)
		}
		if got := oldmoon.Sunmonth(j + 1); got != u+1 {
			t.Errorf("Sunmonth of %d: %d, not %d", j+1, got, u+1)
		}
		begin, end := oldmoon.Month().Mul(rat.Whole(j)), oldsun.Month().Mul(rat.Whole(u))
		if !begin.Same(end) {
			t.Errorf("lunation %d begins at %s, month %d ends at %s", j, cut.Text(begin), u, cut.Text(end))
		}
	}
}

// P17.1, Sunmonth: of lunations that begin beside the end of a month of the sun by the
// least part there is (lunation 1533210 does, of all that behind lunation 0), in each
// round of them; and those of days that may be that come nearest.
func TestBeside(t *testing.T) {
	least := rat.Of(1, roundMoons)
	for _, n := range []int64{0, 1, 2, 1000, 493000, -1, -2, -1000, -493000} {
		for _, side := range []int64{1, -1} {
			j, u := n*roundMoons+side*1533210, n*roundSuns+side*1487491
			beside := oldmoon.Month().Mul(rat.Whole(j)).Div(oldsun.Month()).Sub(rat.Whole(u))
			if !beside.Same(least.Mul(rat.Whole(side))) {
				t.Fatalf("lunation %d: %s beside month %d", j, cut.Text(beside), u)
			}
			want := u
			if side > 0 {
				want++
			}
			if got := oldmoon.Sunmonth(j); got != want {
				t.Errorf("Sunmonth of %d: %d, not %d", j, got, want)
			}
		}
	}
	for _, c := range []struct{ lunation, month, day int64 }{{41081, 39857, 80187}, {105771, 102617, 1990520}} {
		if got := oldmoon.Sunmonth(c.lunation); got != c.month {
			t.Errorf("Sunmonth of %d: %d, not %d", c.lunation, got, c.month)
		}
		for day := c.day - 40; day <= c.day+70; day++ {
			is(t, day, dateOf(day))
		}
	}
}

// P17.1, Of: of days that may not be.
func TestNoDate(t *testing.T) {
	for _, day := range []int64{api.MaxDay + 1, -api.MaxDay - 1, api.MaxDay + 30, -api.MaxDay - 30, 1 << 32, 1<<32 + 1, -1 << 32, 1 << 40, -1 << 40} {
		if got, errno := oldmoon.Of(day); got != (oldmoon.Date{}) || errno != api.ErrRange {
			t.Errorf("Of %d: %v, %d", day, got, errno)
		}
	}
}

// P17.1, Fixed: the month and the day in it go first, then the year, then the day that
// may not be.
func TestNoDay(t *testing.T) {
	for _, c := range []struct {
		year       int64
		month, day int
		errno      api.Errno
	}{
		{5100, 0, 1, api.ErrArg}, {5100, 13, 1, api.ErrArg}, {5100, -1, 1, api.ErrArg}, {5100, 14, 1, api.ErrArg}, {5100, math.MaxInt, 1, api.ErrArg}, {5100, math.MinInt, 1, api.ErrArg}, {5100, 1<<32 + 1, 1, api.ErrArg},
		{5100, 1, 0, api.ErrArg}, {5100, 1, -1, api.ErrArg}, {5100, 1, 31, api.ErrArg}, {5100, 12, 31, api.ErrArg}, {5100, 12, 0, api.ErrArg}, {5100, 1, 1<<32 + 1, api.ErrArg}, {5100, 1, math.MaxInt, api.ErrArg}, {5100, 1, math.MinInt, api.ErrArg},
		{5100, 0, 0, api.ErrArg}, {5100, 13, 31, api.ErrArg}, {0, 0, 0, api.ErrArg}, {0, 0, 1, api.ErrArg}, {0, 1, 0, api.ErrArg}, {-1, 13, 1, api.ErrArg}, {-1, 1, 31, api.ErrArg},
		{20001, 0, 1, api.ErrArg}, {20001, 13, 1, api.ErrArg}, {20001, 1, 0, api.ErrArg}, {20001, 1, 31, api.ErrArg}, {-20001, 0, 1, api.ErrArg}, {-20001, 13, 1, api.ErrArg}, {-20001, 1, 0, api.ErrArg}, {-20001, 12, 31, api.ErrArg},
		{20000, 0, 1, api.ErrArg}, {20000, 1, 31, api.ErrArg}, {-20000, 13, 1, api.ErrArg}, {-20000, 1, 0, api.ErrArg}, {math.MaxInt64, 0, 1, api.ErrArg}, {math.MinInt64, 1, 31, api.ErrArg}, {lastYear, 13, 1, api.ErrArg}, {lastYear, 12, 31, api.ErrArg}, {firstYear, 0, 1, api.ErrArg}, {firstYear, 1, 0, api.ErrArg},
		{20000, 1, 1, api.ErrRange}, {20000, 12, 30, api.ErrRange}, {20001, 1, 1, api.ErrRange}, {20001, 12, 30, api.ErrRange}, {-20000, 1, 1, api.ErrRange}, {-20000, 12, 30, api.ErrRange}, {-20001, 1, 1, api.ErrRange}, {-20001, 12, 30, api.ErrRange},
		{math.MaxInt64, 1, 1, api.ErrRange}, {math.MinInt64, 12, 30, api.ErrRange}, {math.MaxInt64 / 12, 1, 1, api.ErrRange}, {1 << 32, 1, 1, api.ErrRange}, {-1 << 32, 1, 1, api.ErrRange}, {1 << 60, 1, 1, api.ErrRange}, {1 << 62, 1, 1, api.ErrRange}, {-1 << 62, 1, 1, api.ErrRange},
		{lastYear, 3, 8, api.ErrRange}, {lastYear, 3, 30, api.ErrRange}, {lastYear, 4, 1, api.ErrRange}, {lastYear, 12, 30, api.ErrRange}, {lastYear + 1, 1, 1, api.ErrRange}, {firstYear, 6, 30, api.ErrRange}, {firstYear, 6, 1, api.ErrRange}, {firstYear, 1, 1, api.ErrRange}, {firstYear - 1, 12, 30, api.ErrRange},
	} {
		for _, leap := range []bool{false, true} {
			if got, errno := oldmoon.Fixed(oldmoon.Date{Year: c.year, Month: c.month, Leap: leap, Day: c.day}); got != 0 || errno != c.errno {
				t.Errorf("Fixed of %d-%d-%d, leap %t: %d, %d; not %d", c.year, c.month, c.day, leap, got, errno, c.errno)
			}
		}
	}
}

// P17.1, Fixed: dates that are no day's: of lunar days that none has, within a month, as
// its first one and as its last one, and of months that aren't leap.
func TestNone(t *testing.T) {
	for _, d := range []oldmoon.Date{
		{Year: 5100, Month: 10, Day: 10}, {Year: 5100, Month: 12, Day: 14}, {Year: 5101, Month: 8, Day: 30}, {Year: 5103, Month: 1, Day: 1}, {Year: 0, Month: 1, Leap: true, Day: 15}, {Year: 0, Month: 2, Day: 18}, {Year: -1, Month: 11, Day: 11}, {Year: firstYear, Month: 7, Day: 16}, {Year: lastYear, Month: 1, Day: 17},
		{Year: 5100, Month: 9, Leap: true, Day: 25}, {Year: 5100, Month: 9, Leap: true, Day: 1}, {Year: 5100, Month: 10, Leap: true, Day: 30}, {Year: 5100, Month: 10, Leap: true, Day: 10}, {Year: 5100, Month: 12, Leap: true, Day: 30}, {Year: 0, Month: 2, Leap: true, Day: 1}, {Year: -1, Month: 12, Leap: true, Day: 30}, {Year: -1, Month: 12, Leap: true, Day: 1},
		{Year: firstYear, Month: 7, Leap: true, Day: 1}, {Year: firstYear, Month: 12, Leap: true, Day: 1}, {Year: lastYear, Month: 3, Leap: true, Day: 7}, {Year: lastYear, Month: 1, Leap: true, Day: 1},
	} {
		if got, errno := oldmoon.Fixed(d); got != 0 || errno != api.ErrNone {
			t.Errorf("Fixed of %v: %d, %d", d, got, errno)
		}
	}
}

// P17.2: each day has its date, and is that date's day: of whole years at both ends and
// in between.
func TestThereAndBack(t *testing.T) {
	for _, first := range []int64{-api.MaxDay, -2000000, api.Kali - 400, -400, 729800, 2000000, api.MaxDay - 799} {
		for day := first; day < first+800; day++ {
			is(t, day, dateOf(day))
		}
	}
}

// P17.2: likewise of days from one end to the other.
func TestAllTheWay(t *testing.T) {
	for day := int64(-api.MaxDay); day <= api.MaxDay; day += 397 {
		is(t, day, dateOf(day))
	}
}

// monthFrom asks of all days of a month, the first one of which would be day; it answers
// the day behind its last one, or day, if there is no such month.
func monthFrom(t *testing.T, day int64, date oldmoon.Date) int64 {
	t.Helper()
	at, leap := day, date.Leap
	for d := 0; d <= 31; d++ {
		date.Day = d
		// The date of the day at which one stands, whether the month is leap or not.
		here := dateOf(at)
		here.Leap = leap
		want, errno := at, api.OK
		switch {
		case d < 1 || d > 30:
			want, errno = 0, api.ErrArg
		case !may(at):
			want, errno = 0, api.ErrRange
		case dateOf(at) != date:
			want, errno = 0, api.ErrNone
		}
		if got, e := oldmoon.Fixed(date); got != want || e != errno {
			t.Fatalf("Fixed of %v: %d, %d; not %d, %d", date, got, e, want, errno)
		}
		if here == date {
			at++
		}
	}
	if dateOf(day).Leap != leap {
		return day
	}
	return at
}

// P17.2: of all that a date could be those and only those have a day that a day has,
// also in years of which but some days may be.
func TestAllDates(t *testing.T) {
	for _, from := range []int64{firstYear - 1, -3, 3100, 5100, lastYear - 2} {
		day := firstOf(from)
		for year := from; year < from+4; year++ {
			for month := 1; month <= 12; month++ {
				day = monthFrom(t, day, oldmoon.Date{Year: year, Month: month, Leap: true})
				day = monthFrom(t, day, oldmoon.Date{Year: year, Month: month})
			}
		}
		if day != firstOf(from+4) {
			t.Errorf("years from %d on end with %d", from, day)
		}
	}
}

// P17.3: from day to day the lunar day is one more, or two; the month ends between the
// last one of it and the next one's first.
func TestFlow(t *testing.T) {
	ones, twos, wrapped := 0, 0, map[[2]int]int{}
	for _, first := range []int64{-api.MaxDay, -2000000, api.Kali - 1000, -1000, 729800, 2000000, api.MaxDay - 2000} {
		old, errno := oldmoon.Of(first)
		for day := first + 1; day <= first+2000; day++ {
			date, e := oldmoon.Of(day)
			if errno != api.OK || e != api.OK {
				t.Fatalf("Of %d: %d, %d", day, errno, e)
			}
			switch (date.Day - old.Day + 30) % 30 {
			case 1:
				ones++
			case 2:
				twos++
			default:
				t.Fatalf("from %v to %v", old, date)
			}
			same := date.Year == old.Year && date.Month == old.Month && date.Leap == old.Leap
			if same != (date.Day > old.Day) {
				t.Fatalf("from %v to %v", old, date)
			}
			if !same {
				wrapped[[2]int{old.Day, date.Day}]++
			}
			old = date
		}
	}
	// A lunar day in 64 is one that no day has.
	if all := ones + twos; twos < all/70 || twos > all/58 {
		t.Errorf("%d by one, %d by two", ones, twos)
	}
	if len(wrapped) != 3 || wrapped[[2]int{30, 1}] == 0 || wrapped[[2]int{30, 2}] == 0 || wrapped[[2]int{29, 1}] == 0 {
		t.Errorf("months end and begin with %v", wrapped)
	}
}

// P17.4: how many lunations each month of the sun has, and each year, from one end of
// the days that may be to the other.
func TestLunations(t *testing.T) {
	j := oldmoon.Lunation(-api.MaxDay) - 20
	for oldmoon.Sunmonth(j-1) != 12*firstYear-1 || oldmoon.Sunmonth(j) != 12*firstYear {
		j++
	}
	ofMonths, ofYears := map[int]int{}, map[int]int{}
	for year := int64(firstYear); year <= lastYear; year++ {
		all := 0
		for u := 12 * year; u < 12*year+12; u++ {
			n := 0
			for ; oldmoon.Sunmonth(j) == u; j++ {
				n++
			}
			if n != 1 && n != 2 {
				t.Fatalf("month %d: %d lunations, up to %d", u, n, j)
			}
			ofMonths[n]++
			all += n
		}
		if all != 12 && all != 13 {
			t.Fatalf("year %d: %d lunations", year, all)
		}
		ofYears[all]++
	}
	if j <= oldmoon.Lunation(api.MaxDay) || ofMonths[2] == 0 || ofMonths[2] != ofYears[13] {
		t.Errorf("up to %d: months %v, years %v", j, ofMonths, ofYears)
	}
}

// P17.4, P17.1: of a month of the sun that has two lunations the first one is leap, the
// last one isn't; of one that has one it isn't, and there is none with Leap.
func TestLeap(t *testing.T) {
	two := 0
	for u := int64(12 * (firstYear + 1)); u < 12*lastYear; u += 31 {
		d := oldmoon.Date{Year: floor(u, 12), Month: int(u-12*floor(u, 12)) + 1, Day: 13}
		if _, errno := oldmoon.Fixed(d); errno == api.ErrNone {
			d.Day++
		}
		last, e1 := oldmoon.Fixed(d)
		d.Leap, d.Day = true, 13
		if _, errno := oldmoon.Fixed(d); errno == api.ErrNone {
			d.Day++
		}
		first, e2 := oldmoon.Fixed(d)
		j := lunation(last)
		switch {
		case e1 != api.OK || oldmoon.Lunation(last) != j || sunmonth(j) != u || sunmonth(j+1) == u:
			t.Fatalf("month %d: %d, %d", u, last, e1)
		case sunmonth(j-1) != u && (e2 != api.ErrNone || first != 0):
			t.Fatalf("month %d has one lunation, and leap %d, %d", u, first, e2)
		case sunmonth(j-1) == u && (e2 != api.OK || lunation(first) != j-1):
			t.Fatalf("month %d has two lunations, and leap %d, %d", u, first, e2)
		case sunmonth(j-1) == u:
			two++
		}
	}
	if two == 0 {
		t.Error("no month with two lunations")
	}
}
