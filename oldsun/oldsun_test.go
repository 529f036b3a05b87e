package oldsun_test

import (
	"math"
	"testing"

	"ephemeris/api"
	"ephemeris/cut"
	"ephemeris/oldsun"
	"ephemeris/rat"
)

// The days that may be begin in the sixth month of firstYear and end in the second one
// of lastYear.
const (
	firstYear = -5112
	lastYear  = 11315
)

// In parts of a day of which it has dayParts, a month has monthParts, and the sun rises
// at sunriseParts: whole numbers all of them.
const (
	dayParts     = 6912
	monthParts   = 210389
	sunriseParts = dayParts / 4
)

// known are days whose dates are in books.
var known = []struct {
	day  int64
	date oldsun.Date
}{
	{-214193, oldsun.Date{Year: 2515, Month: 5, Day: 19}},
	{-61387, oldsun.Date{Year: 2933, Month: 9, Day: 26}},
	{25469, oldsun.Date{Year: 3171, Month: 7, Day: 11}},
	{49217, oldsun.Date{Year: 3236, Month: 7, Day: 17}},
	{171307, oldsun.Date{Year: 3570, Month: 10, Day: 19}},
	{210155, oldsun.Date{Year: 3677, Month: 2, Day: 28}},
	{253427, oldsun.Date{Year: 3795, Month: 8, Day: 17}},
	{369740, oldsun.Date{Year: 4114, Month: 1, Day: 26}},
	{434355, oldsun.Date{Year: 4290, Month: 12, Day: 20}},
	{470160, oldsun.Date{Year: 4388, Month: 12, Day: 30}},
	{524156, oldsun.Date{Year: 4536, Month: 10, Day: 28}},
	{601716, oldsun.Date{Year: 4749, Month: 3, Day: 1}},
	{671401, oldsun.Date{Year: 4939, Month: 12, Day: 13}},
	{709580, oldsun.Date{Year: 5044, Month: 6, Day: 23}},
	{728714, oldsun.Date{Year: 5096, Month: 11, Day: 11}},
	{730120, oldsun.Date{Year: 5100, Month: 9, Day: 17}},
	{744313, oldsun.Date{Year: 5139, Month: 7, Day: 26}},
	{764652, oldsun.Date{Year: 5195, Month: 4, Day: 2}},
}

// edges are the days around which something begins or ends: the Kali Yuga, months of 30
// and of 31 days, years of 365 and of 366, and the days that may be.
var edges = []struct {
	day  int64
	date oldsun.Date
}{
	{-api.MaxDay, oldsun.Date{Year: firstYear, Month: 6, Day: 10}},
	{-api.MaxDay + 1, oldsun.Date{Year: firstYear, Month: 6, Day: 11}},
	{-2999797, oldsun.Date{Year: -5112, Month: 12, Day: 30}},
	{-2999796, oldsun.Date{Year: -5111, Month: 1, Day: 1}},
	{api.MaxDay - 1, oldsun.Date{Year: lastYear, Month: 2, Day: 26}},
	{api.MaxDay, oldsun.Date{Year: lastYear, Month: 2, Day: 27}},
	{2999942, oldsun.Date{Year: 11314, Month: 12, Day: 30}},
	{2999943, oldsun.Date{Year: 11315, Month: 1, Day: 1}},
	{api.Kali - 366, oldsun.Date{Year: -2, Month: 12, Day: 30}},
	{api.Kali - 365, oldsun.Date{Year: -1, Month: 1, Day: 1}},
	{api.Kali - 31, oldsun.Date{Year: -1, Month: 11, Day: 31}},
	{api.Kali - 30, oldsun.Date{Year: -1, Month: 12, Day: 1}},
	{api.Kali - 2, oldsun.Date{Year: -1, Month: 12, Day: 29}},
	{api.Kali - 1, oldsun.Date{Year: -1, Month: 12, Day: 30}},
	{api.Kali, oldsun.Date{Year: 0, Month: 1, Day: 1}},
	{api.Kali + 1, oldsun.Date{Year: 0, Month: 1, Day: 2}},
	{api.Kali + 30, oldsun.Date{Year: 0, Month: 1, Day: 31}},
	{api.Kali + 31, oldsun.Date{Year: 0, Month: 2, Day: 1}},
	{api.Kali + 60, oldsun.Date{Year: 0, Month: 2, Day: 30}},
	{api.Kali + 61, oldsun.Date{Year: 0, Month: 3, Day: 1}},
	{api.Kali + 365, oldsun.Date{Year: 0, Month: 12, Day: 31}},
	{api.Kali + 366, oldsun.Date{Year: 1, Month: 1, Day: 1}},
	{-1, oldsun.Date{Year: 3101, Month: 10, Day: 18}},
	{0, oldsun.Date{Year: 3101, Month: 10, Day: 19}},
	{1, oldsun.Date{Year: 3101, Month: 10, Day: 20}},
	{730103, oldsun.Date{Year: 5100, Month: 8, Day: 30}},
	{730104, oldsun.Date{Year: 5100, Month: 9, Day: 1}},
	{730164, oldsun.Date{Year: 5100, Month: 10, Day: 31}},
	{730165, oldsun.Date{Year: 5100, Month: 11, Day: 1}},
	{730225, oldsun.Date{Year: 5100, Month: 12, Day: 31}},
	{730226, oldsun.Date{Year: 5101, Month: 1, Day: 1}},
}

// floor: n by d, which is above 0, rounded down.
func floor(n, d int64) int64 {
	q := n / d
	if q*d > n {
		q--
	}
	return q
}

// dateOf is any day's date, also of one that may not be, by whole parts of a day.
func dateOf(day int64) oldsun.Date {
	sun := (day-api.Kali)*dayParts + sunriseParts
	month := floor(sun, monthParts)
	return oldsun.Date{Year: floor(month, 12), Month: int(month-12*floor(month, 12)) + 1, Day: int((sun-month*monthParts)/dayParts) + 1}
}

// firstOf is the first day of a year, also of one that may not be: about 365 and a
// quarter days a year, and from there on as many more as it takes.
func firstOf(year int64) int64 {
	day := api.Kali + floor(year*1461, 4) - 100
	for dateOf(day).Year < year {
		day++
	}
	return day
}

// may tells if a day may be.
func may(day int64) bool { return day >= -3000000 && day <= 3000000 }

// is fails if day and date aren't each other's.
func is(t *testing.T, day int64, date oldsun.Date) {
	t.Helper()
	if got, errno := oldsun.Of(day); got != date || errno != api.OK {
		t.Errorf("Of %d: %v, %d; not %v", day, got, errno, date)
	}
	if got, errno := oldsun.Fixed(date); got != day || errno != api.OK {
		t.Errorf("Fixed of %v: %d, %d; not %d", date, got, errno, day)
	}
}

// P16.1, Fixed and Of: of days and dates that are known.
func TestKnown(t *testing.T) {
	for _, c := range known {
		is(t, c.day, c.date)
	}
	for _, c := range edges {
		is(t, c.day, c.date)
	}
}

// P16.1, Year, Month: exactly; what is done with an answer changes no other one.
func TestLengths(t *testing.T) {
	for range 2 {
		year, month := oldsun.Year(), oldsun.Month()
		if got := cut.Text(year) + " " + cut.Text(month); got != "210389/576 210389/6912" {
			t.Errorf("Year, Month: %s", got)
		}
		if !year.Same(rat.Of(1577917500, 4320000)) || !month.Mul(rat.Whole(12)).Same(year) {
			t.Errorf("Year, Month: %s, %s", cut.Text(year), cut.Text(month))
		}
		for _, x := range []rat.Rat{year, month} {
			clear(x.Num().Abs)
			clear(x.Den())
		}
	}
	if oldsun.MaxYear != 20000 {
		t.Errorf("MaxYear %d", oldsun.MaxYear)
	}
}

// P16.1, In: both ends, those beside them, and far away.
func TestIn(t *testing.T) {
	for _, day := range []int64{-3000000, -2999999, api.Kali - 1, api.Kali, api.Kali + 1, -1, 0, 1, 730120, 2999999, 3000000} {
		if !oldsun.In(day) {
			t.Errorf("%d isn't in", day)
		}
	}
	for _, day := range []int64{-3000001, -3000002, 3000001, 3000002, 1 << 32, -1 << 32, 1<<32 + 1, 1 << 60, -1 << 60, math.MaxInt64, math.MinInt64} {
		if oldsun.In(day) {
			t.Errorf("%d is in", day)
		}
	}
}

// P16.1, Sun: as far away as days are asked of.
func TestSun(t *testing.T) {
	for _, day := range []int64{api.Kali, api.Kali - 1, api.Kali + 1, -1, 0, 1, 730120, api.MaxDay, -api.MaxDay, api.MaxDay + 1, -api.MaxDay - 1, 1 << 40, -1 << 40, 1<<53 + 1, -1<<53 - 1, 1<<60 - 1, 1 - 1<<60, 1 << 60, -1 << 60} {
		if got := oldsun.Sun(day); !got.Same(rat.Of(4*(day+1132959)+1, 4)) {
			t.Errorf("Sun of %d: %s", day, cut.Text(got))
		}
	}
	for _, c := range []struct {
		day  int64
		want string
	}{{api.Kali, "1/4"}, {api.Kali - 1, "-3/4"}, {api.Kali + 1, "5/4"}, {0, "4531837/4"}, {1 << 60, "4611686018431919741/4"}, {-1 << 60, "-4611686018422856067/4"}} {
		if got := cut.Text(oldsun.Sun(c.day)); got != c.want {
			t.Errorf("Sun of %d: %s, not %s", c.day, got, c.want)
		}
	}
}

// P16.1, Of: of days that may not be.
func TestNoDate(t *testing.T) {
	for _, day := range []int64{api.MaxDay + 1, -api.MaxDay - 1, api.MaxDay + 366, -api.MaxDay - 366, 1 << 32, 1<<32 + 1, -1 << 32, 1 << 60, -1 << 60, math.MaxInt64, math.MinInt64} {
		if got, errno := oldsun.Of(day); got != (oldsun.Date{}) || errno != api.ErrRange {
			t.Errorf("Of %d: %v, %d", day, got, errno)
		}
	}
}

// P16.1, Fixed: the month and the day in it go first, then the year, then the day that
// may not be, then the date that is no day's.
func TestNoDay(t *testing.T) {
	for _, c := range []struct {
		year       int64
		month, day int
		errno      api.Errno
	}{
		{5100, 0, 1, api.ErrArg}, {5100, 13, 1, api.ErrArg}, {5100, -1, 1, api.ErrArg}, {5100, 14, 1, api.ErrArg}, {5100, math.MaxInt, 1, api.ErrArg}, {5100, math.MinInt, 1, api.ErrArg}, {5100, 1<<32 + 1, 1, api.ErrArg},
		{5100, 1, 0, api.ErrArg}, {5100, 1, -1, api.ErrArg}, {5100, 1, 32, api.ErrArg}, {5100, 12, 32, api.ErrArg}, {5100, 12, 0, api.ErrArg}, {5100, 1, 1<<32 + 1, api.ErrArg}, {5100, 1, math.MaxInt, api.ErrArg}, {5100, 1, math.MinInt, api.ErrArg},
		{5100, 0, 0, api.ErrArg}, {5100, 13, 32, api.ErrArg}, {0, 0, 0, api.ErrArg}, {0, 0, 1, api.ErrArg}, {0, 1, 0, api.ErrArg}, {-1, 13, 1, api.ErrArg}, {-1, 1, 32, api.ErrArg},
		{20001, 0, 1, api.ErrArg}, {20001, 13, 1, api.ErrArg}, {20001, 1, 0, api.ErrArg}, {20001, 1, 32, api.ErrArg}, {-20001, 0, 1, api.ErrArg}, {-20001, 13, 1, api.ErrArg}, {-20001, 1, 0, api.ErrArg}, {-20001, 12, 32, api.ErrArg},
		{20000, 0, 1, api.ErrArg}, {20000, 1, 32, api.ErrArg}, {-20000, 13, 1, api.ErrArg}, {-20000, 1, 0, api.ErrArg}, {math.MaxInt64, 0, 1, api.ErrArg}, {math.MinInt64, 1, 32, api.ErrArg}, {lastYear, 13, 1, api.ErrArg}, {lastYear, 12, 32, api.ErrArg}, {firstYear, 0, 1, api.ErrArg}, {firstYear, 1, 0, api.ErrArg},
		{20000, 1, 1, api.ErrRange}, {20000, 12, 31, api.ErrRange}, {20001, 1, 1, api.ErrRange}, {20001, 12, 31, api.ErrRange}, {-20000, 1, 1, api.ErrRange}, {-20000, 12, 31, api.ErrRange}, {-20001, 1, 1, api.ErrRange}, {-20001, 12, 31, api.ErrRange},
		{math.MaxInt64, 1, 1, api.ErrRange}, {math.MinInt64, 12, 31, api.ErrRange}, {math.MaxInt64 / 12, 1, 1, api.ErrRange}, {1 << 32, 1, 1, api.ErrRange}, {-1 << 32, 1, 1, api.ErrRange}, {1 << 60, 1, 1, api.ErrRange}, {1 << 62, 1, 1, api.ErrRange}, {-1 << 62, 1, 1, api.ErrRange},
		{lastYear, 2, 28, api.ErrRange}, {lastYear, 2, 31, api.ErrRange}, {lastYear, 3, 1, api.ErrRange}, {lastYear, 12, 31, api.ErrRange}, {lastYear + 1, 1, 1, api.ErrRange}, {firstYear, 6, 9, api.ErrRange}, {firstYear, 5, 31, api.ErrRange}, {firstYear, 1, 1, api.ErrRange}, {firstYear - 1, 12, 30, api.ErrRange},
		{0, 2, 31, api.ErrNone}, {0, 4, 31, api.ErrNone}, {0, 11, 31, api.ErrNone}, {-1, 12, 31, api.ErrNone}, {-1, 1, 31, api.ErrNone}, {5100, 1, 31, api.ErrNone}, {5100, 2, 31, api.ErrNone}, {5100, 9, 31, api.ErrNone}, {5101, 12, 31, api.ErrNone}, {11314, 12, 31, api.ErrNone}, {-5112, 12, 31, api.ErrNone},
	} {
		if got, errno := oldsun.Fixed(oldsun.Date{Year: c.year, Month: c.month, Day: c.day}); got != 0 || errno != c.errno {
			t.Errorf("Fixed of %d-%d-%d: %d, %d; not %d", c.year, c.month, c.day, got, errno, c.errno)
		}
	}
}

// P16.2: each day has its date, and is that date's day: of whole years at both ends and
// in between.
func TestThereAndBack(t *testing.T) {
	for _, first := range []int64{-api.MaxDay, -2000000, api.Kali - 400, -400, 729800, 2000000, api.MaxDay - 799} {
		for day := first; day < first+800; day++ {
			is(t, day, dateOf(day))
		}
	}
}

// P16.2: likewise of days from one end to the other.
func TestAllTheWay(t *testing.T) {
	for day := int64(-api.MaxDay); day <= api.MaxDay; day += 397 {
		is(t, day, dateOf(day))
	}
}

// P16.2: of all that a date could be those and only those have a day that a day has,
// also in years of which but some days may be.
func TestAllDates(t *testing.T) {
	for _, from := range []int64{firstYear - 1, -3, 3100, 5100, lastYear - 2} {
		day := firstOf(from)
		for year := from; year < from+4; year++ {
			for month := 0; month <= 13; month++ {
				for d := 0; d <= 32; d++ {
					date := oldsun.Date{Year: year, Month: month, Day: d}
					want, errno := day, api.OK
					switch {
					case month < 1 || month > 12 || d < 1 || d > 31:
						want, errno = 0, api.ErrArg
					case !may(day):
						want, errno = 0, api.ErrRange
					case dateOf(day) != date:
						want, errno = 0, api.ErrNone
					}
					if dateOf(day) == date {
						day++
					}
					if got, e := oldsun.Fixed(date); got != want || e != errno {
						t.Fatalf("Fixed of %v: %d, %d; not %d, %d", date, got, e, want, errno)
					}
				}
			}
		}
		if day != firstOf(from+4) {
			t.Errorf("years from %d on end with %d", from, day)
		}
	}
}

// lastDay is the date of the day ahead of day.
func lastDay(t *testing.T, day int64) oldsun.Date {
	t.Helper()
	date, errno := oldsun.Of(day - 1)
	if errno != api.OK {
		t.Fatalf("Of %d: %d", day-1, errno)
	}
	return date
}

// P16.3: how many days each year has that may be as a whole; the last one of each is
// that of its twelfth month.
func TestYears(t *testing.T) {
	seen := map[int64]int{}
	from, errno := oldsun.Fixed(oldsun.Date{Year: firstYear + 1, Month: 1, Day: 1})
	for year := int64(firstYear + 1); year < lastYear; year++ {
		to, e := oldsun.Fixed(oldsun.Date{Year: year + 1, Month: 1, Day: 1})
		if length := to - from; errno != api.OK || e != api.OK || length != 365 && length != 366 {
			t.Fatalf("year %d: from %d, %d to %d, %d", year, from, errno, to, e)
		}
		if d := lastDay(t, to); d.Year != year || d.Month != 12 || d.Day != 30 && d.Day != 31 {
			t.Fatalf("year %d ends with %v", year, d)
		}
		seen[to-from]++
		from, errno = to, e
	}
	// 576 years have 210389 days, 149 more than as many times 365.
	if all := seen[365] + seen[366]; seen[366] < all*149/576-1 || seen[366] > all*149/576+1 {
		t.Errorf("%v", seen)
	}
}

// P16.3: how many days each month of these years has, and that it has no more; every
// eleventh year.
func TestMonths(t *testing.T) {
	seen := map[int64]int{}
	for year := int64(firstYear + 1); year < lastYear; year += 11 {
		for month := 1; month <= 12; month++ {
			from, e1 := oldsun.Fixed(oldsun.Date{Year: year, Month: month, Day: 1})
			next := oldsun.Date{Year: year, Month: month + 1, Day: 1}
			if month == 12 {
				next = oldsun.Date{Year: year + 1, Month: 1, Day: 1}
			}
			to, e2 := oldsun.Fixed(next)
			if length := to - from; e1 != api.OK || e2 != api.OK || length != 30 && length != 31 {
				t.Fatalf("month %d of %d: from %d, %d to %d, %d", month, year, from, e1, to, e2)
			}
			thirtieth, e3 := oldsun.Fixed(oldsun.Date{Year: year, Month: month, Day: 30})
			last, e4 := oldsun.Fixed(oldsun.Date{Year: year, Month: month, Day: 31})
			if e3 != api.OK || thirtieth != from+29 || to-from == 31 && (e4 != api.OK || last != to-1) || to-from == 30 && (e4 != api.ErrNone || last != 0) {
				t.Fatalf("month %d of %d: %d days, day 30 is %d, %d, day 31 %d, %d", month, year, to-from, thirtieth, e3, last, e4)
			}
			seen[to-from]++
		}
	}
	if seen[30] == 0 || seen[31] == 0 {
		t.Errorf("%v", seen)
	}
}
