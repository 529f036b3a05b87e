package civil_test

import (
	"math"
	"testing"

	"ephemeris/api"
	"ephemeris/civil"
)

// known are days whose dates and days of the week are in many books.
var known = []struct {
	day     int64
	date    civil.Date
	weekday int
}{
	{-214193, civil.Date{Year: -586, Month: 7, Day: 24}, 0},
	{-61387, civil.Date{Year: -168, Month: 12, Day: 5}, 3},
	{1, civil.Date{Year: 1, Month: 1, Day: 1}, 1},
	{25469, civil.Date{Year: 70, Month: 9, Day: 24}, 3},
	{49217, civil.Date{Year: 135, Month: 10, Day: 2}, 0},
	{171307, civil.Date{Year: 470, Month: 1, Day: 8}, 3},
	{210155, civil.Date{Year: 576, Month: 5, Day: 20}, 1},
	{253427, civil.Date{Year: 694, Month: 11, Day: 10}, 6},
	{369740, civil.Date{Year: 1013, Month: 4, Day: 25}, 0},
	{434355, civil.Date{Year: 1190, Month: 3, Day: 23}, 5},
	{524156, civil.Date{Year: 1436, Month: 2, Day: 3}, 3},
	{577736, civil.Date{Year: 1582, Month: 10, Day: 15}, 5},
	{626596, civil.Date{Year: 1716, Month: 7, Day: 24}, 5},
	{671401, civil.Date{Year: 1839, Month: 3, Day: 27}, 3},
	{709580, civil.Date{Year: 1943, Month: 10, Day: 7}, 4},
	{719163, civil.Date{Year: 1970, Month: 1, Day: 1}, 4},
	{727274, civil.Date{Year: 1992, Month: 3, Day: 17}, 2},
	{728714, civil.Date{Year: 1996, Month: 2, Day: 25}, 0},
	{730120, civil.Date{Year: 2000, Month: 1, Day: 1}, 6},
	{744313, civil.Date{Year: 2038, Month: 11, Day: 10}, 3},
	{api.Kali, civil.Date{Year: -3101, Month: 1, Day: 23}, 5},
}

// edges are the days around which something ends: year 0, Februaries of leap
// years and of others, and the days that may be.
var edges = []struct {
	day  int64
	date civil.Date
}{
	{-api.MaxDay, civil.Date{Year: -8213, Month: 4, Day: 12}},
	{-api.MaxDay + 1, civil.Date{Year: -8213, Month: 4, Day: 13}},
	{api.MaxDay - 1, civil.Date{Year: 8214, Month: 9, Day: 20}},
	{api.MaxDay, civil.Date{Year: 8214, Month: 9, Day: 21}},
	{0, civil.Date{Year: 0, Month: 12, Day: 31}},
	{-30, civil.Date{Year: 0, Month: 12, Day: 1}},
	{-305, civil.Date{Year: 0, Month: 3, Day: 1}},
	{-306, civil.Date{Year: 0, Month: 2, Day: 29}},
	{-365, civil.Date{Year: 0, Month: 1, Day: 1}},
	{-366, civil.Date{Year: -1, Month: 12, Day: 31}},
	{-730, civil.Date{Year: -1, Month: 1, Day: 1}},
	{59, civil.Date{Year: 1, Month: 2, Day: 28}},
	{60, civil.Date{Year: 1, Month: 3, Day: 1}},
	{365, civil.Date{Year: 1, Month: 12, Day: 31}},
	{366, civil.Date{Year: 2, Month: 1, Day: 1}},
	{1461, civil.Date{Year: 4, Month: 12, Day: 31}},
	{1462, civil.Date{Year: 5, Month: 1, Day: 1}},
	{36524, civil.Date{Year: 100, Month: 12, Day: 31}},
	{36525, civil.Date{Year: 101, Month: 1, Day: 1}},
	{146097, civil.Date{Year: 400, Month: 12, Day: 31}},
	{146098, civil.Date{Year: 401, Month: 1, Day: 1}},
	{693654, civil.Date{Year: 1900, Month: 2, Day: 28}},
	{693655, civil.Date{Year: 1900, Month: 3, Day: 1}},
	{730178, civil.Date{Year: 2000, Month: 2, Day: 28}},
	{730179, civil.Date{Year: 2000, Month: 2, Day: 29}},
	{730180, civil.Date{Year: 2000, Month: 3, Day: 1}},
	{730485, civil.Date{Year: 2000, Month: 12, Day: 31}},
}

// leap asks what is left over on its own, so that it doesn't hang on how the
// program does it.
func leap(year int64) bool {
	left := (year%400 + 400) % 400
	return left == 0 || left%4 == 0 && left != 100 && left != 200 && left != 300
}

// last is a month's last day.
func last(year int64, month int) int {
	switch month {
	case 4, 6, 9, 11:
		return 30
	case 2:
		if leap(year) {
			return 29
		}
		return 28
	}
	return 31
}

// next is the date behind d.
func next(d civil.Date) civil.Date {
	switch {
	case d.Day < last(d.Year, d.Month):
		return civil.Date{Year: d.Year, Month: d.Month, Day: d.Day + 1}
	case d.Month < 12:
		return civil.Date{Year: d.Year, Month: d.Month + 1, Day: 1}
	}
	return civil.Date{Year: d.Year + 1, Month: 1, Day: 1}
}

// is fails if day and date aren't each other's.
func is(t *testing.T, day int64, date civil.Date) {
	t.Helper()
	if got, errno := civil.Of(day); got != date || errno != api.OK {
		t.Errorf("Of %d: %v, %d; not %v", day, got, errno, date)
	}
	if got, errno := civil.Fixed(date); got != day || errno != api.OK {
		t.Errorf("Fixed of %v: %d, %d; not %d", date, got, errno, day)
	}
}

// P7.1, Fixed and Of: of days and dates that are known.
func TestKnown(t *testing.T) {
	for _, c := range known {
		is(t, c.day, c.date)
	}
	for _, c := range edges {
		is(t, c.day, c.date)
	}
}

// P7.1, Weekday: of days that may be, and of any others; day 1 is a Monday.
func TestWeekday(t *testing.T) {
	for _, c := range known {
		if got := civil.Weekday(c.day); got != c.weekday {
			t.Errorf("Weekday of %d: %d, not %d", c.day, got, c.weekday)
		}
	}
	for _, c := range []struct {
		day     int64
		weekday int
	}{
		{7, 0}, {6, 6}, {5, 5}, {4, 4}, {3, 3}, {2, 2}, {1, 1}, {0, 0}, {-1, 6}, {-2, 5}, {-3, 4}, {-4, 3}, {-5, 2}, {-6, 1}, {-7, 0}, {-8, 6},
		{api.MaxDay, 3}, {api.MaxDay + 1, 4}, {-api.MaxDay, 4}, {-api.MaxDay - 1, 3},
		{1 << 40, 2}, {-1 << 40, 5}, {1 << 62, 4}, {math.MaxInt64, 0}, {math.MaxInt64 - 1, 6}, {-1<<62 + 1, 4}, {-1<<62 + 5, 1},
	} {
		if got := civil.Weekday(c.day); got != c.weekday {
			t.Errorf("Weekday of %d: %d, not %d", c.day, got, c.weekday)
		}
	}
}

// P7.1, Leap: of multiples of 4, 100 and 400 and of others, below 0 and far away
// too.
func TestLeap(t *testing.T) {
	for _, year := range []int64{0, 4, 8, 96, 104, 400, 800, 1600, 1996, 2000, 2004, 2024, 2400, 8800, -4, -8, -96, -104, -400, -404, -800, -2000, -8800, 4e18, -4e18, 4e18 + 4, -4e18 - 104, 1<<62 - 8, -1<<62 + 8} {
		if !civil.Leap(year) {
			t.Errorf("%d isn't leap", year)
		}
	}
	for _, year := range []int64{1, 2, 3, 5, 6, 7, 100, 200, 300, 500, 1700, 1800, 1900, 1999, 2001, 2002, 2023, 2100, 9000, -1, -2, -3, -5, -6, -7, -100, -200, -300, -500, -1900, -2001, -9000, 4e18 + 1, 4e18 + 100, 4e18 + 200, 4e18 + 300, -4e18 + 2, -4e18 - 100, 1<<62 - 1, 1<<62 - 4, -1<<62 + 1, -1<<62 + 4} {
		if civil.Leap(year) {
			t.Errorf("%d is leap", year)
		}
	}
	for year := int64(-2000); year <= 2000; year++ {
		if civil.Leap(year) != leap(year) {
			t.Errorf("%d: %t", year, !leap(year))
		}
	}
}

// P7.1, Length: of each month in years of each kind; 0, if there is none such.
func TestLength(t *testing.T) {
	for _, c := range []struct {
		february int
		years    []int64
	}{
		{28, []int64{1, 3, 100, 1900, 2001, 2100, 9000, 9001, -1, -2, -100, -1900, -9001, 4e18 + 100, 1<<62 - 1, -1<<62 + 1}},
		{29, []int64{0, 4, 400, 1996, 2000, 9004, -4, -400, -9004, 4e18, -4e18, -1<<62 + 8}},
	} {
		lengths := []int{31, c.february, 31, 30, 31, 30, 31, 31, 30, 31, 30, 31}
		for _, year := range c.years {
			for i, want := range lengths {
				if got := civil.Length(year, i+1); got != want {
					t.Errorf("Length of %d of %d: %d, not %d", i+1, year, got, want)
				}
			}
			for _, month := range []int{0, 13, 14, -1, -2, -11, -12, 24, 25, 1 << 32, 1<<32 + 1, 1<<32 + 2, math.MaxInt, math.MinInt} {
				if got := civil.Length(year, month); got != 0 {
					t.Errorf("Length of %d of %d: %d", month, year, got)
				}
			}
		}
	}
}

// P7.1, Fixed: the year goes first, then what there is not in it, then the day
// that may not be.
func TestNoDay(t *testing.T) {
	if civil.MaxYear != 9000 {
		t.Errorf("MaxYear %d", civil.MaxYear)
	}
	for _, c := range []struct {
		year       int64
		month, day int
		errno      api.Errno
	}{
		{9001, 1, 1, api.ErrRange}, {-9001, 12, 31, api.ErrRange}, {9001, 0, 1, api.ErrRange}, {9001, 13, 1, api.ErrRange}, {-9001, 1, 0, api.ErrRange}, {-9001, 2, 30, api.ErrRange},
		{math.MaxInt64, 1, 1, api.ErrRange}, {math.MinInt64, 1, 1, api.ErrRange}, {math.MaxInt64, 0, 0, api.ErrRange}, {math.MinInt64, 13, 0, api.ErrRange}, {1 << 32, 1, 1, api.ErrRange}, {-1 << 62, 1, 1, api.ErrRange},
		{2000, 0, 1, api.ErrArg}, {2000, 13, 1, api.ErrArg}, {2000, -1, 1, api.ErrArg}, {2000, math.MaxInt, 1, api.ErrArg}, {2000, math.MinInt, 1, api.ErrArg}, {2000, 1<<32 + 1, 1, api.ErrArg},
		{2000, 0, 0, api.ErrArg}, {2000, 13, 0, api.ErrArg}, {2000, 13, -5, api.ErrArg}, {0, 0, 0, api.ErrArg},
		{2000, 1, 0, api.ErrArg}, {2000, 1, -1, api.ErrArg}, {2000, 1, 32, api.ErrArg}, {2000, 12, 32, api.ErrArg}, {2000, 4, 31, api.ErrArg}, {2000, 6, 31, api.ErrArg}, {2000, 1, 1<<32 + 1, api.ErrArg}, {2000, 1, math.MaxInt, api.ErrArg}, {2000, 1, math.MinInt, api.ErrArg},
		{2000, 2, 30, api.ErrArg}, {2001, 2, 29, api.ErrArg}, {1900, 2, 29, api.ErrArg}, {2100, 2, 29, api.ErrArg}, {0, 2, 30, api.ErrArg}, {-1, 2, 29, api.ErrArg}, {-4, 2, 30, api.ErrArg}, {-100, 2, 29, api.ErrArg},
		{9000, 0, 1, api.ErrArg}, {9000, 2, 29, api.ErrArg}, {-9000, 13, 1, api.ErrArg}, {-9000, 2, 29, api.ErrArg}, {8214, 9, 31, api.ErrArg}, {-8213, 4, 0, api.ErrArg},
		{9000, 1, 1, api.ErrRange}, {9000, 12, 31, api.ErrRange}, {-9000, 1, 1, api.ErrRange}, {-9000, 12, 31, api.ErrRange},
		{8214, 9, 22, api.ErrRange}, {8214, 10, 1, api.ErrRange}, {8215, 1, 1, api.ErrRange}, {-8213, 4, 11, api.ErrRange}, {-8213, 3, 31, api.ErrRange}, {-8214, 12, 31, api.ErrRange},
	} {
		if got, errno := civil.Fixed(civil.Date{Year: c.year, Month: c.month, Day: c.day}); got != 0 || errno != c.errno {
			t.Errorf("Fixed of %d-%d-%d: %d, %d; not %d", c.year, c.month, c.day, got, errno, c.errno)
		}
	}
}

// P7.1, Of: of days that may not be.
func TestNoDate(t *testing.T) {
	for _, day := range []int64{api.MaxDay + 1, -api.MaxDay - 1, api.MaxDay + 146097, -api.MaxDay - 146097, 1 << 32, 1<<32 + 1, -1 << 32, 1 << 62, math.MaxInt64, math.MinInt64} {
		if got, errno := civil.Of(day); got != (civil.Date{}) || errno != api.ErrRange {
			t.Errorf("Of %d: %v, %d", day, got, errno)
		}
	}
}

// P7.2: each day that may be has the date behind that of the day ahead of it, and
// is that date's day; and so go the days of the week.
func TestThereAndBack(t *testing.T) {
	date, weekday := civil.Date{Year: -8213, Month: 4, Day: 12}, 4
	for day := int64(-api.MaxDay); day <= api.MaxDay; day++ {
		if got, errno := civil.Of(day); got != date || errno != api.OK {
			t.Fatalf("Of %d: %v, %d; not %v", day, got, errno, date)
		}
		if got, errno := civil.Fixed(date); got != day || errno != api.OK {
			t.Fatalf("Fixed of %v: %d, %d; not %d", date, got, errno, day)
		}
		if got := civil.Weekday(day); got != weekday {
			t.Fatalf("Weekday of %d: %d, not %d", day, got, weekday)
		}
		date, weekday = next(date), (weekday+1)%7
	}
	if date != (civil.Date{Year: 8214, Month: 9, Day: 22}) {
		t.Errorf("behind the last day: %v", date)
	}
}

// P7.2: of all that a date could be, in the years that are taken, those and only
// those have a day that a day has.
func TestAllDates(t *testing.T) {
	// Year 0, of 366 days, ends with day 0: January 1 of -9000 is 22 cycles and
	// 201 years' days ahead of January 1 of 1.
	day := int64(1 - 22*146097 - 73414)
	for year := int64(-civil.MaxYear); year <= civil.MaxYear; year++ {
		for month := 0; month <= 13; month++ {
			for d := 0; d <= 32; d++ {
				want, errno := int64(0), api.ErrArg
				if month >= 1 && month <= 12 && d >= 1 && d <= last(year, month) {
					want, errno = day, api.OK
					day++
				}
				if want < -api.MaxDay || want > api.MaxDay {
					want, errno = 0, api.ErrRange
				}
				got, e := civil.Fixed(civil.Date{Year: year, Month: month, Day: d})
				if got != want || e != errno {
					t.Fatalf("Fixed of %d-%d-%d: %d, %d; not %d, %d", year, month, d, got, e, want, errno)
				}
			}
		}
	}
}

// P7.3: 400 years have 146097 days, whichever one begins with, and a date has the
// same day of the week again behind them.
func TestCycle(t *testing.T) {
	for year := int64(-8212); year <= 7813; year++ {
		for _, d := range []civil.Date{{Year: year, Month: 1, Day: 1}, {Year: year, Month: 2, Day: last(year, 2)}, {Year: year, Month: 3, Day: 1}, {Year: year, Month: 12, Day: 31}} {
			from, e1 := civil.Fixed(d)
			d.Year += 400
			to, e2 := civil.Fixed(d)
			if e1 != api.OK || e2 != api.OK || to-from != 146097 || civil.Weekday(from) != civil.Weekday(to) {
				t.Fatalf("%v: %d, %d; 400 years ahead of it %d, %d", d, to, e2, from, e1)
			}
		}
	}
}

// P7.3: the months of 400 years make up so many days, which are whole weeks, in
// years far away too.
func TestWholeWeeks(t *testing.T) {
	for _, from := range []int64{0, 1, 1600, 1999, -1, -200, -399, -9000, 8600, 4e18, -4e18 - 7, 1<<62 - 400, -1<<62 + 1} {
		days := 0
		for year := range int64(400) {
			for month := 1; month <= 12; month++ {
				days += civil.Length(from+year, month)
			}
		}
		if days != 146097 || days%7 != 0 {
			t.Errorf("400 years from %d on: %d days", from, days)
		}
	}
}
