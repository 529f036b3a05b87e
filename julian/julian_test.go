package julian_test

import (
	"math"
	"testing"

	"ephemeris/api"
	"ephemeris/civil"
	"ephemeris/julian"
)

// known are days whose dates are in many books; these have no year 0, so that
// their 587 ahead of Christ is year -586 here.
var known = []struct {
	day  int64
	date julian.Date
}{
	{api.Kali, julian.Date{Year: -3101, Month: 2, Day: 18}},
	{-214193, julian.Date{Year: -586, Month: 7, Day: 30}},
	{-61387, julian.Date{Year: -168, Month: 12, Day: 8}},
	{-1, julian.Date{Year: 1, Month: 1, Day: 1}},
	{25469, julian.Date{Year: 70, Month: 9, Day: 26}},
	{49217, julian.Date{Year: 135, Month: 10, Day: 3}},
	{171307, julian.Date{Year: 470, Month: 1, Day: 7}},
	{210155, julian.Date{Year: 576, Month: 5, Day: 18}},
	{253427, julian.Date{Year: 694, Month: 11, Day: 7}},
	{369740, julian.Date{Year: 1013, Month: 4, Day: 19}},
	{434355, julian.Date{Year: 1190, Month: 3, Day: 16}},
	{524156, julian.Date{Year: 1436, Month: 1, Day: 25}},
	{577735, julian.Date{Year: 1582, Month: 10, Day: 4}},
	{577736, julian.Date{Year: 1582, Month: 10, Day: 5}},
	{626596, julian.Date{Year: 1716, Month: 7, Day: 13}},
	{671401, julian.Date{Year: 1839, Month: 3, Day: 15}},
	{709580, julian.Date{Year: 1943, Month: 9, Day: 24}},
	{727274, julian.Date{Year: 1992, Month: 3, Day: 4}},
	{728714, julian.Date{Year: 1996, Month: 2, Day: 12}},
	{730120, julian.Date{Year: 1999, Month: 12, Day: 19}},
	{744313, julian.Date{Year: 2038, Month: 10, Day: 28}},
}

// edges are the days around which something ends: year 0, Februaries of leap
// years and of others, and the days that may be.
var edges = []struct {
	day  int64
	date julian.Date
}{
	{-api.MaxDay, julian.Date{Year: -8213, Month: 6, Day: 15}},
	{-api.MaxDay + 1, julian.Date{Year: -8213, Month: 6, Day: 16}},
	{api.MaxDay - 1, julian.Date{Year: 8214, Month: 7, Day: 22}},
	{api.MaxDay, julian.Date{Year: 8214, Month: 7, Day: 23}},
	{0, julian.Date{Year: 1, Month: 1, Day: 2}},
	{1, julian.Date{Year: 1, Month: 1, Day: 3}},
	{-2, julian.Date{Year: 0, Month: 12, Day: 31}},
	{-32, julian.Date{Year: 0, Month: 12, Day: 1}},
	{-307, julian.Date{Year: 0, Month: 3, Day: 1}},
	{-308, julian.Date{Year: 0, Month: 2, Day: 29}},
	{-309, julian.Date{Year: 0, Month: 2, Day: 28}},
	{-367, julian.Date{Year: 0, Month: 1, Day: 1}},
	{-368, julian.Date{Year: -1, Month: 12, Day: 31}},
	{-732, julian.Date{Year: -1, Month: 1, Day: 1}},
	{57, julian.Date{Year: 1, Month: 2, Day: 28}},
	{58, julian.Date{Year: 1, Month: 3, Day: 1}},
	{363, julian.Date{Year: 1, Month: 12, Day: 31}},
	{364, julian.Date{Year: 2, Month: 1, Day: 1}},
	{1459, julian.Date{Year: 4, Month: 12, Day: 31}},
	{1460, julian.Date{Year: 5, Month: 1, Day: 1}},
	{36216, julian.Date{Year: 100, Month: 2, Day: 28}},
	{36217, julian.Date{Year: 100, Month: 2, Day: 29}},
	{36218, julian.Date{Year: 100, Month: 3, Day: 1}},
	{36523, julian.Date{Year: 100, Month: 12, Day: 31}},
	{36524, julian.Date{Year: 101, Month: 1, Day: 1}},
	{693667, julian.Date{Year: 1900, Month: 2, Day: 29}},
	{693668, julian.Date{Year: 1900, Month: 3, Day: 1}},
}

// leap asks what is left over on its own, so that it doesn't hang on how the
// program does it.
func leap(year int64) bool {
	return year&3 == 0
}

// last is a month's last day.
func last(year int64, month int) int {
	switch month {
	case 4, 6, 9, 11:
		return 30
	case 2:
		if leap(year) {
			return 29
		}
		return 28
	}
	return 31
}

// next is the date behind d.
func next(d julian.Date) julian.Date {
	switch {
	case d.Day < last(d.Year, d.Month):
		return julian.Date{Year: d.Year, Month: d.Month, Day: d.Day + 1}
	case d.Month < 12:
		return julian.Date{Year: d.Year, Month: d.Month + 1, Day: 1}
	}
	return julian.Date{Year: d.Year + 1, Month: 1, Day: 1}
}

// is fails if day and date aren't each other's.
func is(t *testing.T, day int64, date julian.Date) {
	t.Helper()
	if got, errno := julian.Of(day); got != date || errno != api.OK {
		t.Errorf("Of %d: %v, %d; not %v", day, got, errno, date)
	}
	if got, errno := julian.Fixed(date); got != day || errno != api.OK {
		t.Errorf("Fixed of %v: %d, %d; not %d", date, got, errno, day)
	}
}

// P8.1, Fixed and Of: of days and dates that are known.
func TestKnown(t *testing.T) {
	for _, c := range known {
		is(t, c.day, c.date)
	}
	for _, c := range edges {
		is(t, c.day, c.date)
	}
}

// P8.1, Leap: of multiples of 4, centuries too, and of others, below 0 and far
// away.
func TestLeap(t *testing.T) {
	for _, year := range []int64{0, 4, 8, 96, 100, 104, 200, 300, 400, 1500, 1600, 1700, 1900, 1996, 2000, 2024, 2100, 9000, -4, -8, -96, -100, -104, -200, -400, -1900, -9000, 4e18, -4e18 - 100, 1<<62 - 4, -1<<62 + 4} {
		if !julian.Leap(year) {
			t.Errorf("%d isn't leap", year)
		}
	}
	for _, year := range []int64{1, 2, 3, 5, 6, 7, 99, 101, 102, 1582, 1999, 2001, 2002, 2023, -1, -2, -3, -5, -6, -7, -99, -101, -2001, 4e18 + 1, -4e18 - 2, 1<<62 - 1, 1<<62 - 2, -1<<62 + 1, -1<<62 + 3} {
		if julian.Leap(year) {
			t.Errorf("%d is leap", year)
		}
	}
	for year := int64(-2000); year <= 2000; year++ {
		if julian.Leap(year) != leap(year) {
			t.Errorf("%d: %t", year, !leap(year))
		}
	}
}

// P8.1, Length: of each month in years of each kind; 0, if there is none such.
func TestLength(t *testing.T) {
	for _, c := range []struct {
		february int
		years    []int64
	}{
		{28, []int64{1, 2, 3, 1582, 2001, 9001, -1, -2, -9001, 1<<62 - 1, -1<<62 + 1}},
		{29, []int64{0, 4, 100, 400, 1900, 1996, 2000, 2100, 9000, -4, -100, -1900, -9000, 4e18 + 100, 1<<62 - 4, -1<<62 + 4}},
	} {
		lengths := []int{31, c.february, 31, 30, 31, 30, 31, 31, 30, 31, 30, 31}
		for _, year := range c.years {
			for i, want := range lengths {
				if got := julian.Length(year, i+1); got != want {
					t.Errorf("Length of %d of %d: %d, not %d", i+1, year, got, want)
				}
			}
			for _, month := range []int{0, 13, 14, -1, -2, -11, -12, 24, 25, 1 << 32, 1<<32 + 1, 1<<32 + 2, math.MaxInt, math.MinInt} {
				if got := julian.Length(year, month); got != 0 {
					t.Errorf("Length of %d of %d: %d", month, year, got)
				}
			}
		}
	}
}

// P8.1, Fixed: the year goes first, then what there is not in it, then the day
// that may not be.
func TestNoDay(t *testing.T) {
	if julian.MaxYear != 9000 {
		t.Errorf("MaxYear %d", julian.MaxYear)
	}
	for _, c := range []struct {
		year       int64
		month, day int
		errno      api.Errno
	}{
		{9001, 1, 1, api.ErrRange}, {-9001, 12, 31, api.ErrRange}, {9001, 0, 1, api.ErrRange}, {9001, 13, 1, api.ErrRange}, {-9001, 1, 0, api.ErrRange}, {-9001, 2, 30, api.ErrRange},
		{math.MaxInt64, 1, 1, api.ErrRange}, {math.MinInt64, 1, 1, api.ErrRange}, {math.MaxInt64, 0, 0, api.ErrRange}, {math.MinInt64, 13, 0, api.ErrRange}, {1 << 32, 1, 1, api.ErrRange}, {-1 << 62, 1, 1, api.ErrRange},
		{2000, 0, 1, api.ErrArg}, {2000, 13, 1, api.ErrArg}, {2000, -1, 1, api.ErrArg}, {2000, math.MaxInt, 1, api.ErrArg}, {2000, math.MinInt, 1, api.ErrArg}, {2000, 1<<32 + 1, 1, api.ErrArg},
		{2000, 0, 0, api.ErrArg}, {2000, 13, 0, api.ErrArg}, {2000, 13, -5, api.ErrArg}, {0, 0, 0, api.ErrArg},
		{2000, 1, 0, api.ErrArg}, {2000, 1, -1, api.ErrArg}, {2000, 1, 32, api.ErrArg}, {2000, 12, 32, api.ErrArg}, {2000, 4, 31, api.ErrArg}, {2000, 6, 31, api.ErrArg}, {2000, 1, 1<<32 + 1, api.ErrArg}, {2000, 1, math.MaxInt, api.ErrArg}, {2000, 1, math.MinInt, api.ErrArg},
		{2000, 2, 30, api.ErrArg}, {2001, 2, 29, api.ErrArg}, {1900, 2, 30, api.ErrArg}, {1899, 2, 29, api.ErrArg}, {0, 2, 30, api.ErrArg}, {-1, 2, 29, api.ErrArg}, {-4, 2, 30, api.ErrArg}, {-100, 2, 30, api.ErrArg}, {1582, 2, 29, api.ErrArg},
		{9000, 0, 1, api.ErrArg}, {9000, 2, 30, api.ErrArg}, {-9000, 13, 1, api.ErrArg}, {-9000, 2, 30, api.ErrArg}, {8214, 9, 31, api.ErrArg}, {-8213, 6, 0, api.ErrArg},
		{9000, 1, 1, api.ErrRange}, {9000, 2, 29, api.ErrRange}, {9000, 12, 31, api.ErrRange}, {-9000, 1, 1, api.ErrRange}, {-9000, 2, 29, api.ErrRange}, {-9000, 12, 31, api.ErrRange},
		{8214, 7, 24, api.ErrRange}, {8214, 8, 1, api.ErrRange}, {8215, 1, 1, api.ErrRange}, {-8213, 6, 14, api.ErrRange}, {-8213, 5, 31, api.ErrRange}, {-8214, 12, 31, api.ErrRange},
	} {
		if got, errno := julian.Fixed(julian.Date{Year: c.year, Month: c.month, Day: c.day}); got != 0 || errno != c.errno {
			t.Errorf("Fixed of %d-%d-%d: %d, %d; not %d", c.year, c.month, c.day, got, errno, c.errno)
		}
	}
}

// P8.1, Of: of days that may not be.
func TestNoDate(t *testing.T) {
	for _, day := range []int64{api.MaxDay + 1, -api.MaxDay - 1, api.MaxDay + 1461, -api.MaxDay - 1461, 1 << 32, 1<<32 + 1, -1 << 32, 1 << 62, math.MaxInt64, math.MinInt64} {
		if got, errno := julian.Of(day); got != (julian.Date{}) || errno != api.ErrRange {
			t.Errorf("Of %d: %v, %d", day, got, errno)
		}
	}
}

// P8.2: each day that may be has the date behind that of the day ahead of it, and
// is that date's day.
func TestThereAndBack(t *testing.T) {
	date := julian.Date{Year: -8213, Month: 6, Day: 15}
	for day := int64(-api.MaxDay); day <= api.MaxDay; day++ {
		if got, errno := julian.Of(day); got != date || errno != api.OK {
			t.Fatalf("Of %d: %v, %d; not %v", day, got, errno, date)
		}
		if got, errno := julian.Fixed(date); got != day || errno != api.OK {
			t.Fatalf("Fixed of %v: %d, %d; not %d", date, got, errno, day)
		}
		date = next(date)
	}
	if date != (julian.Date{Year: 8214, Month: 7, Day: 24}) {
		t.Errorf("behind the last day: %v", date)
	}
}

// P8.2: of all that a date could be, in the years that are taken, those and only
// those have a day that a day has.
func TestAllDates(t *testing.T) {
	// January 1 of 1 is day -1; from that of -9000 on there are 2250 times four
	// years to that of 0, and this is leap.
	day := int64(-1 - 366 - 2250*1461)
	for year := int64(-julian.MaxYear); year <= julian.MaxYear; year++ {
		for month := 0; month <= 13; month++ {
			for d := 0; d <= 32; d++ {
				want, errno := int64(0), api.ErrArg
				if month >= 1 && month <= 12 && d >= 1 && d <= last(year, month) {
					want, errno = day, api.OK
					day++
				}
				if want < -api.MaxDay || want > api.MaxDay {
					want, errno = 0, api.ErrRange
				}
				got, e := julian.Fixed(julian.Date{Year: year, Month: month, Day: d})
				if got != want || e != errno {
					t.Fatalf("Fixed of %d-%d-%d: %d, %d; not %d, %d", year, month, d, got, e, want, errno)
				}
			}
		}
	}
}

// P8.3: four years have 1461 days, whichever one begins with.
func TestCycle(t *testing.T) {
	for year := int64(-8212); year <= 8209; year++ {
		for _, d := range []julian.Date{{Year: year, Month: 1, Day: 1}, {Year: year, Month: 2, Day: last(year, 2)}, {Year: year, Month: 3, Day: 1}, {Year: year, Month: 12, Day: 31}} {
			from, e1 := julian.Fixed(d)
			d.Year += 4
			to, e2 := julian.Fixed(d)
			if e1 != api.OK || e2 != api.OK || to-from != 1461 {
				t.Fatalf("%v: %d, %d; four years ahead of it %d, %d", d, to, e2, from, e1)
			}
		}
	}
}

// P8.3: the months of four years make up so many days, in years far away too.
func TestFourYears(t *testing.T) {
	for _, from := range []int64{0, 1, 2, 3, 97, 98, 99, 100, 1597, 1899, 1999, -1, -2, -3, -101, -9000, 8997, 4e18 + 98, -4e18 - 101, 1<<62 - 4, -1<<62 + 1} {
		days := 0
		for year := range int64(4) {
			for month := 1; month <= 12; month++ {
				days += julian.Length(from+year, month)
			}
		}
		if days != 1461 {
			t.Errorf("four years from %d on: %d days", from, days)
		}
	}
}

// P8.3: how far it is behind layer 7's calendar on March 1, in every year whose
// March 1 may be in both.
func TestBehind(t *testing.T) {
	behind := int64(-64)
	for year := int64(-8212); year <= 8214; year++ {
		// It grows by a day in years that are leap here, and not there.
		if year%100 == 0 && year%400 != 0 {
			behind++
		}
		here, e1 := julian.Fixed(julian.Date{Year: year, Month: 3, Day: 1})
		there, e2 := civil.Fixed(civil.Date{Year: year, Month: 3, Day: 1})
		if e1 != api.OK || e2 != api.OK || here-there != behind {
			t.Fatalf("March 1 of %d: %d, %d, and %d, %d; not %d behind", year, here, e1, there, e2, behind)
		}
	}
	if behind != 60 {
		t.Errorf("behind at the end: %d", behind)
	}
	for _, c := range []struct{ year, behind int64 }{
		{-8200, -63}, {-8101, -63}, {-8100, -62}, {-8001, -62}, {-8000, -62}, {-4000, -32}, {-401, -5}, {-400, -5}, {-399, -5}, {-301, -5}, {-300, -4}, {-201, -4}, {-200, -3}, {-101, -3}, {-100, -2}, {-99, -2}, {-1, -2}, {0, -2}, {1, -2}, {99, -2}, {100, -1}, {199, -1}, {200, 0}, {299, 0}, {300, 1}, {399, 1}, {400, 1}, {499, 1}, {500, 2},
		{1582, 10}, {1600, 10}, {1699, 10}, {1700, 11}, {1800, 12}, {1900, 13}, {2000, 13}, {2100, 14}, {8200, 60},
	} {
		here, _ := julian.Fixed(julian.Date{Year: c.year, Month: 3, Day: 1})
		there, _ := civil.Fixed(civil.Date{Year: c.year, Month: 3, Day: 1})
		if here-there != c.behind {
			t.Errorf("March 1 of %d: %d behind, not %d", c.year, here-there, c.behind)
		}
	}
}
