package reckon_test

import (
	"math"
	"strconv"
	"strings"
	"testing"

	"ephemeris/api"
	"ephemeris/place"
	"ephemeris/reckon"
	"ephemeris/scheme"
)

// The places that may be, at their edges: far to the north and to the south, far to the
// east and to the west of Ujjain; and others.
func ujjain() place.Place    { return place.Ujjain() }
func northEast() place.Place { return place.Place{Lat: 60, LatOver: 1, Lon: 180, LonOver: 1} }
func southWest() place.Place { return place.Place{Lat: -60, LatOver: 1, Lon: -180, LonOver: 1} }
func northWest() place.Place { return place.Place{Lat: 60, LatOver: 1, Lon: -180, LonOver: 1} }
func southEast() place.Place { return place.Place{Lat: -60, LatOver: 1, Lon: 180, LonOver: 1} }
func equator() place.Place   { return place.Place{LatOver: 1, LonOver: 1} }
func north() place.Place     { return place.Place{Lat: 216000, LatOver: 3600, Lon: 45461, LonOver: 600} }
func middle() place.Place    { return place.Place{Lat: -7, LatOver: 3600, Lon: -647999, LonOver: 3600} }

func places() []place.Place {
	return []place.Place{ujjain(), northEast(), southWest(), northWest(), southEast(), equator(), north(), middle()}
}

// text is a date's: scheme, year, month, l if that is leap, day, a if it is so again.
func text(d scheme.Date) string {
	s := strconv.Itoa(d.Scheme) + ": " + strconv.FormatInt(d.Year, 10) + "-" + strconv.Itoa(d.Month)
	if d.Leap {
		s += "l"
	}
	s += "-" + strconv.Itoa(d.Day)
	if d.Again {
		s += "a"
	}
	return s
}

// read is the date of such a text, without the scheme.
func read(s int, told string) scheme.Date {
	stroke := strings.Index(told[1:], "-") + 1
	year, _ := strconv.ParseInt(told[:stroke], 10, 64)
	month, day, _ := strings.Cut(told[stroke+1:], "-")
	number, leap := strings.CutSuffix(month, "l")
	number2, again := strings.CutSuffix(day, "a")
	d := scheme.Date{Scheme: s, Year: year, Leap: leap, Again: again}
	d.Month, _ = strconv.Atoi(number)
	d.Day, _ = strconv.Atoi(number2)
	return d
}

// row is a day at a place, with its day of the week and its dates in the ten schemes.
type row struct {
	p       place.Place
	day     int64
	weekday int
	dates   string
}

// each are a row's dates.
func (r row) each() []scheme.Date {
	l := []scheme.Date{}
	for s, told := range strings.Fields(r.dates) {
		l = append(l, read(s, told))
	}
	return l
}

// known are days at each place, reckoned elsewhere: those at both ends of the days that may
// be, others between, some in leap months, some whose lunar day comes again.
var known = []row{
	{ujjain(), -3000000, 4, "-8213-4-12 -8213-6-15 -5112-6-10 -5112-7-1 -8291-6-9 -8291-6-9 -8291-6-8 -8291-6-9 -8156-7-2 -8156-7-2"},
	{ujjain(), -1132960, 4, "-3101-1-22 -3101-2-17 -1-12-30 0-1l-30 -3179-1-3 -3179-1-2 -3179-1-2 -3179-1-3 -3044-1-30 -3044-2-30"},
	{ujjain(), -1132959, 5, "-3101-1-23 -3101-2-18 0-1-1 0-1-1 -3179-1-4 -3179-1-3 -3179-1-3 -3179-1-4 -3044-2-1 -3044-2-1"},
	{ujjain(), -1, 6, "0-12-30 1-1-1 3101-10-18 3101-10-18 -78-10-19 -78-10-18 -78-10-18 -78-10-19 57-11-18 57-12-18"},
	{ujjain(), 171307, 3, "470-1-8 470-1-7 3570-10-19 3570-11l-19 391-10-21 391-10-20 391-10-20 391-10-20 526-11-19 526-12-19"},
	{ujjain(), 400085, 0, "1096-5-24 1096-5-18 4197-2-24 4197-2-24 1018-2-26 1018-2-26 1018-2-25 1018-2-26 1153-3l-23 1153-3l-23"},
	{ujjain(), 569476, 5, "1560-3-4 1560-2-23 4660-11-26 4660-11-28 1481-11-28 1481-11-28 1481-11-27 1481-11-28 1616-11-28 1616-12-28"},
	{ujjain(), 569477, 6, "1560-3-5 1560-2-24 4660-11-27 4660-11-29 1481-11-29 1481-11-29 1481-11-28 1481-11-29 1616-11-28a 1616-12-28a"},
	{ujjain(), 577735, 4, "1582-10-14 1582-10-4 4683-7-6 4683-7-18 1504-7-4 1504-7-4 1504-7-4 1504-7-4 1639-7-18 1639-8-18"},
	{ujjain(), 577736, 5, "1582-10-15 1582-10-5 4683-7-7 4683-7-19 1504-7-5 1504-7-5 1504-7-5 1504-7-5 1639-7-19 1639-8-19"},
	{ujjain(), 717072, 6, "1964-4-11 1964-3-29 5064-12-27 5064-12-30 1885-12-30 1885-12-29 1885-12-29 1885-12-29 2021-1l-29 2021-1l-29"},
	{ujjain(), 723939, 6, "1983-1-29 1983-1-16 5083-10-15 5083-10-16 1904-10-16 1904-10-15 1904-10-15 1904-10-16 2039-10-16 2039-12-16"},
	{ujjain(), 723956, 2, "1983-2-15 1983-2-2 5083-11-1 5083-11-3 1904-11-4 1904-11-3 1904-11-3 1904-11-3 2039-12l-2a 2039-12l-2a"},
	{ujjain(), 730120, 6, "2000-1-1 1999-12-19 5100-9-17 5100-9-25 1921-9-17 1921-9-16 1921-9-16 1921-9-17 2056-9-25 2056-10-25"},
	{ujjain(), 730223, 4, "2000-4-13 2000-3-31 5100-12-29 5101-1-10 1922-1-1 1922-1-1 1921-12-31 1922-1-1 2057-1-10 2057-1-10"},
	{ujjain(), 3000000, 3, "8214-9-21 8214-7-23 11315-2-27 11315-3-7 8136-2-29 8136-2-29 8136-2-28 8136-2-29 8271-3-6 8271-3-6"},
	{northEast(), -3000000, 4, "-8213-4-12 -8213-6-15 -5112-6-10 -5112-7-1 -8291-6-9 -8291-6-8 -8291-6-8 -8291-6-9 -8156-7-2 -8156-7-2"},
	{northEast(), -1790015, 4, "-4900-2-8 -4900-3-18 -1799-2-15 -1799-2-30 -4978-2-17 -4978-2-17 -4978-2-17 -4978-2-17 -4843-2-29a -4843-3-29a"},
	{northEast(), 717056, 4, "1964-3-26 1964-3-13 5064-12-11 5064-12-14 1885-12-13 1885-12-13 1885-12-13 1885-12-13 2021-1l-13 2021-1l-13"},
	{northEast(), 3000000, 3, "8214-9-21 8214-7-23 11315-2-27 11315-3-7 8136-2-29 8136-2-28 8136-2-28 8136-2-29 8271-3-6 8271-3-6"},
	{southWest(), -3000000, 4, "-8213-4-12 -8213-6-15 -5112-6-10 -5112-7-1 -8291-6-10 -8291-6-9 -8291-6-9 -8291-6-9 -8156-7-3 -8156-7-3"},
	{southWest(), -1132964, 0, "-3101-1-18 -3101-2-13 -1-12-26 0-1l-26 -3180-12-30 -3180-12-30 -3180-12-29 -3180-12-29 -3044-1-26 -3044-2-26"},
	{southWest(), 761458, 5, "2085-10-19 2085-10-6 5186-7-4 5186-8-1 2007-7-3 2007-7-2 2007-7-2 2007-7-2 2142-8l-1a 2142-8l-1a"},
	{southWest(), 3000000, 3, "8214-9-21 8214-7-23 11315-2-27 11315-3-7 8136-2-30 8136-2-29 8136-2-29 8136-2-29 8271-3-7 8271-3-7"},
	{northWest(), -3000000, 4, "-8213-4-12 -8213-6-15 -5112-6-10 -5112-7-1 -8291-6-10 -8291-6-9 -8291-6-9 -8291-6-9 -8156-7-3 -8156-7-3"},
	{northWest(), -337534, 6, "-924-11-11 -924-11-20 2177-9-14 2177-9-20 -1002-9-15 -1002-9-14 -1002-9-14 -1002-9-14 -867-9-20a -867-10-20a"},
	{northWest(), 761479, 5, "2085-11-9 2085-10-27 5186-7-25 5186-8-23 2007-7-24 2007-7-23 2007-7-23 2007-7-23 2142-8l-23a 2142-8l-23a"},
	{northWest(), 3000000, 3, "8214-9-21 8214-7-23 11315-2-27 11315-3-7 8136-2-30 8136-2-29 8136-2-29 8136-2-29 8271-3-7 8271-3-7"},
	{southEast(), -3000000, 4, "-8213-4-12 -8213-6-15 -5112-6-10 -5112-7-1 -8291-6-9 -8291-6-8 -8291-6-8 -8291-6-9 -8156-7-2 -8156-7-2"},
	{southEast(), -2249958, 3, "-6160-10-28 -6160-12-15 -3059-11-24 -3059-11-26 -6238-11-26 -6238-11-26 -6238-11-25 -6238-11-26 -6103-12l-25a -6103-12l-25a"},
	{southEast(), 192070, 4, "526-11-14 526-11-12 3627-8-23 3627-9-22 448-8-22 448-8-22 448-8-22 448-8-22 583-8-21a 583-9-21a"},
	{southEast(), 3000000, 3, "8214-9-21 8214-7-23 11315-2-27 11315-3-7 8136-2-29 8136-2-28 8136-2-28 8136-2-29 8271-3-6 8271-3-6"},
	{equator(), -3000000, 4, "-8213-4-12 -8213-6-15 -5112-6-10 -5112-7-1 -8291-6-9 -8291-6-9 -8291-6-9 -8291-6-9 -8156-7-2 -8156-7-2"},
	{equator(), -2249966, 2, "-6160-10-20 -6160-12-7 -3059-11-16 -3059-11-18 -6238-11-19 -6238-11-18 -6238-11-18 -6238-11-18 -6103-12l-18a -6103-12l-18a"},
	{equator(), 717009, 6, "1964-2-8 1964-1-26 5064-10-25 5064-10-26 1885-10-26 1885-10-26 1885-10-25 1885-10-26 2020-11-25a 2020-12-25a"},
	{equator(), 3000000, 3, "8214-9-21 8214-7-23 11315-2-27 11315-3-7 8136-2-29 8136-2-29 8136-2-29 8136-2-29 8271-3-6 8271-3-6"},
	{north(), -3000000, 4, "-8213-4-12 -8213-6-15 -5112-6-10 -5112-7-1 -8291-6-9 -8291-6-9 -8291-6-9 -8291-6-9 -8156-7-2 -8156-7-2"},
	{north(), 557540, 4, "1527-6-30 1527-6-20 4628-3-22 4628-4l-22 1449-3-23 1449-3-23 1449-3-22 1449-3-23 1584-4l-22 1584-4l-22"},
	{north(), 821244, 4, "2249-6-28 2249-6-13 5350-3-9 5350-3-18 2171-3-10 2171-3-10 2171-3-10 2171-3-10 2306-3-17a 2306-4-17a"},
	{north(), 3000000, 3, "8214-9-21 8214-7-23 11315-2-27 11315-3-7 8136-2-29 8136-2-29 8136-2-28 8136-2-29 8271-3-6 8271-3-6"},
	{middle(), -3000000, 4, "-8213-4-12 -8213-6-15 -5112-6-10 -5112-7-1 -8291-6-10 -8291-6-9 -8291-6-9 -8291-6-9 -8156-7-3 -8156-7-3"},
	{middle(), 364413, 0, "998-9-23 998-9-18 4099-6-25 4099-7l-25 920-6-24 920-6-24 920-6-24 920-6-24 1055-6-26 1055-7-26"},
	{middle(), 395063, 4, "1082-8-24 1082-8-18 4183-5-24 4183-6-22 1004-5-24 1004-5-23 1004-5-23 1004-5-23 1139-6l-22a 1139-6l-22a"},
	{middle(), 3000000, 3, "8214-9-21 8214-7-23 11315-2-27 11315-3-7 8136-2-30 8136-2-29 8136-2-29 8136-2-29 8271-3-7 8271-3-7"},
}

// at are the known days of a place.
func at(p place.Place) []row {
	l := []row{}
	for _, r := range known {
		if r.p == p {
			l = append(l, r)
		}
	}
	return l
}

// eachPlace goes through the places, all at once, and beside other tests.
func eachPlace(t *testing.T, check func(t *testing.T, i int, p place.Place)) {
	t.Parallel()
	for i, p := range places() {
		t.Run("at "+p.Text(), func(t *testing.T) {
			t.Parallel()
			check(t, i, p)
		})
	}
}

// between fails if there are other days between two dates, or if the error is another one.
func between(t *testing.T, a, b scheme.Date, p place.Place, want int64, errno api.Errno) {
	t.Helper()
	if got, e := reckon.Between(a, b, p); got != want || e != errno {
		t.Errorf("at %v, Between %s and %s: %d, %d; not %d, %d", p, text(a), text(b), got, e, want, errno)
	}
}

// plus fails if the date so many days behind one is another one, or if the error is.
func plus(t *testing.T, d scheme.Date, n int64, p place.Place, want scheme.Date, errno api.Errno) {
	t.Helper()
	if got, e := reckon.Plus(d, n, p); got != want || e != errno {
		t.Errorf("at %v, Plus %s, %d: %s, %d; not %s, %d", p, text(d), n, text(got), e, text(want), errno)
	}
}

// weekday fails if a date's day of the week is another one, or if the error is.
func weekday(t *testing.T, d scheme.Date, p place.Place, want int, errno api.Errno) {
	t.Helper()
	if got, e := reckon.Weekday(d, p); got != want || e != errno {
		t.Errorf("at %v, Weekday %s: %d, %d; not %d, %d", p, text(d), got, e, want, errno)
	}
}

// P26.1, Between: of dates of one scheme, and of two; of a later one and an earlier one; of
// one and itself; of both ends of the days that may be.
func TestBetween(t *testing.T) {
	eachPlace(t, func(t *testing.T, i int, p place.Place) {
		skip := 2
		if p == ujjain() {
			skip = 5
		}
		for k, from := range at(p) {
			for l, to := range at(p) {
				for s, a := range from.each() {
					other := (s + i + k + l) % scheme.Schemes
					if (k+2*l+s)%skip != 0 {
						continue
					}
					between(t, a, to.each()[s], p, to.day-from.day, api.OK)
					between(t, a, to.each()[other], p, to.day-from.day, api.OK)
				}
			}
		}
	})
}

// P26.1, Between: both ends, and a date and itself, in numbers.
func TestBetweenEnds(t *testing.T) {
	first, last := read(scheme.Gregorian, "-8213-4-12"), read(scheme.OldMoon, "11315-3-7")
	kali, january := read(scheme.OldSun, "0-1-1"), read(scheme.Amanta, "2056-9-25")
	for _, c := range []struct {
		a, b scheme.Date
		want int64
	}{
		{first, last, 6000000}, {last, first, -6000000}, {first, first, 0}, {last, last, 0},
		{kali, january, 1863079}, {january, kali, -1863079}, {kali, kali, 0}, {january, january, 0},
		{first, kali, 1867041}, {kali, first, -1867041}, {january, last, 2269880}, {last, january, -2269880},
	} {
		between(t, c.a, c.b, ujjain(), c.want, api.OK)
	}
}

// P26.1, Plus: days ahead and days behind, and none, in each scheme: from each known day to
// each other one, the ends too.
func TestPlus(t *testing.T) {
	eachPlace(t, func(t *testing.T, _ int, p place.Place) {
		for k, from := range at(p) {
			for l, to := range at(p) {
				for s, d := range from.each() {
					if p == ujjain() && (k+l+s)%3 != 0 {
						continue
					}
					plus(t, d, to.day-from.day, p, to.each()[s], api.OK)
				}
			}
		}
	})
}

// tooFar are numbers of days that lead from any day to one that may not be: some would
// lead to one that may be, if they were cut.
func tooFar() []int64 {
	return []int64{
		2*api.MaxDay + 1, -2*api.MaxDay - 1, 1 << 31, -1 << 31, 1 << 32, -1 << 32, 1<<32 + 1, 1<<33 - 1, 1 << 40, -1 << 40, 1 << 62, -1 << 62,
		math.MaxInt64, math.MaxInt64 - 1, math.MaxInt64 - api.MaxDay, math.MinInt64, math.MinInt64 + 1, math.MinInt64 + api.MaxDay,
	}
}

// P26.1, Plus: in each scheme, from each known day to just beyond both ends, and farther.
func TestPlusBeyond(t *testing.T) {
	eachPlace(t, func(t *testing.T, i int, p place.Place) {
		for k, r := range at(p) {
			for s, d := range r.each() {
				if p == ujjain() && (i+k+s)%3 != 0 {
					continue
				}
				plus(t, d, api.MaxDay-r.day+1, p, scheme.Date{}, api.ErrRange)
				plus(t, d, -api.MaxDay-r.day-1, p, scheme.Date{}, api.ErrRange)
				for _, n := range tooFar() {
					if s < scheme.Amanta || r.day == 730120 {
						plus(t, d, n, p, scheme.Date{}, api.ErrRange)
					}
				}
			}
		}
	})
}

// P26.1, Plus: the days around some on which months begin, leap ones too, and around such as
// have the lunar day of the day ahead, or behind which one is wanting.
func TestPlusDays(t *testing.T) {
	for _, c := range []struct {
		s     int
		dates string // one behind the other
	}{
		{scheme.Gregorian, "1999-12-30 1999-12-31 2000-1-1 2000-1-2"}, {scheme.Gregorian, "1900-2-27 1900-2-28 1900-3-1"}, {scheme.Gregorian, "-1-12-31 0-1-1 0-1-2"},
		{scheme.Julian, "1900-2-28 1900-2-29 1900-3-1"}, {scheme.Julian, "0-12-31 1-1-1 1-1-2"}, {scheme.OldSun, "-1-12-29 -1-12-30 0-1-1 0-1-2"},
		{scheme.OldMoon, "-1-12-29 -1-12-30 0-1l-1"}, {scheme.OldMoon, "0-1l-30 0-1-1 0-1-2"}, {scheme.OldMoon, "3570-11l-30 3570-11-1"}, {scheme.OldMoon, "5083-10-29 5083-10-30 5083-11-1 5083-11-2 5083-11-3"},
		{scheme.Orissa, "1921-12-30 1922-1-1 1922-1-2"}, {scheme.Tamil, "1921-12-30 1922-1-1 1922-1-2"}, {scheme.Malayali, "1921-12-30 1921-12-31 1922-1-1"}, {scheme.Bengal, "1921-12-30 1922-1-1 1922-1-2"},
		{scheme.Amanta, "1616-11-27 1616-11-28 1616-11-28a 1616-11-29"}, {scheme.Amanta, "2039-10-29 2039-10-30 2039-12l-1 2039-12l-2 2039-12l-2a 2039-12l-3"}, {scheme.Amanta, "2057-1-8 2057-1-10 2057-1-11"},
		{scheme.Purnimanta, "1616-12-27 1616-12-28 1616-12-28a 1616-12-29"}, {scheme.Purnimanta, "2039-10-15 2039-12-16 2039-12-17"}, {scheme.Purnimanta, "2039-12-30 2039-12l-1"}, {scheme.Purnimanta, "2057-1-8 2057-1-10"},
	} {
		dates := strings.Fields(c.dates)
		for i, from := range dates {
			for k, to := range dates {
				plus(t, read(c.s, from), int64(k-i), ujjain(), read(c.s, to), api.OK)
				between(t, read(c.s, from), read(c.s, to), ujjain(), int64(k-i), api.OK)
			}
		}
	}
}

// P26.1, Weekday: in each scheme, of days below 0 too.
func TestWeekday(t *testing.T) {
	eachPlace(t, func(t *testing.T, _ int, p place.Place) {
		for _, r := range at(p) {
			for _, d := range r.each() {
				weekday(t, d, p, r.weekday, api.OK)
			}
		}
	})
}

// P26.1, Weekday: days that are known from elsewhere: a Saturday, a Friday with the Thursday
// ahead of it, the Friday on which the Kali Yuga began, a Monday, a Sunday.
func TestWeekdayKnown(t *testing.T) {
	weekday(t, read(scheme.Gregorian, "2000-1-1"), ujjain(), 6, api.OK)
	weekday(t, read(scheme.Gregorian, "1582-10-15"), ujjain(), 5, api.OK)
	weekday(t, read(scheme.Julian, "1582-10-4"), ujjain(), 4, api.OK)
	weekday(t, read(scheme.Julian, "-3101-2-18"), ujjain(), 5, api.OK)
	weekday(t, read(scheme.OldMoon, "0-1-1"), ujjain(), 5, api.OK)
	weekday(t, read(scheme.Gregorian, "1-1-1"), ujjain(), 1, api.OK)
	weekday(t, read(scheme.Gregorian, "0-12-31"), ujjain(), 0, api.OK)
	weekday(t, read(scheme.Gregorian, "0-12-30"), ujjain(), 6, api.OK)
}

// P26.1, Between, Plus, Weekday: schemes that ask for no place: any will do.
func TestAnyPlace(t *testing.T) {
	for _, r := range at(ujjain()) {
		for s, d := range r.each()[:scheme.Orissa] {
			for _, p := range nowhere() {
				between(t, d, r.each()[scheme.OldMoon-s], p, 0, api.OK)
				plus(t, d, 0, p, d, api.OK)
				weekday(t, d, p, r.weekday, api.OK)
			}
		}
	}
}

// date is a day's in a scheme.
func date(t *testing.T, s int, day int64, p place.Place) scheme.Date {
	t.Helper()
	d, errno := scheme.To(s, day, p)
	if errno != api.OK {
		t.Fatalf("at %v, To %d, %d: %d", p, s, day, errno)
	}
	return d
}

// P26.2: at every place, in every scheme, what is added, and taken away again, changes
// nothing: days ahead and behind, few and many, to the ends too.
func TestAway(t *testing.T) {
	eachPlace(t, func(t *testing.T, i int, p place.Place) {
		for s := range scheme.Schemes {
			for day := int64(30011*i - api.MaxDay); day <= api.MaxDay; day += 1499999 {
				for k, n := range []int64{0, 1, -1, 29, -30, 365, -1000003, 2222222, api.MaxDay - day, -api.MaxDay - day} {
					if day+n < -api.MaxDay || day+n > api.MaxDay || s >= scheme.Amanta && (k+i+int(day))%3 != 0 {
						continue
					}
					d, there := date(t, s, day, p), date(t, s, day+n, p)
					plus(t, d, n, p, there, api.OK)
					plus(t, there, -n, p, d, api.OK)
				}
			}
		}
	})
}

// P26.2: at every place, of dates of each three schemes: what lies between three adds up,
// and there is as much between one and another as back.
func TestThree(t *testing.T) {
	eachPlace(t, func(t *testing.T, i int, p place.Place) {
		for k := range 40 {
			day := func(j int) int64 { return int64((k*j*177777+i*31+j*2345678)%(2*api.MaxDay+1) - api.MaxDay) }
			a := date(t, k%10, day(1), p)
			b := date(t, (k/3+i)%10, day(2), p)
			c := date(t, (k/7+3*i)%10, day(3), p)
			ab, _ := reckon.Between(a, b, p)
			bc, _ := reckon.Between(b, c, p)
			if ab != day(2)-day(1) {
				t.Errorf("at %v, %s to %s: %d", p, text(a), text(b), ab)
			}
			between(t, a, c, p, ab+bc, api.OK)
			between(t, b, a, p, -ab, api.OK)
			between(t, a, a, p, 0, api.OK)
		}
	})
}

// P26.3: at every place, in every scheme: weeks more, and less, are the same day of the week,
// and a day more is the next one.
func TestWeeks(t *testing.T) {
	eachPlace(t, func(t *testing.T, i int, p place.Place) {
		for s := range scheme.Schemes {
			for day := int64(44449*i - api.MaxDay + 700000); day < api.MaxDay-700000; day += 2345678 {
				d := date(t, s, day, p)
				first, errno := reckon.Weekday(d, p)
				if errno != api.OK {
					t.Errorf("at %v, Weekday %s: %d", p, text(d), errno)
				}
				for _, n := range []int64{7, -7, 1, 14, 700000, -699999} {
					later, _ := reckon.Plus(d, n, p)
					weekday(t, later, p, int((int64(first)+n%7+7)%7), api.OK)
				}
			}
		}
	})
}
