package purnima_test

import (
	"fmt"
	"maps"
	"math"
	"strconv"
	"strings"
	"testing"

	"ephemeris/amanta"
	"ephemeris/api"
	"ephemeris/find"
	"ephemeris/moons"
	"ephemeris/place"
	"ephemeris/purnima"
	"ephemeris/rat"
	"ephemeris/rise"
)

// The places that may be, at their edges: far to the north and to the south, far to the
// east and to the west of Ujjain; and others.
func ujjain() place.Place    { return place.Ujjain() }
func northEast() place.Place { return place.Place{Lat: 60, LatOver: 1, Lon: 180, LonOver: 1} }
func southWest() place.Place { return place.Place{Lat: -60, LatOver: 1, Lon: -180, LonOver: 1} }
func northWest() place.Place { return place.Place{Lat: 60, LatOver: 1, Lon: -180, LonOver: 1} }
func southEast() place.Place { return place.Place{Lat: -60, LatOver: 1, Lon: 180, LonOver: 1} }
func equator() place.Place   { return place.Place{LatOver: 1, LonOver: 1} }
func north() place.Place     { return place.Place{Lat: 216000, LatOver: 3600, Lon: 45461, LonOver: 600} }
func middle() place.Place    { return place.Place{Lat: -7, LatOver: 3600, Lon: -647999, LonOver: 3600} }

func places() []place.Place {
	return []place.Place{ujjain(), northEast(), southWest(), northWest(), southEast(), equator(), north(), middle()}
}

// text is a date's: year, month, l if that is leap, lunar day, a if it is so again.
func text(d amanta.Date) string {
	s := strconv.FormatInt(d.Year, 10) + "-" + strconv.Itoa(d.Month)
	if d.Leap {
		s += "l"
	}
	s += "-" + strconv.Itoa(d.Day)
	if d.Again {
		s += "a"
	}
	return s
}

// read is the date of such a text.
func read(s string) amanta.Date {
	stroke := strings.Index(s[1:], "-") + 1
	year, _ := strconv.ParseInt(s[:stroke], 10, 64)
	month, day, _ := strings.Cut(s[stroke+1:], "-")
	number, leap := strings.CutSuffix(month, "l")
	lunar, again := strings.CutSuffix(day, "a")
	d := amanta.Date{Year: year, Leap: leap, Again: again}
	d.Month, _ = strconv.Atoi(number)
	d.Day, _ = strconv.Atoi(lunar)
	return d
}

// is fails if a day, which may be, has another date, or that date another day.
func is(t *testing.T, n int64, p place.Place, want amanta.Date) {
	t.Helper()
	if got, errno := purnima.Of(n, p); got != want || errno != api.OK {
		t.Errorf("at %s, Of %d: %s, %d; not %s", p.Text(), n, text(got), errno, text(want))
	}
	labelled(t, n, p, want)
	fixed(t, want, p, n)
}

// labelled fails if a day, which needn't be one that may be, has another date.
func labelled(t *testing.T, n int64, p place.Place, want amanta.Date) {
	t.Helper()
	if got := purnima.Label(n, p); got != want {
		t.Errorf("at %s, Label of %d: %s, not %s", p.Text(), n, text(got), text(want))
	}
}

// fixed fails if a date has another day.
func fixed(t *testing.T, d amanta.Date, p place.Place, want int64) {
	t.Helper()
	if got, errno := purnima.Fixed(d, p); got != want || errno != api.OK {
		t.Errorf("at %s, Fixed %s: %d, %d; not %d", p.Text(), text(d), got, errno, want)
	}
}

// none fails if a date has a day.
func none(t *testing.T, d amanta.Date, p place.Place) {
	t.Helper()
	if got, errno := purnima.Fixed(d, p); got != 0 || errno != api.ErrNone {
		t.Errorf("at %s, Fixed %s: %d, %d", p.Text(), text(d), got, errno)
	}
}

// eachPlace goes through the places, all at once, and beside other tests.
func eachPlace(t *testing.T, check func(t *testing.T, i int, p place.Place)) {
	t.Parallel()
	for i, p := range places() {
		t.Run(fmt.Sprint("at ", p.Text()), func(t *testing.T) {
			t.Parallel()
			check(t, i, p)
		})
	}
}

// P22.1: the last day of the bright half.
func TestHalf(t *testing.T) {
	if purnima.Half != 15 {
		t.Errorf("%d", purnima.Half)
	}
}

// P22.1, Named: of days 15 and 16, of ends and of any other number; of months ahead of a
// leap one, in it, ahead of one that is expunged, of months 12 and 11, reckoned elsewhere.
func TestNamed(t *testing.T) {
	for _, c := range []struct {
		first         int64 // a day in which a new moon comes
		bright, dark  int
		sign, then    int
		leap, another bool // is it leap, is the next one
	}{
		{717073, 1, 2, 11, 0, false, false}, {717044, 1, 1, 11, 11, true, false}, {717014, 12, 1, 10, 11, false, true},
		{716955, 9, 11, 7, 9, false, false}, {723924, 10, 12, 8, 10, false, true}, {723954, 12, 12, 10, 10, true, false}, {723983, 12, 1, 10, 11, false, false},
		{761487, 8, 10, 6, 8, false, false}, {761457, 8, 8, 6, 6, true, false}, {716985, 11, 12, 9, 10, false, false}, {192078, 9, 11, 7, 9, false, true},
		{-20808, 12, 1, 10, 11, false, true}, {-1132960, 2, 3, 0, 1, false, true}, {-1132930, 3, 3, 1, 1, true, false},
	} {
		m := moons.Of(c.first)
		if m.Sign != c.sign || m.Then != c.then || m.Leap() != c.leap || m.After().Leap() != c.another {
			t.Fatalf("%v, then %v", m, m.After())
		}
		for _, day := range []int{15, 14, 1, 2, 0, -1, -16, math.MinInt} {
			if got := purnima.Named(m, day); got != c.bright {
				t.Errorf("Named of %v, %d: %d, not %d", m, day, got, c.bright)
			}
		}
		for _, day := range []int{16, 17, 29, 30, 31, 46, 1<<32 + 1, math.MaxInt} {
			if got := purnima.Named(m, day); got != c.dark {
				t.Errorf("Named of %v, %d: %d, not %d", m, day, got, c.dark)
			}
		}
	}
}

// P22.1, Named: of months one behind the other: the next one is layer 19's After.
func TestNamedNext(t *testing.T) {
	t.Parallel()
	for _, from := range []int64{-api.MaxDay, -2250100, -1132989, -21200, 717000, 723800, 2999900} {
		for _, m := range moons.Row(rat.Whole(from), 16) {
			if purnima.Named(m, 15) != m.Number() || purnima.Named(m, 16) != m.After().Number() {
				t.Errorf("Named of %v, then %v: %d, %d", m, m.After(), purnima.Named(m, 15), purnima.Named(m, 16))
			}
		}
	}
}

// runs are the dates of days one behind the other, from a day on, reckoned elsewhere.
var runs = []struct {
	p     place.Place
	from  int64
	dates string
}{
	// Full moons: of a month ahead of an expunged one, behind which a leap one comes; of
	// that; of one behind that; of one ahead of one that isn't leap.
	{ujjain(), 723936, "2039-10-12 2039-10-13 2039-10-15 2039-12-16 2039-12-17 2039-12-18"},
	{ujjain(), 723966, "2039-12l-13 2039-12l-14 2039-12l-15 2039-12l-16 2039-12l-17 2039-12l-18"},
	{ujjain(), 723995, "2039-12-12 2039-12-14 2039-12-15 2039-1-16 2039-1-17 2039-1-18"},
	{ujjain(), 724025, "2040-1-13 2040-1-14 2040-1-15 2040-2-16 2040-2-17 2040-2-18"},
	{ujjain(), 717026, "2020-12-13 2020-12-14 2020-12-15 2020-1-16 2020-1-17 2020-1-18"},
	{northEast(), 717056, "2021-1l-13 2021-1l-14 2021-1l-15 2021-1l-16 2021-1l-17 2021-1l-18"},
	{southWest(), 717084, "2021-1-13 2021-1-14 2021-1-15 2021-2-16 2021-2-17 2021-2-17a"},
	{northWest(), 716966, "2020-9-13 2020-9-14 2020-9-15 2020-11-16 2020-11-17 2020-11-18"},
	{southEast(), 761470, "2142-8l-13 2142-8l-14 2142-8l-15 2142-8l-16 2142-8l-17 2142-8l-18"},
	{equator(), 761499, "2142-8-13 2142-8-14 2142-8-15 2142-10-16 2142-10-17 2142-10-18"},
	{north(), 761528, "2142-10-13 2142-10-14 2142-10-15 2142-11-16 2142-11-17 2142-11-18"},
	{northEast(), -2250001, "-6103-10-12 -6103-10-13 -6103-10-15 -6103-12-16 -6103-12-17 -6103-12-18"},
	{north(), -2249971, "-6103-12l-13 -6103-12l-14 -6103-12l-15 -6103-12l-16 -6103-12l-17 -6103-12l-18"},
	{ujjain(), 192090, "583-9-13 583-9-14 583-9-15 583-11-16 583-11-16a 583-11-17"},
	{northWest(), -740782, "-1971-9-13 -1971-9-14 -1971-9-15 -1971-11-16 -1971-11-17 -1971-11-18"},
	{southWest(), -1132947, "-3044-2-13 -3044-2-14 -3044-2-15 -3044-3-16 -3044-3-17 -3044-3-18"},
	{southEast(), -2038088, "-5522-1-13 -5522-1-14 -5522-1-15 -5522-2-16 -5522-2-17 -5522-2-18"},
	{equator(), -2038059, "-5522-2l-13 -5522-2l-14 -5522-2l-15 -5522-2l-16 -5522-2l-17 -5522-2l-18"},
	{middle(), 2705556, "7465-2-13 7465-2-14 7465-2-15 7465-3-16 7465-3-17 7465-3-18"},
	// The turn of the year: the dark half of month 1 ends the year ahead.
	{equator(), -21150, "-1-12-13 -1-12-14 -1-12-15 -1-1-16 -1-1-17 -1-1-18"},
	{ujjain(), -21135, "-1-1-28 -1-1-29 -1-1-30 0-1-1 0-1-2"},
	{southEast(), -21119, "0-1-13 0-1-14 0-1-15 0-2-16 0-2-18 0-2-19"},
	{north(), -20795, "0-12-14 0-12-14a 0-12-15 0-1-16 0-1-17 0-1-18"},
	{middle(), -20766, "1-1l-13 1-1l-14 1-1l-15 1-1l-16 1-1l-17 1-1l-18"},
	{ujjain(), -20736, "1-1-13 1-1-14 1-1-15 1-2-16 1-2-17 1-2-18"},
	{equator(), 724012, "2039-1-29 2039-1-30 2040-1-1 2040-1-2 2040-1-4"},
	// New moons: of leap months, of others, and behind the sunrise of a day, but ahead of
	// its beginning.
	{ujjain(), 723952, "2039-12-29 2039-12-30 2039-12l-1 2039-12l-2 2039-12l-2a"},
	{ujjain(), 723982, "2039-12l-29 2039-12l-30 2039-12-1 2039-12-2 2039-12-3"},
	{southWest(), 717072, "2021-1l-30 2021-1-1 2021-1-2 2021-1-3 2021-1-4"},
	{northEast(), 740724, "2085-11-28 2085-11-29 2085-11-30 2085-11-1 2085-11-2"},
	{middle(), -1132961, "-3044-2-30 -3044-2-1 -3044-2-2 -3044-2-3 -3044-2-4"},
	{northEast(), 723036, "2037-5-28 2037-5-29 2037-5-30 2037-5-1 2037-5-2"},
	{northEast(), 724425, "2041-3-28a 2041-3-29 2041-3-30 2041-3-1 2041-3-2"},
	{southEast(), -20130, "2-10-28a 2-10-29 2-10-30 2-10-1 2-10-2"},
	// Lunar days 15 and 16 twice, and left out.
	{ujjain(), 723318, "2038-2-15 2038-3-16 2038-3-16a 2038-3-17"},
	{ujjain(), 723820, "2039-7l-14a 2039-7l-15 2039-7l-17 2039-7l-18"},
	{ujjain(), 723878, "2039-8-13 2039-8-14 2039-9-16 2039-9-17"},
	{ujjain(), 725384, "2043-10-14 2043-10-15 2043-10-15a 2043-11-16"},
	{northWest(), -1132799, "-3044-6-14 -3044-6-15 -3044-7-17 -3044-7-18"},
	{northWest(), -1132621, "-3044-12-15 -3044-1-16 -3044-1-16a -3044-1-17"},
	{southEast(), 2001046, "5536-4-14 5536-4-15 5536-4-15a 5536-5-16"},
}

// P22.1, Of, Label, Fixed: there and back.
func TestRuns(t *testing.T) {
	t.Parallel()
	for _, r := range runs {
		t.Run(fmt.Sprint(r.from), func(t *testing.T) {
			t.Parallel()
			for i, date := range strings.Fields(r.dates) {
				is(t, r.from+int64(i), r.p, read(date))
			}
		})
	}
}

// span are lunar days, one behind the other, from a day on; a behind one: again.
type span struct {
	first int64
	days  string
}

// whole are months of a number, in a year, with all their days, reckoned elsewhere: the
// leap one, if there is one, and the other one, if it isn't expunged. Around a leap month
// the other one has its halves on both sides; month 1 has its dark half at the year's end.
var whole = []struct {
	p           place.Place
	year        int64
	month       int
	leap, other []span
}{
	{ujjain(), 2039, 10, nil, []span{{723910, "16 17 18 19 21 22 23 24 25 26 27 28 29 29a 30 1 2 3 4 5 6 7 8 9 10 11 12 13 15"}}},
	{ujjain(), 2039, 11, nil, nil},
	{ujjain(), 2039, 12, []span{{723954, "1 2 2a 3 4 5 6 7 9 10 11 12 13 14 15 16 17 18 19 20 21 22 23 24 25 26 27 28 29 30"}}, []span{{723939, "16 17 18 19 20 21 22 23 24 25 26 27 28 29 30"}, {723984, "1 2 3 4 5 6 7 8 9 10 11 12 14 15"}}},
	{ujjain(), 2040, 1, nil, []span{{724014, "1 2 3 4 5 7 8 9 10 11 12 13 14 15"}, {724353, "16 17 18 19 20 22 23 24 24a 25 26 27 28 29 30"}}},
	{northEast(), 2021, 1, []span{{717045, "1 2 3 4 6 7 8 9 10 11 12 13 14 15 16 17 18 19 20 21 22 23 24 25 26 27 28 29 30"}}, []span{{717074, "1 2 3 4 5 6 7 8 9 11 12 13 14 15 15a"}, {717413, "16 17 18 19 20 21 22 23 24 25 25a 26 27 28 29 30"}}},
	{southWest(), 2020, 1, nil, []span{{716689, "1 2 3 4 5 6 7 8 9 11 11a 12 13 14 15"}, {717028, "16 17 18 19 20 21 21a 22 23 24 25 26 27 28 29 30"}}},
	{northWest(), 583, 11, []span{{192107, "1 2 3 4 5 6 7 8 9 10 11 12 13 14 15 16 16a 17 18 19 20 21 22 24 25 26 27 28 29 30"}}, []span{{192093, "16 17 18 19 20 21 22 23 24 25 26 27 28 30"}, {192137, "1 2 3 4 5 6 7 8 9 10 11 12 13 14 15"}}},
	{southWest(), 583, 12, nil, []span{{192152, "16 17 18 19 20 21 22 23 24 25 26 27 28 29 1 2 3 4 5 6 7 7a 8 9 10 11 12 13 14 15"}}},
	{equator(), -1971, 11, nil, []span{{-740778, "16 17 18 19 20 21 22 23 24 25 26 27 28 29 30 1 2 3 4 5 6 7 8 9 10 11 13 14 15"}}},
	{southEast(), 2142, 10, nil, []span{{761502, "16 17 18 19 20 21 22 23 23a 24 25 26 27 28 29 30 1 2 3 4 6 7 8 9 10 11 12 13 14 15"}}},
	{north(), 0, 1, nil, []span{{-21132, "1 2 3 4 5 6 7 8 9 10 11 12 13 14 15"}, {-20792, "16 17 18 19 20 21 22 23 24 25 26 28 29 30"}}},
	{middle(), 1, 1, []span{{-20778, "2 3 4 5 6 7 8 9 10 11 12 12a 13 14 15 16 17 18 19 20 21 22 23 24 26 27 28 29 30"}}, []span{{-20749, "1 2 3 4 5 6 7 8 9 10 11 12 13 14 15"}, {-20409, "16 17 18 19 20 21 22 23 24 25 26 27 28 29 30"}}},
	{southWest(), -1, 1, nil, []span{{-21487, "1 2 3 4 5 6 7 8 9 10 11 12 13 14 15"}, {-21147, "16 17 18 19 20 21 22 23 24 26 27 28 29 30"}}},
	{northWest(), -3044, 2, nil, []span{{-1132974, "16 17 18 19 20 21 22 23 24 25 26 28 29 30 1 2 3 4 5 6 6a 7 8 9 10 11 12 13 14 15"}}},
	{southEast(), -5522, 2, []span{{-2038071, "1 2 3 4 5 6 7 8 9 10 11 12 13 14 15 16 17 18 19 20 21 22 24 25 26 27 28 29 30"}}, []span{{-2038085, "16 17 18 19 21 22 23 24 25 26 27 28 29 30"}, {-2038042, "1 2 3 4 4a 5 6 7 8 9 10 11 12 13 14 15"}}},
	{ujjain(), 2078, 8, nil, []span{{738084, "16 17 18 19 20 21 22 22a 23 24 25 26 27 28 30 1 2 3 4 5 6 7 8 9 10 11 12 13 14 15"}}},
}

// datesOf are the dates of a month that spans tell, and their days.
func datesOf(year int64, month int, leap bool, spans []span) map[amanta.Date]int64 {
	dates := map[amanta.Date]int64{}
	for _, s := range spans {
		for i, told := range strings.Fields(s.days) {
			d := read("0-1-" + told)
			d.Year, d.Month, d.Leap = year, month, leap
			dates[d] = s.first + int64(i)
		}
	}
	return dates
}

// P22.1, Fixed: each date of such months, and each that no day of them has: of a lunar day
// that is left out, again of one that comes but once, leap of a month that isn't, of one
// that is expunged.
func TestWhole(t *testing.T) {
	t.Parallel()
	for _, c := range whole {
		t.Run(fmt.Sprintf("%d-%d", c.year, c.month), func(t *testing.T) {
			t.Parallel()
			dates := datesOf(c.year, c.month, true, c.leap)
			maps.Copy(dates, datesOf(c.year, c.month, false, c.other))
			for i := range 120 {
				d := amanta.Date{Year: c.year, Month: c.month, Leap: i < 60, Day: i/2%30 + 1, Again: i%2 == 1}
				if n, ok := dates[d]; ok {
					fixed(t, d, c.p, n)
				} else {
					none(t, d, c.p)
				}
			}
		})
	}
}

// ends are days at both ends of those that may be, and beyond them, reckoned elsewhere:
// the dates at each of the places.
var ends = []struct {
	n     int64
	dates string
}{
	{-3000001, "-8156-7-1 -8156-7-1 -8156-7-2 -8156-7-2 -8156-7-1 -8156-7-1 -8156-7-1 -8156-7-2"},
	{-3000000, "-8156-7-2 -8156-7-2 -8156-7-3 -8156-7-3 -8156-7-2 -8156-7-2 -8156-7-2 -8156-7-3"},
	{-2999999, "-8156-7-3 -8156-7-3 -8156-7-4 -8156-7-4 -8156-7-3 -8156-7-3 -8156-7-3 -8156-7-4"},
	{2999999, "8271-3-5 8271-3-5 8271-3-6 8271-3-6 8271-3-5 8271-3-5 8271-3-5 8271-3-6"},
	{3000000, "8271-3-6 8271-3-6 8271-3-7 8271-3-7 8271-3-6 8271-3-6 8271-3-6 8271-3-7"},
	{3000001, "8271-3-7 8271-3-7 8271-3-8 8271-3-8 8271-3-7 8271-3-7 8271-3-7 8271-3-8"},
	{-4000009, "-10894-10-17 -10894-10-17 -10894-10-17a -10894-10-18 -10894-10-17 -10894-10-17 -10894-10-17 -10894-10-18"},
	{4000009, "11008-1-21 11008-1-20 11008-1-21 11008-1-22 11008-1-20 11008-1-21 11008-1-21 11008-1-22"},
	{-5000000, "-13632-12-20 -13632-12-20 -13632-12-21 -13632-12-21 -13632-12-20 -13632-12-21 -13632-12-20 -13632-12-21"},
	{5000000, "13746-11-18 13746-11-18 13746-11-19 13746-11-19 13746-11-18 13746-11-18 13746-11-18 13746-11-19"},
	{-1 << 23, "-22909-9-18 -22909-9-18 -22909-9-19 -22909-9-19 -22909-9-18 -22909-9-18 -22909-9-18 -22909-9-19"},
	{1 << 23, "23024-2-20 23024-2-20 23024-2-21 23024-2-21 23024-2-20 23024-2-21 23024-2-20 23024-2-21"},
}

// P22.1, Of, Label, Fixed: both ends of the days that may be, and beyond, where there is a
// Label alone.
func TestEnds(t *testing.T) {
	for _, c := range ends {
		for i, date := range strings.Fields(c.dates) {
			p, d := places()[i], read(date)
			if c.n >= -api.MaxDay && c.n <= api.MaxDay {
				is(t, c.n, p, d)
				continue
			}
			labelled(t, c.n, p, d)
			if got, errno := purnima.Of(c.n, p); got != (amanta.Date{}) || errno != api.ErrRange {
				t.Errorf("at %s, Of %d: %s, %d", p.Text(), c.n, text(got), errno)
			}
			if d.Year >= -find.MaxYear && d.Year <= find.MaxYear {
				none(t, d, p)
			}
		}
	}
	for i, n := range []int64{-api.MaxDay - 1, -api.MaxDay - 16, -api.MaxDay - 400, api.MaxDay + 1, api.MaxDay + 16, api.MaxDay + 400} {
		none(t, purnima.Label(n, places()[i]), places()[i])
	}
	for month := 1; month <= 12; month++ {
		p := places()[month%8]
		none(t, amanta.Date{Year: 9000, Month: month, Day: month + 10}, p)
		none(t, amanta.Date{Year: -9000, Month: month, Day: month + 10}, p)
	}
}

// dateOf is the third promise, word by word: the date of layer 20, but in the dark half the
// month is the next one, or, if that one is expunged, the one behind it, or, if the next
// one is leap, that one's.
func dateOf(n int64, p place.Place) amanta.Date {
	d := amanta.Label(n, p)
	if d.Day <= 15 {
		return d
	}
	m := moons.At(rise.Sunrise(n, p))
	numbers := [15]int{0, 1, 2, 3, 4, 5, 6, 7, 8, 9, 10, 11, 12, 1, 2}
	switch lost := m.Lost(); {
	case m.Leap():
		// What comes next has the leap one's number.
	case lost != 0:
		d.Month = numbers[lost+1]
	case m.After().Leap():
		d.Month = m.After().Number()
	default:
		d.Month = numbers[d.Month+1]
	}
	return d
}

// P22.3: at every place, around where months are leap, and expunged, and years begin; and
// from one end of the days that may be to the other: each month comes, in each half.
func TestWords(t *testing.T) {
	eachPlace(t, func(t *testing.T, i int, p place.Place) {
		check := func(n int64) amanta.Date {
			t.Helper()
			d, errno := purnima.Of(n, p)
			if want := dateOf(n, p); d != want || errno != api.OK || purnima.Label(n, p) != want {
				t.Errorf("at %s, Of %d: %s, %d; not %s", p.Text(), n, text(d), errno, text(want))
			}
			return d
		}
		for k, from := range []int64{-api.MaxDay, -2250010, -1132989, -21150, 192090, 717010, 723930, 761480, api.MaxDay - 40} {
			for n := from + int64(i+k)%3; n < from+40; n += 3 {
				check(n)
			}
		}
		bright, dark := map[int]int{}, map[int]int{}
		for n := int64(2700*i - api.MaxDay); n <= api.MaxDay; n += 59999 {
			if d := check(n); d.Day <= 15 {
				bright[d.Month]++
			} else {
				dark[d.Month]++
			}
		}
		if len(bright) != 12 || len(dark) != 12 {
			t.Errorf("at %s: months %v, %v", p.Text(), bright, dark)
		}
	})
}

// P22.2: at every place, days around which it happens, and others from one end of the
// days that may be to the other: each is its date's; no two have one date.
func TestBack(t *testing.T) {
	eachPlace(t, func(t *testing.T, i int, p place.Place) {
		dates := map[amanta.Date]int64{}
		back := func(n int64) {
			t.Helper()
			d, errno := purnima.Of(n, p)
			if errno != api.OK {
				t.Fatalf("at %s, Of %d: %d", p.Text(), n, errno)
			}
			if other, ok := dates[d]; ok && other != n {
				t.Errorf("at %s, %s is the date of %d and of %d", p.Text(), text(d), n, other)
			}
			dates[d] = n
			fixed(t, d, p, n)
		}
		for k, from := range []int64{-api.MaxDay, -2249999, -1132976, -740779, -21151, -21136, 192092, 717056, 717071, 723937, 723952, 761500, api.MaxDay - 4} {
			for n := from; n < from+5; n++ {
				if n == from || int(n+int64(i+k))%2 == 0 {
					back(n)
				}
			}
		}
		for n := int64(2500*i - api.MaxDay); n <= api.MaxDay; n += 99989 {
			back(n)
		}
	})
}

// nowhere are places that may not be.
func nowhere() []place.Place {
	return []place.Place{
		{}, {Lat: 463, LatOver: 0, Lon: 45461, LonOver: 600}, {Lat: 463, LatOver: 20, Lon: 45461, LonOver: 0}, {LatOver: 1, LonOver: -1},
		{Lat: 61, LatOver: 1, LonOver: 1}, {Lat: -216001, LatOver: 3600, LonOver: 1}, {LatOver: 1, Lon: 181, LonOver: 1}, {LatOver: 3601, LonOver: 1},
	}
}

// P22.1, Of: a place that may not be, on days that may be and on others; days that may
// not be, far away too.
func TestOfWrong(t *testing.T) {
	is := func(n int64, p place.Place) {
		t.Helper()
		if got, errno := purnima.Of(n, p); got != (amanta.Date{}) || errno != api.ErrRange {
			t.Errorf("at %v, Of %d: %s, %d", p, n, text(got), errno)
		}
	}
	for _, n := range []int64{-api.MaxDay - 1, api.MaxDay + 1, 1<<32 + 723940, -1 << 32, math.MaxInt64, math.MinInt64} {
		for _, p := range append(places(), nowhere()...) {
			is(n, p)
		}
	}
	for _, n := range []int64{-api.MaxDay, api.Kali, 0, 723940, 723960, api.MaxDay} {
		for _, p := range nowhere() {
			is(n, p)
		}
	}
}

// P22.1, Fixed: dates that may not be asked for; at a place that may not be its error comes
// first, whatever the date is.
func TestFixedWrong(t *testing.T) {
	is := func(d amanta.Date, p place.Place, want api.Errno) {
		t.Helper()
		if n, errno := purnima.Fixed(d, p); n != 0 || errno != want {
			t.Errorf("at %v, Fixed %v: %d, %d; not %d", p, d, n, errno, want)
		}
	}
	for _, c := range []struct {
		date  amanta.Date
		errno api.Errno
	}{
		{amanta.Date{}, api.ErrArg}, {amanta.Date{Month: 0, Day: 16}, api.ErrArg}, {amanta.Date{Month: 13, Day: 16}, api.ErrArg}, {amanta.Date{Month: -1, Day: 1}, api.ErrArg},
		{amanta.Date{Month: math.MaxInt, Day: 16}, api.ErrArg}, {amanta.Date{Month: math.MinInt, Day: 16}, api.ErrArg}, {amanta.Date{Year: 2039, Month: 1<<32 + 12, Leap: true, Day: 30}, api.ErrArg},
		{amanta.Date{Month: 1, Day: 0}, api.ErrArg}, {amanta.Date{Month: 1, Day: 31}, api.ErrArg}, {amanta.Date{Month: 12, Day: -1}, api.ErrArg}, {amanta.Date{Month: 12, Day: math.MaxInt}, api.ErrArg},
		{amanta.Date{Month: 1, Day: math.MinInt}, api.ErrArg}, {amanta.Date{Year: 2039, Month: 12, Leap: true, Day: 1<<32 + 16, Again: true}, api.ErrArg},
		{amanta.Date{Year: 9001, Month: 13, Day: 1}, api.ErrArg}, {amanta.Date{Year: -9001, Month: 1, Day: 31}, api.ErrArg}, {amanta.Date{Year: math.MaxInt64, Month: 0, Day: 0}, api.ErrArg},
		{amanta.Date{Year: 9001, Month: 1, Day: 16}, api.ErrRange}, {amanta.Date{Year: -9001, Month: 12, Day: 15}, api.ErrRange}, {amanta.Date{Year: 9001, Month: 12, Leap: true, Day: 30, Again: true}, api.ErrRange},
		{amanta.Date{Year: math.MaxInt64, Month: 1, Day: 16}, api.ErrRange}, {amanta.Date{Year: math.MinInt64, Month: 1, Day: 1}, api.ErrRange}, {amanta.Date{Year: 1<<32 + 2039, Month: 12, Day: 16}, api.ErrRange},
	} {
		for _, p := range places() {
			is(c.date, p, c.errno)
		}
		for _, p := range nowhere() {
			is(c.date, p, api.ErrRange)
		}
	}
	for _, p := range nowhere() {
		is(amanta.Date{Year: 2039, Month: 12, Day: 16}, p, api.ErrRange)
	}
}
