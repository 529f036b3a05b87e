package amanta_test

import (
	"fmt"
	"math"
	"sort"
	"strconv"
	"strings"
	"testing"

	"ephemeris/amanta"
	"ephemeris/api"
	"ephemeris/cut"
	"ephemeris/mean"
	"ephemeris/moons"
	"ephemeris/orb"
	"ephemeris/place"
	"ephemeris/rat"
	"ephemeris/rise"
	"ephemeris/seek"
)

// The places that may be, at their edges: far to the north and to the south, far to the
// east and to the west of Ujjain; and others.
func ujjain() place.Place    { return place.Ujjain() }
func northEast() place.Place { return place.Place{Lat: 60, LatOver: 1, Lon: 180, LonOver: 1} }
func southWest() place.Place { return place.Place{Lat: -60, LatOver: 1, Lon: -180, LonOver: 1} }
func northWest() place.Place { return place.Place{Lat: 60, LatOver: 1, Lon: -180, LonOver: 1} }
func southEast() place.Place { return place.Place{Lat: -60, LatOver: 1, Lon: 180, LonOver: 1} }
func equator() place.Place   { return place.Place{LatOver: 1, LonOver: 1} }
func north() place.Place     { return place.Place{Lat: 216000, LatOver: 3600, Lon: 45461, LonOver: 600} }
func middle() place.Place    { return place.Place{Lat: -7, LatOver: 3600, Lon: -647999, LonOver: 3600} }

func places() []place.Place {
	return []place.Place{ujjain(), northEast(), southWest(), northWest(), southEast(), equator(), north(), middle()}
}

// text is a date's: year, month, l if that is leap, lunar day, a if it is so again.
func text(d amanta.Date) string {
	s := strconv.FormatInt(d.Year, 10) + "-" + strconv.Itoa(d.Month)
	if d.Leap {
		s += "l"
	}
	s += "-" + strconv.Itoa(d.Day)
	if d.Again {
		s += "a"
	}
	return s
}

// comes tells if a new moon comes in day n up to t.
func comes(n int64, t rat.Rat) bool {
	half := rat.Whole(180)
	return orb.Phase(rat.Whole(n)).Cmp(half) >= 0 && orb.Phase(t).Cmp(half) < 0
}

// signAt is the sun's, at the new moon that comes in day n.
func signAt(n int64) int {
	_, at := seek.NewMoon(n)
	return orb.At(at).Sign
}

// monthAt is the month in which t is: its number, and is it leap. The new moons on both
// sides are looked for day by day.
func monthAt(t rat.Rat) (int, bool) {
	first, _ := cut.Days(t)
	if !comes(first, t) {
		first--
		for !seek.Comes(first) {
			first--
		}
	}
	next := first + 1
	for !seek.Comes(next) {
		next++
	}
	numbers := [12]int{2, 3, 4, 5, 6, 7, 8, 9, 10, 11, 12, 1}
	return numbers[signAt(first)], signAt(first) == signAt(next)
}

// count is how many years of the sun there were: whole ways by the mean sun, of which
// the sun itself is the one behind that it is nearest to.
func count(t rat.Rat) int64 {
	ways, _ := cut.Days(t.Sub(rat.Whole(api.Kali)).Div(mean.Year()))
	ahead := mean.Sun(t).Sub(orb.Sun(t))
	switch {
	case ahead.Cmp(rat.Whole(180)) >= 0:
		return ways + 1
	case ahead.Cmp(rat.Whole(-180)) < 0:
		return ways - 1
	}
	return ways
}

// yearOf is the chapter's, word by word.
func yearOf(n int64, month int) int64 {
	if month == 1 || month == 2 {
		return count(rat.Whole(n).Add(rat.Whole(180))) - 3044
	}
	return count(rat.Whole(n).Sub(rat.Whole(1))) - 3044
}

// tithi is that of day n's sunrise.
func tithi(n int64, p place.Place) int {
	return orb.At(rise.Sunrise(n, p)).Tithi
}

// dateOf is the chapter's, word by word. Also of days that may not be.
func dateOf(n int64, p place.Place) amanta.Date {
	month, leap := monthAt(rise.Sunrise(n, p))
	day := tithi(n, p)
	return amanta.Date{Year: yearOf(n, month), Month: month, Leap: leap, Day: day, Again: tithi(n-1, p) == day}
}

// is fails if a day, which may be, has another date.
func is(t *testing.T, day int64, p place.Place, want amanta.Date) {
	t.Helper()
	if got, errno := amanta.Of(day, p); got != want || errno != api.OK {
		t.Errorf("at %s, Of %d: %s, %d; not %s", p.Text(), day, text(got), errno, text(want))
	}
	labelled(t, day, p, want)
}

// labelled fails if a day, which needn't be one that may be, has another date.
func labelled(t *testing.T, day int64, p place.Place, want amanta.Date) {
	t.Helper()
	if got := amanta.Label(day, p); got != want {
		t.Errorf("at %s, Label of %d: %s, not %s", p.Text(), day, text(got), text(want))
	}
	if got := amanta.Tithi(day, p); got != want.Day {
		t.Errorf("at %s, Tithi of %d: %d, not %d", p.Text(), day, got, want.Day)
	}
	if got := amanta.Year(day, want.Month); got != want.Year {
		t.Errorf("Year of %d, month %d: %d, not %d", day, want.Month, got, want.Year)
	}
}

// eachPlace goes through the places, all at once, and beside other tests.
func eachPlace(t *testing.T, check func(t *testing.T, i int, p place.Place)) {
	t.Parallel()
	for i, p := range places() {
		t.Run(fmt.Sprint("at ", p.Text()), func(t *testing.T) {
			t.Parallel()
			check(t, i, p)
		})
	}
}

// P20.1: the era.
func TestEra(t *testing.T) {
	if amanta.Era != 3044 {
		t.Errorf("%d", amanta.Era)
	}
}

// P20.1, Of, Label, Tithi, Year: ordinary days at Ujjain, reckoned elsewhere: in leap
// months and in others, a lunar day again, years below 0.
func TestKnown(t *testing.T) {
	for _, c := range []struct {
		day  int64
		date amanta.Date
	}{
		{-214193, amanta.Date{-529, 6, false, 11, false}}, {-61387, amanta.Date{-111, 9, false, 27, false}}, {25469, amanta.Date{127, 8, false, 3, false}},
		{49217, amanta.Date{192, 8, false, 9, false}}, {171307, amanta.Date{526, 11, false, 19, false}}, {210155, amanta.Date{633, 3, false, 5, false}},
		{253427, amanta.Date{751, 9, false, 15, false}}, {369740, amanta.Date{1070, 2, false, 6, false}}, {400085, amanta.Date{1153, 3, true, 23, false}},
		{434355, amanta.Date{1247, 1, false, 8, false}}, {452605, amanta.Date{1297, 1, false, 8, false}}, {470160, amanta.Date{1345, 1, false, 22, false}},
		{473837, amanta.Date{1355, 2, false, 8, false}}, {507850, amanta.Date{1448, 4, false, 1, false}}, {524156, amanta.Date{1492, 11, false, 7, false}},
		{544676, amanta.Date{1549, 2, true, 3, false}}, {567118, amanta.Date{1610, 7, false, 2, false}}, {569477, amanta.Date{1616, 11, false, 28, true}},
		{601716, amanta.Date{1705, 3, false, 20, false}}, {613424, amanta.Date{1737, 4, false, 4, false}}, {626596, amanta.Date{1773, 5, false, 6, false}},
		{645554, amanta.Date{1825, 4, false, 5, false}}, {664224, amanta.Date{1876, 5, false, 11, false}}, {671401, amanta.Date{1896, 1, false, 13, false}},
		{694799, amanta.Date{1960, 1, false, 22, false}}, {704424, amanta.Date{1986, 5, false, 20, false}}, {708842, amanta.Date{1998, 7, false, 9, false}},
		{709409, amanta.Date{2000, 1, false, 14, false}}, {709580, amanta.Date{2000, 7, false, 8, false}}, {727274, amanta.Date{2048, 12, false, 14, false}},
		{728714, amanta.Date{2052, 12, false, 7, false}}, {744313, amanta.Date{2095, 8, false, 14, false}}, {764652, amanta.Date{2151, 4, false, 6, false}},
	} {
		is(t, c.day, ujjain(), c.date)
	}
}

// runs are the dates of days one behind the other, from a day on, reckoned elsewhere.
var runs = []struct {
	p     place.Place
	from  int64
	dates string
}{
	// The beginning of a leap month, and its end: the 30th followed by the 1st, by the
	// 2nd; the 30th left out; the 1st twice, with the 30th left out; the 30th twice, with
	// the 1st left out.
	{ujjain(), 723952, "2039-10-29 2039-10-30 2039-12l-1 2039-12l-2 2039-12l-2a"},
	{ujjain(), 723981, "2039-12l-28 2039-12l-29 2039-12l-30 2039-12-1 2039-12-2"},
	{ujjain(), 717042, "2020-12-28 2020-12-29 2020-12-30 2021-1l-2 2021-1l-3"},
	{ujjain(), 717071, "2021-1l-28 2021-1l-29 2021-1l-30 2021-1-1 2021-1-2"},
	{ujjain(), 717101, "2021-1-28 2021-1-30 2021-2-1 2021-2-2 2021-2-3"},
	{ujjain(), 747605, "2104-8-28 2104-8-29 2104-8-30 2104-9l-1 2104-9l-2"},
	{ujjain(), 747635, "2104-9l-28 2104-9l-29 2104-9-1 2104-9-2 2104-9-3"},
	{ujjain(), 192135, "583-11l-28 583-11l-29 583-11l-30 583-11-1 583-11-3"},
	{ujjain(), -1317144, "-3549-9-28 -3549-9-29 -3549-9-30 -3549-11l-1 -3549-11l-2"},
	{ujjain(), -1317114, "-3549-11l-28 -3549-11l-29 -3549-11-1 -3549-11-2 -3549-11-3"},
	{ujjain(), -2038074, "-5522-1-28 -5522-1-29 -5522-2l-1 -5522-2l-1a -5522-2l-2 -5522-2l-3"},
	{northEast(), 1330007, "3699-2-27 3699-2-28 3699-2-29 3699-3l-1 3699-3l-1a 3699-3l-2"},
	{southWest(), 2705573, "7465-2-30 7465-2-30a 7465-3l-2 7465-3l-3 7465-3l-4 7465-3l-5"},
	{southWest(), -564497, "-1488-5l-30 -1488-5l-30a -1488-5-2 -1488-5-3 -1488-5-4 -1488-5-5"},
	{southEast(), 1389304, "3861-6l-27 3861-6l-28 3861-6l-29 3861-6-1 3861-6-1a 3861-6-2"},
	{equator(), 777372, "2186-2-28 2186-2-29 2186-3l-1 2186-3l-1a 2186-3l-2 2186-3l-3"},
	{north(), -1457679, "-3933-1l-29 -3933-1l-30 -3933-1l-30a -3933-1-2 -3933-1-3 -3933-1-4"},
	{northWest(), 302992, "887-5l-28 887-5l-29 887-5-1 887-5-1a 887-5-2 887-5-3"},
	{middle(), -741741, "-1973-2-28 -1973-2-29 -1973-3l-1 -1973-3l-1a -1973-3l-2 -1973-3l-3"},
	// Likewise of a month behind which one is expunged.
	{ujjain(), 740695, "2085-8-28 2085-8-29 2085-8-30 2085-9-2 2085-9-3 2085-9-4"},
	{ujjain(), 740724, "2085-9-28 2085-9-29 2085-9-30 2085-11-1 2085-11-2 2085-11-3"},
	{ujjain(), 723922, "2039-9-29 2039-9-29a 2039-9-30 2039-10-1 2039-10-2"},
	{ujjain(), 473355, "1353-9-28 1353-9-29 1353-9-30 1353-11-2 1353-11-3 1353-11-4"},
	{northEast(), 1944983, "5382-9-29 5382-9-30 5382-9-30a 5382-11-2 5382-11-3 5382-11-4"},
	{northEast(), 1701355, "4715-9-28 4715-9-29 4715-9-30 4715-10-2 4715-10-3 4715-10-4"},
	// The beginnings of years, 0 and those beside it, and below.
	{ujjain(), -21490, "-2-12-28 -2-12-29 -2-12-30 -1-1-1 -1-1-2 -1-1-3"},
	{southEast(), -21489, "-2-12-28 -2-12-29 -2-12-30 -1-1-1 -1-1-2 -1-1-3"},
	{ujjain(), -21135, "-1-12-28 -1-12-29 -1-12-30 0-1-1 0-1-2 0-1-3"},
	{northWest(), -21136, "-1-12-28 -1-12-29 -1-12-30 0-1-1 0-1-2 0-1-3"},
	{ujjain(), -20781, "0-12-27 0-12-29 0-12-30 1-1l-1 1-1l-2 1-1l-3"},
	{ujjain(), -960207, "-2572-12-28 -2572-12-29 -2572-12-30 -2571-1-1 -2571-1-2 -2571-1-3"},
	{ujjain(), -1132991, "-3045-12-28 -3045-12-29 -3045-12-30 -3044-1-2 -3044-1-3 -3044-1-4"},
	{ujjain(), 724011, "2039-12-28 2039-12-29 2039-12-30 2040-1-1 2040-1-2"},
}

// P20.1, Of, Label, Tithi: around the new moons at which it happens.
func TestRuns(t *testing.T) {
	for _, r := range runs {
		for i, want := range strings.Fields(r.dates) {
			day := r.from + int64(i)
			got, errno := amanta.Of(day, r.p)
			if text(got) != want || errno != api.OK {
				t.Errorf("at %s, Of %d: %s, %d; not %s", r.p.Text(), day, text(got), errno, want)
			}
			labelled(t, day, r.p, got)
		}
	}
}

// P20.1, Tithi: at all kinds of places, on days that may be, and far beyond them.
func TestTithiKnown(t *testing.T) {
	for _, c := range []struct {
		n    int64
		want [6]int
	}{
		{730120, [6]int{25, 25, 26, 26, 25, 25}},
		{0, [6]int{19, 19, 20, 20, 19, 19}},
		{api.Kali, [6]int{1, 1, 2, 2, 1, 1}},
		{-3000001, [6]int{1, 1, 2, 2, 1, 1}},
		{-3000000, [6]int{2, 2, 3, 3, 2, 2}},
		{3000000, [6]int{6, 6, 7, 7, 6, 6}},
		{3000001, [6]int{7, 7, 8, 8, 7, 7}},
		{-5000000, [6]int{20, 20, 21, 21, 20, 21}},
		{5000000, [6]int{18, 18, 19, 19, 18, 18}},
		{-1 << 23, [6]int{18, 18, 19, 19, 18, 18}},
		{1 << 23, [6]int{20, 20, 21, 21, 20, 21}},
	} {
		for i, want := range c.want {
			p := places()[i]
			if got := amanta.Tithi(c.n, p); got != want || got != tithi(c.n, p) {
				t.Errorf("at %s, Tithi of %d: %d, not %d", p.Text(), c.n, got, want)
			}
		}
	}
}

// P20.1, Of: both ends of the days that may be, and the days just beyond, of which there
// is a Label alone.
func TestEnds(t *testing.T) {
	for _, c := range []struct {
		p           place.Place
		first, last int // the lunar days of both ends
	}{{ujjain(), 2, 6}, {northEast(), 2, 6}, {southWest(), 3, 7}, {northWest(), 3, 7}, {southEast(), 2, 6}, {equator(), 2, 6}, {north(), 2, 6}, {middle(), 3, 7}} {
		for i := range 2 {
			is(t, int64(i-api.MaxDay), c.p, amanta.Date{Year: -8156, Month: 7, Day: c.first + i})
			is(t, int64(api.MaxDay-i), c.p, amanta.Date{Year: 8271, Month: 3, Day: c.last - i})
		}
		labelled(t, -api.MaxDay-1, c.p, amanta.Date{Year: -8156, Month: 7, Day: c.first - 1})
		labelled(t, api.MaxDay+1, c.p, amanta.Date{Year: 8271, Month: 3, Day: c.last + 1})
		for _, day := range []int64{-api.MaxDay - 1, api.MaxDay + 1, -api.MaxDay - 400, api.MaxDay + 400, 1 << 32, -1 << 32, 1<<32 + 730120, math.MaxInt64, math.MinInt64} {
			if got, errno := amanta.Of(day, c.p); got != (amanta.Date{}) || errno != api.ErrRange {
				t.Errorf("at %s, Of %d: %s, %d", c.p.Text(), day, text(got), errno)
			}
		}
	}
}

// P20.1, Label: far beyond the days that may be.
func TestFar(t *testing.T) {
	for _, c := range []struct {
		day  int64
		p    place.Place
		want amanta.Date
	}{
		{-1 << 23, ujjain(), amanta.Date{Year: -22909, Month: 8, Day: 18}}, {-1 << 23, northWest(), amanta.Date{Year: -22909, Month: 8, Day: 19}}, {1 - 1<<23, southEast(), amanta.Date{Year: -22909, Month: 8, Day: 19}},
		{1 << 23, ujjain(), amanta.Date{Year: 23024, Month: 1, Day: 20}}, {1 << 23, southWest(), amanta.Date{Year: 23024, Month: 1, Day: 21}}, {1<<23 - 1, northEast(), amanta.Date{Year: 23024, Month: 1, Day: 19}},
		{-5000000, ujjain(), amanta.Date{Year: -13632, Month: 11, Day: 20}}, {5000000, middle(), amanta.Date{Year: 13746, Month: 10, Day: 19}},
	} {
		labelled(t, c.day, c.p, c.want)
	}
	for i, day := range []int64{-1 << 23, 10 - 1<<23, -7000011, -3000010, 3000010, 7000011, 1<<23 - 10, 1 << 23} {
		for _, p := range []place.Place{places()[i], places()[(i+3)%8]} {
			labelled(t, day, p, dateOf(day, p))
		}
	}
}

// entries are days with whose beginning the sun is in its first sign, while it isn't a day
// ahead; and the year by the moon that then is on.
var entries = []struct{ day, year int64 }{
	{-3000163, -8156}, {-2284622, -6197}, {-1133326, -3045}, {-1132961, -3044}, {-1132595, -3043}, {-960559, -2572},
	{-21478, -1}, {-21113, 0}, {-20748, 1}, {729859, 2056}, {2095561, 5795}, {2999942, 8271},
}

// others are months that ask a day ahead, and numbers that are no month's.
func others() []int {
	return []int{3, 4, 5, 6, 7, 8, 9, 10, 11, 12, 0, 13, -1, -2, 1<<32 + 1, 1<<32 + 2, math.MaxInt, math.MinInt}
}

// P20.1, Year: months 1 and 2 ask half a year later, the others a day ahead: on days
// around where the sun enters the first sign, and half a year from it.
func TestYearKnown(t *testing.T) {
	is := func(n int64, month int, want int64) {
		if got := amanta.Year(n, month); got != want {
			t.Errorf("Year of %d, month %d: %d, not %d", n, month, got, want)
		}
	}
	for _, c := range entries {
		if orb.At(rat.Whole(c.day)).Sign != 0 || orb.At(rat.Whole(c.day-1)).Sign != 11 {
			t.Fatalf("%d is no day of entry", c.day)
		}
		for d := int64(-4); d <= 4; d++ {
			for _, month := range others() {
				is(c.day-180+d, month, c.year-1)
				is(c.day+180+d, month, c.year)
				if d >= 1 {
					is(c.day+d, month, c.year)
				} else {
					is(c.day+d, month, c.year-1)
				}
			}
			for _, month := range []int{1, 2} {
				is(c.day+d, month, c.year)
				is(c.day+180+d, month, c.year)
				is(c.day-360+d, month, c.year-1)
				if d >= 0 {
					is(c.day-180+d, month, c.year)
				} else {
					is(c.day-180+d, month, c.year-1)
				}
			}
		}
	}
}

// P20.1, Year: word by word, on days that may be, and far beyond them.
func TestYear(t *testing.T) {
	for _, c := range []struct {
		n    int64
		want [3]int64 // of months 1 and 2, of others, and of the latter a day later
	}{{-1 << 23, [3]int64{-22908, -22909, -22909}}, {1 << 23, [3]int64{23024, 23024, 23024}}, {0, [3]int64{58, 57, 57}}, {730120, [3]int64{2057, 2056, 2056}}, {-21113, [3]int64{0, -1, 0}}} {
		if amanta.Year(c.n, 1) != c.want[0] || amanta.Year(c.n, 2) != c.want[0] || amanta.Year(c.n, 3) != c.want[1] || amanta.Year(c.n, 12) != c.want[1] || amanta.Year(c.n+1, 7) != c.want[2] {
			t.Errorf("Year of %d: %d, %d, %d", c.n, amanta.Year(c.n, 1), amanta.Year(c.n, 3), amanta.Year(c.n+1, 7))
		}
	}
	for n := int64(-1 << 23); n <= 1<<23; n += 27773 {
		for _, month := range []int{1, 2, 3, 12, int(n&7) + 4} {
			if got := amanta.Year(n, month); got != yearOf(n, month) {
				t.Errorf("Year of %d, month %d: %d, not %d", n, month, got, yearOf(n, month))
			}
		}
	}
}

// P20.1, Of, Label, Tithi: word by word, at every kind of place.
func TestWords(t *testing.T) {
	eachPlace(t, func(t *testing.T, i int, p place.Place) {
		for k, from := range []int64{-api.MaxDay, -21150, api.Kali, 717040, 740690, api.MaxDay - 33} {
			for d := range int64(33) {
				if (d+int64(i+k))%3 == 0 || d < 2 {
					is(t, from+d, p, dateOf(from+d, p))
				}
			}
		}
		for day := int64(1500*i - api.MaxDay); day <= api.MaxDay; day += 120011 {
			is(t, day, p, dateOf(day, p))
		}
	})
}

// crossing finds places of one latitude, but one part of a degree beside each other, at
// the first of which the sun rises on a day not ahead of a moment, while at the second
// one it does so ahead of it.
func crossing(n int64, at rat.Rat, lat int64) (place.Place, place.Place, bool) {
	most := int64(180 * 3600)
	there := func(lon int64) place.Place { return place.Place{Lat: lat, LatOver: 1, Lon: lon, LonOver: 3600} }
	i := sort.Search(int(2*most+1), func(i int) bool { return rise.Sunrise(n, there(int64(i)-most)).Cmp(at) < 0 })
	lon := int64(i) - most
	return there(lon - 1), there(lon), lon > -most && lon <= most
}

// P20.1: where the sun rises but a grain or two behind the new moon the day is the new
// month's, ahead of it the old one's; the new moon is where the phase is 0, not where it
// is found by halves. Where months begin that are leap, that aren't, behind which one is
// expunged.
func TestBeside(t *testing.T) {
	t.Parallel()
	found := 0
	for i, first := range []int64{-2999972, -2038072, -1317142, -1132930, -19, 11, 302965, 473357, 717044, 717073, 723924, 723954, 723983, 740726, 1944985, 2999994} {
		_, near := seek.NewMoon(first)
		waxes := func(t rat.Rat) bool { return orb.Phase(t).Cmp(rat.Whole(180)) < 0 }
		_, hi := seek.Bisect(near.Sub(rat.Of(1, 1024)), near, 54, waxes)
		m := moons.Of(first)
		for n := first - 1; n <= first+1; n++ {
			behind, ahead, ok := crossing(n, hi, int64(8*i-60))
			if !ok {
				continue
			}
			found++
			d, old := dateOf(n, behind), dateOf(n, ahead)
			if d.Month != m.Number() || d.Leap != m.Leap() || d.Day != 1 || old.Day != 30 || old.Month == d.Month && old.Leap == d.Leap {
				t.Fatalf("day %d isn't beside %v: %s, %s", n, m, text(d), text(old))
			}
			is(t, n, behind, d)
			is(t, n, ahead, old)
			is(t, n+1, behind, dateOf(n+1, behind))
			is(t, n+1, ahead, dateOf(n+1, ahead))
		}
	}
	if found < 16 {
		t.Errorf("%d found", found)
	}
}

// P20.1, Tithi: sunrises are to the grain: where a lunar day ends within a grain, behind
// the Sunrise, but not behind the Dawn, it is still on.
func TestGrain(t *testing.T) {
	t.Parallel()
	found := 0
	for i := range int64(24) {
		n := -2900000 + i*250007
		lo, hi := seek.End(seek.Tithi, rise.Sunrise(n, equator()))
		old := orb.At(lo).Tithi
		_, hi = seek.Bisect(lo, hi, 40, func(t rat.Rat) bool { return orb.At(t).Tithi != old })
		_, ahead, ok := crossing(n, hi, 5*i-60)
		if !ok {
			continue
		}
		if rise.Dawn(n, ahead).Cmp(hi) >= 0 {
			found++
		}
		if got := amanta.Tithi(n, ahead); got != old {
			t.Errorf("at %s, Tithi of %d: %d, not %d", ahead.Text(), n, got, old)
		}
		is(t, n, ahead, dateOf(n, ahead))
	}
	if found < 3 {
		t.Errorf("%d found", found)
	}
}

// flow fails if a day's date doesn't follow that of the day ahead; it tells by how much
// the lunar day goes on. Year, month and leap stay, where it doesn't fall; where it does,
// the next month is on, and another year just if months begin anew.
func flow(t *testing.T, p place.Place, day int64, old, d amanta.Date) int {
	t.Helper()
	step := (d.Day - old.Day + 30) % 30
	if d.Day < 1 || d.Day > 30 || step > 2 || (step == 0) != d.Again || old.Again && d.Again {
		t.Errorf("at %s, day %d: %s, behind %s", p.Text(), day, text(d), text(old))
	}
	stays := d.Year == old.Year && d.Month == old.Month && d.Leap == old.Leap
	if d.Day >= old.Day {
		if !stays {
			t.Errorf("at %s, day %d: %s, behind %s", p.Text(), day, text(d), text(old))
		}
		return step
	}
	year := old.Year
	if d.Month < old.Month {
		year++
	}
	if stays || d.Year != year || old.Leap && (d.Leap || d.Month != old.Month) {
		t.Errorf("at %s, day %d: %s, behind %s", p.Text(), day, text(d), text(old))
	}
	return step
}

// P20.2, P20.3: from day to day, at each place: over ends, years 0 and below, and where
// months are leap, and expunged. At every place lunar days stay, and are left out.
func TestFlow(t *testing.T) {
	eachPlace(t, func(t *testing.T, i int, p place.Place) {
		steps, falls := [3]int{}, 0
		for _, from := range []int64{-api.MaxDay, -2038080, -1317180, api.Kali - 40, -21150, 302960, 473290, 717010, 723890, 740690, 1944950, 2705540, api.MaxDay - 69} {
			old, errno := amanta.Of(from, p)
			if errno != api.OK {
				t.Fatalf("at %s, Of %d: %d", p.Text(), from, errno)
			}
			for day := from + 1; day < from+70; day++ {
				d, errno := amanta.Of(day, p)
				if errno != api.OK {
					t.Fatalf("at %s, Of %d: %d", p.Text(), day, errno)
				}
				steps[flow(t, p, day, old, d)]++
				if d.Day < old.Day {
					falls++
				}
				old = d
			}
		}
		if steps[0] < 12 || steps[1] < 700 || steps[2] < 24 || falls < 26 {
			t.Errorf("at %s, lunar days stay, go on by one, by two: %v, and fall %d times", p.Text(), steps, falls)
		}
	})
}

// P20.2, P20.3: likewise from one end of the days that may be to the other: each month
// comes, and each lunar day.
func TestAllTheWay(t *testing.T) {
	eachPlace(t, func(t *testing.T, i int, p place.Place) {
		months, days := map[int]int{}, map[int]int{}
		for day := int64(500*i - api.MaxDay); day < api.MaxDay; day += 19997 {
			old, errno := amanta.Of(day, p)
			if errno != api.OK {
				t.Fatalf("at %s, Of %d: %d", p.Text(), day, errno)
			}
			next, errno := amanta.Of(day+1, p)
			if errno != api.OK {
				t.Fatalf("at %s, Of %d: %d", p.Text(), day+1, errno)
			}
			flow(t, p, day+1, old, next)
			months[old.Month]++
			days[old.Day]++
		}
		if len(months) != 12 || len(days) != 30 {
			t.Errorf("at %s: months %v, lunar days %v", p.Text(), months, days)
		}
	})
}

// nowhere are places that may not be.
func nowhere() []place.Place {
	return []place.Place{
		{}, {Lat: 463, LatOver: 0, Lon: 45461, LonOver: 600}, {Lat: 463, LatOver: 20, Lon: 45461, LonOver: 0}, {Lat: 463, LatOver: -20, Lon: 45461, LonOver: 600}, {LatOver: 1, LonOver: -1},
		{Lat: 61, LatOver: 1, LonOver: 1}, {Lat: -61, LatOver: 1, LonOver: 1}, {Lat: 216001, LatOver: 3600, LonOver: 1}, {LatOver: 1, Lon: 181, LonOver: 1}, {LatOver: 1, Lon: -181, LonOver: 1},
		{LatOver: 1, Lon: 648001, LonOver: 3600}, {LatOver: 3601, LonOver: 1}, {LatOver: 1, LonOver: 3601}, {Lat: math.MinInt64, LatOver: 1, LonOver: 1}, {Lat: 1, LatOver: math.MaxInt64, LonOver: 1},
	}
}

// P20.1, Of: a place that may not be, on days that may be and on others: the place's
// error, which is the day's, too.
func TestErrors(t *testing.T) {
	for _, p := range nowhere() {
		for _, day := range []int64{0, 1, 730120, api.Kali, -api.MaxDay, api.MaxDay, -api.MaxDay - 1, api.MaxDay + 1, math.MaxInt64, math.MinInt64} {
			if got, errno := amanta.Of(day, p); got != (amanta.Date{}) || errno != api.ErrRange {
				t.Errorf("at %v, Of %d: %s, %d", p, day, text(got), errno)
			}
		}
	}
}
