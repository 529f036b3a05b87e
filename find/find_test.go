package find_test

import (
	"fmt"
	"maps"
	"math"
	"slices"
	"strconv"
	"strings"
	"testing"

	"ephemeris/amanta"
	"ephemeris/api"
	"ephemeris/find"
	"ephemeris/moons"
	"ephemeris/place"
	"ephemeris/rat"
	"ephemeris/seek"
)

// The places that may be, at their edges: far to the north and to the south, far to the
// east and to the west of Ujjain; and others.
func ujjain() place.Place    { return place.Ujjain() }
func northEast() place.Place { return place.Place{Lat: 60, LatOver: 1, Lon: 180, LonOver: 1} }
func southWest() place.Place { return place.Place{Lat: -60, LatOver: 1, Lon: -180, LonOver: 1} }
func northWest() place.Place { return place.Place{Lat: 60, LatOver: 1, Lon: -180, LonOver: 1} }
func southEast() place.Place { return place.Place{Lat: -60, LatOver: 1, Lon: 180, LonOver: 1} }
func equator() place.Place   { return place.Place{LatOver: 1, LonOver: 1} }
func north() place.Place     { return place.Place{Lat: 216000, LatOver: 3600, Lon: 45461, LonOver: 600} }
func middle() place.Place    { return place.Place{Lat: -7, LatOver: 3600, Lon: -647999, LonOver: 3600} }

func places() []place.Place {
	return []place.Place{ujjain(), northEast(), southWest(), northWest(), southEast(), equator(), north(), middle()}
}

// text is a date's: year, month, l if that is leap, lunar day, a if it is so again.
func text(d amanta.Date) string {
	s := strconv.FormatInt(d.Year, 10) + "-" + strconv.Itoa(d.Month)
	if d.Leap {
		s += "l"
	}
	s += "-" + strconv.Itoa(d.Day)
	if d.Again {
		s += "a"
	}
	return s
}

// read is the date of such a text.
func read(s string) amanta.Date {
	stroke := strings.Index(s[1:], "-") + 1
	year, _ := strconv.ParseInt(s[:stroke], 10, 64)
	month, day, _ := strings.Cut(s[stroke+1:], "-")
	number, leap := strings.CutSuffix(month, "l")
	lunar, again := strings.CutSuffix(day, "a")
	d := amanta.Date{Year: year, Leap: leap, Again: again}
	d.Month, _ = strconv.Atoi(number)
	d.Day, _ = strconv.Atoi(lunar)
	return d
}

// fixed fails if a date has another day.
func fixed(t *testing.T, d amanta.Date, p place.Place, want int64) {
	t.Helper()
	if got, errno := find.Fixed(d, p); got != want || errno != api.OK {
		t.Errorf("at %s, Fixed %s: %d, %d; not %d", p.Text(), text(d), got, errno, want)
	}
}

// none fails if a date has a day.
func none(t *testing.T, d amanta.Date, p place.Place) {
	t.Helper()
	if got, errno := find.Fixed(d, p); got != 0 || errno != api.ErrNone {
		t.Errorf("at %s, Fixed %s: %d, %d", p.Text(), text(d), got, errno)
	}
}

// eachPlace goes through the places, all at once, and beside other tests.
func eachPlace(t *testing.T, check func(t *testing.T, i int, p place.Place)) {
	t.Parallel()
	for i, p := range places() {
		t.Run(fmt.Sprint("at ", p.Text()), func(t *testing.T) {
			t.Parallel()
			check(t, i, p)
		})
	}
}

// P21.1: the numbers that are told.
func TestNumbers(t *testing.T) {
	if find.MaxYear != 9000 || find.Ahead != 5 || find.Behind != 40 {
		t.Errorf("%d, %d, %d", find.MaxYear, find.Ahead, find.Behind)
	}
}

// P21.1, Entry: months 1, 2 and 12, reckoned elsewhere: of years 0 and below, of both ends
// of those that may be, and of the one in which the Kali Yuga begins.
func TestEntryKnown(t *testing.T) {
	for _, c := range []struct {
		year int64
		want [3]int64
	}{
		{-9000, [3]int64{-3308471, -3308441, -3308136}}, {-8999, [3]int64{-3308106, -3308075, -3307771}},
		{-3045, [3]int64{-1133355, -1133325, -1133020}}, {-3044, [3]int64{-1132990, api.Kali, -1132655}}, {-3043, [3]int64{-1132625, -1132594, -1132290}},
		{-1, [3]int64{-21508, -21477, -21173}}, {0, [3]int64{-21142, -21112, -20807}}, {1, [3]int64{-20777, -20747, -20442}}, {57, [3]int64{-323, -292, 12}},
		{2039, [3]int64{723620, 723651, 723955}}, {2078, [3]int64{737865, 737896, 738200}}, {8999, [3]int64{3265821, 3265852, 3266156}}, {9000, [3]int64{3266187, 3266217, 3266521}},
	} {
		for i, month := range []int{1, 2, 12} {
			if got := find.Entry(c.year, month); got != c.want[i] {
				t.Errorf("Entry of %d, %d: %d, not %d", c.year, month, got, c.want[i])
			}
		}
	}
}

// P21.1, Entry: in whole numbers: a month takes 394479457/12960000 days, and that of Kali
// is month 2 of year -3044.
func TestEntry(t *testing.T) {
	for year := int64(-find.MaxYear); year <= find.MaxYear; year++ {
		month := int(year+9003)%12 + 1
		if year%500 == 0 || year == -3044 {
			month = 1
		}
		for ; month <= 12; month += 5 {
			months := 12*(year+3044) + int64(month) - 2
			days := months * 394479457 / 12960000
			if months < 0 {
				days = -((12959999 - months*394479457) / 12960000)
			}
			if got := find.Entry(year, month); got != -1132959+days {
				t.Errorf("Entry of %d, %d: %d, not %d", year, month, got, -1132959+days)
			}
		}
	}
}

// P21.1, In: months made by hand, whose First is at both edges of the window, within it
// and outside of it; what else is told of them says their number alone.
func TestInWindow(t *testing.T) {
	signs := [13]int{1: 11, 2: 0, 3: 1, 4: 2, 5: 3, 6: 4, 7: 5, 8: 6, 9: 7, 10: 8, 11: 9, 12: 10}
	for _, year := range []int64{-9000, -3044, -1, 0, 1, 2039, 9000} {
		for month := 1; month <= 12; month++ {
			entry := find.Entry(year, month)
			for _, c := range []struct {
				first int64
				want  bool
			}{
				{entry - 5, true}, {entry - 6, false}, {entry + 40, true}, {entry + 41, false}, {entry, true}, {entry - 1, true}, {entry + 1, true}, {entry + 17, true},
				{entry - 365, false}, {entry + 365, false}, {math.MaxInt64, false}, {math.MinInt64, false}, {math.MinInt64 + 40, false}, {math.MaxInt64 - 4, false},
			} {
				m := moons.Month{First: c.first, Next: c.first + 30, Sign: signs[month], Then: month % 12}
				if got := find.In(m, year); got != c.want {
					t.Errorf("In %v, %d: %t; Entry of %d is %d", m, year, got, month, entry)
				}
			}
		}
	}
}

// month is one that begins and ends in those days, with those signs.
func month(first, next int64, sign, then int) moons.Month {
	return moons.Month{First: first, Next: next, Sign: sign, Then: then}
}

// kinds are months of years with a leap month, with one that is expunged, with both and
// with neither, of years 0 and below, and of ends, reckoned elsewhere.
var kinds = []struct {
	year   int64
	month  int
	months []moons.Month
}{
	{2039, 9, []moons.Month{month(723894, 723924, 7, 8)}}, {2039, 10, []moons.Month{month(723924, 723954, 8, 10)}}, {2039, 11, nil},
	{2039, 12, []moons.Month{month(723954, 723983, 10, 10), month(723983, 724013, 10, 11)}}, {2040, 1, []moons.Month{month(724013, 724043, 11, 0)}},
	{2020, 9, []moons.Month{month(716955, 716985, 7, 9)}}, {2020, 10, nil}, {2020, 11, []moons.Month{month(716985, 717014, 9, 10)}}, {2020, 12, []moons.Month{month(717014, 717044, 10, 11)}},
	{2021, 1, []moons.Month{month(717044, 717073, 11, 11), month(717073, 717103, 11, 0)}}, {2021, 2, []moons.Month{month(717103, 717132, 0, 1)}},
	{583, 8, []moons.Month{month(192019, 192049, 6, 6), month(192049, 192078, 6, 7)}}, {583, 9, []moons.Month{month(192078, 192107, 7, 9)}}, {583, 10, nil},
	{583, 11, []moons.Month{month(192107, 192137, 9, 9), month(192137, 192166, 9, 10)}}, {583, 12, []moons.Month{month(192166, 192196, 10, 11)}},
	{-5522, 1, []moons.Month{month(-2038102, -2038072, 11, 0)}}, {-5522, 2, []moons.Month{month(-2038072, -2038043, 0, 0), month(-2038043, -2038013, 0, 1)}}, {-5522, 3, []moons.Month{month(-2038013, -2037983, 1, 2)}},
	{2142, 8, []moons.Month{month(761457, 761487, 6, 6), month(761487, 761517, 6, 8)}}, {2142, 9, nil}, {2142, 10, []moons.Month{month(761517, 761546, 8, 9)}},
	{-6103, 10, []moons.Month{month(-2250013, -2249983, 8, 10)}}, {-6103, 11, nil}, {-6103, 12, []moons.Month{month(-2249983, -2249953, 10, 10), month(-2249953, -2249924, 10, 11)}},
	{0, 1, []moons.Month{month(-21133, -21104, 11, 0)}}, {0, 2, []moons.Month{month(-21104, -21074, 0, 1)}}, {0, 12, []moons.Month{month(-20808, -20778, 10, 11)}},
	{-1, 1, []moons.Month{month(-21487, -21458, 11, 0)}}, {-1, 2, []moons.Month{month(-21458, -21428, 0, 1)}}, {-1, 12, []moons.Month{month(-21163, -21133, 10, 11)}},
	{1, 1, []moons.Month{month(-20778, -20749, 11, 11), month(-20749, -20720, 11, 0)}}, {1, 2, []moons.Month{month(-20720, -20690, 0, 1)}}, {1, 12, []moons.Month{month(-20424, -20394, 10, 11)}},
	{-3044, 1, []moons.Month{month(-1132989, -1132960, 11, 0)}}, {-3044, 2, []moons.Month{month(-1132960, -1132930, 0, 1)}}, {-3045, 12, []moons.Month{month(-1133019, -1132989, 10, 11)}},
	{-3044, 3, []moons.Month{month(-1132930, -1132901, 1, 1), month(-1132901, -1132871, 1, 2)}}, {-3044, 12, []moons.Month{month(-1132635, -1132605, 10, 11)}},
	{9000, 1, []moons.Month{month(3266212, 3266241, 11, 0)}}, {9000, 2, []moons.Month{month(3266241, 3266271, 0, 1)}}, {9000, 12, []moons.Month{month(3266537, 3266567, 10, 11)}},
	{-9000, 1, []moons.Month{month(-3308449, -3308419, 11, 0)}}, {-9000, 2, []moons.Month{month(-3308419, -3308389, 0, 1)}}, {-9000, 12, []moons.Month{month(-3308124, -3308094, 10, 11)}},
	{8271, 3, []moons.Month{month(2999994, 3000024, 1, 2)}}, {-8156, 7, []moons.Month{month(-3000002, -2999972, 5, 6)}}, {2022, 1, []moons.Month{month(717428, 717457, 11, 0)}},
	{2022, 2, []moons.Month{month(717457, 717487, 0, 1)}}, {2022, 12, []moons.Month{month(717752, 717782, 10, 11)}}, {2078, 8, []moons.Month{month(738099, 738128, 6, 7)}},
}

// P21.1, Months, In: such years; what is done with an answer changes no other one.
func TestMonthsKnown(t *testing.T) {
	t.Parallel()
	for _, c := range kinds {
		for range 2 {
			got := find.Months(c.year, c.month)
			if !slices.Equal(got, c.months) {
				t.Errorf("Months of %d, %d: %v, not %v", c.year, c.month, got, c.months)
			}
			clear(got)
		}
		for _, m := range c.months {
			if !find.In(m, c.year) || find.In(m, c.year-1) || find.In(m, c.year+1) {
				t.Errorf("%v is in %d: %t; ahead: %t, behind: %t", m, c.year, find.In(m, c.year), find.In(m, c.year-1), find.In(m, c.year+1))
			}
		}
	}
}

// P21.1, Months: word by word: those whose new moons come in the days of the window, gone
// through day by day.
func TestMonths(t *testing.T) {
	t.Parallel()
	for i := range int64(72) {
		year, month := 250*i-8999, int(i*5%12)+1
		want := []moons.Month{}
		for n := find.Entry(year, month) - 5; n <= find.Entry(year, month)+40; n++ {
			if !seek.Comes(n) {
				continue
			}
			if m := moons.Of(n); m.Number() == month {
				want = append(want, m)
			}
		}
		if got := find.Months(year, month); !slices.Equal(got, want) || len(got) == 0 {
			t.Errorf("Months of %d, %d: %v, not %v", year, month, got, want)
		}
	}
}

// ofNumber fails if a year hasn't one month of a number, or two, of which the first is
// leap, or none, if it is expunged behind the month ahead; it tells which it has.
func ofNumber(t *testing.T, year int64, number int, ahead moons.Month) []moons.Month {
	t.Helper()
	l := find.Months(year, number)
	lost := ahead.Lost() == number
	good := false
	switch len(l) {
	case 0:
		good = lost
	case 1:
		good = !lost && !l[0].Leap()
	case 2:
		good = !lost && l[0].Leap() && !l[1].Leap()
	}
	if !good {
		t.Errorf("Months of %d, %d: %v, behind %v", year, number, l, ahead)
	}
	return l
}

// P21.3: year by year, from one end of those that may be to the other, and where months
// are leap and expunged: each month of the moon is in one year, and they follow each
// other, from the last one of the year ahead on.
func TestYears(t *testing.T) {
	t.Parallel()
	years := []int64{-8999, -6103, -5522, -3549, -3044, -1971, -1, 0, 1, 583, 1353, 2020, 2021, 2039, 2104, 2142, 9000}
	for year := int64(-8750); year < 9000; year += 600 {
		years = append(years, year)
	}
	counts := [3]int{}
	for _, year := range years {
		old := find.Months(year-1, 12)
		ahead := old[len(old)-1]
		for number := 1; number <= 12; number++ {
			l := ofNumber(t, year, number, ahead)
			counts[len(l)]++
			for _, m := range l {
				if m != ahead.After() || m.Number() != number {
					t.Errorf("Months of %d, %d: %v, behind %v", year, number, l, ahead)
				}
				ahead = m
			}
		}
	}
	if counts[0] < 7 || counts[1] < 500 || counts[2] < 20 {
		t.Errorf("none, one, two months of a number: %v", counts)
	}
}

// asked has Within ask a function that says yes to the one that it is asked of as the
// yes-th, and from there on, or to none (0); it tells of which days it was asked.
func asked(m moons.Month, day int, p place.Place, yes int) (int64, bool, []int64) {
	days := []int64{}
	n, ok := find.Within(m, day, p, func(n int64) bool {
		days = append(days, n)
		return yes > 0 && len(days) >= yes
	})
	return n, ok, days
}

// within fails if Within doesn't find those days, rising, one of them for each yes.
func within(t *testing.T, m moons.Month, day int, p place.Place, want []int64) {
	t.Helper()
	for yes := range 4 {
		day0, found, ask := int64(0), false, want
		if yes > 0 && yes <= len(want) {
			day0, found, ask = want[yes-1], true, want[:yes]
		}
		if n, ok, got := asked(m, day, p, yes); n != day0 || ok != found || !slices.Equal(got, ask) {
			t.Errorf("at %s, Within %v, %d, yes to ask %d: %d, %t, asked of %v; the days are %v", p.Text(), m, day, yes, n, ok, got, want)
		}
	}
	if n, ok := find.Within(m, day, p, nil); n != 0 || ok {
		t.Errorf("at %s, Within %v, %d, of nothing: %d, %t", p.Text(), m, day, n, ok)
	}
}

// P21.1, Within: lunar days that are left out, that come once, and twice, of months that
// begin in a day, reckoned elsewhere. No more than the month's First counts.
func TestWithinKnown(t *testing.T) {
	t.Parallel()
	for _, c := range []struct {
		p     place.Place
		first int64
		day   int
		days  []int64
	}{
		{north(), -2999794, 1, nil}, {southEast(), -2037777, 1, nil}, {equator(), -1132664, 1, nil},
		{northEast(), -2999942, 1, []int64{-2999941}}, {northWest(), -2999883, 1, []int64{-2999883}}, {southEast(), -2999853, 1, []int64{-2999852}},
		{ujjain(), -2999972, 1, []int64{-2999972, -2999971}}, {southWest(), -2999913, 1, []int64{-2999913, -2999912}}, {equator(), -21074, 1, []int64{-21074, -21073}},
		{southWest(), -2037836, 2, nil}, {ujjain(), -2999972, 2, []int64{-2999970}}, {northEast(), -2999942, 2, []int64{-2999940}},
		{northWest(), -2038043, 2, []int64{-2038042, -2038041}}, {north(), -21044, 2, []int64{-21043, -21042}},
		{north(), -2037954, 14, nil}, {southWest(), 473209, 14, nil}, {middle(), -2999765, 14, []int64{-2999753, -2999752}},
		{northWest(), -21133, 15, nil}, {north(), -21044, 15, nil}, {southEast(), -19, 15, nil},
		{ujjain(), -2999972, 15, []int64{-2999957}}, {northEast(), -2999942, 15, []int64{-2999928}}, {southEast(), -20867, 15, []int64{-20853, -20852}},
		{southEast(), -2999618, 16, nil}, {equator(), -2999588, 16, nil}, {middle(), 473121, 16, nil},
		{ujjain(), -2999972, 16, []int64{-2999956}}, {northWest(), 717161, 16, []int64{717176, 717177}}, {north(), 724101, 16, []int64{724116, 724117}},
		{ujjain(), -2999972, 17, nil}, {northEast(), 2705515, 17, nil}, {southEast(), -2037777, 17, []int64{-2037760, -2037759}},
		{north(), -2037718, 29, nil}, {ujjain(), 717073, 29, nil}, {northEast(), -2999942, 29, []int64{-2999914}}, {equator(), 11, 29, []int64{39, 40}},
		{southEast(), -2999853, 30, nil}, {middle(), -2999765, 30, nil}, {northWest(), -1132723, 30, nil},
		{ujjain(), -2999972, 30, []int64{-2999943}}, {southWest(), -2999913, 30, []int64{-2999884}},
		{northEast(), 473180, 30, []int64{473209, 473210}}, {southWest(), 2705545, 30, []int64{2705573, 2705574}}, {equator(), 2705869, 30, []int64{2705898, 2705899}},
	} {
		within(t, moons.Of(c.first), c.day, c.p, c.days)
		within(t, moons.Month{First: c.first, Next: 7, Sign: 3, Then: 9}, c.day, c.p, c.days)
	}
}

// lunarDays are the days of a row whose lunar day is it, by lunar days.
func lunarDays(from int64, days int64, p place.Place) [31][]int64 {
	l := [31][]int64{}
	for n := from; n < from+days; n++ {
		day := amanta.Tithi(n, p)
		l[day] = append(l[day], n)
	}
	return l
}

// around is the month made by hand of which n is so many days from where a lunar day
// would be if the moon went evenly: 0, 0, 1, 2 .. 28 days behind the First.
func around(n int64, day int, off int64) moons.Month {
	return moons.Month{First: n - off - int64(max(day-2, 0)), Sign: 5}
}

// P21.1, Within: days at both edges of those that are looked at, and just outside, of
// every lunar day: once, and twice.
func TestWithinEdges(t *testing.T) {
	eachPlace(t, func(t *testing.T, i int, p place.Place) {
		for day, days := range lunarDays([]int64{-2999980, -1132990, -21140, 11, 192019, 723890, 1944950, 2705540}[i], 29, p) {
			if len(days) == 0 || i%2 == 0 && day%2 == 0 && len(days) == 1 {
				continue
			}
			first, last := days[0], days[len(days)-1]
			within(t, around(first, day, -4), day, p, days)
			within(t, around(first, day, -5), day, p, days[1:])
			within(t, around(last, day, 6), day, p, days)
			within(t, around(last, day, 7), day, p, days[:len(days)-1])
		}
	})
}

// P21.1, Within: far beyond the days that may be, and where the days are no numbers of 64
// bits, it ends.
func TestWithinFar(t *testing.T) {
	for _, first := range []int64{3000000, -3000001, 1<<23 - 40, 4 - 1<<23} {
		for _, day := range []int{1, 16, 30} {
			m := moons.Month{First: first}
			back := int64(max(day-2, 0))
			within(t, m, day, ujjain(), lunarDays(first+back-4, 11, ujjain())[day])
		}
	}
	for _, first := range []int64{math.MaxInt64, math.MaxInt64 - 6, math.MaxInt64 - 30, math.MinInt64, math.MinInt64 + 3, 1 << 40, -1 << 40} {
		for day := 1; day <= 30; day++ {
			_, _, days := asked(moons.Month{First: first}, day, equator(), 0)
			for _, n := range days {
				if (n < 0) != (first < 0) || amanta.Tithi(n, equator()) != day {
					t.Errorf("Within a month that begins in %d, %d: asked of %d", first, day, n)
				}
			}
			if len(days) > 2 {
				t.Errorf("Within a month that begins in %d, %d: asked of %v", first, day, days)
			}
		}
	}
}

// nowhere are places that may not be.
func nowhere() []place.Place {
	return []place.Place{
		{}, {Lat: 463, LatOver: 0, Lon: 45461, LonOver: 600}, {Lat: 463, LatOver: 20, Lon: 45461, LonOver: 0}, {LatOver: 1, LonOver: -1},
		{Lat: 61, LatOver: 1, LonOver: 1}, {Lat: -216001, LatOver: 3600, LonOver: 1}, {LatOver: 1, Lon: 181, LonOver: 1}, {LatOver: 3601, LonOver: 1},
	}
}

// wrong are dates with the errors of places that may be, some of them with several faults.
var wrong = []struct {
	date  amanta.Date
	errno api.Errno
}{
	{amanta.Date{}, api.ErrArg}, {amanta.Date{Month: 1}, api.ErrArg}, {amanta.Date{Day: 1}, api.ErrArg},
	{amanta.Date{Month: 0, Day: 1}, api.ErrArg}, {amanta.Date{Month: 13, Day: 1}, api.ErrArg}, {amanta.Date{Month: -1, Day: 1}, api.ErrArg}, {amanta.Date{Month: 1<<32 + 1, Day: 1}, api.ErrArg},
	{amanta.Date{Month: math.MaxInt, Day: 1}, api.ErrArg}, {amanta.Date{Month: math.MinInt, Day: 1}, api.ErrArg}, {amanta.Date{Year: 2078, Month: 13, Leap: true, Day: 30, Again: true}, api.ErrArg},
	{amanta.Date{Month: 1, Day: 31}, api.ErrArg}, {amanta.Date{Month: 12, Day: -1}, api.ErrArg}, {amanta.Date{Month: 12, Day: 1<<32 + 1}, api.ErrArg},
	{amanta.Date{Month: 1, Day: math.MaxInt}, api.ErrArg}, {amanta.Date{Month: 1, Day: math.MinInt}, api.ErrArg}, {amanta.Date{Year: 2078, Month: 8, Leap: true, Day: 31, Again: true}, api.ErrArg},
	{amanta.Date{Month: 13, Day: 31}, api.ErrArg}, {amanta.Date{Year: 9001, Month: 13, Day: 1}, api.ErrArg}, {amanta.Date{Year: -9001, Month: 1, Day: 31}, api.ErrArg},
	{amanta.Date{Year: math.MaxInt64, Month: 0, Day: 0}, api.ErrArg}, {amanta.Date{Year: math.MinInt64, Month: 12, Day: 0}, api.ErrArg},
	{amanta.Date{Year: 9001, Month: 1, Day: 1}, api.ErrRange}, {amanta.Date{Year: -9001, Month: 12, Day: 30}, api.ErrRange}, {amanta.Date{Year: 9001, Month: 12, Leap: true, Day: 30, Again: true}, api.ErrRange},
	{amanta.Date{Year: math.MaxInt64, Month: 1, Day: 1}, api.ErrRange}, {amanta.Date{Year: math.MinInt64, Month: 1, Day: 1}, api.ErrRange}, {amanta.Date{Year: 1<<32 + 2078, Month: 8, Day: 1}, api.ErrRange},
}

// P21.1, May, Fixed: dates that may not be asked for; at a place that may not be its error
// comes first, whatever the date is.
func TestWrong(t *testing.T) {
	is := func(d amanta.Date, p place.Place, want api.Errno) {
		t.Helper()
		if got := find.May(d, p); got != want {
			t.Errorf("at %v, May %v: %d, not %d", p, d, got, want)
		}
		if day, errno := find.Fixed(d, p); day != 0 || errno != want {
			t.Errorf("at %v, Fixed %v: %d, %d; not %d", p, d, day, errno, want)
		}
	}
	for _, c := range wrong {
		for _, p := range places() {
			is(c.date, p, c.errno)
		}
		for _, p := range nowhere() {
			is(c.date, p, api.ErrRange)
		}
	}
	for _, p := range nowhere() {
		is(amanta.Date{Year: 2078, Month: 8, Day: 1}, p, api.ErrRange)
	}
}

// P21.1, May: all other dates, if any day has them or not.
func TestMay(t *testing.T) {
	for _, year := range []int64{-9000, -3044, 0, 2078, 9000} {
		for month := 1; month <= 12; month++ {
			for day := 1; day <= 30; day++ {
				d := amanta.Date{Year: year, Month: month, Leap: (month+day)%3 == 0, Day: day, Again: (month*day)%4 == 1}
				p := places()[(month+day)%8]
				if errno := find.May(d, p); errno != api.OK {
					t.Errorf("at %s, May %s: %d", p.Text(), text(d), errno)
				}
			}
		}
	}
}

// P21.1, Fixed: ordinary dates at Ujjain, reckoned elsewhere: in leap months and in
// others, years below 0; each but once.
func TestFixedKnown(t *testing.T) {
	for _, c := range []struct {
		day  int64
		date string
	}{
		{-214193, "-529-6-11"}, {-61387, "-111-9-27"}, {25469, "127-8-3"},
		{171307, "526-11-19"}, {253427, "751-9-15"}, {369740, "1070-2-6"},
		{400085, "1153-3l-23"}, {434355, "1247-1-8"}, {470160, "1345-1-22"},
		{507850, "1448-4-1"}, {544676, "1549-2l-3"}, {567118, "1610-7-2"},
		{569477, "1616-11-28a"}, {569476, "1616-11-28"}, {664224, "1876-5-11"},
		{709409, "2000-1-14"}, {727274, "2048-12-14"}, {764652, "2151-4-6"},
	} {
		fixed(t, read(c.date), ujjain(), c.day)
	}
}

// span are lunar days, one behind the other, from a day on; a behind one: again.
type span struct {
	first int64
	days  string
}

// whole are months of a number, in a year, with all their days, reckoned elsewhere: the
// leap one, if there is one, and the other one, if it isn't expunged.
var whole = []struct {
	p           place.Place
	year        int64
	month       int
	leap, other []span
}{
	{ujjain(), 2039, 9, nil, []span{{723895, "1 2 3 4 5 6 7 8 9 10 11 12 13 14 15 16 17 18 19 21 22 23 24 25 26 27 28 29 29a 30"}}},
	{ujjain(), 2039, 11, nil, nil},
	{ujjain(), 2039, 12, []span{{723954, "1 2 2a 3 4 5 6 7 9 10 11 12 13 14 15 16 17 18 19 20 21 22 23 24 25 26 27 28 29 30"}}, []span{{723984, "1 2 3 4 5 6 7 8 9 10 11 12 14 15 16 17 18 19 20 21 22 23 24 25 25a 26 27 28 29 30"}}},
	{northEast(), 2021, 1, []span{{717045, "1 2 3 4 6 7 8 9 10 11 12 13 14 15 16 17 18 19 20 21 22 23 24 25 26 27 28 29 30"}}, []span{{717074, "1 2 3 4 5 6 7 8 9 11 12 13 14 15 15a 16 17 18 19 20 21 22 23 24 25 26 27 28 29 30"}}},
	{southWest(), 583, 11, []span{{192108, "1 3 4 5 6 7 8 9 10 11 12 13 13a 14 15 16 17 18 19 20 21 22 23 24 25 27 28 29 30"}}, []span{{192137, "1 2 3 4 5 6 7 8 9 10 11 12 13 14 15 16 17 18 19 20 21 22 23 24 25 26 27 28 29"}}},
	{equator(), -1971, 9, nil, []span{{-740793, "1 2 2a 3 4 5 6 8 9 10 11 12 13 14 15 16 17 18 19 20 21 22 23 24 25 26 27 28 29 30"}}},
	{southEast(), 2142, 9, nil, nil},
	{north(), 0, 6, nil, []span{{-20984, "1 2 3 4 5 6 7 8 9 10 12 13 14 15 16 17 18 19 20 21 22 23 24 25 26 27 28 29 30"}}},
	{middle(), 1, 1, []span{{-20778, "2 3 4 5 6 7 8 9 10 11 12 12a 13 14 15 16 17 18 19 20 21 22 23 24 26 27 28 29 30"}}, []span{{-20749, "1 2 3 4 5 6 7 8 9 10 11 12 13 14 15 16 17 18 19 20 21 22 23 24 25 26 27 29 30"}}},
	{southWest(), -1, 12, nil, []span{{-21162, "1 3 4 5 6 7 8 8a 9 10 11 12 13 14 15 16 17 18 19 20 21 22 23 24 26 27 28 29 30"}}},
	{northWest(), -3044, 3, []span{{-1132930, "1 2 3 4 5 6 7 8 9 10 11 12 13 14 15 16 17 18 19 20 21 22 23 24 26 27 28 29 30"}}, []span{{-1132901, "1 1a 2 3 4 5 6 7 8 9 10 11 12 13 14 15 16 18 19 20 21 22 23 24 25 26 27 28 29 30"}}},
	{southEast(), -5522, 2, []span{{-2038071, "1 2 3 4 5 6 7 8 9 10 11 12 13 14 15 16 17 18 19 20 21 22 24 25 26 27 28 29 30"}}, []span{{-2038042, "1 2 3 4 4a 5 6 7 8 9 10 11 12 13 14 15 17 18 19 20 21 22 23 24 25 26 27 28 29 30"}}},
	{ujjain(), 2078, 8, nil, []span{{738099, "1 2 3 4 5 6 7 8 9 10 11 12 13 14 15 16 17 18 19 20 21 22 23 24 25 26 27 28 29 30"}}},
}

// datesOf are the dates of a month that spans tell, and their days.
func datesOf(year int64, month int, leap bool, spans []span) map[amanta.Date]int64 {
	dates := map[amanta.Date]int64{}
	for _, s := range spans {
		for i, told := range strings.Fields(s.days) {
			d := read("0-1-" + told)
			d.Year, d.Month, d.Leap = year, month, leap
			dates[d] = s.first + int64(i)
		}
	}
	return dates
}

// P21.1, Fixed: each date of such months, and each that no day of them has: of a lunar day
// that is left out, again of one that comes but once, leap of a month that isn't, of one
// that is expunged.
func TestWhole(t *testing.T) {
	t.Parallel()
	for _, c := range whole {
		t.Run(fmt.Sprintf("%d-%d", c.year, c.month), func(t *testing.T) {
			t.Parallel()
			dates := datesOf(c.year, c.month, true, c.leap)
			maps.Copy(dates, datesOf(c.year, c.month, false, c.other))
			for i := range 120 {
				d := amanta.Date{Year: c.year, Month: c.month, Leap: i < 60, Day: i/2%30 + 1, Again: i%2 == 1}
				if n, ok := dates[d]; ok {
					fixed(t, d, c.p, n)
				} else {
					none(t, d, c.p)
				}
			}
		})
	}
}

// P21.1, Fixed: both ends of the days that may be, and dates of the days just beyond; of
// years that may be, in which no day may be.
func TestEnds(t *testing.T) {
	for _, c := range []struct {
		p           place.Place
		first, last int // the lunar days of both ends
	}{{ujjain(), 2, 6}, {northEast(), 2, 6}, {southWest(), 3, 7}, {northWest(), 3, 7}, {southEast(), 2, 6}, {equator(), 2, 6}, {north(), 2, 6}, {middle(), 3, 7}} {
		fixed(t, amanta.Date{Year: -8156, Month: 7, Day: c.first}, c.p, -api.MaxDay)
		fixed(t, amanta.Date{Year: -8156, Month: 7, Day: c.first + 1}, c.p, -api.MaxDay+1)
		fixed(t, amanta.Date{Year: 8271, Month: 3, Day: c.last}, c.p, api.MaxDay)
		fixed(t, amanta.Date{Year: 8271, Month: 3, Day: c.last - 1}, c.p, api.MaxDay-1)
		none(t, amanta.Date{Year: -8156, Month: 7, Day: c.first - 1}, c.p)
		none(t, amanta.Date{Year: 8271, Month: 3, Day: c.last + 1}, c.p)
		for _, n := range []int64{-api.MaxDay - 1, -api.MaxDay - 2, -api.MaxDay - 400, api.MaxDay + 1, api.MaxDay + 2, api.MaxDay + 400} {
			none(t, amanta.Label(n, c.p), c.p)
		}
		for month := 1; month <= 12; month += 3 {
			none(t, amanta.Date{Year: 9000, Month: month, Day: 16}, c.p)
			none(t, amanta.Date{Year: -9000, Month: month, Day: 16}, c.p)
		}
	}
}

// P21.2: at every place, days around which it happens, and others from one end of the
// days that may be to the other: each is its date's; no two have one date.
func TestBack(t *testing.T) {
	eachPlace(t, func(t *testing.T, i int, p place.Place) {
		dates := map[amanta.Date]int64{}
		back := func(n int64) {
			t.Helper()
			d, errno := amanta.Of(n, p)
			if errno != api.OK {
				t.Fatalf("at %s, Of %d: %d", p.Text(), n, errno)
			}
			if other, ok := dates[d]; ok && other != n {
				t.Errorf("at %s, %s is the date of %d and of %d", p.Text(), text(d), n, other)
			}
			dates[d] = n
			fixed(t, d, p, n)
		}
		for k, from := range []int64{-api.MaxDay, -2038045, -1132962, -21136, 192135, 473384, 717071, 723952, 740695, 2705570, api.MaxDay - 4} {
			for n := from; n < from+5; n++ {
				if n == from || int(n+int64(i+k))%2 == 0 {
					back(n)
				}
			}
		}
		for n := int64(2500*i - api.MaxDay); n <= api.MaxDay; n += 99991 {
			back(n)
		}
	})
}

// P21.2: days of months whose new moon is farthest from where the mean sun enters their
// sign, either way, of each number.
func TestFar(t *testing.T) {
	t.Parallel()
	first, last := [13]moons.Month{}, [13]moons.Month{}
	least, most := [13]int64{}, [13]int64{}
	for k := range least {
		least[k], most[k] = 100, -100
	}
	for _, m := range moons.Row(rat.Whole(716600), 40) {
		k := m.Number()
		from := m.First - find.Entry(amanta.Year(m.First+15, k), k)
		if from < least[k] {
			least[k], first[k] = from, m
		}
		if from > most[k] {
			most[k], last[k] = from, m
		}
	}
	for k := 1; k <= 12; k++ {
		for _, m := range []moons.Month{first[k], last[k]} {
			for _, n := range []int64{m.First + 1, m.First + 15, m.Next} {
				p := places()[int(n&7)]
				fixed(t, amanta.Label(n, p), p, n)
			}
		}
	}
}
