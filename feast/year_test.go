package feast_test

import (
	"math"
	"strings"
	"testing"

	"ephemeris/amanta"
	"ephemeris/api"
	"ephemeris/feast"
	"ephemeris/find"
	"ephemeris/place"
)

// expunged tells if a month of a year is.
func expunged(year int64, month int) bool { return len(find.Months(year, month)) == 0 }

// wanting are how many feasts a year is without, since their months are expunged.
func wanting(year int64) int {
	n := 0
	for _, f := range feasts() {
		if expunged(year, f.Month) {
			n++
		}
	}
	return n
}

// P29.2: years at each place: all feasts are held, but those of an expunged month, one
// behind the other, in their order, each on the day with its date, if there is one; it is
// moved just if there is none.
func TestOrder(t *testing.T) {
	for i, p := range places() {
		t.Run("at "+p.Text(), func(t *testing.T) {
			t.Parallel()
			for k, from := range []int64{-8155, -3045, -1, 2037, 8268} {
				for year := from; year < from+3; year++ {
					l, errno := feast.Year(year, p)
					if errno != api.OK || len(l) != len(feasts())-wanting(year) {
						t.Fatalf("Year %d: %d, %+v", year, errno, l)
					}
					inOrder(t, year, l)
					h := l[(i+3*k+int(year-from))%len(l)]
					dated(t, year, p, h)
				}
			}
		})
	}
}

// inOrder fails if feasts aren't held one behind the other, in their order.
func inOrder(t *testing.T, year int64, l []feast.Held) {
	t.Helper()
	all := feasts()
	for i, h := range l {
		for len(all) > 0 && all[0] != h.Feast {
			all = all[1:]
		}
		if len(all) == 0 || i > 0 && h.On <= l[i-1].On {
			t.Errorf("Year %d: %+v", year, l)
		}
	}
}

// dated fails if a feast isn't held on the day with its date, or is, and is moved.
func dated(t *testing.T, year int64, p place.Place, h feast.Held) {
	t.Helper()
	day, errno := find.Fixed(amanta.Date{Year: year, Month: h.Month, Day: h.Day}, p)
	if h.Moved != (errno == api.ErrNone) || !h.Moved && day != h.On {
		t.Errorf("Year %d: %+v; %d, %d", year, h, day, errno)
	}
}

// P29.1: in a year with an expunged month that is a feast's, that feast alone is left out.
func TestExpunged(t *testing.T) {
	for _, year := range []int64{2039, -6103} {
		if !expunged(year, 11) {
			t.Errorf("%d: month 11 isn't expunged", year)
		}
		for _, p := range places() {
			shivaratri, _ := feast.Find("shivaratri")
			holds(t, shivaratri, year, p, none)
			l, errno := feast.Year(year, p)
			if errno != api.OK || len(l) != 7 || l[5].Name != "dipavali" || l[6].Name != "holi" {
				t.Errorf("at %s, Year %d: %d, %+v", p.Text(), year, errno, l)
			}
		}
	}
	// Where a leap month has a feast's number, the feast is in the other one.
	holi, _ := feast.Find("holi")
	for i, p := range places() {
		h, errno := holi.Hold(2039, p)
		if d := amanta.Label(h.On, p); errno != api.OK || d.Leap || d.Month != 12 || d.Year != 2039 {
			t.Errorf("at place %d: %+v, %d, %+v", i, h, errno, d)
		}
	}
}

// ends are what is told of the years in which the days that may be begin, and end: of
// feasts made by hand, too, on the days around.
var ends = []struct {
	p           place.Place
	first, last string
	days, later string // lunar days 1 to 4 of month 7 of the first year; 5 to 8 of month 3 of the last one
}{
	{ujjain(), "x x x x -2999992 -2999973 -2999855t -2999839m", "2999936 2999944 x x x x x x", "x -3000000 -2999999 -2999998", "2999999 3000000 x x"},
	{northEast(), "x x x x -2999991 -2999972 -2999854 -2999839", "2999936 2999944 x x x x x x", "x -3000000 -2999999 -2999998", "2999999 3000000 x x"},
	{southWest(), "x x x x -2999992 -2999973 -2999855 -2999840", "2999935 2999943 x x x x x x", "x x -3000000 -2999999", "2999998 2999999 3000000 x"},
	{northWest(), "x x x x -2999992 -2999973 -2999855 -2999840", "2999935 2999943 x x x x x x", "x x -3000000 -2999999", "2999998 2999999 3000000 x"},
	{southEast(), "x x x x -2999991 -2999972 -2999854 -2999839", "2999936 2999944 x x x x x x", "x -3000000 -2999999 -2999998", "2999999 3000000 x x"},
	{equator(), "x x x x -2999992 -2999973 -2999855 -2999840", "2999936 2999944 x x x x x x", "x -3000000 -2999999 -2999998", "2999999 3000000 x x"},
	{north(), "x x x x -2999992 -2999973t -2999855 -2999840", "2999936 2999944 x x x x x x", "x -3000000 -2999999 -2999998", "2999999 3000000 x x"},
	{middle(), "x x x x -2999992 -2999973 -2999855 -2999840", "2999935 2999943 x x x x x x", "x x -3000000 -2999999", "2999998 2999999 3000000 x"},
}

// yearIs fails if a year's error is another one, or if feasts stand beside it.
func yearIs(t *testing.T, year int64, p place.Place, want api.Errno) {
	t.Helper()
	if l, errno := feast.Year(year, p); len(l) != 0 || errno != want {
		t.Errorf("at %v, Year %d: %+v, %d; not %d", p, year, l, errno, want)
	}
}

// P29.1, Hold, Year: at both ends of the days that may be: the feasts on days that may be
// are held, but their years aren't told.
func TestEnds(t *testing.T) {
	for _, c := range ends {
		t.Run("at "+c.p.Text(), func(t *testing.T) {
			t.Parallel()
			for i, f := range feasts() {
				holds(t, f, -8156, c.p, strings.Fields(c.first)[i])
				holds(t, f, 8271, c.p, strings.Fields(c.last)[i])
				holds(t, f, -8157, c.p, out)
				holds(t, f, 8272, c.p, out)
			}
			for i := range 4 {
				holds(t, feast.Feast{Name: "first", Month: 7, Day: 1 + i}, -8156, c.p, strings.Fields(c.days)[i])
				holds(t, feast.Feast{Name: "last", Month: 3, Day: 5 + i}, 8271, c.p, strings.Fields(c.later)[i])
			}
			for _, year := range []int64{-8156, 8271, -8157, 8272, -9000, 9000, -8996, 8999} {
				yearIs(t, year, c.p, api.ErrRange)
			}
		})
	}
}

// P29.1: of a year whose days may not be, an expunged month is told first.
func TestNoneAhead(t *testing.T) {
	for _, p := range places() {
		holds(t, feast.Feast{Name: "x", Month: 10, Day: 15}, -8996, p, none)
		holds(t, feast.Feast{Name: "x", Month: 9, Day: 15}, -8996, p, out)
	}
}

// nowhere are places that may not be.
func nowhere() []place.Place {
	return []place.Place{
		{}, {Lat: 463, LatOver: 0, Lon: 45461, LonOver: 600}, {Lat: 463, LatOver: 20, Lon: 45461, LonOver: -600}, {LatOver: 1, LonOver: 3601},
		{Lat: 61, LatOver: 1, LonOver: 1}, {LatOver: 1, Lon: -181, LonOver: 1}, {Lat: -216001, LatOver: 3600, LonOver: 1},
		{Lat: math.MaxInt64, LatOver: math.MinInt64, Lon: math.MinInt64, LonOver: math.MaxInt64}, {Lat: math.MinInt64, LatOver: 1, Lon: math.MaxInt64, LonOver: 1},
	}
}

// wrongYears are such as may not be asked for, also such as might if they were cut to 32
// bits.
func wrongYears() []int64 {
	return []int64{-9001, 9001, 1<<32 + 2039, -1 << 32, math.MaxInt64, math.MinInt64}
}

// wrongFeasts are such whose month, or day, may not be.
func wrongFeasts() []feast.Feast {
	l := []feast.Feast{{}}
	for _, n := range []int{0, -1, 31, 1<<32 + 1, math.MaxInt, math.MinInt} {
		l = append(l, feast.Feast{Name: "holi", Month: n, Day: 15}, feast.Feast{Name: "holi", Month: 12, Day: n}, feast.Feast{Name: "holi", Month: 11, Day: n}, feast.Feast{Month: n, Day: n})
	}
	return append(l, feast.Feast{Name: "holi", Month: 13, Day: 15})
}

// holdIs fails if a feast's error is another one, or if something stands beside it.
func holdIs(t *testing.T, f feast.Feast, year int64, p place.Place, want api.Errno) {
	t.Helper()
	if got, errno := f.Hold(year, p); got != (feast.Held{}) || errno != want {
		t.Errorf("at %v, %v in %d: %+v, %d; not %d", p, f, year, got, errno, want)
	}
}

// P29.1, Hold, Year: a place that may not be, a year that may not be, both at once; the
// place comes first, then a feast's month and day, then the year.
func TestWrong(t *testing.T) {
	years := append(wrongYears(), 2039, 0, -9000, 9000)
	for _, year := range years {
		for _, p := range nowhere() {
			yearIs(t, year, p, api.ErrRange)
			for _, f := range append(wrongFeasts(), feasts()...) {
				holdIs(t, f, year, p, api.ErrRange)
			}
		}
		for _, p := range places() {
			for _, f := range wrongFeasts() {
				holdIs(t, f, year, p, api.ErrArg)
			}
		}
	}
	for _, year := range wrongYears() {
		for _, p := range places() {
			yearIs(t, year, p, api.ErrRange)
			for _, f := range feasts() {
				holdIs(t, f, year, p, api.ErrRange)
			}
		}
	}
}
