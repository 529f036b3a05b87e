package tables_test

import (
	"math"
	"testing"

	"ephemeris/api"
	"ephemeris/moons"
	"ephemeris/place"
	"ephemeris/seek"
	"ephemeris/solar"
	"ephemeris/tables"
)

// nowhere are places that may not be.
func nowhere() []place.Place {
	return []place.Place{
		{}, {Lat: 463, LatOver: 0, Lon: 45461, LonOver: 600}, {Lat: 463, LatOver: 20, Lon: 45461, LonOver: -600}, {LatOver: 1, LonOver: 3601},
		{Lat: 61, LatOver: 1, LonOver: 1}, {LatOver: 1, Lon: -181, LonOver: 1}, {Lat: -216001, LatOver: 3600, LonOver: 1},
		{Lat: math.MaxInt64, LatOver: math.MinInt64, Lon: math.MinInt64, LonOver: math.MaxInt64}, {Lat: math.MinInt64, LatOver: 1, Lon: math.MaxInt64, LonOver: 1},
	}
}

// wrongYears are such as may not be asked for, also such as might if they were cut to 32
// bits.
func wrongYears() []int64 {
	return []int64{-9001, 9001, 1<<32 + 2039, -1 << 32, math.MaxInt64, math.MinInt64}
}

// wrongMonths are numbers that are no month's, wrongDays, that are no lunar day's.
func wrongMonths() []int { return []int{0, 13, -1, 1<<32 + 1, math.MaxInt, math.MinInt} }
func wrongDays() []int   { return []int{0, 31, -1, 1<<32 + 1, math.MaxInt, math.MinInt} }

// strangers are numbers that are no region's.
func strangers() []int {
	return []int{-1, solar.Regions, 5, 1 << 32, -1 << 32, math.MaxInt, math.MinInt}
}

// lunarIs, solarIs and monthIs fail if the error is another one, or if something stands
// beside it.
func lunarIs(t *testing.T, year int64, p place.Place, want api.Errno) {
	t.Helper()
	if l, errno := tables.Lunar(year, p); len(l) != 0 || errno != want {
		t.Errorf("at %v, Lunar %d: %d, %s; not %d", p, year, errno, headText(l), want)
	}
}

func solarIs(t *testing.T, region int, year int64, p place.Place, want api.Errno) {
	t.Helper()
	if l, errno := tables.Solar(region, year, p); len(l) != 0 || errno != want {
		t.Errorf("at %v, Solar %d, %d: %d, %s; not %d", p, region, year, errno, headText(l), want)
	}
}

func monthIs(t *testing.T, year int64, month int, p place.Place, want api.Errno) {
	t.Helper()
	for _, leap := range []bool{false, true} {
		if l, errno := tables.Month(year, month, leap, p); len(l) != 0 || errno != want {
			t.Errorf("at %v, Month %d, %d, %t: %d, %s; not %d", p, year, month, leap, errno, rowText(l), want)
		}
	}
}

// P25.1, Lunar, Solar, Month, Birthday: a place that may not be, alone and beside a month,
// a day and a year that may not be, too: its error is first.
func TestNowhere(t *testing.T) {
	for _, p := range nowhere() {
		for _, year := range append(wrongYears(), 2039, 0, -9000, 9000) {
			lunarIs(t, year, p, api.ErrRange)
			for region := range solar.Regions {
				solarIs(t, region, year, p, api.ErrRange)
			}
			for _, month := range append(wrongMonths(), 1, 11, 12) {
				monthIs(t, year, month, p, api.ErrRange)
				for _, day := range append(wrongDays(), 1, 30) {
					birthday(t, year, month, day, p, 0, api.ErrRange)
				}
			}
		}
	}
}

// P25.1, Month, Birthday: a month and a day that may not be are told ahead of the year.
func TestWrongNumbers(t *testing.T) {
	for _, p := range []place.Place{ujjain(), northEast(), southWest()} {
		for _, year := range append(wrongYears(), 2039, 0, -9000, 9000) {
			for _, month := range wrongMonths() {
				monthIs(t, year, month, p, api.ErrArg)
				for _, day := range append(wrongDays(), 1, 30) {
					birthday(t, year, month, day, p, 0, api.ErrArg)
				}
			}
			for _, day := range wrongDays() {
				// Month 11 of 2039 is expunged.
				birthday(t, year, 11, day, p, 0, api.ErrArg)
				birthday(t, year, 12, day, p, 0, api.ErrArg)
			}
		}
	}
}

// P25.1, Lunar, Solar, Month, Birthday: a year that may not be.
func TestWrongYears(t *testing.T) {
	for _, p := range places() {
		for _, year := range wrongYears() {
			lunarIs(t, year, p, api.ErrRange)
			for region := range solar.Regions {
				solarIs(t, region, year, p, api.ErrRange)
			}
			for _, month := range []int{1, 2, 11, 12} {
				monthIs(t, year, month, p, api.ErrRange)
				birthday(t, year, month, 1, p, 0, api.ErrRange)
				birthday(t, year, month, 30, p, 0, api.ErrRange)
			}
		}
	}
}

// P25.1, Solar: a number that is no region's, ahead of a place and a year that may not be.
func TestStrangers(t *testing.T) {
	for _, region := range strangers() {
		for _, p := range append(nowhere(), places()...) {
			for _, year := range append(wrongYears(), 1921, 0, -9000, 9000) {
				solarIs(t, region, year, p, api.ErrKind)
			}
		}
	}
}

// P25.1, Month, Birthday: a leap month that isn't, and a number that is expunged; every
// leap month has another one of its number behind it, so that none is leap alone.
func TestNone(t *testing.T) {
	for _, c := range []struct {
		year  int64
		month int
		leap  bool
	}{
		{2039, 11, true}, {2039, 11, false}, {2039, 10, true}, {2039, 1, true}, {2020, 10, false}, {2020, 10, true}, {2020, 8, true}, {2085, 10, false}, {583, 10, false}, {583, 10, true}, {583, 9, true},
		{2142, 9, false}, {-6103, 11, false}, {0, 1, true}, {-1, 12, true}, {-5522, 1, true}, {-5522, 3, true}, {9000, 12, true}, {-9000, 1, true}, {8271, 3, true}, {-8156, 7, true},
	} {
		for _, p := range places() {
			if l, errno := tables.Month(c.year, c.month, c.leap, p); len(l) != 0 || errno != api.ErrNone {
				t.Errorf("at %s, Month %d, %d, %t: %d, %s", p.Text(), c.year, c.month, c.leap, errno, rowText(l))
			}
		}
	}
	for _, c := range []struct {
		year  int64
		month int
	}{{2039, 11}, {2020, 10}, {2085, 10}, {583, 10}, {2142, 9}, {-6103, 11}, {-8996, 10}} {
		for i, p := range places() {
			birthday(t, c.year, c.month, 1, p, 0, api.ErrNone)
			birthday(t, c.year, c.month, 30-i, p, 0, api.ErrNone)
		}
	}
}

// P25.1, Begin: of a month made by hand the day in which its new moon comes says which it
// is; there is none in which none comes, however far it is.
func TestByHand(t *testing.T) {
	for _, p := range places() {
		if got, want := tables.Begin(moons.Month{First: 723954}, p), tables.Begin(moons.Of(723954), p); got != want {
			t.Errorf("at %s, Begin: %d, not %d", p.Text(), got, want)
		}
		for _, n := range []int64{0, 1, 5, 723950, -3000000, 1 << 62, math.MaxInt64, math.MaxInt64 - 1, math.MaxInt64 - 2, math.MaxInt64 - 3, math.MinInt64, math.MinInt64 + 1, math.MinInt64 + 2} {
			if got := tables.Begin(moons.Month{First: n, Next: n + 29}, p); got != 0 && !seek.Comes(n) {
				t.Errorf("at %s, Begin of day %d: %d", p.Text(), n, got)
			}
		}
	}
}

// P25.1: what is done with an answer changes no other one.
func TestNothingChanges(t *testing.T) {
	for range 2 {
		c, d, e := lunarYears[0], solarYears[0], lunarMonths[0]
		l, _ := tables.Lunar(c.year, c.p)
		s, _ := tables.Solar(d.region, d.year, d.p)
		m, _ := tables.Month(e.year, e.month, e.leap, e.p)
		if headText(l) != c.heads || headText(s) != d.heads || rowText(m) != e.rows {
			t.Errorf("%s, %s, %s", headText(l), headText(s), rowText(m))
		}
		clear(l)
		clear(s)
		clear(m)
	}
}
