package tables_test

import (
	"fmt"
	"slices"
	"sort"
	"testing"

	"ephemeris/amanta"
	"ephemeris/api"
	"ephemeris/find"
	"ephemeris/moons"
	"ephemeris/orb"
	"ephemeris/place"
	"ephemeris/rat"
	"ephemeris/rise"
	"ephemeris/seek"
	"ephemeris/solar"
	"ephemeris/tables"
)

// begin is the chapter's, word by word: the first day whose sunrise is in the month.
func begin(m moons.Month, p place.Place) int64 {
	n := m.First - 3
	for seek.Last(rise.Sunrise(n, p)) != m.First {
		n++
	}
	return n
}

// monthsOf is all those that are in a year, of all numbers, by rising First.
func monthsOf(year int64) []moons.Month {
	l := []moons.Month{}
	for month := 1; month <= 12; month++ {
		l = append(l, find.Months(year, month)...)
	}
	slices.SortFunc(l, func(a, b moons.Month) int { return int(a.First - b.First) })
	return l
}

// lunar is the chapter's, word by word.
func lunar(year int64, p place.Place) []tables.Head {
	l := []tables.Head{}
	for _, m := range monthsOf(year) {
		first := begin(m, p)
		l = append(l, tables.Head{Month: m.Number(), Leap: m.Leap(), First: first, Days: int(begin(m.After(), p) - first)})
	}
	return l
}

// P25.1, Begin, Lunar: word by word, at every kind of place.
func TestLunar(t *testing.T) {
	eachPlace(t, func(t *testing.T, i int, p place.Place) {
		for _, year := range []int64{-9000 + int64(i), int64(2000*i) - 8000, int64(i) - 4, 2100 + int64(i), 9000 - int64(i)} {
			want := lunar(year, p)
			if got, errno := tables.Lunar(year, p); !slices.Equal(got, want) || errno != api.OK {
				t.Errorf("at %s, Lunar %d: %d,\n%s, not\n%s", p.Text(), year, errno, headText(got), headText(want))
			}
		}
	})
}

// beside finds places of one latitude, but one part of a degree beside each other, at the
// first of which the sun rises on a day not ahead of a moment, while at the second one it
// does so ahead of it.
func beside(n int64, at rat.Rat, lat int64) (place.Place, place.Place, bool) {
	most := int64(180 * 3600)
	there := func(lon int64) place.Place { return place.Place{Lat: lat, LatOver: 1, Lon: lon, LonOver: 3600} }
	i := sort.Search(int(2*most+1), func(i int) bool { return rise.Sunrise(n, there(int64(i)-most)).Cmp(at) < 0 })
	lon := int64(i) - most
	return there(lon - 1), there(lon), lon > -most && lon <= most
}

// P25.1, Begin: where the sun rises but a grain or two behind the new moon that is the
// month's first day, where it does so ahead of it the next day is. The month is counted by
// where the phase is 0, not by where the new moon is found by halves; likewise the days of
// the months on both sides.
func TestBeside(t *testing.T) {
	t.Parallel()
	found := 0
	for i, first := range []int64{-2999972, -2038072, -1317142, -1132930, -19, 11, 302965, 473357, 717044, 717073, 723924, 723954, 723983, 740726, 1944985, 2999994} {
		_, near := seek.NewMoon(first)
		waxes := func(t rat.Rat) bool { return orb.Phase(t).Cmp(rat.Whole(180)) < 0 }
		_, moon := seek.Bisect(near.Sub(rat.Of(1, 1024)), near, 54, waxes)
		m := moons.Of(first)
		for n := first - 1; n <= first+1; n++ {
			behind, ahead, ok := beside(n, moon, int64(8*i-60))
			if !ok {
				continue
			}
			found++
			if got := tables.Begin(m, behind); got != n || begin(m, behind) != n {
				t.Errorf("at %s, Begin of %v: %d, not %d", behind.Text(), m, got, n)
			}
			if got := tables.Begin(m, ahead); got != n+1 || begin(m, ahead) != n+1 {
				t.Errorf("at %s, Begin of %v: %d, not %d", ahead.Text(), m, got, n+1)
			}
		}
	}
	if found < 16 {
		t.Errorf("%d found", found)
	}
}

// sun is the chapter's, word by word: the first days of the months are looked for by their
// days' dates, and that of the next year by days' signs.
func sun(region int, year int64, p place.Place) []tables.Head {
	l := []tables.Head{}
	n := solar.First(region, year, 1, p)
	for month := range 12 {
		first := n
		for solar.Sign(region, n, p) == month {
			n++
		}
		l = append(l, tables.Head{Month: month + 1, First: first, Days: int(n - first)})
	}
	return l
}

// eachRegion goes through the regions, all at once, and beside other tests.
func eachRegion(t *testing.T, check func(t *testing.T, region int)) {
	t.Parallel()
	for region := range solar.Regions {
		t.Run(fmt.Sprint("region ", region), func(t *testing.T) {
			t.Parallel()
			check(t, region)
		})
	}
}

// P25.1, Solar: word by word, in each region, at every kind of place.
func TestSolar(t *testing.T) {
	eachRegion(t, func(t *testing.T, region int) {
		for i, year := range []int64{-9000, -8291, -3180, -1, 0, 1, 1900, 9000} {
			p := places()[(i+region)%8]
			want := sun(region, year, p)
			if got, errno := tables.Solar(region, year, p); !slices.Equal(got, want) || errno != api.OK {
				t.Errorf("at %s, Solar %d, %d: %d,\n%s, not\n%s", p.Text(), region, year, errno, headText(got), headText(want))
			}
		}
	})
}

// end is the first day behind a year's months.
func end(l []tables.Head) int64 {
	last := l[len(l)-1]
	return last.First + int64(last.Days)
}

// gapless fails if months aren't one behind the other, or haven't so many days as they may.
func gapless(t *testing.T, l []tables.Head, least, most int) {
	t.Helper()
	for i, h := range l {
		if h.Days < least || h.Days > most || i > 0 && h.First != l[i-1].First+int64(l[i-1].Days) {
			t.Errorf("month %d of %s", i, headText(l))
		}
	}
}

// numbered fails if a year's months by the moon don't begin with 1 and end with 12, or if
// one behind the other the numbers don't go on by one, or two, or, behind a leap one, stay.
func numbered(t *testing.T, l []tables.Head) {
	t.Helper()
	if l[0].Month != 1 || l[len(l)-1].Month != 12 || l[len(l)-1].Leap {
		t.Errorf("months %s", headText(l))
	}
	for i, h := range l[1:] {
		step := h.Month - l[i].Month
		if (step == 0) != l[i].Leap || step < 0 || step > 2 {
			t.Errorf("months %s", headText(l))
		}
	}
}

// P25.2, P25.4: years by the moon, three by three, from one end to the other, at each place.
func TestLunarYears(t *testing.T) {
	eachPlace(t, func(t *testing.T, i int, p place.Place) {
		count := [14]int{}
		for from := int64(130*i - find.MaxYear); from <= find.MaxYear-2; from += 2999 {
			next := int64(0)
			for year := from; year <= from+2; year++ {
				l, errno := tables.Lunar(year, p)
				if errno != api.OK || len(l) < 12 || len(l) > 13 {
					t.Fatalf("at %s, Lunar %d: %d, %s", p.Text(), year, errno, headText(l))
				}
				gapless(t, l, 29, 30)
				numbered(t, l)
				if year > from && l[0].First != next {
					t.Errorf("at %s, Lunar %d begins with %d, not with %d", p.Text(), year, l[0].First, next)
				}
				next = end(l)
				count[len(l)]++
			}
		}
		if count[12] < 8 || count[13] < 4 {
			t.Errorf("at %s: %d years with 12 months, %d with 13", p.Text(), count[12], count[13])
		}
	})
}

// P25.2, P25.4: likewise of the last years that may be asked for, and by the sun, in each
// region, at each place: months have from 1 to 12 as their numbers, and none is leap.
func TestSolarYears(t *testing.T) {
	eachRegion(t, func(t *testing.T, region int) {
		for i, p := range places() {
			for _, from := range []int64{-9000, int64(1900*i) - 7000 + int64(region), 8999} {
				next := int64(0)
				for year := from; year <= min(from+2, solar.MaxYear); year++ {
					l, errno := tables.Solar(region, year, p)
					if errno != api.OK || len(l) != 12 {
						t.Fatalf("at %s, Solar %d, %d: %d, %s", p.Text(), region, year, errno, headText(l))
					}
					gapless(t, l, 28, 32)
					for k, h := range l {
						if h.Month != k+1 || h.Leap || h.First != solar.First(region, year, k+1, p) {
							t.Errorf("at %s, Solar %d, %d: %s", p.Text(), region, year, headText(l))
						}
					}
					if year > from && l[0].First != next {
						t.Errorf("at %s, Solar %d, %d begins with %d, not with %d", p.Text(), region, year, l[0].First, next)
					}
					next = end(l)
				}
			}
		}
	})
}

// P25.2, P25.4: at both ends of the years the first one, and the last one, are as others.
func TestEnds(t *testing.T) {
	eachPlace(t, func(t *testing.T, i int, p place.Place) {
		for _, year := range []int64{-find.MaxYear, find.MaxYear - 1} {
			l, errno := tables.Lunar(year, p)
			next, e := tables.Lunar(year+1, p)
			if errno != api.OK || e != api.OK || next[0].First != end(l) {
				t.Errorf("at %s, Lunar %d: %d, %d, %s, then %s", p.Text(), year, errno, e, headText(l), headText(next))
			}
			gapless(t, slices.Concat(l, next), 29, 30)
		}
	})
}

// inMonth are the days around a month whose dates are in it, as rows.
func inMonth(m moons.Month, year int64, p place.Place) []tables.Row {
	l := []tables.Row{}
	for n := m.First - 2; n <= m.Next+3; n++ {
		if d := amanta.Label(n, p); d.Year == year && d.Month == m.Number() && d.Leap == m.Leap() {
			l = append(l, tables.Row{Day: n, Lunar: d.Day, Again: d.Again})
		}
	}
	return l
}

// P25.1, P25.3, Month: the days of a month are those whose dates are in it; months of each
// number, at each place, leap ones and the others.
func TestMonth(t *testing.T) {
	eachPlace(t, func(t *testing.T, i int, p place.Place) {
		for k, year := range []int64{-9000, -3044, 0, 2020, 2039, 8271, 9000} {
			for j, m := range monthsOf(year) {
				if (j+i+k)%11 != 0 && (!m.Leap() || i%2 == 0) {
					continue
				}
				want := inMonth(m, year, p)
				if got, errno := tables.Month(year, m.Number(), m.Leap(), p); !slices.Equal(got, want) || errno != api.OK {
					t.Errorf("at %s, Month %d, %d, %t: %d,\n%s, not\n%s", p.Text(), year, m.Number(), m.Leap(), errno, rowText(got), rowText(want))
				}
				if first := tables.Begin(m, p); len(want) == 0 || first != want[0].Day {
					t.Errorf("at %s, Begin of %v: %d", p.Text(), m, first)
				}
			}
		}
	})
}

// P25.1, P25.3: the rows of all months of a year are its heads' days; a number that isn't
// there, or isn't leap, or is alone, has none.
func TestMonthsOfYear(t *testing.T) {
	eachPlace(t, func(t *testing.T, i int, p place.Place) {
		year := []int64{2039, 583, 2020, -5522, 0, 9000, -8156, 8271}[i]
		heads, _ := tables.Lunar(year, p)
		got := []tables.Head{}
		for month := 1; month <= 12; month++ {
			for _, leap := range []bool{true, false} {
				l, errno := tables.Month(year, month, leap, p)
				if errno == api.ErrNone && len(l) == 0 {
					continue
				}
				if errno != api.OK || len(l) == 0 {
					t.Fatalf("at %s, Month %d, %d, %t: %d, %s", p.Text(), year, month, leap, errno, rowText(l))
				}
				got = append(got, tables.Head{Month: month, Leap: leap, First: l[0].Day, Days: len(l)})
			}
		}
		if !slices.Equal(got, heads) {
			t.Errorf("at %s, %d: %s, not %s", p.Text(), year, headText(got), headText(heads))
		}
	})
}

// born is the chapter's, word by word.
func born(year int64, month, day int, p place.Place) (int64, api.Errno) {
	l := find.Months(year, month)
	if len(l) == 0 {
		return 0, api.ErrNone
	}
	m := l[len(l)-1]
	n, next := begin(m, p), begin(m.After(), p)
	for n < next && orb.Tithi(rise.Sunrise(n, p)) < day {
		n++
	}
	if n < -api.MaxDay || n > api.MaxDay {
		return 0, api.ErrRange
	}
	return n, api.OK
}

// P25.1, Birthday: word by word, at every kind of place.
func TestBirthday(t *testing.T) {
	eachPlace(t, func(t *testing.T, i int, p place.Place) {
		for k, year := range []int64{-8157, -8156, -5522, -1, 583, 2020, 2039, 8271, 9000} {
			for month := 1 + (i+k)%5; month <= 12; month += 5 {
				for _, day := range []int{2 + (i+5*k+month)%28, 30} {
					want, errno := born(year, month, day, p)
					birthday(t, year, month, day, p, want, errno)
				}
			}
		}
	})
}

// P25.1: a lunar day's birthday is the day with that date, if there is one: of a number
// with a leap month in the other one; if it comes twice, the first of both.
func TestFound(t *testing.T) {
	eachPlace(t, func(t *testing.T, i int, p place.Place) {
		for _, month := range []int{7, 12} {
			for day := 1 + i%3; day <= 30; day += 3 {
				d := amanta.Date{Year: 2039, Month: month, Day: day}
				if n, errno := find.Fixed(d, p); errno == api.OK {
					birthday(t, d.Year, d.Month, d.Day, p, n, api.OK)
				}
			}
		}
	})
}
