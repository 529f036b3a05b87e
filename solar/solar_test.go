package solar_test

import (
	"fmt"
	"math"
	"sort"
	"testing"

	"ephemeris/api"
	"ephemeris/cut"
	"ephemeris/mean"
	"ephemeris/nat"
	"ephemeris/orb"
	"ephemeris/place"
	"ephemeris/rat"
	"ephemeris/rise"
	"ephemeris/seek"
	"ephemeris/solar"
	"ephemeris/whole"
)

// The days that may be begin in month 6 of firstYear and end in month 2 of lastYear, in
// each region, at each place.
const (
	firstYear = -8291
	lastYear  = 8136
)

// The places that may be, at their edges: far to the north and to the south, far to the
// east and to the west of Ujjain; and others.
func ujjain() place.Place    { return place.Ujjain() }
func northEast() place.Place { return place.Place{Lat: 60, LatOver: 1, Lon: 180, LonOver: 1} }
func southWest() place.Place { return place.Place{Lat: -60, LatOver: 1, Lon: -180, LonOver: 1} }
func northWest() place.Place { return place.Place{Lat: 60, LatOver: 1, Lon: -180, LonOver: 1} }
func southEast() place.Place { return place.Place{Lat: -60, LatOver: 1, Lon: 180, LonOver: 1} }
func equator() place.Place   { return place.Place{LatOver: 1, LonOver: 1} }

func places() []place.Place {
	return []place.Place{ujjain(), northEast(), southWest(), northWest(), southEast(), equator(),
		{Lat: 216000, LatOver: 3600, Lon: 45461, LonOver: 600}, {Lat: -7, LatOver: 3600, Lon: -647999, LonOver: 3600}}
}

// strangers are numbers that are no region.
func strangers() []int {
	return []int{-1, solar.Regions, 5, 1 << 32, -1 << 32, math.MaxInt, math.MinInt}
}

// eachRegion goes through the regions, all at once, and beside other tests.
func eachRegion(t *testing.T, check func(t *testing.T, region int)) {
	t.Parallel()
	for region := range solar.Regions {
		t.Run(fmt.Sprint("region ", region), func(t *testing.T) {
			t.Parallel()
			check(t, region)
		})
	}
}

// tiny is less than any step by which moments are looked for.
func tiny() rat.Rat {
	return rat.Make(whole.Of(1), whole.Int{Abs: nat.Nat{0, 0, 0, 1}})
}

// critical is the chapter's, word by word; of Malayali as what two parts of the sunrise
// and three of the sunset make.
func critical(region int, n int64, p place.Place) rat.Rat {
	switch region {
	case 0:
		return rise.Sunrise(n+1, p)
	case 1:
		return rise.Sunset(n, p)
	case 2:
		fifths := rise.Sunrise(n, p).Mul(rat.Whole(2)).Add(rise.Sunset(n, p).Mul(rat.Whole(3)))
		return cut.Of(cut.Floor(fifths.Mul(rat.Of(1<<20, 5)))).Mul(rat.Of(1, 1<<20))
	}
	return rat.Whole(n).Add(rat.Whole(1))
}

// count is how many years of the sun there were: whole ways by the mean sun, of which
// the sun itself is the one behind that it is nearest to.
func count(t rat.Rat) int64 {
	ways, _ := cut.Days(t.Sub(rat.Whole(api.Kali)).Div(mean.Year()))
	ahead := mean.Sun(t).Sub(orb.Sun(t))
	switch {
	case ahead.Cmp(rat.Whole(180)) >= 0:
		return ways + 1
	case ahead.Cmp(rat.Whole(-180)) < 0:
		return ways - 1
	}
	return ways
}

// sign is the sun's, on a day.
func sign(region int, n int64, p place.Place) int {
	return orb.At(critical(region, n, p)).Sign
}

// dateOf is the chapter's, word by word: the days ahead with the same sign are counted
// one by one. Also of days that may not be.
func dateOf(region int, n int64, p place.Place) solar.Date {
	d := solar.Date{Year: count(critical(region, n, p)) - 3179, Month: sign(region, n, p) + 1, Day: 1}
	for sign(region, n-int64(d.Day), p) == d.Month-1 {
		d.Day++
	}
	return d
}

// is fails if day and date aren't each other's.
func is(t *testing.T, region int, day int64, p place.Place, date solar.Date) {
	t.Helper()
	if got, errno := solar.Of(region, day, p); got != date || errno != api.OK {
		t.Errorf("region %d at %s, Of %d: %v, %d; not %v", region, p.Text(), day, got, errno, date)
	}
	if got, errno := solar.Fixed(region, date, p); got != day || errno != api.OK {
		t.Errorf("region %d at %s, Fixed of %v: %d, %d; not %d", region, p.Text(), date, got, errno, day)
	}
}

// isNone fails if a date has a day, or an error other than that it has none.
func isNone(t *testing.T, region int, p place.Place, date solar.Date) {
	t.Helper()
	if got, errno := solar.Fixed(region, date, p); got != 0 || errno != api.ErrNone {
		t.Errorf("region %d at %s, Fixed of %v: %d, %d", region, p.Text(), date, got, errno)
	}
}

// P18.1: what is numbered.
func TestNumbers(t *testing.T) {
	if solar.Orissa != 0 || solar.Tamil != 1 || solar.Malayali != 2 || solar.Bengal != 3 || solar.Regions != 4 || solar.Era != 3179 || solar.MaxYear != 9000 {
		t.Errorf("%d %d %d %d %d, %d, %d", solar.Orissa, solar.Tamil, solar.Malayali, solar.Bengal, solar.Regions, solar.Era, solar.MaxYear)
	}
}

// P18.1, Critical: of a day, of both ends of the days that may be, and of the farthest
// ones that are asked of; each in the four regions.
func TestCriticalKnown(t *testing.T) {
	for _, c := range []struct {
		n    int64
		p    place.Place
		want [4]string
	}{
		{730120, ujjain(), [4]string{"382793825941/524288", "765587066313/1048576", "765586881109/1048576", "730121"}},
		{730120, northEast(), [4]string{"765587460383/1048576", "765586650021/1048576", "765586554973/1048576", "730121"}},
		{730120, southWest(), [4]string{"23924631941/32768", "765587986863/1048576", "382793830601/524288", "730121"}},
		{730120, northWest(), [4]string{"765588508959/1048576", "765587698597/1048576", "765587603549/1048576", "730121"}},
		{730120, southEast(), [4]string{"23924599173/32768", "765586938287/1048576", "382793306313/524288", "730121"}},
		{730120, equator(), [4]string{"23924620039/32768", "382793659221/524288", "765587108087/1048576", "730121"}},
		{-3000000, ujjain(), [4]string{"-3145726715983/1048576", "-1572863598069/524288", "-1572863711829/524288", "-2999999"}},
		{-3000000, southWest(), [4]string{"-1572862929991/524288", "-786431641125/262144", "-786431675337/262144", "-2999999"}},
		{3000000, ujjain(), [4]string{"3145729285427/1048576", "1572864409507/524288", "3145728586287/1048576", "3000001"}},
		{3000000, northEast(), [4]string{"1572864442171/524288", "3145728611793/1048576", "3145728301965/1048576", "3000001"}},
		{-1 << 23, ujjain(), [4]string{"-4398045855963/524288", "-1099511530129/131072", "-8796092449057/1048576", "-8388607"}},
		{1 << 23, ujjain(), [4]string{"8796094330755/1048576", "2199023456287/262144", "4398046804081/524288", "8388609"}},
	} {
		for region, want := range c.want {
			if got := cut.Text(solar.Critical(region, c.n, c.p)); got != want {
				t.Errorf("region %d at %s, Critical of %d: %s, not %s", region, c.p.Text(), c.n, got, want)
			}
		}
	}
}

// far are days: ordinary ones, ends, and days around which signs, or years, change.
func far() []int64 {
	return []int64{-1 << 23, 1<<23 - 1, -api.MaxDay - 1, -api.MaxDay, api.MaxDay, api.MaxDay + 1, api.Kali, -1, 0, 1, 7, 28195, 28196, 730120, 730223, -3259133, 3315524}
}

// P18.1, Critical, Sign: at every kind of place; of a number that is no region the
// critical moment is Bengal's.
func TestCritical(t *testing.T) {
	if got := solar.Critical(solar.Bengal, 7, ujjain()); !got.Same(rat.Whole(8)) {
		t.Errorf("Bengal's critical moment of day 7: %s", cut.Text(got))
	}
	for _, n := range far() {
		for _, p := range places() {
			for _, region := range append(strangers(), 0, 1, 2, 3) {
				want := critical(region, n, p)
				if got := solar.Critical(region, n, p); !got.Same(want) {
					t.Errorf("region %d at %s, Critical of %d: %s, not %s", region, p.Text(), n, cut.Text(got), cut.Text(want))
				}
				if got := solar.Sign(region, n, p); got != orb.At(want).Sign {
					t.Errorf("region %d at %s, Sign of %d: %d, not %d", region, p.Text(), n, got, orb.At(want).Sign)
				}
			}
		}
	}
}

// P18.1, Sign: of the days around which the sun enters the first sign, and the last one.
func TestSignKnown(t *testing.T) {
	for _, c := range []struct {
		region int
		n      int64
		p      place.Place
		want   int
	}{
		{0, 730222, ujjain(), 11}, {0, 730223, ujjain(), 0}, {1, 730222, ujjain(), 11}, {1, 730223, ujjain(), 0}, {2, 730223, ujjain(), 11}, {2, 730224, ujjain(), 0}, {3, 730222, ujjain(), 11}, {3, 730223, ujjain(), 0},
		{-1, 730222, ujjain(), 11}, {4, 730223, ujjain(), 0}, {1, 730223, northEast(), 11}, {1, 730224, northEast(), 0}, {0, 730221, southWest(), 11}, {0, 730222, southWest(), 0}, {2, 730222, southWest(), 11}, {2, 730223, southWest(), 0},
		{0, 730316, ujjain(), 2}, {0, 730317, ujjain(), 3}, {2, 730317, ujjain(), 2}, {2, 730318, ujjain(), 3}, {0, -3258799, ujjain(), 10}, {0, -3258798, ujjain(), 11}, {0, 3315523, ujjain(), 11}, {0, 3315524, ujjain(), 0},
	} {
		if got := solar.Sign(c.region, c.n, c.p); got != c.want {
			t.Errorf("region %d at %s, Sign of %d: %d, not %d", c.region, c.p.Text(), c.n, got, c.want)
		}
	}
}

// P18.1, Count: of moments near and far; the sun enters its first sign ahead of day Kali,
// while the mean sun does with it. At the creation it is there just then.
func TestCount(t *testing.T) {
	creation := mean.Creation()
	// So many days behind the creation the sun and its speed are where they were there.
	round := rat.Whole(1577917828000)
	for _, c := range []struct {
		t    rat.Rat
		want int64
	}{
		{rat.Whole(api.Kali), 0}, {rat.Whole(api.Kali - 1), 0}, {rat.Whole(api.Kali - 2), 0}, {rat.Whole(api.Kali - 3), -1}, {rat.Whole(api.Kali + 3), 0}, {rat.Whole(api.Kali + 360), 0}, {rat.Whole(api.Kali + 367), 1},
		{rat.Rat{}, 3101}, {rat.Of(1, 3), 3101}, {rat.Of(-7, 2), 3101}, {rat.Whole(730120), 5100}, {rat.Whole(3000000), 11315}, {rat.Whole(-3000000), -5112}, {rat.Whole(1e12), 2737788253}, {rat.Whole(-1e12), -2737782050},
		{creation, -1955880000}, {creation.Sub(tiny()), -1955880001}, {creation.Add(tiny()), -1955880000}, {creation.Add(round), -1955880000 + 4320000000}, {creation.Add(round).Sub(tiny()), -1955880001 + 4320000000}, {creation.Sub(round), -1955880000 - 4320000000}, {creation.Sub(round).Sub(tiny()), -1955880001 - 4320000000},
	} {
		if got := solar.Count(c.t); got != c.want {
			t.Errorf("Count at %s: %d, not %d", cut.Text(c.t), got, c.want)
		}
	}
	for n := int64(-api.MaxDay); n <= api.MaxDay; n += 2711 {
		at := rat.Whole(n).Add(rat.Of(n%7, 11))
		if got := solar.Count(at); got != count(at) {
			t.Errorf("Count at %s: %d, not %d", cut.Text(at), got, count(at))
		}
	}
}

// P18.1, Count: it is one more from where the sun enters the first sign on, in no other
// moment of the year.
func TestCountGrows(t *testing.T) {
	for _, year := range []int64{-12000, -5112, -1, 0, 1, 3179, 5100, 11315, 12200} {
		near, _ := cut.Days(mean.Year().Mul(rat.Whole(year)).Add(rat.Whole(api.Kali)))
		begin := rat.Whole(near - 5)
		lo, hi := seek.Bisect(begin, rat.Whole(near+5), 64, func(t rat.Rat) bool { return orb.At(t).Sign == 0 })
		if solar.Count(lo) != year-1 || solar.Count(hi) != year {
			t.Errorf("year %d: %d, then %d", year, solar.Count(lo), solar.Count(hi))
		}
		for n := int64(0); n < 355; n += 6 {
			if got := solar.Count(hi.Add(rat.Whole(n))); got != year {
				t.Errorf("year %d, %d days behind its begin: %d", year, n, got)
			}
		}
	}
}

// P18.1, Count: where years are more than a number of 64 bits holds it ends all the same.
func TestCountFar(t *testing.T) {
	huge := rat.Make(whole.Int{Abs: nat.Nat{0, 0, 0, 0, 1}}, whole.Of(3))
	for _, at := range []rat.Rat{huge, huge.Opp()} {
		if got := solar.Count(at); got != 0 {
			t.Errorf("Count at %s: %d", cut.Text(at), got)
		}
	}
}

// known are days whose dates in Orissa, at Ujjain, are in books.
var known = []struct {
	day  int64
	date solar.Date
}{
	{-214193, solar.Date{Year: -664, Month: 5, Day: 19}},
	{-61387, solar.Date{Year: -246, Month: 9, Day: 26}},
	{25469, solar.Date{Year: -8, Month: 7, Day: 9}},
	{49217, solar.Date{Year: 57, Month: 7, Day: 16}},
	{171307, solar.Date{Year: 391, Month: 10, Day: 21}},
	{210155, solar.Date{Year: 498, Month: 2, Day: 31}},
	{253427, solar.Date{Year: 616, Month: 8, Day: 16}},
	{369740, solar.Date{Year: 935, Month: 1, Day: 28}},
	{434355, solar.Date{Year: 1111, Month: 12, Day: 23}},
	{470160, solar.Date{Year: 1210, Month: 1, Day: 2}},
	{524156, solar.Date{Year: 1357, Month: 10, Day: 30}},
	{601716, solar.Date{Year: 1570, Month: 3, Day: 3}},
	{671401, solar.Date{Year: 1760, Month: 12, Day: 16}},
	{709580, solar.Date{Year: 1865, Month: 6, Day: 21}},
	{728714, solar.Date{Year: 1917, Month: 11, Day: 13}},
	{744313, solar.Date{Year: 1960, Month: 7, Day: 24}},
	{764652, solar.Date{Year: 2016, Month: 4, Day: 2}},
}

// P18.1, P18.2: days and dates that are known.
func TestKnown(t *testing.T) {
	for _, c := range known {
		is(t, solar.Orissa, c.day, ujjain(), c.date)
	}
}

// P18.1, P18.2: both ends of the days that may be, and the days just beyond, of which
// there is no date, while others' dates count them.
func TestEnds(t *testing.T) {
	for _, c := range []struct {
		p           place.Place
		first, last [4]int // the Day of the first day that may be, and of the last one, in each region
	}{
		{ujjain(), [4]int{9, 9, 8, 9}, [4]int{29, 29, 28, 29}}, {northEast(), [4]int{9, 8, 8, 9}, [4]int{29, 28, 28, 29}}, {southWest(), [4]int{10, 9, 9, 9}, [4]int{30, 29, 29, 29}},
		{northWest(), [4]int{10, 9, 9, 9}, [4]int{30, 29, 29, 29}}, {southEast(), [4]int{9, 8, 8, 9}, [4]int{29, 28, 28, 29}}, {equator(), [4]int{9, 9, 9, 9}, [4]int{29, 29, 29, 29}},
	} {
		for region := range solar.Regions {
			first, last := c.first[region], c.last[region]
			is(t, region, -api.MaxDay, c.p, solar.Date{Year: firstYear, Month: 6, Day: first})
			is(t, region, 1-api.MaxDay, c.p, solar.Date{Year: firstYear, Month: 6, Day: first + 1})
			is(t, region, api.MaxDay, c.p, solar.Date{Year: lastYear, Month: 2, Day: last})
			is(t, region, api.MaxDay-1, c.p, solar.Date{Year: lastYear, Month: 2, Day: last - 1})
			for _, day := range []int64{-api.MaxDay - 1, api.MaxDay + 1, -api.MaxDay - 400, api.MaxDay + 400, 1 << 32, -1 << 32, 1<<32 + 730120, math.MaxInt64, math.MinInt64} {
				if got, errno := solar.Of(region, day, c.p); got != (solar.Date{}) || errno != api.ErrRange {
					t.Errorf("region %d at %s, Of %d: %v, %d", region, c.p.Text(), day, got, errno)
				}
			}
			isNone(t, region, c.p, solar.Date{Year: firstYear, Month: 6, Day: first - 1})
			isNone(t, region, c.p, solar.Date{Year: firstYear, Month: 6, Day: 1})
			isNone(t, region, c.p, solar.Date{Year: firstYear, Month: 5, Day: 31})
			isNone(t, region, c.p, solar.Date{Year: lastYear, Month: 2, Day: last + 1})
			isNone(t, region, c.p, solar.Date{Year: lastYear, Month: 2, Day: 32})
			isNone(t, region, c.p, solar.Date{Year: lastYear, Month: 3, Day: 1})
		}
	}
}

// walk asks of day behind day, which are held against the signs, one by one.
func walk(t *testing.T, region int, from int64, days int, p place.Place) {
	t.Helper()
	date := dateOf(region, from, p)
	for day := from; ; day++ {
		is(t, region, day, p, date)
		if day == from+int64(days)-1 {
			return
		}
		date.Day++
		if s := sign(region, day+1, p) + 1; s != date.Month {
			date = solar.Date{Year: count(critical(region, day+1, p)) - 3179, Month: s, Day: 1}
		}
	}
}

// P18.1, P18.2: each day has the date that the chapter says, and is that date's day: ends,
// years 0 and below, and others.
func TestThereAndBack(t *testing.T) {
	eachRegion(t, func(t *testing.T, region int) {
		for i, from := range []int64{-api.MaxDay, -2000000, api.Kali - 60, 27860, 28110, 730100, api.MaxDay - 99} {
			all := places()
			walk(t, region, from, 100, all[(i+region)%len(all)])
		}
	})
}

// P18.2: likewise of days from one end to the other.
func TestAllTheWay(t *testing.T) {
	eachRegion(t, func(t *testing.T, region int) {
		all := places()
		for day, i := int64(-api.MaxDay), 0; day <= api.MaxDay; day, i = day+40009, i+1 {
			p := all[i%len(all)]
			is(t, region, day, p, dateOf(region, day, p))
		}
	})
}

// P18.2: no two days of a year have one date; of all that a date could be, those and
// only those have a day that a day has, also where some days may not be.
func TestAllDates(t *testing.T) {
	eachRegion(t, func(t *testing.T, region int) {
		all := places()
		for i, year := range []int64{firstYear, -1, 1922, lastYear} {
			p := all[(i+2*region)%len(all)]
			day := solar.First(region, year, 1, p)
			for month := 1; month <= 12; month++ {
				for d := 0; d <= 33; d++ {
					date := solar.Date{Year: year, Month: month, Day: d}
					want, errno := int64(0), api.ErrArg
					if d >= 1 && d <= 32 {
						errno = api.ErrNone
					}
					if d > 0 && sign(region, day, p) == month-1 {
						if day >= -3000000 && day <= 3000000 {
							want, errno = day, api.OK
						}
						day++
					}
					if got, e := solar.Fixed(region, date, p); got != want || e != errno {
						t.Fatalf("region %d at %s, Fixed of %v: %d, %d; not %d, %d", region, p.Text(), date, got, e, want, errno)
					}
				}
			}
			if next := solar.First(region, year+1, 1, p); day != next {
				t.Errorf("region %d at %s: year %d ends with %d, not %d", region, p.Text(), year, day, next)
			}
		}
	})
}

// entry is when the sun enters the sign of a month that begins about a day: two moments,
// one just ahead of it and one not.
func entry(around int64) (rat.Rat, rat.Rat) {
	begin := rat.Whole(around - 8)
	old := orb.At(begin).Sign
	return seek.Bisect(begin, rat.Whole(around+8), 64, func(t rat.Rat) bool { return orb.At(t).Sign != old })
}

// P18.3: a month begins with the first day whose critical moment isn't ahead of the sun's
// entry; the day ahead of it is the last one of the month ahead, which has from 28 to 32.
func TestEntry(t *testing.T) {
	eachRegion(t, func(t *testing.T, region int) {
		all := places()
		for i := range int64(7 * 12) {
			year, month, p := -8100+i*193, int(i%12)+1, all[i%7]
			first := solar.First(region, year, month, p)
			lo, hi := entry(first)
			if orb.At(hi).Sign != month-1 || count(hi)-3179 != year {
				t.Fatalf("region %d at %s, month %d of %d: %d", region, p.Text(), month, year, first)
			}
			if critical(region, first-1, p).Cmp(lo) > 0 || critical(region, first, p).Cmp(hi) < 0 {
				t.Errorf("region %d at %s, First of month %d of %d: %d", region, p.Text(), month, year, first)
			}
			if day, errno := solar.Fixed(region, solar.Date{Year: year, Month: month, Day: 1}, p); day != first || errno != api.OK {
				t.Errorf("region %d at %s, day 1 of month %d of %d: %d, %d", region, p.Text(), month, year, day, errno)
			}
			last, errno := solar.Of(region, first-1, p)
			ahead := solar.Date{Year: year, Month: month - 1, Day: last.Day}
			if month == 1 {
				ahead.Year, ahead.Month = year-1, 12
			}
			if last != ahead || errno != api.OK || last.Day < 28 || last.Day > 32 {
				t.Errorf("region %d at %s, ahead of month %d of %d: %v, %d", region, p.Text(), month, year, last, errno)
			}
		}
	})
}

// P18.3: months of years one behind the other, their lengths, and where they begin: there
// are some of 29 to 32 days, none of 28.
func TestLengths(t *testing.T) {
	eachRegion(t, func(t *testing.T, region int) {
		for i, from := range []int64{-9000, -8, 1910, 8992} {
			p := places()[i]
			lengths := map[int64]int{}
			day := solar.First(region, from, 1, p)
			for year := from; year < from+8; year++ {
				for month := 1; month <= 12; month++ {
					next := solar.First(region, year, month%12+1, p)
					if month == 12 {
						next = solar.First(region, year+1, 1, p)
					}
					lengths[next-day]++
					if sign(region, day, p) != month-1 || sign(region, next-1, p) != month-1 || sign(region, next, p) != month%12 {
						t.Errorf("region %d at %s, month %d of %d: from %d to %d", region, p.Text(), month, year, day, next)
					}
					day = next
				}
			}
			if len(lengths) != 4 || lengths[29] == 0 || lengths[30] == 0 || lengths[31] == 0 || lengths[32] == 0 {
				t.Errorf("region %d at %s, from year %d on: %v", region, p.Text(), from, lengths)
			}
		}
	})
}

// P18.1, First: years at both ends, and those beside year 0.
func TestFirst(t *testing.T) {
	months := []struct {
		year  int64
		month int
	}{{-9000, 1}, {-9000, 12}, {9000, 1}, {9000, 12}, {0, 1}, {-1, 12}, {1922, 1}, {1922, 4}, {-3179, 1}}
	for _, c := range []struct {
		region int
		p      place.Place
		want   [9]int64
	}{
		{0, ujjain(), [9]int64{-3259133, -3258798, 3315524, 3315859, 28196, 28165, 730223, 730317, -1132962}},
		{1, ujjain(), [9]int64{-3259133, -3258798, 3315525, 3315860, 28196, 28166, 730223, 730317, -1132961}},
		{2, ujjain(), [9]int64{-3259132, -3258798, 3315525, 3315860, 28196, 28166, 730224, 730318, -1132961}},
		{3, ujjain(), [9]int64{-3259133, -3258798, 3315525, 3315860, 28196, 28166, 730223, 730317, -1132962}},
		{0, northEast(), [9]int64{-3259133, -3258798, 3315525, 3315860, 28196, 28166, 730223, 730317, -1132962}},
		{1, northEast(), [9]int64{-3259132, -3258797, 3315525, 3315860, 28196, 28166, 730224, 730318, -1132961}},
		{2, northEast(), [9]int64{-3259132, -3258797, 3315525, 3315860, 28197, 28166, 730224, 730318, -1132961}},
		{3, northEast(), [9]int64{-3259133, -3258798, 3315525, 3315860, 28196, 28166, 730223, 730317, -1132962}},
		{0, southWest(), [9]int64{-3259134, -3258799, 3315524, 3315859, 28195, 28165, 730222, 730316, -1132963}},
		{1, southWest(), [9]int64{-3259133, -3258799, 3315524, 3315859, 28195, 28165, 730223, 730317, -1132962}},
		{2, southWest(), [9]int64{-3259133, -3258798, 3315524, 3315859, 28196, 28165, 730223, 730317, -1132962}},
		{3, southWest(), [9]int64{-3259133, -3258798, 3315525, 3315860, 28196, 28166, 730223, 730317, -1132962}},
	} {
		for i, m := range months {
			if got := solar.First(c.region, m.year, m.month, c.p); got != c.want[i] {
				t.Errorf("region %d at %s, First of month %d of %d: %d, not %d", c.region, c.p.Text(), m.month, m.year, got, c.want[i])
			}
		}
	}
}

// P18.2: the last day of a year and the first one of the next, and of year 0.
func TestYears(t *testing.T) {
	for _, c := range []struct {
		region int
		day    int64
		p      place.Place
		date   solar.Date
	}{
		{0, 28164, ujjain(), solar.Date{Year: -1, Month: 11, Day: 30}}, {0, 28165, ujjain(), solar.Date{Year: -1, Month: 12, Day: 1}}, {0, 28195, ujjain(), solar.Date{Year: -1, Month: 12, Day: 31}}, {0, 28196, ujjain(), solar.Date{Year: 0, Month: 1, Day: 1}},
		{1, 28195, ujjain(), solar.Date{Year: -1, Month: 12, Day: 30}}, {1, 28196, ujjain(), solar.Date{Year: 0, Month: 1, Day: 1}}, {2, 28196, northEast(), solar.Date{Year: -1, Month: 12, Day: 31}}, {2, 28197, northEast(), solar.Date{Year: 0, Month: 1, Day: 1}},
		{0, 28194, southWest(), solar.Date{Year: -1, Month: 12, Day: 30}}, {0, 28195, southWest(), solar.Date{Year: 0, Month: 1, Day: 1}}, {0, 730222, ujjain(), solar.Date{Year: 1921, Month: 12, Day: 30}}, {0, 730223, ujjain(), solar.Date{Year: 1922, Month: 1, Day: 1}},
		{2, 730223, ujjain(), solar.Date{Year: 1921, Month: 12, Day: 31}}, {2, 730224, ujjain(), solar.Date{Year: 1922, Month: 1, Day: 1}}, {0, -1132963, ujjain(), solar.Date{Year: -3180, Month: 12, Day: 30}}, {0, -1132962, ujjain(), solar.Date{Year: -3179, Month: 1, Day: 1}},
		{1, -1132962, ujjain(), solar.Date{Year: -3180, Month: 12, Day: 31}}, {1, -1132961, ujjain(), solar.Date{Year: -3179, Month: 1, Day: 1}}, {3, api.Kali, ujjain(), solar.Date{Year: -3179, Month: 1, Day: 4}},
	} {
		is(t, c.region, c.day, c.p, c.date)
	}
}

// crossing finds places of one latitude, but one part of a degree beside each other, at
// the first of which the critical moment of a day isn't ahead of a moment, while at the
// second one it is.
func crossing(region int, n int64, at rat.Rat, lat int64) (place.Place, place.Place, bool) {
	most := int64(180 * 3600)
	there := func(lon int64) place.Place { return place.Place{Lat: lat, LatOver: 1, Lon: lon, LonOver: 3600} }
	i := sort.Search(int(2*most+1), func(i int) bool {
		return critical(region, n, there(int64(i)-most)).Cmp(at) < 0
	})
	lon := int64(i) - most
	return there(lon - 1), there(lon), lon > -most && lon <= most
}

// P18.3: where the critical moment is but a grain or two ahead of the sun's entry, or
// behind it, the day is the last one of a month, or the first one.
func TestBeside(t *testing.T) {
	grains := rat.Of(2, rise.Grains)
	eachRegion(t, func(t *testing.T, region int) {
		if region == solar.Bengal {
			return // where its moments are no place moves
		}
		found := 0
		for i := range int64(12) {
			year, month, lat := -8000+i*1390, int(i)+1, -60+10*i
			around := solar.First(region, year, month, ujjain())
			lo, hi := entry(around)
			for n := around - 1; n <= around+1; n++ {
				behind, ahead, ok := crossing(region, n, hi, lat)
				if !ok {
					continue
				}
				found++
				if critical(region, n, ahead).Sub(lo).Abs().Cmp(grains) > 0 || critical(region, n, behind).Sub(hi).Cmp(grains) > 0 {
					t.Fatalf("region %d: day %d isn't beside month %d of %d", region, n, month, year)
				}
				first := solar.Date{Year: year, Month: month, Day: 1}
				is(t, region, n, behind, first)
				is(t, region, n+1, ahead, first)
				is(t, region, n, ahead, dateOf(region, n, ahead))
				is(t, region, n-1, behind, dateOf(region, n-1, behind))
				if a, b := solar.First(region, year, month, behind), solar.First(region, year, month, ahead); a != n || b != n+1 {
					t.Errorf("region %d, month %d of %d: %d, %d, beside %d", region, month, year, a, b, n)
				}
			}
		}
		if found < 12 {
			t.Errorf("region %d: %d found", region, found)
		}
	})
}

// P18.1, Fixed: years up to 9000 away from 0 have no days that may be; those beyond may
// not be themselves.
func TestFarYears(t *testing.T) {
	for region := range solar.Regions {
		for _, p := range []place.Place{ujjain(), northEast(), southWest()} {
			for _, year := range []int64{-9000, 9000, -8999, 8999, -8292, 8137} {
				for _, d := range []solar.Date{{Year: year, Month: 1, Day: 1}, {Year: year, Month: 12, Day: 29}, {Year: year, Month: 7, Day: 32}} {
					isNone(t, region, p, d)
				}
			}
			for _, year := range []int64{-9001, 9001, -9002, 10000, 1 << 32, -1 << 32, 1<<32 + 1922, math.MaxInt64, math.MinInt64} {
				for _, d := range []solar.Date{{Year: year, Month: 1, Day: 1}, {Year: year, Month: 12, Day: 32}} {
					if got, errno := solar.Fixed(region, d, p); got != 0 || errno != api.ErrRange {
						t.Errorf("region %d, Fixed of %v: %d, %d", region, d, got, errno)
					}
				}
			}
		}
	}
}

// P18.1, Fixed: dates that no day has, since their months are shorter.
func TestNone(t *testing.T) {
	for _, c := range []struct {
		region int
		date   solar.Date
	}{
		{0, solar.Date{Year: -1, Month: 12, Day: 32}}, {0, solar.Date{Year: -1, Month: 11, Day: 31}}, {0, solar.Date{Year: -1, Month: 11, Day: 32}}, {1, solar.Date{Year: -1, Month: 12, Day: 31}}, {0, solar.Date{Year: 1921, Month: 12, Day: 31}}, {2, solar.Date{Year: 1921, Month: 12, Day: 32}},
		{0, solar.Date{Year: -3180, Month: 12, Day: 31}}, {3, solar.Date{Year: 1921, Month: 9, Day: 31}}, {3, solar.Date{Year: 1921, Month: 9, Day: 32}}, {1, solar.Date{Year: 1921, Month: 8, Day: 31}}, {3, solar.Date{Year: 1921, Month: 8, Day: 30}}, {0, solar.Date{Year: 1921, Month: 9, Day: 30}}, {1, solar.Date{Year: 1921, Month: 3, Day: 32}},
	} {
		isNone(t, c.region, ujjain(), c.date)
	}
}

// P18.1: which error comes first: the region's, the place's, the month's or the day's in
// it, the year's.
func TestErrors(t *testing.T) {
	nowhere := []place.Place{{}, {Lat: 61, LatOver: 1, LonOver: 1}, {Lat: -61, LatOver: 1, LonOver: 1}, {LatOver: 1, Lon: 181, LonOver: 1}, {LatOver: 1, Lon: -181, LonOver: 1}, {LatOver: 3601, LonOver: 1}, {LatOver: 1, LonOver: -1}, {Lat: 216001, LatOver: 3600, LonOver: 1}}
	of := func(region int, day int64, p place.Place, want api.Errno) {
		if got, errno := solar.Of(region, day, p); got != (solar.Date{}) || errno != want {
			t.Errorf("region %d at %v, Of %d: %v, %d; not %d", region, p, day, got, errno, want)
		}
	}
	fixed := func(region int, year int64, month, day int, p place.Place, want api.Errno) {
		if got, errno := solar.Fixed(region, solar.Date{Year: year, Month: month, Day: day}, p); got != 0 || errno != want {
			t.Errorf("region %d at %v, Fixed of %d-%d-%d: %d, %d; not %d", region, p, year, month, day, got, errno, want)
		}
	}
	for _, p := range append(nowhere, places()...) {
		for _, region := range strangers() {
			for _, day := range []int64{0, 730120, 3000001, -3000001} {
				of(region, day, p, api.ErrKind)
			}
			for _, year := range []int64{1921, 9001, -9001} {
				fixed(region, year, 1, 1, p, api.ErrKind)
				fixed(region, year, 0, 1, p, api.ErrKind)
				fixed(region, year, 1, 33, p, api.ErrKind)
			}
		}
	}
	for region := range solar.Regions {
		for _, p := range nowhere {
			for _, day := range []int64{0, 730120, 3000001, -3000001} {
				of(region, day, p, api.ErrRange)
			}
			for _, year := range []int64{1921, 9001, -9001} {
				for _, month := range []int{0, 1, 13} {
					for _, day := range []int{0, 1, 33} {
						fixed(region, year, month, day, p, api.ErrRange)
					}
				}
			}
		}
		for _, year := range []int64{1921, 0, -1, 9000, -9000, 9001, -9001, math.MaxInt64, math.MinInt64} {
			for _, month := range []int{0, 13, -1, 14, 1<<32 + 1, math.MaxInt, math.MinInt} {
				fixed(region, year, month, 1, ujjain(), api.ErrArg)
				fixed(region, year, month, 0, ujjain(), api.ErrArg)
				fixed(region, year, month, 33, ujjain(), api.ErrArg)
			}
			for _, day := range []int{0, 33, -1, 34, 1<<32 + 1, math.MaxInt, math.MinInt} {
				fixed(region, year, 1, day, ujjain(), api.ErrArg)
				fixed(region, year, 12, day, ujjain(), api.ErrArg)
			}
		}
	}
}
