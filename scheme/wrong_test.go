package scheme_test

import (
	"math"
	"strings"
	"testing"

	"ephemeris/api"
	"ephemeris/place"
	"ephemeris/scheme"
)

// nowhere are places that may not be.
func nowhere() []place.Place {
	return []place.Place{
		{}, {Lat: 463, LatOver: 0, Lon: 45461, LonOver: 600}, {Lat: 463, LatOver: 20, Lon: 45461, LonOver: -600}, {LatOver: 1, LonOver: 3601},
		{Lat: 61, LatOver: 1, LonOver: 1}, {LatOver: 1, Lon: -181, LonOver: 1}, {Lat: -216001, LatOver: 3600, LonOver: 1},
		{Lat: math.MaxInt64, LatOver: math.MinInt64, Lon: math.MinInt64, LonOver: math.MaxInt64}, {Lat: math.MinInt64, LatOver: 1, Lon: math.MaxInt64, LonOver: 1},
	}
}

// asks tells if a scheme's layer asks for a place.
func asks(s int) bool {
	return s >= scheme.Orissa
}

// January 1 of 2000 at Ujjain.
func newYear() row {
	for _, r := range known {
		if r.day == 730120 {
			return r
		}
	}
	return row{}
}

// outside are days that may be, and others.
func outside() []int64 {
	return []int64{730120, 0, -api.MaxDay, api.MaxDay, -api.MaxDay - 1, api.MaxDay + 1, math.MaxInt64, math.MinInt64}
}

// P23.1, To, From, Convert: schemes whose layers ask for no place: any will do.
func TestAnyPlace(t *testing.T) {
	t.Parallel()
	dates := newYear().each()[:scheme.Orissa]
	for _, p := range append(places(), nowhere()...) {
		for s, d := range dates {
			to(t, s, 730120, p, d, api.OK)
			to(t, s, api.MaxDay+1, p, scheme.Date{}, api.ErrRange)
			from(t, d, p, 730120, api.OK)
			for other, want := range dates {
				converted(t, d, other, p, want, api.OK)
			}
		}
	}
}

// P23.1, To, From, Convert: schemes whose layers ask for one, at places that may not be: of
// any day, of any date; to and from the schemes that ask for none.
func TestNowhere(t *testing.T) {
	t.Parallel()
	for _, p := range nowhere() {
		for s, d := range newYear().each() {
			if !asks(s) {
				for other := scheme.Orissa; other < scheme.Schemes; other++ {
					converted(t, d, other, p, scheme.Date{}, api.ErrRange)
				}
				continue
			}
			for _, day := range outside() {
				to(t, s, day, p, scheme.Date{}, api.ErrRange)
			}
			for _, wrong := range []scheme.Date{d, {Scheme: s}, {Scheme: s, Year: 9000, Month: 1, Day: 1}, {Scheme: s, Year: math.MinInt64, Month: math.MaxInt, Day: -1}} {
				from(t, wrong, p, 0, api.ErrRange)
				for other := range scheme.Schemes {
					converted(t, wrong, other, p, scheme.Date{}, api.ErrRange)
				}
			}
		}
	}
}

// The faults that the dates of several schemes have alike.
const (
	oldYears     = "9001-1-1 -9001-1-1 9001-13-1 -9001-0-40 9000-1-1 -9000-12-31"
	regionNumber = "9001-13-1 -9001-1-33 1921-0-1 1921-13-1 1921-9-0 1921-9-33"
	regionYears  = "9001-1-1 -9001-12-32"
	moonNumber   = "9001-13-1 -9001-1-31 2039-0-1 2039-13-1 2039-1-0 2039-12l-31 2039-12-31a"
	moonYears    = "9001-1-1 -9001-12l-30a"
)

// wrongs are dates of each scheme that have no day, with their errors at Ujjain: some with
// several faults, of which the layer names one first.
var wrongs = [scheme.Schemes]map[api.Errno]string{
	scheme.Gregorian: {api.ErrRange: oldYears, api.ErrArg: "2000-13-1 2000-0-1 2000-1-0 2000-1-32 1900-2-29 2001-2-29 2000-2-30 9000-4-31"},
	scheme.Julian:    {api.ErrRange: oldYears, api.ErrArg: "2000-13-1 2000-0-1 2000-1-0 2000-1-32 1901-2-29 1900-2-30 9000-4-31"},
	scheme.OldSun: {
		api.ErrArg:   "20001-13-1 -20001-1-0 5100-0-1 5100-13-1 5100-1-0 5100-1-32",
		api.ErrRange: "20001-1-1 -20001-12-31 20000-1-1 -20000-12-30 -5112-6-9",
		api.ErrNone:  "0-2-31 0-11-31 1-1-31 1-9-31",
	},
	scheme.OldMoon: {
		api.ErrArg:   "20001-13-1 -20001-1-0 5100-0-1 5100-13-1 5100-1-0 5100-1l-31",
		api.ErrRange: "20001-1-1 -20001-12l-30 20000-1-1 -20000-12-30 -5112-6-30",
		api.ErrNone:  "0-1l-15 0-2l-1 5100-10-10 5103-1-1 5100-2l-30",
	},
	scheme.Orissa:   {api.ErrArg: regionNumber, api.ErrRange: regionYears, api.ErrNone: "9000-1-1 -9000-12-30 1921-9-32 1904-10-31"},
	scheme.Tamil:    {api.ErrArg: regionNumber, api.ErrRange: regionYears, api.ErrNone: "9000-1-1 -9000-12-30 1921-9-32 1904-10-30"},
	scheme.Malayali: {api.ErrArg: regionNumber, api.ErrRange: regionYears, api.ErrNone: "9000-1-1 -9000-12-30 1921-9-32 1904-10-30"},
	scheme.Bengal:   {api.ErrArg: regionNumber, api.ErrRange: regionYears, api.ErrNone: "9000-1-1 -9000-12-30 1921-9-32 1904-10-31"},
	scheme.Amanta: {
		api.ErrArg: moonNumber, api.ErrRange: moonYears,
		api.ErrNone: "9000-1-1 -9000-12-30 2039-11-1 2039-11l-16 2039-10l-1 2039-10-14 2056-9-25a 2039-12l-8 2057-1-9 2039-12-16a",
	},
	scheme.Purnimanta: {
		api.ErrArg: moonNumber, api.ErrRange: moonYears,
		api.ErrNone: "9000-1-1 -9000-12-30 2039-11-1 2039-11l-16 2039-10l-1 2039-10-14 2056-10-25a 2039-12l-8 2057-1-9 2039-10-20 2039-12-16a",
	},
}

// eachWrong goes through dates that have no day, with their errors.
func eachWrong(s int, check func(d scheme.Date, errno api.Errno)) {
	for errno, dates := range wrongs[s] {
		for _, told := range strings.Fields(dates) {
			check(read(s, told), errno)
		}
	}
	// Numbers that would be others if they were cut.
	first := api.ErrArg
	if s <= scheme.Julian {
		first = api.ErrRange
	}
	check(scheme.Date{Scheme: s, Year: 1<<32 + 2000, Month: 1, Day: 1}, api.ErrRange)
	check(scheme.Date{Scheme: s, Year: math.MaxInt64, Month: 1, Day: 1}, api.ErrRange)
	check(scheme.Date{Scheme: s, Year: math.MinInt64, Month: 1, Day: 1}, api.ErrRange)
	check(scheme.Date{Scheme: s, Year: math.MinInt64, Month: math.MaxInt, Day: math.MinInt}, first)
	check(scheme.Date{Scheme: s, Year: 2000, Month: 1<<32 + 1, Day: 1}, api.ErrArg)
	check(scheme.Date{Scheme: s, Year: 2000, Month: 1, Day: 1<<32 + 1}, api.ErrArg)
	check(scheme.Date{Scheme: s, Year: 2000, Month: -1, Day: 1}, api.ErrArg)
	check(scheme.Date{Scheme: s, Year: 2000, Month: 1, Day: math.MinInt}, api.ErrArg)
	check(scheme.Date{Scheme: s}, api.ErrArg)
}

// P23.1, From, Convert: each scheme's own errors come out, to whichever scheme it is; with
// them neither a day nor a date.
func TestErrors(t *testing.T) {
	t.Parallel()
	for s := range scheme.Schemes {
		eachWrong(s, func(d scheme.Date, errno api.Errno) {
			from(t, d, ujjain(), 0, errno)
			for other := range scheme.Schemes {
				converted(t, d, other, ujjain(), scheme.Date{}, errno)
			}
			if asks(s) {
				return
			}
			for _, p := range nowhere() {
				from(t, d, p, 0, errno)
				converted(t, d, scheme.Amanta, p, scheme.Date{}, errno)
			}
		})
	}
}

// P23.1, To, From, Convert: numbers that are no scheme's, beside days, dates and places
// that may be, and that may not: to and from each.
func TestNoScheme(t *testing.T) {
	t.Parallel()
	for _, s := range strangers() {
		for _, p := range append(nowhere(), ujjain()) {
			for _, day := range outside() {
				to(t, s, day, p, scheme.Date{}, api.ErrKind)
			}
			for _, d := range newYear().each() {
				converted(t, d, s, p, scheme.Date{}, api.ErrKind)
				for _, wrong := range []scheme.Date{{Year: d.Year, Month: d.Month, Day: d.Day}, {}, {Year: math.MinInt64, Month: 13, Leap: true, Day: 33, Again: true}, {Leap: true}, {Year: 9001, Month: 1, Day: 1, Again: true}} {
					wrong.Scheme = s
					from(t, wrong, p, 0, api.ErrKind)
					converted(t, wrong, d.Scheme, p, scheme.Date{}, api.ErrKind)
					converted(t, wrong, -1, p, scheme.Date{}, api.ErrKind)
					converted(t, wrong, scheme.Schemes, p, scheme.Date{}, api.ErrKind)
				}
			}
		}
	}
}

// P23.1, Convert: that there is no such scheme comes ahead of what is wrong with the date.
func TestNoSchemeFirst(t *testing.T) {
	t.Parallel()
	for s := range scheme.Schemes {
		eachWrong(s, func(d scheme.Date, _ api.Errno) {
			for _, none := range strangers() {
				converted(t, d, none, ujjain(), scheme.Date{}, api.ErrKind)
			}
			d.Leap, d.Again = true, true
			converted(t, d, scheme.Schemes, ujjain(), scheme.Date{}, api.ErrKind)
			converted(t, d, -1, place.Place{}, scheme.Date{}, api.ErrKind)
		})
	}
}

// refused fails if the date isn't answered as one with a part that its scheme hasn't, to
// whichever scheme and at whichever place it is.
func refused(t *testing.T, d scheme.Date) {
	t.Helper()
	for _, p := range append(nowhere(), ujjain(), southWest()) {
		from(t, d, p, 0, api.ErrArg)
		for other := range scheme.Schemes {
			converted(t, d, other, p, scheme.Date{}, api.ErrArg)
		}
	}
}

// P23.1, From, Convert: dates with Leap, or with Again, or with both, in schemes whose
// dates haven't it: such as have a day without them, and such as have another fault, also.
func TestStrangeParts(t *testing.T) {
	t.Parallel()
	check := func(d scheme.Date) {
		t.Helper()
		if !scheme.Leaps(d.Scheme) {
			refused(t, scheme.Date{Scheme: d.Scheme, Year: d.Year, Month: d.Month, Leap: true, Day: d.Day})
		}
		if !scheme.Agains(d.Scheme) {
			refused(t, scheme.Date{Scheme: d.Scheme, Year: d.Year, Month: d.Month, Leap: d.Leap, Day: d.Day, Again: true})
			refused(t, scheme.Date{Scheme: d.Scheme, Year: d.Year, Month: d.Month, Leap: true, Day: d.Day, Again: true})
		}
	}
	for s, d := range newYear().each() {
		check(d)
		eachWrong(s, func(wrong scheme.Date, _ api.Errno) { check(wrong) })
	}
	check(read(scheme.OldMoon, "3570-11l-19"))
}

// P23.1, From: Leap and Again, where dates have them, tell of which day one is; without
// them, or with them where the day hasn't them, it is another one, or none.
func TestLeapAgain(t *testing.T) {
	for _, c := range []struct {
		s    int
		date string
		day  int64 // 0: none
	}{
		{scheme.OldMoon, "3570-11l-19", 171307}, {scheme.OldMoon, "3570-11-19", 171336}, {scheme.OldMoon, "0-1l-30", -1132960}, {scheme.OldMoon, "0-1-1", -1132959}, {scheme.OldMoon, "5100-9l-25", 0},
		{scheme.Amanta, "1616-11-28", 569476}, {scheme.Amanta, "1616-11-28a", 569477}, {scheme.Amanta, "1616-11l-28", 0}, {scheme.Amanta, "1616-11-27a", 0}, {scheme.Amanta, "1616-11-29a", 0},
		{scheme.Amanta, "2039-12l-2", 723955}, {scheme.Amanta, "2039-12l-2a", 723956}, {scheme.Amanta, "2039-12-2", 723985}, {scheme.Amanta, "2039-12-2a", 0}, {scheme.Amanta, "2039-12l-16", 723969}, {scheme.Amanta, "2039-10-16", 723939},
		{scheme.Purnimanta, "1616-12-28", 569476}, {scheme.Purnimanta, "1616-12-28a", 569477}, {scheme.Purnimanta, "1616-12l-28a", 0}, {scheme.Purnimanta, "2039-12l-2", 723955}, {scheme.Purnimanta, "2039-12l-2a", 723956},
		{scheme.Purnimanta, "2039-12-2", 723985}, {scheme.Purnimanta, "2039-12l-16", 723969}, {scheme.Purnimanta, "2039-12-16", 723939}, {scheme.Purnimanta, "2039-12-30", 723953}, {scheme.Purnimanta, "2039-12-1", 723984},
	} {
		errno := api.OK
		if c.day == 0 {
			errno = api.ErrNone
		}
		from(t, read(c.s, c.date), ujjain(), c.day, errno)
	}
}
