package reckon_test

import (
	"math"
	"strings"
	"testing"

	"ephemeris/api"
	"ephemeris/place"
	"ephemeris/reckon"
	"ephemeris/scheme"
)

// nowhere are places that may not be.
func nowhere() []place.Place {
	return []place.Place{
		{}, {Lat: 463, LatOver: 0, Lon: 45461, LonOver: 600}, {Lat: 463, LatOver: 20, Lon: 45461, LonOver: -600}, {LatOver: 1, LonOver: 3601},
		{Lat: 61, LatOver: 1, LonOver: 1}, {LatOver: 1, Lon: -181, LonOver: 1}, {Lat: -216001, LatOver: 3600, LonOver: 1},
		{Lat: math.MaxInt64, LatOver: math.MinInt64, Lon: math.MinInt64, LonOver: math.MaxInt64}, {Lat: math.MinInt64, LatOver: 1, Lon: math.MaxInt64, LonOver: 1},
	}
}

// wrong is a date that has no day, with its error.
type wrong struct {
	d     scheme.Date
	errno api.Errno
}

// faults are dates of a scheme by the error that they are at Ujjain; the first ones of the
// moon's have no day, as the 31st of a month of 30 days.
var faults = [scheme.Schemes]map[api.Errno]string{
	scheme.Gregorian:  {api.ErrRange: "9001-13-1 9000-1-1 -8213-4-11", api.ErrArg: "2000-13-1 1900-2-29"},
	scheme.Julian:     {api.ErrRange: "-9001-1-1 -9000-1-1 8214-7-24", api.ErrArg: "2000-1-0 1901-2-29"},
	scheme.OldSun:     {api.ErrArg: "5100-0-1 20001-13-1", api.ErrRange: "20001-1-1 -5112-6-9", api.ErrNone: "0-2-31"},
	scheme.OldMoon:    {api.ErrArg: "5100-1l-31 -20001-1-0", api.ErrRange: "-20001-1-1 -5112-6-30", api.ErrNone: "0-2l-1 5100-10-10"},
	scheme.Orissa:     {api.ErrArg: "1921-9-33 9001-13-1", api.ErrRange: "9001-1-1", api.ErrNone: "9000-1-1 1904-10-31"},
	scheme.Tamil:      {api.ErrArg: "1921-9-0", api.ErrRange: "-9001-1-1", api.ErrNone: "-9000-1-1 1904-10-30"},
	scheme.Malayali:   {api.ErrArg: "1921-0-1", api.ErrRange: "9001-12-32", api.ErrNone: "9000-1-1 1904-10-30"},
	scheme.Bengal:     {api.ErrArg: "1921-13-1", api.ErrRange: "9001-1-1", api.ErrNone: "-9000-12-30 1904-10-31"},
	scheme.Amanta:     {api.ErrArg: "2039-12l-31 9001-13-1", api.ErrRange: "9001-1-1", api.ErrNone: "2039-11-1 2057-1-9 2056-9-25a -8156-7-1"},
	scheme.Purnimanta: {api.ErrArg: "2039-12-31a -9001-0-1", api.ErrRange: "-9001-12l-30a", api.ErrNone: "2039-11l-16 2039-10-20 2057-1-9 8271-3-7"},
}

// wrongs are a scheme's dates that have no day at Ujjain: also such as have parts that its
// dates haven't.
func wrongs(s int) []wrong {
	l := []wrong{
		{scheme.Date{Scheme: s}, api.ErrArg},
		{scheme.Date{Scheme: s, Year: math.MinInt64, Month: 1, Day: 1}, api.ErrRange},
		{scheme.Date{Scheme: s, Year: 1<<32 + 2000, Month: 1, Day: 1}, api.ErrRange},
	}
	for errno, dates := range faults[s] {
		for _, told := range strings.Fields(dates) {
			l = append(l, wrong{read(s, told), errno})
		}
	}
	if !scheme.Leaps(s) {
		l = append(l, wrong{scheme.Date{Scheme: s, Year: 1921, Month: 1, Leap: true, Day: 1}, api.ErrArg})
	}
	if !scheme.Agains(s) {
		l = append(l, wrong{scheme.Date{Scheme: s, Year: 1921, Month: 1, Day: 1, Again: true}, api.ErrArg})
	}
	return l
}

// strangers are dates whose scheme isn't one, beside parts that may be, and that may not.
func strangers() []wrong {
	l := []wrong{}
	for _, s := range []int{-1, scheme.Schemes, 11, 1 << 32, 1<<32 + 8, math.MaxInt, math.MinInt} {
		l = append(l, wrong{scheme.Date{Scheme: s, Year: 2000, Month: 1, Day: 1}, api.ErrKind})
		l = append(l, wrong{scheme.Date{Scheme: s}, api.ErrKind})
		l = append(l, wrong{scheme.Date{Scheme: s, Year: math.MaxInt64, Month: 13, Leap: true, Day: 33, Again: true}, api.ErrKind})
	}
	return l
}

// newYear is January 1 of 2000 at Ujjain.
func newYear() []scheme.Date {
	for _, r := range known {
		if r.day == 730120 {
			return r.each()
		}
	}
	return nil
}

// P26.1, Plus, Weekday: of dates that aren't, of each scheme and of none: it's the date's
// error, with however many days, also where these would lead from any day to one that may
// not be.
func TestWrong(t *testing.T) {
	t.Parallel()
	l := strangers()
	for s := range scheme.Schemes {
		l = append(l, wrongs(s)...)
	}
	for _, w := range l {
		weekday(t, w.d, ujjain(), 0, w.errno)
		for _, n := range []int64{0, 1, -1, 2*api.MaxDay + 1, -2*api.MaxDay - 1, 1 << 32, math.MaxInt64, math.MinInt64} {
			plus(t, w.d, n, ujjain(), scheme.Date{}, w.errno)
		}
	}
}

// P26.1, Between: of a date that is, and one that isn't, either way, and of two that aren't:
// the first one's error is answered.
func TestBetweenWrong(t *testing.T) {
	t.Parallel()
	l := strangers()[:4]
	for s := range scheme.Schemes {
		l = append(l, wrongs(s)...)
	}
	for i, w := range l {
		d := newYear()[i%scheme.Schemes]
		between(t, d, w.d, ujjain(), 0, w.errno)
		between(t, w.d, d, ujjain(), 0, w.errno)
		between(t, w.d, w.d, ujjain(), 0, w.errno)
		for k := range 12 {
			other := l[(i+7*k+1)%len(l)]
			between(t, w.d, other.d, ujjain(), 0, w.errno)
		}
	}
}

// P26.1, Between, Plus, Weekday: at places that may not be: of schemes that ask for one; a
// date of one that asks for none is held to its own faults.
func TestNowhere(t *testing.T) {
	t.Parallel()
	for _, p := range nowhere() {
		for s := scheme.Orissa; s < scheme.Schemes; s++ {
			d := newYear()[s]
			for _, bad := range []scheme.Date{d, {Scheme: s}, {Scheme: s, Year: 9001, Month: 13, Day: 33}} {
				weekday(t, bad, p, 0, api.ErrRange)
				plus(t, bad, 0, p, scheme.Date{}, api.ErrRange)
				plus(t, bad, math.MinInt64, p, scheme.Date{}, api.ErrRange)
				between(t, bad, newYear()[s%4], p, 0, api.ErrRange)
				between(t, newYear()[s%4], bad, p, 0, api.ErrRange)
				between(t, read(scheme.Gregorian, "2000-13-1"), bad, p, 0, api.ErrArg)
				between(t, bad, read(scheme.Gregorian, "2000-13-1"), p, 0, api.ErrRange)
			}
			weekday(t, scheme.Date{Scheme: scheme.OldSun, Year: 0, Month: 2, Day: 31}, p, 0, api.ErrNone)
		}
	}
}

// P26.1: what is asked otherwise between changes no answer.
func TestAlike(t *testing.T) {
	ask := func() (int64, scheme.Date, int) {
		n, _ := reckon.Between(newYear()[scheme.Amanta], read(scheme.OldSun, "0-1-1"), ujjain())
		d, _ := reckon.Plus(newYear()[scheme.Amanta], -6166, ujjain())
		w, _ := reckon.Weekday(newYear()[scheme.Amanta], ujjain())
		return n, d, w
	}
	n, d, w := ask()
	reckon.Plus(newYear()[scheme.Amanta], 1, southWest())
	reckon.Weekday(scheme.Date{}, place.Place{})
	if n2, d2, w2 := ask(); n2 != n || d2 != d || w2 != w || n != -1863079 || d != read(scheme.Amanta, "2039-12l-1") || w != 6 {
		t.Errorf("%d, %s, %d; then %d, %s, %d", n, text(d), w, n2, text(d2), w2)
	}
}
