package scheme_test

import (
	"testing"

	"ephemeris/amanta"
	"ephemeris/api"
	"ephemeris/civil"
	"ephemeris/find"
	"ephemeris/julian"
	"ephemeris/oldmoon"
	"ephemeris/oldsun"
	"ephemeris/place"
	"ephemeris/purnima"
	"ephemeris/scheme"
	"ephemeris/solar"
)

// date is one of a scheme, of its parts.
func date(s int, year int64, month int, leap bool, day int, again bool) scheme.Date {
	return scheme.Date{Scheme: s, Year: year, Month: month, Leap: leap, Day: day, Again: again}
}

// layerOf is what the layer of a scheme says of a day, by the scheme's number.
func layerOf(s int, n int64, p place.Place) (scheme.Date, api.Errno) {
	switch s {
	case 0:
		d, errno := civil.Of(n)
		return date(s, d.Year, d.Month, false, d.Day, false), errno
	case 1:
		d, errno := julian.Of(n)
		return date(s, d.Year, d.Month, false, d.Day, false), errno
	case 2:
		d, errno := oldsun.Of(n)
		return date(s, d.Year, d.Month, false, d.Day, false), errno
	case 3:
		d, errno := oldmoon.Of(n)
		return date(s, d.Year, d.Month, d.Leap, d.Day, false), errno
	case 4, 5, 6, 7:
		d, errno := solar.Of(s-4, n, p)
		return date(s, d.Year, d.Month, false, d.Day, false), errno
	case 8:
		d, errno := amanta.Of(n, p)
		return date(s, d.Year, d.Month, d.Leap, d.Day, d.Again), errno
	}
	d, errno := purnima.Of(n, p)
	return date(s, d.Year, d.Month, d.Leap, d.Day, d.Again), errno
}

// layerFixed is what the layer of a date's scheme says of it.
func layerFixed(d scheme.Date, p place.Place) (int64, api.Errno) {
	moon := amanta.Date{Year: d.Year, Month: d.Month, Leap: d.Leap, Day: d.Day, Again: d.Again}
	switch d.Scheme {
	case 0:
		return civil.Fixed(civil.Date{Year: d.Year, Month: d.Month, Day: d.Day})
	case 1:
		return julian.Fixed(julian.Date{Year: d.Year, Month: d.Month, Day: d.Day})
	case 2:
		return oldsun.Fixed(oldsun.Date{Year: d.Year, Month: d.Month, Day: d.Day})
	case 3:
		return oldmoon.Fixed(oldmoon.Date{Year: d.Year, Month: d.Month, Leap: d.Leap, Day: d.Day})
	case 4, 5, 6, 7:
		return solar.Fixed(d.Scheme-4, solar.Date{Year: d.Year, Month: d.Month, Day: d.Day}, p)
	case 8:
		return find.Fixed(moon, p)
	}
	return purnima.Fixed(moon, p)
}

// P23.1, To: at every place, from one end of the days that may be to the other, and
// beyond: it is what the layers say.
func TestLayerOf(t *testing.T) {
	eachPlace(t, func(t *testing.T, i int, p place.Place) {
		for n := int64(20011*i - api.MaxDay - 3); n <= api.MaxDay+200000; n += 199999 {
			for s := range scheme.Schemes {
				want, errno := layerOf(s, n, p)
				if errno != api.OK {
					want = scheme.Date{}
				}
				to(t, s, n, p, want, errno)
			}
		}
	})
}

// P23.1, From: at every place, of dates of any parts, in any scheme: it is what the layers
// say, but of parts that the scheme hasn't.
func TestLayerFixed(t *testing.T) {
	eachPlace(t, func(t *testing.T, i int, p place.Place) {
		for k := 7 * i; k < 300+7*i; k++ {
			s := k % scheme.Schemes
			year := []int64{2039, 2000, 583, -8156, 8271, 5100, -1, 0, 1, 9001, -20001}[k%11]
			d := date(s, year, k*5%14, k%3 == 0, k*7%34, k%4 == 0)
			if k%2 == 0 {
				d.Leap, d.Again = d.Leap && scheme.Leaps(s), d.Again && scheme.Agains(s)
			}
			want, errno := layerFixed(d, p)
			if d.Leap && s != 3 && s < 8 || d.Again && s < 8 {
				want, errno = 0, api.ErrArg
			}
			from(t, d, p, want, errno)
		}
	})
}

// P23.2: at every place, in every scheme: each day is its date's, and no two have one date:
// of days from one end of those that may be to the other, and of days one behind the other,
// where it happens.
func TestBack(t *testing.T) {
	eachPlace(t, func(t *testing.T, i int, p place.Place) {
		dates := map[scheme.Date]int64{}
		back := func(s int, n int64) {
			t.Helper()
			d, errno := scheme.To(s, n, p)
			if errno != api.OK || d.Scheme != s {
				t.Fatalf("at %s, To %d, %d: %s, %d", p.Text(), s, n, text(d), errno)
			}
			if other, ok := dates[d]; ok && other != n {
				t.Errorf("at %s, %s is the date of %d and of %d", p.Text(), text(d), n, other)
			}
			dates[d] = n
			from(t, d, p, n, api.OK)
		}
		for k, first := range []int64{-api.MaxDay, -2249985, api.Kali - 3, 192105, 569475, 723952, 724012, 730221, 761502, api.MaxDay - 4} {
			for n := first; n < first+5; n++ {
				for s := range scheme.Schemes {
					if s < scheme.Orissa || int(n+int64(i+k+s))%2 == 0 {
						back(s, n)
					}
				}
			}
		}
		for n := int64(37000*i - api.MaxDay); n <= api.MaxDay; n += 299993 {
			for s := range scheme.Schemes {
				back(s, n)
			}
		}
	})
}

// P23.3: at every place, from every scheme to every other one, and back: a date is itself.
func TestConvertBack(t *testing.T) {
	eachPlace(t, func(t *testing.T, i int, p place.Place) {
		days := []int64{-api.MaxDay + int64(i), api.Kali + int64(i), 192100 + int64(i), 723950 + int64(i), api.MaxDay - int64(i)}
		for n := int64(70001*i - api.MaxDay); n <= api.MaxDay; n += 599999 {
			days = append(days, n)
		}
		for k, n := range days {
			for s := range scheme.Schemes {
				d, _ := scheme.To(s, n, p)
				other := (s + i + k) % scheme.Schemes
				there, errno := scheme.Convert(d, other, p)
				if errno != api.OK || there.Scheme != other {
					t.Errorf("at %s, Convert %s to %d: %s, %d", p.Text(), text(d), other, text(there), errno)
				}
				converted(t, there, s, p, d, api.OK)
			}
		}
	})
}
