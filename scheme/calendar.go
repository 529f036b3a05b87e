package scheme

import (
	"ephemeris/amanta"
	"ephemeris/api"
	"ephemeris/civil"
	"ephemeris/find"
	"ephemeris/julian"
	"ephemeris/oldmoon"
	"ephemeris/oldsun"
	"ephemeris/place"
	"ephemeris/purnima"
	"ephemeris/solar"
)

// calendar is what a scheme reckons by: its layer's Of and Fixed. It isn't told which
// scheme's it is, so that it neither fills in a date's Scheme nor looks at it.
type calendar interface {
	of(day int64, p place.Place) (Date, api.Errno)
	fixed(d Date, p place.Place) (int64, api.Errno)
}

// The calendars. Those of the moon end their months with the new moon, or with the full
// one; those of the sun's signs are told by their regions.
type (
	gregorianDays struct{}
	julianDays    struct{}
	oldSunDays    struct{}
	oldMoonDays   struct{}
	regionDays    int
	newMoonDays   struct{}
	fullMoonDays  struct{}
)

// calendarOf: a scheme's; nil: there is no such scheme.
func calendarOf(scheme int) calendar {
	switch scheme {
	case Gregorian:
		return gregorianDays{}
	case Julian:
		return julianDays{}
	case OldSun:
		return oldSunDays{}
	case OldMoon:
		return oldMoonDays{}
	case Orissa:
		return regionDays(solar.Orissa)
	case Tamil:
		return regionDays(solar.Tamil)
	case Malayali:
		return regionDays(solar.Malayali)
	case Bengal:
		return regionDays(solar.Bengal)
	case Amanta:
		return newMoonDays{}
	case Purnimanta:
		return fullMoonDays{}
	}
	return nil
}

func (gregorianDays) of(day int64, _ place.Place) (Date, api.Errno) {
	d, errno := civil.Of(day)
	return Date{Year: d.Year, Month: d.Month, Day: d.Day}, errno
}

func (gregorianDays) fixed(d Date, _ place.Place) (int64, api.Errno) {
	return civil.Fixed(civil.Date{Year: d.Year, Month: d.Month, Day: d.Day})
}

func (julianDays) of(day int64, _ place.Place) (Date, api.Errno) {
	d, errno := julian.Of(day)
	return Date{Year: d.Year, Month: d.Month, Day: d.Day}, errno
}

func (julianDays) fixed(d Date, _ place.Place) (int64, api.Errno) {
	return julian.Fixed(julian.Date{Year: d.Year, Month: d.Month, Day: d.Day})
}

func (oldSunDays) of(day int64, _ place.Place) (Date, api.Errno) {
	d, errno := oldsun.Of(day)
	return Date{Year: d.Year, Month: d.Month, Day: d.Day}, errno
}

func (oldSunDays) fixed(d Date, _ place.Place) (int64, api.Errno) {
	return oldsun.Fixed(oldsun.Date{Year: d.Year, Month: d.Month, Day: d.Day})
}

func (oldMoonDays) of(day int64, _ place.Place) (Date, api.Errno) {
	d, errno := oldmoon.Of(day)
	return Date{Year: d.Year, Month: d.Month, Leap: d.Leap, Day: d.Day}, errno
}

func (oldMoonDays) fixed(d Date, _ place.Place) (int64, api.Errno) {
	return oldmoon.Fixed(oldmoon.Date{Year: d.Year, Month: d.Month, Leap: d.Leap, Day: d.Day})
}

func (r regionDays) of(day int64, p place.Place) (Date, api.Errno) {
	d, errno := solar.Of(int(r), day, p)
	return Date{Year: d.Year, Month: d.Month, Day: d.Day}, errno
}

func (r regionDays) fixed(d Date, p place.Place) (int64, api.Errno) {
	return solar.Fixed(int(r), solar.Date{Year: d.Year, Month: d.Month, Day: d.Day}, p)
}

// byMoon: a date, as layers 20 to 22 have it.
func byMoon(d Date) amanta.Date {
	return amanta.Date{Year: d.Year, Month: d.Month, Leap: d.Leap, Day: d.Day, Again: d.Again}
}

// ofMoon: and back.
func ofMoon(d amanta.Date) Date {
	return Date{Year: d.Year, Month: d.Month, Leap: d.Leap, Day: d.Day, Again: d.Again}
}

func (newMoonDays) of(day int64, p place.Place) (Date, api.Errno) {
	d, errno := amanta.Of(day, p)
	return ofMoon(d), errno
}

func (newMoonDays) fixed(d Date, p place.Place) (int64, api.Errno) {
	return find.Fixed(byMoon(d), p)
}

func (fullMoonDays) of(day int64, p place.Place) (Date, api.Errno) {
	d, errno := purnima.Of(day, p)
	return ofMoon(d), errno
}

func (fullMoonDays) fixed(d Date, p place.Place) (int64, api.Errno) {
	return purnima.Fixed(byMoon(d), p)
}
