package ask

import (
	"strings"

	"ephemeris/api"
	"ephemeris/digits"
	"ephemeris/scheme"
)

// What stands in a date's text beside digits: stroke between two numbers, and ahead of
// a year below 0; the marks behind a month that is leap, and a day that is again.
const (
	stroke    = "-"
	leapMark  = "l"
	againMark = "a"
)

// The numbers of a date, in their order.
const (
	yearAt = iota
	monthAt
	dayAt
	numbers
)

// written is a date's text, taken to pieces: its numbers' texts, and its marks.
type written struct {
	numbers     [numbers]string
	leap, again bool
}

// leading: how many digits a text begins with.
func leading(s string) int {
	n := 0
	for n < len(s) && '0' <= s[n] && s[n] <= '9' {
		n++
	}
	return n
}

// pieces: of a date's text; false: it isn't of the form.
func pieces(s string) (written, bool) {
	w := written{}
	rest, below := strings.CutPrefix(s, stroke)
	at, more := yearAt, false
next:
	count := leading(rest)
	w.numbers[at], rest = rest[:count], rest[count:]
	switch at {
	case monthAt:
		rest, w.leap = strings.CutPrefix(rest, leapMark)
	case dayAt:
		rest, w.again = strings.CutPrefix(rest, againMark)
	}
	rest, more = strings.CutPrefix(rest, stroke)
	if more && at < dayAt {
		at++
		goto next
	}
	if below {
		w.numbers[yearAt] = stroke + w.numbers[yearAt]
	}
	return w, at == dayAt && !more && rest == ""
}

// ParseDate: a date of a scheme.
func ParseDate(of int, s string) (scheme.Date, api.Errno) {
	w, ok := pieces(s)
	if !ok {
		return scheme.Date{}, api.ErrForm
	}
	values := [numbers]int64{}
	for at, text := range w.numbers {
		n, errno := digits.Small(text)
		if errno != api.OK {
			return scheme.Date{}, errno
		}
		values[at] = n
	}
	return scheme.Date{
		Scheme: of, Year: values[yearAt], Month: int(values[monthAt]), Leap: w.leap, Day: int(values[dayAt]), Again: w.again,
	}, api.OK
}

// marked: a number's text, and, if it is so, a mark behind it.
func marked(n int64, is bool, mark string) string {
	if is {
		return digits.Pad(n, 0) + mark
	}
	return digits.Pad(n, 0)
}

// DateText: and back, without its scheme.
func DateText(d scheme.Date) string {
	return digits.Pad(d.Year, 0) + stroke + marked(int64(d.Month), d.Leap, leapMark) + stroke + marked(int64(d.Day), d.Again, againMark)
}
