package ask_test

import (
	"math"
	"math/big"
	"regexp"
	"strings"
	"testing"

	"ephemeris/api"
	"ephemeris/ask"
	"ephemeris/scheme"
)

// date fails if a text is read as another date, or has another error; beside an error no
// date may stand.
func date(t *testing.T, of int, s string, want scheme.Date, errno api.Errno) {
	t.Helper()
	if got, e := ask.ParseDate(of, s); got != want || e != errno {
		t.Errorf("ParseDate %d, %.60q: %+v, %d; not %+v, %d", of, s, got, e, want, errno)
	}
}

// P28.1, ParseDate: ordinary dates, with both marks, with one and with none.
func TestDate(t *testing.T) {
	for s, want := range map[string]scheme.Date{
		"2000-1-1": {Year: 2000, Month: 1, Day: 1}, "2078-4l-12": {Year: 2078, Month: 4, Leap: true, Day: 12}, "1616-11-28a": {Year: 1616, Month: 11, Day: 28, Again: true},
		"2142-8l-1a": {Year: 2142, Month: 8, Leap: true, Day: 1, Again: true}, "-1-12-30": {Year: -1, Month: 12, Day: 30}, "-3044-2l-1a": {Year: -3044, Month: 2, Leap: true, Day: 1, Again: true},
		"0-1-1": {Month: 1, Day: 1}, "0-0-0": {}, "0-0l-0a": {Leap: true, Again: true}, "7-13-32": {Year: 7, Month: 13, Day: 32}, "1-100-1000": {Year: 1, Month: 100, Day: 1000},
		"9223372036854775807-9223372036854775807-9223372036854775807":    {Year: math.MaxInt64, Month: math.MaxInt, Day: math.MaxInt},
		"-9223372036854775808-9223372036854775807l-9223372036854775807a": {Year: math.MinInt64, Month: math.MaxInt, Leap: true, Day: math.MaxInt, Again: true},
	} {
		for of := range scheme.Schemes {
			want.Scheme = of
			date(t, of, s, want, api.OK)
		}
		for _, of := range strangers() {
			want.Scheme = of
			date(t, of, s, want, api.OK)
		}
	}
}

// P28.1, ParseDate: texts that aren't of the form.
func TestDateForm(t *testing.T) {
	for _, s := range []string{
		"", "-", "--", "---", "----", "2000", "2000-1", "-2000-1", "2000-1-1-", "2000-1-1-1", "-2000-1-1-1", "--2000-1-1", "2000--1", "2000-1-", "-1-1", "--1", "1--", "-1--", "-1--1", "2000--1-1", "2000-1--1", "2000--1--1",
		"l", "a", "l-a", "-l-a", "2000l-1-1", "2000a-1-1", "l2000-1-1", "2000-l1-1", "2000-1-l1", "2000-1-a1", "2000-a1-1", "2000-1-1l", "2000-1a-1", "2000-1ll-1", "2000-1-1aa", "2000-1la-1", "2000-1al-1", "2000-1-1al", "2000-1-1la", "2000-1l-1l", "2000-1a-1a", "2000-l-1", "2000-1-a", "-1-l-a",
		"2000-1L-1", "2000-1-1A", "2000-1-1 ", " 2000-1-1", "2000 -1-1", "2000- 1-1", "2000-1 l-1", "2000-1-1\n", "\t2000-1-1", "2000-1-1\x00", "2000/1/1", "2000.1.1", "2000–1–1", "2000-1-1x", "x2000-1-1", "2000-x-1", "20x0-1-1", "+2000-1-1", "2000-+1-1", "2000-1-+1",
		"02000-1-1", "-02000-1-1", "00-1-1", "-0-1-1", "2000-01-1", "2000-00-1", "2000-1-01", "2000-1-00", "2000-01l-1", "2000-1-01a", "0-0-00",
		"२०००-1-1", "2000-१-1", "2000-1-\xff", "\xff-1-1", "2000-1\xcc-1", "٢-1-1", "gregorian", "ujjain", "463/20,45461/600",
	} {
		date(t, scheme.Amanta, s, scheme.Date{}, api.ErrForm)
	}
}

// P28.1, ParseDate: numbers that don't fit: number by number the first error, once all is
// of the form.
func TestDateBig(t *testing.T) {
	thousand, more := strings.Repeat("9", 1000), strings.Repeat("9", 1001)
	for s, want := range map[string]api.Errno{
		"9223372036854775808-1-1": api.ErrBig, "-9223372036854775809-1-1": api.ErrBig, "1-9223372036854775808-1": api.ErrBig, "1-1-9223372036854775808": api.ErrBig, "1-9223372036854775808l-1a": api.ErrBig,
		"18446744073709551617-1-1": api.ErrBig, "1-18446744073709551617-1": api.ErrBig, "1-1-18446744073709551617a": api.ErrBig,
		thousand + "-1-1": api.ErrBig, more + "-1-1": api.ErrBig, "-" + more + "-1-1": api.ErrBig, "1-" + more + "-1": api.ErrBig, "1-1l-" + more: api.ErrBig,
		more + "-01-1": api.ErrBig, more + "--": api.ErrBig, "1-" + more + "-01": api.ErrBig, "1-" + more + "-": api.ErrBig, "99999999999999999999-01-1": api.ErrBig,
		"01-" + more + "-1": api.ErrForm, "1-01-" + more: api.ErrForm, "-" + more + "-1": api.ErrForm, "--" + more: api.ErrForm, "1--" + more: api.ErrForm, "0" + more + "-1-1": api.ErrForm, "1-0" + more + "-1": api.ErrForm, "1-1-0" + more: api.ErrForm,
		more: api.ErrForm, more + "-1": api.ErrForm, more + "-1-1-1": api.ErrForm, more + "-1-1x": api.ErrForm, more + "-1-1l": api.ErrForm, "1-" + more + "a-1": api.ErrForm, "1-1-" + more + "l": api.ErrForm, "1-1-" + more + "-": api.ErrForm, "--" + more + "-1-1": api.ErrForm,
		strings.Repeat("-", 100000): api.ErrForm, strings.Repeat("1", 100000): api.ErrForm, strings.Repeat("1-", 100000): api.ErrForm, strings.Repeat("1", 100000) + "-1-1": api.ErrBig, "1-1-" + strings.Repeat("0", 100000): api.ErrForm,
	} {
		date(t, scheme.Tamil, s, scheme.Date{}, want)
	}
}

// form is the chapter's, said elsewhere; no digits are digits.
var form = regexp.MustCompile(`^(-?[0-9]*)-([0-9]*)(l?)-([0-9]*)(a?)$`)

// number is what a number's text says, by math/big.
func number(s string) (int64, api.Errno) {
	n, ok := new(big.Int).SetString(s, 10)
	switch {
	case !ok || n.String() != s:
		return 0, api.ErrForm
	case !n.IsInt64():
		return 0, api.ErrBig
	}
	return n.Int64(), api.OK
}

// told is what a text says, by the form above.
func told(of int, s string) (scheme.Date, api.Errno) {
	parts := form.FindStringSubmatch(s)
	if parts == nil {
		return scheme.Date{}, api.ErrForm
	}
	values := []int64{}
	for _, part := range []string{parts[1], parts[2], parts[4]} {
		n, errno := number(part)
		if errno != api.OK {
			return scheme.Date{}, errno
		}
		values = append(values, n)
	}
	return scheme.Date{Scheme: of, Year: values[0], Month: int(values[1]), Leap: parts[3] != "", Day: int(values[2]), Again: parts[5] != ""}, api.OK
}

// eachText goes through all texts of some letters, up to a length.
func eachText(letters string, length int, check func(s string)) {
	check("")
	if length == 0 {
		return
	}
	for i := range len(letters) {
		eachText(letters, length-1, func(s string) { check(letters[i:i+1] + s) })
	}
}

// P28.1, P28.2, ParseDate: all short texts of what may stand in a date's, held against the
// form, as it is said elsewhere; what is a date is written the same again.
func TestEachDate(t *testing.T) {
	good := 0
	check := func(s string) {
		want, errno := told(scheme.Amanta, s)
		date(t, scheme.Amanta, s, want, errno)
		if errno != api.OK {
			return
		}
		good++
		if back := ask.DateText(want); back != s {
			t.Errorf("DateText %+v: %q, not %q", want, back, s)
		}
	}
	for _, head := range []string{"", "1-1", "-9223372036854775808-", "9223372036854775808-1"} {
		eachText("-01la", 6, func(s string) { check(head + s) })
	}
	if good < 50 {
		t.Errorf("only %d dates", good)
	}
}

// P28.1, DateText: dates made by hand, also of numbers that no date has; the scheme doesn't
// matter, be it one or none.
func TestDateText(t *testing.T) {
	for want, d := range map[string]scheme.Date{
		"2000-1-1": plainDate(), "2078-4l-12": leapDate(), "0-0-0": {}, "0-0l-0a": {Leap: true, Again: true}, "0-0l-0": {Leap: true}, "0-0-0a": {Again: true}, "-5-13-32a": {Year: -5, Month: 13, Day: 32, Again: true},
		"1--2-3": {Year: 1, Month: -2, Day: 3}, "1-2--3": {Year: 1, Month: 2, Day: -3}, "-1--2l--3a": {Year: -1, Month: -2, Leap: true, Day: -3, Again: true}, "10-20-30": {Year: 10, Month: 20, Day: 30},
		"-9223372036854775808--9223372036854775808l--9223372036854775808a": {Year: math.MinInt64, Month: math.MinInt, Leap: true, Day: math.MinInt, Again: true},
		"9223372036854775807-9223372036854775807-9223372036854775807":      {Year: math.MaxInt64, Month: math.MaxInt, Day: math.MaxInt},
		"18-446744073709551617-4294967297":                                 {Year: 18, Month: 446744073709551617, Day: 1<<32 + 1},
	} {
		for _, of := range append(strangers(), 0, 5, 9) {
			d.Scheme = of
			if got := ask.DateText(d); got != want {
				t.Errorf("DateText %+v: %s, not %s", d, got, want)
			}
		}
	}
}

// P28.2: dates of each scheme, there and back.
func TestDatesBack(t *testing.T) {
	for _, d := range dates() {
		s := dateText(d)
		if got := ask.DateText(d); got != s {
			t.Errorf("DateText %+v: %s, not %s", d, got, s)
		}
		date(t, d.Scheme, s, d, api.OK)
	}
}
