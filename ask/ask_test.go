package ask_test

import (
	"math"
	"strconv"
	"strings"
	"testing"

	"ephemeris/api"
	"ephemeris/ask"
	"ephemeris/place"
	"ephemeris/scheme"
)

// text is Ujjain's, and far those of places at the edges of those that may be.
const text = "463/20,45461/600"

func ujjain() place.Place { return place.Ujjain() }

// far are places at the edges of those that may be, by their texts.
func far() map[string]place.Place {
	return map[string]place.Place{
		"60,180": {Lat: 60, LatOver: 1, Lon: 180, LonOver: 1}, "-60,-180": {Lat: -60, LatOver: 1, Lon: -180, LonOver: 1},
		"0,0": {LatOver: 1, LonOver: 1}, "-7/3600,-647999/3600": {Lat: -7, LatOver: 3600, Lon: -647999, LonOver: 3600},
		"1/2,-5/3": {Lat: 1, LatOver: 2, Lon: -5, LonOver: 3}, text: ujjain(),
	}
}

// schemes are their names, by numbers.
func schemes() []string {
	return []string{"gregorian", "julian", "oldsun", "oldmoon", "orissa", "tamil", "malayali", "bengal", "amanta", "purnimanta"}
}

// strangers are numbers that are no scheme's.
func strangers() []int {
	return []int{-1, 10, 11, 100, 1 << 32, -1 << 32, math.MaxInt, math.MinInt}
}

// parses fails if a line is read as another question.
func parses(t *testing.T, line string, want ask.Ask) {
	t.Helper()
	if got, errno := ask.Parse(line); got != want || errno != api.OK {
		t.Errorf("Parse %.80q: %+v, %d; not %+v", line, got, errno, want)
	}
}

// refuses fails if a line has another error, or if a question stands beside it.
func refuses(t *testing.T, line string, want api.Errno) {
	t.Helper()
	if got, errno := ask.Parse(line); got != (ask.Ask{}) || errno != want {
		t.Errorf("Parse %.80q: %+v, %d; not %d", line, got, errno, want)
	}
}

// texts fails if a question's line is another one.
func texts(t *testing.T, a ask.Ask, want string) {
	t.Helper()
	if got := ask.Text(a); got != want {
		t.Errorf("Text %+v: %q, not %q", a, got, want)
	}
}

// leapDate and plainDate are dates that questions are asked with.
func leapDate() scheme.Date {
	return scheme.Date{Scheme: scheme.Amanta, Year: 2078, Month: 4, Leap: true, Day: 12}
}

func plainDate() scheme.Date {
	return scheme.Date{Scheme: scheme.Gregorian, Year: 2000, Month: 1, Day: 1}
}

// known are lines of each verb, as they are written, and their questions.
func known() map[string]ask.Ask {
	u := ujjain()
	return map[string]ask.Ask{
		"day gregorian 2000-1-1 " + text:                            {Verb: ask.Day, Date: plainDate(), Place: u},
		"day purnimanta -1-12l-30a " + text:                         {Verb: ask.Day, Date: scheme.Date{Scheme: scheme.Purnimanta, Year: -1, Month: 12, Leap: true, Day: 30, Again: true}, Place: u},
		"date bengal 738000 " + text:                                {Verb: ask.Date, Scheme: scheme.Bengal, N: 738000, Place: u},
		"date gregorian -3000001 " + text:                           {Verb: ask.Date, N: -3000001, Place: u},
		"convert amanta 2078-4l-12 tamil " + text:                   {Verb: ask.Convert, Date: leapDate(), Scheme: scheme.Tamil, Place: u},
		"convert julian 1582-10-5 gregorian " + text:                {Verb: ask.Convert, Date: scheme.Date{Scheme: scheme.Julian, Year: 1582, Month: 10, Day: 5}, Place: u},
		"between gregorian 2000-1-1 amanta 2078-4l-12 " + text:      {Verb: ask.Between, Date: plainDate(), Other: leapDate(), Place: u},
		"between amanta 2078-4l-12 gregorian 2000-1-1 " + text:      {Verb: ask.Between, Date: leapDate(), Other: plainDate(), Place: u},
		"plus amanta 2078-4l-12 30 " + text:                         {Verb: ask.Plus, Date: leapDate(), N: 30, Place: u},
		"plus gregorian 2000-1-1 -9223372036854775808 " + text:      {Verb: ask.Plus, Date: plainDate(), N: math.MinInt64, Place: u},
		"almanac 717101 " + text:                                    {Verb: ask.Almanac, N: 717101, Place: u},
		"month 2039 12l " + text:                                    {Verb: ask.Month, N: 2039, Number: 12, Leap: true, Place: u},
		"month 2039 12 " + text:                                     {Verb: ask.Month, N: 2039, Number: 12, Place: u},
		"month 0 1 " + text:                                         {Verb: ask.Month, Number: 1, Place: u},
		"year 2039 " + text:                                         {Verb: ask.Year, N: 2039, Place: u},
		"solar malayali 1921 " + text:                               {Verb: ask.Solar, Scheme: scheme.Malayali, N: 1921, Place: u},
		"solar oldmoon 9223372036854775807 " + text:                 {Verb: ask.Solar, Scheme: scheme.OldMoon, N: math.MaxInt64, Place: u},
		"feasts -1 " + text:                                         {Verb: ask.Feasts, N: -1, Place: u},
		"day oldmoon 9223372036854775807-9223372036854775807-0 0,0": {Verb: ask.Day, Date: scheme.Date{Scheme: scheme.OldMoon, Year: math.MaxInt64, Month: math.MaxInt, Day: 0}, Place: place.Place{LatOver: 1, LonOver: 1}},
	}
}

// P28.1: the verbs, by their numbers.
func TestNumbers(t *testing.T) {
	for want, got := range []int{ask.Day, ask.Date, ask.Convert, ask.Between, ask.Plus, ask.Almanac, ask.Month, ask.Year, ask.Solar, ask.Feasts, ask.Verbs} {
		if got != want {
			t.Errorf("%d, not %d", got, want)
		}
	}
}

// P28.1, P28.2: lines of each verb are read, and written; by the name of Ujjain they are
// read as by its text. What a verb doesn't ask for is 0.
func TestKnown(t *testing.T) {
	seen := [ask.Verbs]int{}
	for line, a := range known() {
		parses(t, line, a)
		parses(t, strings.Replace(line, text, "ujjain", 1), a)
		texts(t, a, line)
		seen[a.Verb]++
	}
	for verb, count := range seen {
		if count == 0 {
			t.Errorf("verb %d: no line", verb)
		}
	}
}

// P28.1: the document's examples.
func TestExamples(t *testing.T) {
	parses(t, "plus amanta 2078-4l-12 30 ujjain", ask.Ask{Verb: ask.Plus, Date: leapDate(), N: 30, Place: ujjain()})
	parses(t, "convert julian 1582-10-5 gregorian ujjain", ask.Ask{Verb: ask.Convert, Date: scheme.Date{Scheme: scheme.Julian, Year: 1582, Month: 10, Day: 5}, Scheme: scheme.Gregorian, Place: ujjain()})
	parses(t, "solar amanta 2078 ujjain", ask.Ask{Verb: ask.Solar, Scheme: scheme.Amanta, N: 2078, Place: ujjain()})
	refuses(t, "x", api.ErrKind)
}

// P28.1, Parse: a place, by its text, also by one in no lowest terms; Text writes it in
// lowest terms.
func TestPlaces(t *testing.T) {
	for word, p := range far() {
		parses(t, "year 2039 "+word, ask.Ask{Verb: ask.Year, N: 2039, Place: p})
		texts(t, ask.Ask{Verb: ask.Year, N: 2039, Place: p}, "year 2039 "+word)
	}
	parses(t, "year 0 926/40,90922/1200", ask.Ask{Verb: ask.Year, Place: ujjain()})
	parses(t, "year 0 -4/6,180/1", ask.Ask{Verb: ask.Year, Place: place.Place{Lat: -2, LatOver: 3, Lon: 180, LonOver: 1}})
	texts(t, ask.Ask{Verb: ask.Year, Place: place.Place{Lat: -4, LatOver: 6, Lon: 360, LonOver: 2}}, "year 0 -2/3,180")
	texts(t, ask.Ask{Verb: ask.Almanac}, "almanac 0 0,0")
	texts(t, ask.Ask{Verb: ask.Almanac, Place: place.Place{Lat: 61, LatOver: 1, Lon: math.MinInt64, LonOver: 1}}, "almanac 0 61,-9223372036854775808")
}

// P28.1, Parse, Text: each month's number, leap and not.
func TestMonths(t *testing.T) {
	for number := 1; number <= 12; number++ {
		word := strconv.Itoa(number)
		for line, leap := range map[string]bool{"month -5 " + word + " " + text: false, "month -5 " + word + "l " + text: true} {
			a := ask.Ask{Verb: ask.Month, N: -5, Number: number, Leap: leap, Place: ujjain()}
			parses(t, line, a)
			texts(t, a, line)
		}
	}
}

// P28.1, Text: what a verb doesn't ask for isn't written, and isn't read again.
func TestUnasked(t *testing.T) {
	for line, a := range known() {
		full := ask.Ask{Verb: a.Verb, Date: leapDate(), Other: plainDate(), Scheme: scheme.Bengal, N: 77, Number: 5, Leap: true, Place: ujjain()}
		word := strings.Fields(line)[0]
		want := map[string]string{
			"day": "day amanta 2078-4l-12", "date": "date bengal 77", "convert": "convert amanta 2078-4l-12 bengal", "between": "between amanta 2078-4l-12 gregorian 2000-1-1",
			"plus": "plus amanta 2078-4l-12 77", "almanac": "almanac 77", "month": "month 77 5l", "year": "year 77", "solar": "solar bengal 77", "feasts": "feasts 77",
		}[word]
		texts(t, full, want+" "+text)
		read, errno := ask.Parse(ask.Text(full))
		if again := ask.Text(read); errno != api.OK || again != want+" "+text || read == full {
			t.Errorf("%s: %+v, %d, %s", want, read, errno, again)
		}
	}
}

// P28.1, Text: of a verb that is none there is no line.
func TestNoVerb(t *testing.T) {
	for _, verb := range []int{-1, ask.Verbs, ask.Verbs + 1, 256, 1 << 32, 1<<32 + 2, -1 << 32, math.MaxInt, math.MinInt} {
		texts(t, ask.Ask{Verb: verb, Date: leapDate(), Other: plainDate(), N: 5, Number: 5, Place: ujjain()}, "")
	}
}

// P28.1, Text: of a number that is no scheme there is no word: the words that there are
// have one blank between all the same.
func TestNoScheme(t *testing.T) {
	for _, number := range strangers() {
		lost, other := leapDate(), plainDate()
		lost.Scheme = number
		u := ujjain()
		texts(t, ask.Ask{Verb: ask.Day, Date: lost, Place: u}, "day 2078-4l-12 "+text)
		texts(t, ask.Ask{Verb: ask.Date, Scheme: number, N: 5, Place: u}, "date 5 "+text)
		texts(t, ask.Ask{Verb: ask.Convert, Date: lost, Scheme: scheme.Tamil, Place: u}, "convert 2078-4l-12 tamil "+text)
		texts(t, ask.Ask{Verb: ask.Convert, Date: other, Scheme: number, Place: u}, "convert gregorian 2000-1-1 "+text)
		texts(t, ask.Ask{Verb: ask.Convert, Date: lost, Scheme: number, Place: u}, "convert 2078-4l-12 "+text)
		texts(t, ask.Ask{Verb: ask.Between, Date: other, Other: lost, Place: u}, "between gregorian 2000-1-1 2078-4l-12 "+text)
		texts(t, ask.Ask{Verb: ask.Between, Date: lost, Other: other, Place: u}, "between 2078-4l-12 gregorian 2000-1-1 "+text)
		texts(t, ask.Ask{Verb: ask.Plus, Date: lost, N: -1, Place: u}, "plus 2078-4l-12 -1 "+text)
		texts(t, ask.Ask{Verb: ask.Solar, Scheme: number, N: 0, Place: u}, "solar 0 "+text)
		// Where no scheme is asked for, it doesn't matter.
		texts(t, ask.Ask{Verb: ask.Year, Date: lost, Other: lost, Scheme: number, N: 9, Place: u}, "year 9 "+text)
	}
}

// some is one of a list, by a number that goes through all of them.
func some[T any](l []T, i int) T { return l[i%len(l)] }

// dates are of each scheme, with marks of both kinds, of one and of none, years below 0, 0
// and above, and numbers that no date has.
func dates() []scheme.Date {
	l := []scheme.Date{}
	for i, year := range []int64{0, 1, -1, 9, -10, 2078, -9000, math.MaxInt64, math.MinInt64} {
		for s := range scheme.Schemes {
			for marks := range 4 {
				d := scheme.Date{Scheme: s, Year: year, Leap: marks&1 != 0, Again: marks&2 != 0}
				d.Month = some([]int{1, 12, 7, 0, 13, 10, math.MaxInt}, i+s+marks)
				d.Day = some([]int{30, 1, 15, 0, 31, 9, math.MaxInt, 100}, i+2*s+marks)
				l = append(l, d)
			}
		}
	}
	return l
}

// dateText is a date's text, written elsewhere.
func dateText(d scheme.Date) string {
	s := strconv.FormatInt(d.Year, 10) + "-" + strconv.Itoa(d.Month)
	if d.Leap {
		s += "l"
	}
	s += "-" + strconv.Itoa(d.Day)
	if d.Again {
		s += "a"
	}
	return s
}

// P28.2: questions of each verb, of all dates, schemes and places: there and back.
func TestBack(t *testing.T) {
	l := dates()
	for i, d := range l {
		other := some(l, 7*i+5)
		n := some([]int64{0, 1, -1, 10, -3000000, 3000000, math.MaxInt64, math.MinInt64}, i)
		s := i % scheme.Schemes
		for word, p := range far() {
			date := schemes()[d.Scheme] + " " + dateText(d)
			number, name := strconv.FormatInt(n, 10), schemes()[s]
			for line, a := range map[string]ask.Ask{
				"day " + date:                  {Verb: ask.Day, Date: d},
				"date " + name + " " + number:  {Verb: ask.Date, Scheme: s, N: n},
				"convert " + date + " " + name: {Verb: ask.Convert, Date: d, Scheme: s},
				"between " + date + " " + schemes()[other.Scheme] + " " + dateText(other): {Verb: ask.Between, Date: d, Other: other},
				"plus " + date + " " + number:                        {Verb: ask.Plus, Date: d, N: n},
				"almanac " + number:                                  {Verb: ask.Almanac, N: n},
				"month " + number + " " + strconv.Itoa(i%12+1):       {Verb: ask.Month, N: n, Number: i%12 + 1},
				"month " + number + " " + strconv.Itoa(i%12+1) + "l": {Verb: ask.Month, N: n, Number: i%12 + 1, Leap: true},
				"year " + number:                                     {Verb: ask.Year, N: n},
				"solar " + name + " " + number:                       {Verb: ask.Solar, Scheme: s, N: n},
				"feasts " + number:                                   {Verb: ask.Feasts, N: n},
			} {
				a.Place = p
				texts(t, a, line+" "+word)
				parses(t, line+" "+word, a)
			}
		}
	}
}
