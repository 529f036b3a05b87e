package ask_test

import (
	"strings"
	"testing"

	"ephemeris/api"
	"ephemeris/ask"
)

// P28.1, Parse: words that are no verb's, and lines that begin with none.
func TestNoVerbs(t *testing.T) {
	for _, line := range []string{
		"", " ", "  ", strings.Repeat(" ", 1000), " day gregorian 2000-1-1 ujjain", "  day", "x", "days", "da", "d", "Day gregorian 2000-1-1 ujjain", "DAY gregorian 2000-1-1 ujjain", "dAy gregorian 2000-1-1 ujjain", "Feasts 1 ujjain", "yeaR 1 ujjain",
		"day\tgregorian\t2000-1-1\tujjain", "day\tgregorian 2000-1-1 ujjain", "day\ngregorian 2000-1-1 ujjain", "\tday gregorian 2000-1-1 ujjain", "\nday gregorian 2000-1-1 ujjain", "day\n", "day\t", "\x00", "\xff", "day\xff", "däy 1 ujjain", "वार 1 ujjain", "day\u00a0gregorian 2000-1-1 ujjain", "\ufeffday gregorian 2000-1-1 ujjain",
		"gregorian 2000-1-1 ujjain", "feast 1 ujjain", "months 1 1 ujjain", "0 1 ujjain", "5 1 ujjain", "-1", "verbs", "dayday 1 ujjain", "daydate 1 ujjain", "day-date", "dtp", "np 1 ujjain",
	} {
		refuses(t, line, api.ErrKind)
	}
}

// lines are one of each verb, word by word.
func lines() map[string][]string {
	l := map[string][]string{}
	for _, line := range []string{
		"day gregorian 2000-1-1 ujjain", "date tamil 738000 ujjain", "convert amanta 2078-4l-12 tamil 0,0", "between gregorian 2000-1-1 amanta 2078-4l-12 ujjain", "plus amanta 2078-4l-12 30 ujjain",
		"almanac 717101 ujjain", "month 2039 12l ujjain", "year 2039 60,180", "solar bengal 1921 ujjain", "feasts 2078 ujjain",
	} {
		words := strings.Split(line, " ")
		l[words[0]] = words
	}
	return l
}

// P28.1, Parse: less words than should follow, down to none; more, also empty ones: two
// blanks have one between them, and so has a blank at the end behind it.
func TestCounts(t *testing.T) {
	for verb, words := range lines() {
		line := strings.Join(words, " ")
		if _, errno := ask.Parse(line); errno != api.OK {
			t.Errorf("Parse %s: %d", line, errno)
		}
		for n := 1; n < len(words); n++ {
			refuses(t, strings.Join(words[:n], " "), api.ErrWant)
			// What is there may be wrong: how many there are comes first.
			refuses(t, verb+strings.Repeat(" x", n-1), api.ErrWant)
			refuses(t, verb+strings.Repeat(" ", n-1), api.ErrWant)
			if n < len(words)-1 {
				refuses(t, strings.Join(words[:n], " ")+" ", api.ErrWant)
			}
			// A blank more, between two words, makes an empty word more.
			refuses(t, strings.Join(words[:n], " ")+"  "+strings.Join(words[n:], " "), api.ErrForm)
		}
		for _, more := range []string{" ", "  ", " x", " ujjain", " 1", " 1 ujjain", " " + verb, strings.Repeat(" ", 60000)} {
			refuses(t, line+more, api.ErrForm)
			refuses(t, verb+strings.Repeat(" x", len(words)-1)+more, api.ErrForm)
		}
	}
}

// wrong are, by what a word should be, such as it isn't, and their errors.
func wrong() map[string]map[string]api.Errno {
	long, more := strings.Repeat("9", 1000), strings.Repeat("9", 1001)
	return map[string]map[string]api.Errno{
		"scheme": {
			"": api.ErrKind, "x": api.ErrKind, "Gregorian": api.ErrKind, "GREGORIAN": api.ErrKind, "gregoria": api.ErrKind, "gregorians": api.ErrKind, "0": api.ErrKind, "8": api.ErrKind, "chaitra": api.ErrKind, "ujjain": api.ErrKind, "day": api.ErrKind,
			"2000-1-1": api.ErrKind, "gregorian\t": api.ErrKind, "gregorian\n": api.ErrKind, "\xff": api.ErrKind, "ग्रेगोरियन": api.ErrKind, more: api.ErrKind, "amanta-": api.ErrKind,
		},
		"date": {
			"": api.ErrForm, "2000": api.ErrForm, "2000-1": api.ErrForm, "2000-1-1-1": api.ErrForm, "2000--1": api.ErrForm, "2000-1--1": api.ErrForm, "2000--1-1": api.ErrForm, "2000l-1-1": api.ErrForm, "2000-1a-1": api.ErrForm, "2000-1-1l": api.ErrForm, "2000-1ll-1": api.ErrForm, "2000-1-1aa": api.ErrForm,
			"2000-01-1": api.ErrForm, "-0-1-1": api.ErrForm, "2000-1-1\n": api.ErrForm, "2000-1-1\t": api.ErrForm, "2000-१-1": api.ErrForm, "x": api.ErrForm, "--": api.ErrForm, more: api.ErrForm, "9223372036854775808-1-1": api.ErrBig, "1-" + more + "-1": api.ErrBig, "1-1-99999999999999999999a": api.ErrBig,
		},
		"number": {
			"": api.ErrForm, "x": api.ErrForm, "-": api.ErrForm, "-0": api.ErrForm, "+1": api.ErrForm, "01": api.ErrForm, "007": api.ErrForm, "00": api.ErrForm, "-01": api.ErrForm, "--1": api.ErrForm, "1.0": api.ErrForm, "1/2": api.ErrForm, "1l": api.ErrForm, "0x1": api.ErrForm, "1_000": api.ErrForm, "1e3": api.ErrForm, "1\n": api.ErrForm, "\t1": api.ErrForm, "१": api.ErrForm, "1\xff": api.ErrForm,
			"9223372036854775808": api.ErrBig, "-9223372036854775809": api.ErrBig, "18446744073709551617": api.ErrBig, long: api.ErrBig, more: api.ErrBig, "-" + more: api.ErrBig, "0" + more: api.ErrForm, more + "x": api.ErrForm,
		},
		"month": {
			"": api.ErrForm, "l": api.ErrForm, "ll": api.ErrForm, "1ll": api.ErrForm, "l1": api.ErrForm, "1L": api.ErrForm, "1a": api.ErrForm, "-l": api.ErrForm, "01": api.ErrForm, "01l": api.ErrForm, "+1": api.ErrForm, "-0": api.ErrForm, "-0l": api.ErrForm, "1l\n": api.ErrForm, "1\t": api.ErrForm, "1ll1": api.ErrForm, "chaitra": api.ErrForm, "x": api.ErrForm, "xl": api.ErrForm, "१l": api.ErrForm, "1\xff": api.ErrForm,
			"0": api.ErrArg, "0l": api.ErrArg, "13": api.ErrArg, "13l": api.ErrArg, "-1": api.ErrArg, "-1l": api.ErrArg, "-12": api.ErrArg, "100l": api.ErrArg, "4294967297": api.ErrArg, "9223372036854775807": api.ErrArg, "-9223372036854775808l": api.ErrArg,
			"9223372036854775808": api.ErrBig, "-9223372036854775809l": api.ErrBig, "18446744073709551617l": api.ErrBig, long + "l": api.ErrBig, more: api.ErrBig, more + "l": api.ErrBig, more + "ll": api.ErrForm,
		},
		"place": {
			"": api.ErrForm, "x": api.ErrForm, "Ujjain": api.ErrForm, "UJJAIN": api.ErrForm, "ujjai": api.ErrForm, "ujjain,": api.ErrForm, "ujjain\n": api.ErrForm, "ujjain\t": api.ErrForm, "ujjainujjain": api.ErrForm, "1": api.ErrForm, ",": api.ErrForm, "1,": api.ErrForm, ",1": api.ErrForm, "1,2,3": api.ErrForm, "01,2": api.ErrForm, "1/-2,3": api.ErrForm, "१,२": api.ErrForm, "\xff,1": api.ErrForm,
			"1/0,0": api.ErrArg, "0,1/0": api.ErrArg, more + ",0": api.ErrBig, "0," + more: api.ErrBig, "61,0": api.ErrRange, "-61,0": api.ErrRange, "0,181": api.ErrRange, "0,-181": api.ErrRange, "1/3601,0": api.ErrRange, "99999999999999999999,0": api.ErrRange, "216001/3600,0": api.ErrRange,
		},
	}
}

// kinds are, of each verb, what the words behind it should be.
func kinds() map[string][]string {
	return map[string][]string{
		"day": {"scheme", "date", "place"}, "date": {"scheme", "number", "place"}, "convert": {"scheme", "date", "scheme", "place"}, "between": {"scheme", "date", "scheme", "date", "place"}, "plus": {"scheme", "date", "number", "place"},
		"almanac": {"number", "place"}, "month": {"number", "month", "place"}, "year": {"number", "place"}, "solar": {"scheme", "number", "place"}, "feasts": {"number", "place"},
	}
}

// replaced is a line with other words at some places.
func replaced(words []string, at map[int]string) string {
	l := append([]string{}, words...)
	for i, word := range at {
		l[i] = word
	}
	return strings.Join(l, " ")
}

// P28.1, Parse: of each verb, each word in its turn: all that it may not be.
func TestWrongWords(t *testing.T) {
	for verb, words := range lines() {
		if len(kinds()[verb]) != len(words)-1 {
			t.Fatalf("%s: %v", verb, words)
		}
		for i, kind := range kinds()[verb] {
			for word, errno := range wrong()[kind] {
				refuses(t, replaced(words, map[int]string{i + 1: word}), errno)
			}
		}
	}
}

// P28.1, Parse: of two wrong words in one line the first one's error, and of all of them.
func TestFirstWrong(t *testing.T) {
	for verb, words := range lines() {
		k := kinds()[verb]
		for i := range k {
			for j := i + 1; j < len(k); j++ {
				for word, errno := range wrong()[k[i]] {
					for other := range wrong()[k[j]] {
						refuses(t, replaced(words, map[int]string{i + 1: word, j + 1: other}), errno)
					}
				}
			}
		}
		all := map[int]string{}
		for i := range k {
			all[i+1] = "x"
		}
		refuses(t, replaced(words, all), wrong()[k[0]]["x"])
	}
}

// P28.1, Parse: lines of MaxLine bytes are looked at, those of one more aren't, whatever
// stands in them.
func TestLong(t *testing.T) {
	for _, begin := range []string{
		"", " ", "x", "day ", "year 2039 ujjain ", "feasts 2078 ujjain", "almanac ", "almanac 1", "month 1 1", "day gregorian ", "day gregorian 2000-1-", "year 1 0,", "year 1 0,1", "date ",
	} {
		for _, fill := range []string{" ", "9", "-", "x", "\xff"} {
			line := begin + strings.Repeat(fill, api.MaxLine+1-len(begin))
			refuses(t, line, api.ErrBig)
			refuses(t, line+"x", api.ErrBig)
			_, errno := ask.Parse(line[:api.MaxLine])
			if errno == api.OK || errno == api.ErrBig && fill != "9" {
				t.Errorf("Parse of MaxLine bytes, %q, %q ..: %d", begin, fill, errno)
			}
		}
	}
	nines := func(begin, end string) string {
		return begin + strings.Repeat("9", api.MaxLine-len(begin)-len(end)) + end
	}
	for line, errno := range map[string]api.Errno{
		nines("", ""): api.ErrKind, nines("year", " ujjain"): api.ErrKind, nines("year ", ""): api.ErrWant, nines("day gregorian ", ""): api.ErrWant, nines("year 1 ujjain ", ""): api.ErrForm, nines("day x ", " ujjain"): api.ErrKind, nines("day gregorian ", " ujjain"): api.ErrForm,
		nines("day gregorian 1-1-1", "x ujjain"): api.ErrForm, nines("month 1 0", "l ujjain"): api.ErrForm, nines("solar 2", " 1 ujjain"): api.ErrKind, nines("year 1 9", ""): api.ErrForm,
		// Layer 4's own limit is far below this one.
		nines("year ", " ujjain"): api.ErrBig, nines("day gregorian ", "-1-1 ujjain"): api.ErrBig, nines("day gregorian 1-1-", " ujjain"): api.ErrBig, nines("month 1 ", "l ujjain"): api.ErrBig, nines("year 1 9,", ""): api.ErrBig,
	} {
		if len(line) != api.MaxLine {
			t.Errorf("%d bytes", len(line))
		}
		refuses(t, line, errno)
		refuses(t, line+"9", api.ErrBig)
		refuses(t, "x"+line, api.ErrBig)
	}
}

// P28.1: any text: lines with one byte more, less, or another one, are read or refused, and
// what is read is written so that it is read as the same again.
func TestAnyLine(t *testing.T) {
	check := func(line string) {
		a, errno := ask.Parse(line)
		if errno != api.OK {
			refuses(t, line, errno)
			return
		}
		if b, again := ask.Parse(ask.Text(a)); b != a || again != api.OK {
			t.Errorf("%q: %+v; %q: %+v, %d", line, a, ask.Text(a), b, again)
		}
	}
	for _, words := range lines() {
		line := strings.Join(words, " ")
		for i := range len(line) + 1 {
			for _, b := range []string{" ", "-", ",", "/", "0", "1", "9", "a", "l", "n", "\t", "\n", "\r", "\x00", "\x80", "\xff", "é"} {
				check(line[:i] + b + line[i:])
				if i < len(line) {
					check(line[:i] + b + line[i+1:])
				}
			}
			check(line[:i])
			check(line[i:])
			check(line[i:] + line[:i])
		}
	}
}
