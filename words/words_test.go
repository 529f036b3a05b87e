package words_test

import (
	"math"
	"slices"
	"strconv"
	"strings"
	"testing"

	"ephemeris/scheme"
	"ephemeris/words"
)

// known are all names, by kinds, from 0 on.
var known = [][]string{
	words.Weekday: {"ravivara", "somavara", "mangalavara", "budhavara", "guruvara", "shukravara", "shanivara"},
	words.Sign:    {"mesha", "vrishabha", "mithuna", "karka", "simha", "kanya", "tula", "vrishchika", "dhanu", "makara", "kumbha", "mina"},
	words.Month: {
		"chaitra", "vaishakha", "jyeshtha", "ashadha", "shravana", "bhadrapada",
		"ashvina", "kartika", "margashirsha", "pausha", "magha", "phalguna",
	},
	words.Tithi: {
		"shukla-pratipada", "shukla-dvitiya", "shukla-tritiya", "shukla-chaturthi", "shukla-panchami", "shukla-shashthi", "shukla-saptami", "shukla-ashtami",
		"shukla-navami", "shukla-dashami", "shukla-ekadashi", "shukla-dvadashi", "shukla-trayodashi", "shukla-chaturdashi", "purnima",
		"krishna-pratipada", "krishna-dvitiya", "krishna-tritiya", "krishna-chaturthi", "krishna-panchami", "krishna-shashthi", "krishna-saptami", "krishna-ashtami",
		"krishna-navami", "krishna-dashami", "krishna-ekadashi", "krishna-dvadashi", "krishna-trayodashi", "krishna-chaturdashi", "amavasya",
	},
	words.Star: {
		"ashvini", "bharani", "krittika", "rohini", "mrigashira", "ardra", "punarvasu", "pushya", "ashlesha",
		"magha", "purvaphalguni", "uttaraphalguni", "hasta", "chitra", "svati", "vishakha", "anuradha", "jyeshtha",
		"mula", "purvashadha", "uttarashadha", "shravana", "dhanishtha", "shatabhisha", "purvabhadrapada", "uttarabhadrapada", "revati",
	},
	words.Yoga: {
		"vishkambha", "priti", "ayushman", "saubhagya", "shobhana", "atiganda", "sukarma", "dhriti", "shula",
		"ganda", "vriddhi", "dhruva", "vyaghata", "harshana", "vajra", "siddhi", "vyatipata", "variyan",
		"parigha", "shiva", "siddha", "sadhya", "shubha", "shukla", "brahma", "indra", "vaidhriti",
	},
	words.Karana: {"bava", "balava", "kaulava", "taitila", "gara", "vanija", "vishti", "shakuni", "chatushpada", "naga", "kimstughna"},
	words.Scheme: {"gregorian", "julian", "oldsun", "oldmoon", "orissa", "tamil", "malayali", "bengal", "amanta", "purnimanta"},
}

// strangers are numbers that are no kind's.
func strangers() []int {
	return []int{-1, -2, 8, 9, 100, 256, 1 << 32, 1<<32 + 3, -1 << 32, -8, math.MaxInt, math.MinInt}
}

// name fails if the name at an index is another one.
func name(t *testing.T, kind, index int, want string) {
	t.Helper()
	if got := words.Name(kind, index); got != want {
		t.Errorf("Name %d, %d: %q, not %q", kind, index, got, want)
	}
}

// find fails if a word is another name, or if it is one and should be none.
func find(t *testing.T, kind int, word string, want int, ok bool) {
	t.Helper()
	if got, is := words.Find(kind, word); got != want || is != ok {
		t.Errorf("Find %d, %q: %d, %t; not %d, %t", kind, word, got, is, want, ok)
	}
}

// none fails if a word is a name of a kind.
func none(t *testing.T, kind int, word string) {
	t.Helper()
	find(t, kind, word, 0, false)
}

// P27.1: the kinds, by numbers.
func TestNumbers(t *testing.T) {
	for want, got := range []int{words.Weekday, words.Sign, words.Month, words.Tithi, words.Star, words.Yoga, words.Karana, words.Scheme, words.Kinds} {
		if got != want {
			t.Errorf("%d, not %d", got, want)
		}
	}
}

// P27.1, All: of each kind, and how many there are; of numbers that are no kind's there are
// none.
func TestAll(t *testing.T) {
	for kind, count := range []int{7, 12, 12, 30, 27, 27, 11, 10} {
		got := words.All(kind)
		if len(got) != count || !slices.Equal(got, known[kind]) {
			t.Errorf("All %d: %q", kind, got)
		}
	}
	for _, kind := range strangers() {
		if got := words.All(kind); len(got) != 0 {
			t.Errorf("All %d: %q", kind, got)
		}
	}
}

// P27.1, Name: each one; of an index ahead of the first one, of one behind the last one, and
// of far ones there is none, even where it would be one's, if it were cut.
func TestName(t *testing.T) {
	for kind, l := range known {
		for index, want := range l {
			name(t, kind, index, want)
		}
		for _, index := range []int{-1, -2, -len(l), len(l), len(l) + 1, 30, 256, 1 << 32, 1<<32 + 1, -1 << 32, math.MaxInt, math.MinInt} {
			name(t, kind, index, "")
		}
	}
	for _, kind := range strangers() {
		for index := -1; index < 31; index++ {
			name(t, kind, index, "")
		}
	}
}

// P27.1, Name: the document's examples, and the tithis where the halves begin and end: the
// full moon's and the new moon's bear no half.
func TestTithi(t *testing.T) {
	for index, want := range map[int]string{
		0: "shukla-pratipada", 13: "shukla-chaturdashi", 14: "purnima", 15: "krishna-pratipada", 28: "krishna-chaturdashi", 29: "amavasya", 30: "",
	} {
		name(t, words.Tithi, index, want)
	}
	for index := range 30 {
		half, rest, _ := strings.Cut(words.Name(words.Tithi, index), "-")
		switch {
		case index == 14 || index == 29:
			if rest != "" {
				t.Errorf("%d: %s-%s", index, half, rest)
			}
		case index < 14 && half != "shukla" || index > 14 && half != "krishna" || rest != words.Name(words.Tithi, index%15)[len("shukla-"):]:
			t.Errorf("%d: %s-%s", index, half, rest)
		}
	}
}

// P27.1, Find, and P27.2: each name is found where it is, there and back; in no other kind,
// but for those that both have.
func TestFind(t *testing.T) {
	for kind, l := range known {
		for index, word := range l {
			find(t, kind, word, index, true)
			find(t, kind, words.Name(kind, index), index, true)
			for other, names := range known {
				if !slices.Contains(names, word) {
					none(t, other, word)
				}
			}
			for _, other := range strangers() {
				none(t, other, word)
			}
		}
	}
}

// P27.1, Find: names that are of a Month and of a Star, each with an index of its own; and
// shukla, which is a Yoga's and no Tithi's.
func TestFindBoth(t *testing.T) {
	find(t, words.Month, "magha", 10, true)
	find(t, words.Star, "magha", 9, true)
	find(t, words.Month, "jyeshtha", 2, true)
	find(t, words.Star, "jyeshtha", 17, true)
	find(t, words.Month, "shravana", 4, true)
	find(t, words.Star, "shravana", 21, true)
	find(t, words.Yoga, "shukla", 23, true)
	for _, word := range []string{"shukla", "krishna", "shukla-", "krishna-", "pratipada", "chaturdashi", "shukla-purnima", "krishna-purnima", "shukla-amavasya", "krishna-amavasya", "shukla-shukla", "shukla pratipada", "shuklapratipada", "pratipada-shukla"} {
		none(t, words.Tithi, word)
	}
	none(t, words.Yoga, "magha")
	none(t, words.Sign, "magha")
}

// alike are words that look like a name, but aren't: with great letters, with what isn't of
// it ahead of it or behind, or with letters wanting.
func alike(word string) []string {
	return []string{
		strings.ToUpper(word), strings.ToUpper(word[:1]) + word[1:], word[:len(word)-1] + strings.ToUpper(word[len(word)-1:]),
		" " + word, word + " ", "\t" + word, word + "\n", word + "\x00", "\ufeff" + word, word + word, word + " " + word, word + "-", "-" + word, word + "a", "0" + word,
		word[1:], word[:len(word)-1], word[:1], word[len(word)-1:], word[:len(word)/2], word[:2] + "\u0301" + word[2:],
	}
}

// P27.1, Find: words that are no names: of each kind, the empty word too.
func TestFindNone(t *testing.T) {
	for kind, l := range known {
		for _, word := range l {
			for _, other := range alike(word) {
				if !slices.Contains(l, other) {
					none(t, kind, other)
				}
			}
		}
		for _, word := range []string{"", " ", "-", "0", "1", strconv.Itoa(kind), "\xff", "\xf0\x9f", "मेष", "leap", "again", "\x00", strings.Join(l, " "), strings.Repeat("magha", 100000)} {
			none(t, kind, word)
		}
	}
	for _, kind := range strangers() {
		none(t, kind, "")
		none(t, kind, " ")
	}
}

// P27.2: no two names of a kind are the same, and none is empty, or has a space or a great
// letter in it.
func TestDistinct(t *testing.T) {
	for kind := range words.Kinds {
		seen := map[string]int{}
		for index, word := range words.All(kind) {
			if other, ok := seen[word]; ok {
				t.Errorf("%d: %s at %d and at %d", kind, word, other, index)
			}
			seen[word] = index
			if word == "" || strings.ContainsAny(word, " \t\n") || strings.ToLower(word) != word {
				t.Errorf("%d: %q", kind, word)
			}
			if got, ok := words.Find(kind, word); got != index || !ok || words.Name(kind, got) != word {
				t.Errorf("%d: %s is at %d, %t", kind, word, got, ok)
			}
		}
	}
}

// P27.1: the names of schemes stand at the schemes' own numbers.
func TestSchemes(t *testing.T) {
	if len(words.All(words.Scheme)) != scheme.Schemes {
		t.Error(words.All(words.Scheme))
	}
	for number, want := range map[int]string{
		scheme.Gregorian: "gregorian", scheme.Julian: "julian", scheme.OldSun: "oldsun", scheme.OldMoon: "oldmoon", scheme.Orissa: "orissa",
		scheme.Tamil: "tamil", scheme.Malayali: "malayali", scheme.Bengal: "bengal", scheme.Amanta: "amanta", scheme.Purnimanta: "purnimanta",
	} {
		name(t, words.Scheme, number, want)
		find(t, words.Scheme, want, number, true)
	}
}

// P27.1, All: what is done with an answer changes no other one, also what is put behind it.
func TestOwn(t *testing.T) {
	for kind, want := range known {
		l := words.All(kind)
		other := words.All(kind)
		for i := range l {
			l[i] = "changed"
		}
		_ = append(l[:0], "first")
		_ = append(l, "last")
		if !slices.Equal(other, want) || !slices.Equal(words.All(kind), want) {
			t.Errorf("%d: %q, %q", kind, other, words.All(kind))
		}
		name(t, kind, 0, want[0])
		find(t, kind, want[0], 0, true)
		none(t, kind, "changed")
	}
}
