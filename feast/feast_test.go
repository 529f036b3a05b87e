package feast_test

import (
	"slices"
	"strconv"
	"strings"
	"testing"

	"ephemeris/amanta"
	"ephemeris/api"
	"ephemeris/feast"
	"ephemeris/place"
)

// The places that may be, at their edges: far to the north and to the south, far to the
// east and to the west of Ujjain; and others.
func ujjain() place.Place    { return place.Ujjain() }
func northEast() place.Place { return place.Place{Lat: 60, LatOver: 1, Lon: 180, LonOver: 1} }
func southWest() place.Place { return place.Place{Lat: -60, LatOver: 1, Lon: -180, LonOver: 1} }
func northWest() place.Place { return place.Place{Lat: 60, LatOver: 1, Lon: -180, LonOver: 1} }
func southEast() place.Place { return place.Place{Lat: -60, LatOver: 1, Lon: 180, LonOver: 1} }
func equator() place.Place   { return place.Place{LatOver: 1, LonOver: 1} }
func north() place.Place     { return place.Place{Lat: 216000, LatOver: 3600, Lon: 45461, LonOver: 600} }
func middle() place.Place    { return place.Place{Lat: -7, LatOver: 3600, Lon: -647999, LonOver: 3600} }

func places() []place.Place {
	return []place.Place{ujjain(), northEast(), southWest(), northWest(), southEast(), equator(), north(), middle()}
}

// feasts are all of them, in their order.
func feasts() []feast.Feast {
	return []feast.Feast{
		{Name: "ugadi", Month: 1, Day: 1}, {Name: "ramanavami", Month: 1, Day: 9}, {Name: "rakhi", Month: 5, Day: 15}, {Name: "ganesha", Month: 6, Day: 4},
		{Name: "dasara", Month: 7, Day: 10}, {Name: "dipavali", Month: 7, Day: 30}, {Name: "shivaratri", Month: 11, Day: 29}, {Name: "holi", Month: 12, Day: 15},
	}
}

// The marks behind a day that is told: its feast is moved, or its lunar day comes twice.
const (
	moved = "m"
	twice = "t"
)

// none is told of a feast whose month is expunged, out of one whose day may not be.
const (
	none = "-"
	out  = "x"
)

// held is what a feast that is told so is: the day, and its mark.
func held(f feast.Feast, told string) (feast.Held, api.Errno) {
	switch told {
	case none:
		return feast.Held{}, api.ErrNone
	case out:
		return feast.Held{}, api.ErrRange
	}
	day, _ := strconv.ParseInt(strings.TrimRight(told, moved+twice), 10, 64)
	return feast.Held{Feast: f, On: day, Moved: strings.HasSuffix(told, moved)}, api.OK
}

// holds fails if a feast is held on another day, or has another error; if its lunar day
// comes twice, the day behind it has that, too.
func holds(t *testing.T, f feast.Feast, year int64, p place.Place, told string) {
	t.Helper()
	want, errno := held(f, told)
	if got, e := f.Hold(year, p); got != want || e != errno {
		t.Errorf("at %s, %v in %d: %+v, %d; not %+v, %d", p.Text(), f, year, got, e, want, errno)
	}
	if errno == api.OK && (amanta.Tithi(want.On, p) == f.Day && amanta.Tithi(want.On+1, p) == f.Day) != strings.HasSuffix(told, twice) {
		t.Errorf("at %s, %v in %d: %s", p.Text(), f, year, told)
	}
}

// known are years, reckoned elsewhere, with the days of all feasts: ordinary ones, such
// with a leap month of a feast's number and of others, with an expunged month that is a
// feast's, and with one that isn't; 0, below it, and the first and the last year all of
// whose feasts are on days that may be.
var known = []struct {
	p    place.Place
	year int64
	told string
}{
	{ujjain(), -8155, "-2999823 -2999816 -2999662 -2999644 -2999608 -2999589 -2999471 -2999455m"},
	{ujjain(), 0, "-21132 -21124 -21000 -20981 -20946 -20926 -20809 -20793"},
	{ujjain(), 2020, "716690 716697 716822 716840 716905 716925 717013 717028"},
	{ujjain(), 2039, "723630 723637 723761 723779 723845 723864 - 723997"},
	{ujjain(), 8270, "2999552 2999560 2999713 2999731 2999767 2999787m 2999904 2999920"},
	{northEast(), -6103, "-2250307 -2250300 -2250175 -2250128t -2250092 -2250072 - -2249939"},
	{northEast(), 2058, "730570 730578m 730701 730720 730784t 730804 730922 730938"},
	{northEast(), 8270, "2999552 2999560 2999713 2999732 2999767 2999787 2999904 2999920"},
	{southWest(), -8155, "-2999824 -2999816 -2999663 -2999645 -2999609t -2999589 -2999471 -2999456"},
	{southWest(), 583, "191812 191821 191944 191963 191998 192018 192165 192181"},
	{southWest(), 2134, "758327 758335 758459 758507 758543 758562t 758680 758695"},
	{northWest(), 2142, "761250 761258t 761383 761401 761437 761456 761574 761619"},
	{northWest(), 2162, "768575m 768582 768706 768724 768760 768779 768897t 768913"},
	{northWest(), 8270, "2999551 2999559 2999712 2999731 2999766 2999786 2999903 2999919"},
	{southEast(), -3044, "-1132988 -1132980 -1132827 -1132808 -1132773 -1132752 -1132635 -1132620t"},
	{southEast(), 2039, "723630 723637 723761t 723780 723845 723864 - 723998"},
	{southEast(), 2202, "783163 783172 783324 783344m 783378 783399 783516m 783532"},
	{equator(), -1, "-21487 -21478 -21355 -21336 -21301 -21281 -21164 -21148"},
	{equator(), 2245, "798873 798881 799004 799024 799059m 799079 - 799242"},
	{north(), 0, "-21132 -21124 -21000 -20981 -20946 -20926 -20809 -20793"},
	{north(), 2283, "812752 812761 812885m 812904 812939 812959 813076 813121"},
	{middle(), -8155, "-2999824 -2999816 -2999663 -2999645 -2999609t -2999589 -2999471 -2999456"},
	{middle(), -6103, "-2250308 -2250301 -2250176 -2250129t -2250092m -2250073 - -2249940"},
	{middle(), 8270, "2999551t 2999559 2999712 2999731 2999766 2999786 2999903 2999919"},
}

// P29.1, All: the feasts, in their order; what is done with an answer changes no later one.
func TestAll(t *testing.T) {
	first := feast.All()
	for range 2 {
		l := feast.All()
		if !slices.Equal(l, feasts()) {
			t.Errorf("All: %v", l)
		}
		clear(l)
		_ = append(l[:0], feast.Feast{Name: "first"})
		_ = append(l, feast.Feast{Name: "last"})
	}
	if !slices.Equal(first, feasts()) {
		t.Errorf("All: %v", first)
	}
}

// P29.1, Find: each of the feasts, and the document's example.
func TestFind(t *testing.T) {
	for _, f := range feasts() {
		if got, ok := feast.Find(f.Name); got != f || !ok {
			t.Errorf("Find %s: %v, %t", f.Name, got, ok)
		}
	}
	if f, ok := feast.Find("holi"); f.Month != 12 || f.Day != 15 || !ok {
		t.Errorf("Find: %v", f)
	}
}

// P29.1, Find: of other words there is none.
func TestFindNone(t *testing.T) {
	l := []string{"", " ", "x", "1", "chaitra", "purnima", "diwali", "pongal", "\x00", "\xff", "होली", "ugadi ramanavami", strings.Repeat("holi", 100000)}
	for _, f := range feasts() {
		n := len(f.Name)
		l = append(l, strings.ToUpper(f.Name), strings.ToUpper(f.Name[:1])+f.Name[1:], f.Name[:n-1]+strings.ToUpper(f.Name[n-1:]), " "+f.Name, f.Name+" ", "\t"+f.Name, f.Name+"\n",
			f.Name[1:], f.Name[:n-1], f.Name[:1], f.Name[n/2:], f.Name+f.Name, f.Name+"s", "a"+f.Name, f.Name+"\x00", f.Name[:2]+"\u0301"+f.Name[2:])
	}
	for _, name := range l {
		if got, ok := feast.Find(name); got != (feast.Feast{}) || ok {
			t.Errorf("Find %.40q: %v, %t", name, got, ok)
		}
	}
}

// P29.1, P29.2, Hold, Year: years that were reckoned elsewhere.
func TestKnown(t *testing.T) {
	for _, c := range known {
		t.Run(strconv.FormatInt(c.year, 10)+" at "+c.p.Text(), func(t *testing.T) {
			t.Parallel()
			want := []feast.Held{}
			for i, told := range strings.Fields(c.told) {
				holds(t, feasts()[i], c.year, c.p, told)
				if h, errno := held(feasts()[i], told); errno == api.OK {
					want = append(want, h)
				}
			}
			if got, errno := feast.Year(c.year, c.p); !slices.Equal(got, want) || errno != api.OK {
				t.Errorf("Year: %+v, %d; not %+v", got, errno, want)
			}
		})
	}
}

// Of the years that are known: each feast is moved once at least, comes twice once at
// least, and is neither.
func TestKnownAll(t *testing.T) {
	seen := map[string]int{}
	for _, c := range known {
		for i, told := range strings.Fields(c.told) {
			seen[feasts()[i].Name+strings.TrimLeft(told, "-0123456789")]++
		}
	}
	for _, f := range feasts() {
		if seen[f.Name] == 0 || seen[f.Name+moved] == 0 || seen[f.Name+twice] == 0 {
			t.Errorf("%s: %d, %d, %d", f.Name, seen[f.Name], seen[f.Name+moved], seen[f.Name+twice])
		}
	}
}

// byHand are feasts made by hand, reckoned elsewhere: on other lunar days and in other
// months, such as a day of the month has, or two, or none; and in expunged ones.
var byHand = []struct {
	p          place.Place
	year       int64
	month, day int
	told       string
}{
	{ujjain(), 8100, 9, 28, "2937741"}, {ujjain(), -8000, 8, 21, "-2942957"}, {northEast(), 583, 9, 26, "192104"}, {northEast(), 8100, 11, 24, "2937796t"},
	{southWest(), -8000, 2, 2, "-2943154"}, {southWest(), -1, 10, 1, "-21221"}, {northWest(), 1999, 4, 17, "709145"}, {northWest(), 0, 7, 18, "-20939"},
	{southEast(), 583, 12, 9, "192176"}, {southEast(), 0, 1, 3, "-21130"}, {equator(), 583, 1, 28, "191839"}, {equator(), -3044, 7, 3, "-1132780"},
	{north(), 0, 6, 1, "-20984"}, {north(), -3044, 2, 5, "-1132955"}, {middle(), 8100, 3, 22, "2937558"}, {middle(), 2020, 7, 21, "716915"},
	{ujjain(), -4991, 3, 24, "-1844062m"}, {ujjain(), 3907, 10, 17, "-"}, {ujjain(), -221, 2, 8, "-101803t"},
	{northEast(), 6980, 8, 9, "2528606m"}, {northEast(), -2852, 2, 27, "-1062798t"}, {northEast(), 1597, 10, 26, "-"},
	{southWest(), -1770, 2, 19, "-667598m"}, {southWest(), 1689, 4, 25, "595902t"}, {southWest(), -1925, 9, 22, "-"},
	{northWest(), -5612, 4, 29, "-2070853t"}, {northWest(), -3445, 9, 2, "-1279194m"}, {northWest(), -6930, 10, 9, "-"},
	{southEast(), 1939, 8, 9, "687345m"}, {southEast(), -7049, 4, 14, "-2595744t"}, {southEast(), -4864, 10, 4, "-"},
	{equator(), -3219, 4, 1, "-1196804m"}, {equator(), 7282, 2, 6, "2638722t"}, {equator(), 7204, 10, 17, "-"},
	{north(), -7697, 3, 11, "-2832464t"}, {north(), 6499, 10, 6, "-"}, {north(), 8030, 4, 25, "2912018m"},
	{middle(), 3160, 2, 12, "1133140t"}, {middle(), 4872, 10, 20, "1758695m"}, {middle(), -3728, 10, 25, "-"},
}

// P29.1, Hold: feasts made by hand, of any name, which stays what it is.
func TestByHand(t *testing.T) {
	t.Parallel()
	for i, c := range byHand {
		name := []string{"", "birthday", "holi", "\xff", "मेला", " "}[i%6]
		holds(t, feast.Feast{Name: name, Month: c.month, Day: c.day}, c.year, c.p, c.told)
	}
}

// P29.1: a feast that is held is one: what it is, and when it is held in another year, it
// tells itself.
func TestHeld(t *testing.T) {
	f, _ := feast.Find("dasara")
	h, errno := f.Hold(2020, ujjain())
	if errno != api.OK || h.Name != "dasara" || h.Month != 7 || h.Day != 10 || h.Feast != f {
		t.Errorf("%+v, %d", h, errno)
	}
	again, errno := h.Hold(2039, ujjain())
	if errno != api.OK || again != (feast.Held{Feast: f, On: 723845}) {
		t.Errorf("%+v, %d", again, errno)
	}
}

// P29.1: what is done with an answer changes no later one.
func TestNothingChanges(t *testing.T) {
	want, _ := feast.Year(2039, ujjain())
	l, _ := feast.Year(2039, ujjain())
	clear(l)
	_ = append(l[:0], feast.Held{On: 1})
	if got, errno := feast.Year(2039, ujjain()); !slices.Equal(got, want) || len(want) != 7 || errno != api.OK {
		t.Errorf("Year: %+v, %d; not %+v", got, errno, want)
	}
}
