package reckon_test

import (
	"math/big"
	"testing"

	"ephemeris/api"
	"ephemeris/cut"
	"ephemeris/rat"
	"ephemeris/reckon"
)

// far is how far away from 0 days and weekdays may be that are asked for.
const far = 1 << 40

// nearest fails if the nearest day of a weekday is another one.
func nearest(t *testing.T, day int64, weekday int, want int64) {
	t.Helper()
	if got := reckon.Nearest(day, weekday); got != want {
		t.Errorf("Nearest %d, %d: %d, not %d", day, weekday, got, want)
	}
}

// P26.1, Nearest: of a Saturday, January 1 of 2000, and the days around it, of days around 0
// and below it: the day itself, if it has that weekday, else one at most six days ahead.
func TestNearest(t *testing.T) {
	for _, c := range []struct {
		day     int64
		weekday int
		want    int64
	}{
		{730120, 6, 730120}, {730120, 5, 730119}, {730120, 0, 730114}, {730119, 6, 730113}, {730121, 6, 730120}, {730126, 6, 730120}, {730127, 6, 730127},
		{0, 0, 0}, {0, 1, -6}, {0, 6, -1}, {1, 1, 1}, {1, 2, -5}, {1, 0, 0}, {6, 0, 0}, {7, 0, 7}, {-1, 6, -1}, {-1, 0, -7}, {-7, 0, -7}, {-8, 0, -14}, {-8, 6, -8},
		{api.Kali, 5, api.Kali}, {api.Kali, 6, api.Kali - 6}, {api.Kali, 4, api.Kali - 1},
		{api.MaxDay, 3, api.MaxDay}, {api.MaxDay, 4, api.MaxDay - 6}, {-api.MaxDay, 4, -api.MaxDay}, {-api.MaxDay, 5, -api.MaxDay - 6},
		{730120, 13, 730120}, {730120, 7, 730114}, {730120, -1, 730120}, {730120, -2, 730119}, {730120, -7, 730114}, {730120, -8, 730120}, {0, -6, -6}, {0, -1, -1}, {0, 700, 0}, {0, -700, 0}, {0, -699, -6}, {0, 1<<32 + 4, -6}, {-1, -1, -1}, {-1, 7, -7},
		{far, 2, far}, {far, 3, far - 6}, {-far, 5, -far}, {-far, 6, -far - 6}, {-far, 0, -far - 5}, {730120, far, 730116}, {730120, -far, 730119}, {0, far, -5}, {0, -far, -2},
		{far, far, far}, {far, -far, far - 4}, {-far, far, -far - 3}, {-far, -far, -far}, {far - 1, far, far - 7}, {-far, 1 - far, -far - 6},
	} {
		nearest(t, c.day, c.weekday, c.want)
	}
}

// P26.1, Nearest: of weeks of days in many places, with weekdays on either side of a week: of
// all the days that aren't behind the day, and that have the weekday, it is the greatest.
func TestNearestWords(t *testing.T) {
	for _, first := range []int64{-10, 730110, api.Kali, -api.MaxDay, api.MaxDay, 1 << 31, 1 << 32, -1 << 32, far - 20, -far} {
		for day := first; day < first+15; day++ {
			for _, weeks := range []int{0, 1, -1, 1000, -1000, 1 << 29, -1 << 29, far/7 - 1, -far / 7} {
				for weekday := range 7 {
					want := day
					for (want%7+7)%7 != int64(weekday) {
						want--
					}
					nearest(t, day, weekday+7*weeks, want)
				}
			}
		}
	}
}

// P26.3, Nearest: a week more, a week later; of a weekday a week more the same.
func TestNearestWeek(t *testing.T) {
	for day := int64(-3000000); day <= 3000000; day += 100003 {
		for weekday := -9; weekday < 16; weekday++ {
			got := reckon.Nearest(day, weekday)
			nearest(t, day+7, weekday, got+7)
			nearest(t, day-7, weekday, got-7)
			nearest(t, day, weekday+7, got)
			nearest(t, got, weekday, got)
			nearest(t, got+6, weekday, got)
			nearest(t, got-1, weekday, got-7)
		}
	}
}

// P26.1, Jupiter: in lowest terms, a new one each time.
func TestJupiter(t *testing.T) {
	if got := cut.Text(reckon.Jupiter()); got != "394479457/1092660" {
		t.Error(got)
	}
	if !reckon.Jupiter().Mul(rat.Whole(12)).Mul(rat.Whole(364220000)).Same(rat.Whole(1577917828000)) {
		t.Error("that many turns take another number of days")
	}
}

// cycle fails if a day's year of the sixty is another one.
func cycle(t *testing.T, day int64, want int) {
	t.Helper()
	if got := reckon.Cycle(day); got != want {
		t.Errorf("Cycle %d: %d, not %d", day, got, want)
	}
}

// P26.1, Cycle: the document's example, and days that were reckoned elsewhere: ordinary ones
// and far ones.
func TestCycle(t *testing.T) {
	for _, c := range []struct {
		day  int64
		want int
	}{
		{api.Kali, 27}, {api.Kali - 1, 26}, {api.Kali + 1, 27}, {0, 45}, {1, 45}, {-1, 45}, {577736, 25}, {723954, 10}, {730120, 27}, {730481, 28}, {-3000000, 15}, {3000000, 14},
		{1<<32 + 730120, 3}, {-1<<32 + 730120, 51}, {far, 18}, {far - 1, 18}, {-far, 11}, {1 - far, 11},
	} {
		cycle(t, c.day, c.want)
	}
}

// P26.1, Cycle: days with which a year of the sixty begins, and the days ahead of them, that
// were reckoned elsewhere; some begin with the day itself, as that of day Kali does.
func TestCycleChanges(t *testing.T) {
	for _, c := range []struct {
		day  int64
		want int
	}{
		{-1132597, 28}, {-1132236, 29}, {-1133320, 26}, {-1133681, 25}, {-1121045, 60}, {-1120684, 1}, {-1111297, 27}, {-1142706, 60}, {-1142345, 1}, {-1154620, 27}, {-1154981, 26},
		{708278, 27}, {729578, 26}, {730300, 28}, {2997187, 7}, {-3000550, 14}, {-723186401, 7}, {1083079030130, 27}, {-1083081296047, 27},
		{-395612416, 27}, {-790091873, 27}, {393346498, 27}, {787825955, 27}, {788957781041, 27}, {-788960046959, 27},
	} {
		cycle(t, c.day, c.want)
		cycle(t, c.day-1, (c.want+58)%60+1)
	}
}

// wholeCycle is Cycle by whole numbers: of what is so many times greater than days are.
func wholeCycle(day int64) int {
	above := new(big.Int).Mul(big.NewInt(day-api.Kali), big.NewInt(12*364220000))
	years := new(big.Int).Div(above, big.NewInt(1577917828000))
	left := new(big.Int).Mod(years.Add(years, big.NewInt(26)), big.NewInt(60))
	return int(left.Int64()) + 1
}

// P26.1, Cycle: from one end of the days that may be to the other, day by day around where
// the Kali Yuga begins, and far beyond: by whole numbers.
func TestCycleWhole(t *testing.T) {
	for day := int64(-api.MaxDay); day <= api.MaxDay; day += 97 {
		cycle(t, day, wholeCycle(day))
	}
	for day := int64(api.Kali - 4000); day < api.Kali+4000; day++ {
		cycle(t, day, wholeCycle(day))
	}
	for day := int64(-far); day <= far; day += far/1000 - 1 {
		cycle(t, day, wholeCycle(day))
	}
}

// P26.1, Cycle: all sixty come one behind the other, none from 361 days on to more than 362.
func TestCycleSixty(t *testing.T) {
	year, days := reckon.Cycle(api.Kali), 0
	for day := int64(api.Kali); day < api.Kali+61*362; day++ {
		next := reckon.Cycle(day)
		if next != year {
			if next != year%60+1 || days != 361 && days != 362 {
				t.Errorf("ahead of %d: %d days of %d, then %d", day, days, year, next)
			}
			year, days = next, 0
		}
		days++
	}
}
