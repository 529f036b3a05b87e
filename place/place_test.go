package place_test

import (
	"math"
	"math/big"
	"strconv"
	"strings"
	"testing"

	"ephemeris/api"
	"ephemeris/place"
	"ephemeris/rat"
	"ephemeris/whole"
)

// integer is math/big's number of the same sign and limbs: it knows nothing of
// the layers.
func integer(x whole.Int) *big.Int {
	v := new(big.Int)
	for i := len(x.Abs) - 1; i >= 0; i-- {
		v.Lsh(v, 32).Or(v, big.NewInt(int64(x.Abs[i])))
	}
	if x.Neg {
		v.Neg(v)
	}
	return v
}

// value is math/big's number of what stands above and below.
func value(x rat.Rat) *big.Rat {
	return new(big.Rat).SetFrac(integer(x.Num()), integer(whole.Int{Abs: x.Den()}))
}

// degrees is by math/big how far so many over so many is.
func degrees(above, below int64) *big.Rat {
	if below == 0 {
		return new(big.Rat)
	}
	return big.NewRat(above, below)
}

// angles are what stands above and below, of what may be and of what may not: as
// far as 60 and 180 degrees, and just beyond, in lowest terms and not.
func angles() [][2]int64 {
	l := [][2]int64{}
	for _, below := range []int64{1, 2, 7, 60, 3599, 3600, 3601, 7200, 0, -1, -3600, math.MaxInt64, math.MinInt64} {
		for _, above := range []int64{0, 1, 12, 1800, 3600, 60, 180, 60 * 2, 60 * 7, 180 * 7, 60 * 3599, 180 * 3599, 60 * 3600, 180 * 3600, 1 << 40, math.MaxInt64} {
			for _, more := range []int64{-1, 0, 1} {
				l = append(l, [2]int64{above + more, below}, [2]int64{-above - more, below})
			}
		}
	}
	return l
}

// near tells by math/big if so many over so many degrees may be.
func near(above, below, most int64) bool {
	if below < 1 || below > 3600 {
		return false
	}
	x := degrees(above, below)
	return x.Abs(x).Cmp(big.NewRat(most, 1)) <= 0
}

// P13.1, Ujjain.
func TestUjjain(t *testing.T) {
	p := place.Ujjain()
	if p != (place.Place{Lat: 463, LatOver: 20, Lon: 45461, LonOver: 600}) {
		t.Errorf("Ujjain: %+v", p)
	}
	if lat, lon := value(p.Latitude()), value(p.Longitude()); lat.Cmp(big.NewRat(463, 20)) != 0 || lon.Cmp(big.NewRat(45461, 600)) != 0 {
		t.Errorf("Ujjain: %v, %v", lat, lon)
	}
	if got := p.Text(); got != "463/20,45461/600" {
		t.Errorf("Ujjain's text: %s", got)
	}
	if got := p.Check(); got != api.OK {
		t.Errorf("Ujjain: %d", got)
	}
}

// P13.1, Latitude, Longitude: of any numbers, in lowest terms; 0 over 0.
func TestAngles(t *testing.T) {
	for _, a := range angles() {
		want := degrees(a[0], a[1])
		if got := (place.Place{Lat: a[0], LatOver: a[1], Lon: 7, LonOver: 3}).Latitude(); value(got).Cmp(want) != 0 {
			t.Errorf("latitude of %d over %d: %v", a[0], a[1], value(got))
		}
		if got := (place.Place{Lat: 7, LatOver: 3, Lon: a[0], LonOver: a[1]}).Longitude(); value(got).Cmp(want) != 0 {
			t.Errorf("longitude of %d over %d: %v", a[0], a[1], value(got))
		}
	}
}

// P13.1, Check: each angle has its own bound, and counts by itself.
func TestCheck(t *testing.T) {
	for _, c := range []struct {
		p    place.Place
		want api.Errno
	}{
		{place.Place{Lat: 60, LatOver: 1, Lon: 180, LonOver: 1}, api.OK}, {place.Place{Lat: -60, LatOver: 1, Lon: -180, LonOver: 1}, api.OK},
		{place.Place{Lat: 216000, LatOver: 3600, Lon: 648000, LonOver: 3600}, api.OK}, {place.Place{Lat: -216000, LatOver: 3600, Lon: -648000, LonOver: 3600}, api.OK},
		{place.Place{Lat: 0, LatOver: 1, Lon: 0, LonOver: 3600}, api.OK}, {place.Place{Lat: 0, LatOver: 3600, Lon: 61, LonOver: 1}, api.OK},
		{place.Place{Lat: 61, LatOver: 1, Lon: 0, LonOver: 1}, api.ErrRange}, {place.Place{Lat: -61, LatOver: 1, Lon: 0, LonOver: 1}, api.ErrRange},
		{place.Place{Lat: 216001, LatOver: 3600, Lon: 0, LonOver: 1}, api.ErrRange}, {place.Place{Lat: -216001, LatOver: 3600, Lon: 0, LonOver: 1}, api.ErrRange},
		{place.Place{Lat: 0, LatOver: 1, Lon: 181, LonOver: 1}, api.ErrRange}, {place.Place{Lat: 0, LatOver: 1, Lon: -181, LonOver: 1}, api.ErrRange},
		{place.Place{Lat: 0, LatOver: 1, Lon: 648001, LonOver: 3600}, api.ErrRange}, {place.Place{Lat: 0, LatOver: 1, Lon: -648001, LonOver: 3600}, api.ErrRange},
		{place.Place{Lat: 0, LatOver: 0, Lon: 0, LonOver: 1}, api.ErrRange}, {place.Place{Lat: 0, LatOver: 1, Lon: 0, LonOver: 0}, api.ErrRange},
		{place.Place{Lat: 0, LatOver: -1, Lon: 0, LonOver: 1}, api.ErrRange}, {place.Place{Lat: 0, LatOver: 1, Lon: 0, LonOver: -1}, api.ErrRange},
		{place.Place{Lat: 0, LatOver: 3601, Lon: 0, LonOver: 1}, api.ErrRange}, {place.Place{Lat: 0, LatOver: 1, Lon: 0, LonOver: 3601}, api.ErrRange},
		{place.Place{Lat: 7200, LatOver: 7200, Lon: 0, LonOver: 1}, api.ErrRange}, {place.Place{}, api.ErrRange},
	} {
		if got := c.p.Check(); got != c.want {
			t.Errorf("%+v: %d, not %d", c.p, got, c.want)
		}
	}
	for _, a := range angles() {
		lat, lon := api.ErrRange, api.ErrRange
		if near(a[0], a[1], 60) {
			lat = api.OK
		}
		if near(a[0], a[1], 180) {
			lon = api.OK
		}
		if got := (place.Place{Lat: a[0], LatOver: a[1], Lon: 180, LonOver: 1}).Check(); got != lat {
			t.Errorf("latitude of %d over %d: %d", a[0], a[1], got)
		}
		if got := (place.Place{Lat: -60, LatOver: 1, Lon: a[0], LonOver: a[1]}).Check(); got != lon {
			t.Errorf("longitude of %d over %d: %d", a[0], a[1], got)
		}
	}
}

// P13.1, Text: in lowest terms, of what may not be too.
func TestText(t *testing.T) {
	for _, c := range []struct {
		p    place.Place
		want string
	}{
		{place.Place{Lat: 60, LatOver: 1, Lon: -180, LonOver: 1}, "60,-180"}, {place.Place{Lat: -216000, LatOver: 3600, Lon: 648000, LonOver: 3600}, "-60,180"},
		{place.Place{Lat: 0, LatOver: 7, Lon: 4, LonOver: 6}, "0,2/3"}, {place.Place{Lat: -1, LatOver: 3600, Lon: -3599, LonOver: 3600}, "-1/3600,-3599/3600"},
		{place.Place{Lat: 3601, LatOver: 3600, Lon: 10, LonOver: 4}, "3601/3600,5/2"},
		{place.Place{}, "0,0"}, {place.Place{Lat: 5, LatOver: 0, Lon: 6, LonOver: -4}, "0,-3/2"}, {place.Place{Lat: 61, LatOver: 1, Lon: 1, LonOver: 3601}, "61,1/3601"},
		{place.Place{Lat: math.MinInt64, LatOver: 1, Lon: math.MinInt64, LonOver: math.MinInt64}, "-9223372036854775808,1"},
		{place.Place{Lat: math.MinInt64, LatOver: -1, Lon: 1, LonOver: math.MinInt64}, "9223372036854775808,-1/9223372036854775808"},
	} {
		if got := c.p.Text(); got != c.want {
			t.Errorf("%+v: %s, not %s", c.p, got, c.want)
		}
	}
	for _, a := range angles() {
		want := degrees(a[0], a[1]).RatString()
		if got := (place.Place{Lat: a[0], LatOver: a[1], Lon: -a[0], LonOver: 9}).Text(); got != want+","+degrees(-a[0], 9).RatString() {
			t.Errorf("%d over %d: %s", a[0], a[1], got)
		}
	}
}

// P13.1, Parse: what may be, in lowest terms.
func TestParse(t *testing.T) {
	many := "1" + strings.Repeat("0", 999)
	for s, want := range map[string]place.Place{
		"463/20,45461/600": place.Ujjain(), "0,0": {LatOver: 1, LonOver: 1}, "60,180": {Lat: 60, LatOver: 1, Lon: 180, LonOver: 1}, "-60,-180": {Lat: -60, LatOver: 1, Lon: -180, LonOver: 1},
		"1/3600,-1/3600": {Lat: 1, LatOver: 3600, Lon: -1, LonOver: 3600}, "215999/3600,-647999/3600": {Lat: 215999, LatOver: 3600, Lon: -647999, LonOver: 3600},
		"216000/3600,-648000/3600": {Lat: 60, LatOver: 1, Lon: -180, LonOver: 1}, "4/6,-10/4": {Lat: 2, LatOver: 3, Lon: -5, LonOver: 2}, "0/7,0/9223372036854775808": {LatOver: 1, LonOver: 1},
		"2/7200,7202/7200": {Lat: 1, LatOver: 3600, Lon: 3601, LonOver: 3600},
		"18446744073709551616/36893488147419103232,7/1":   {Lat: 1, LatOver: 2, Lon: 7, LonOver: 1},
		many + "/" + many + ",-" + many + "/2" + many[1:]: {Lat: 1, LatOver: 1, Lon: -1, LonOver: 2},
	} {
		if got, errno := place.Parse(s); got != want || errno != api.OK {
			t.Errorf("%s: %+v, %d", s, got, errno)
		}
	}
}

// P13.1, Parse: what is no place's text, or none of one that may be; of several
// errors the first one: no comma, then one angle's, then the other one's, and only
// then how far they are.
func TestParseErrors(t *testing.T) {
	long := "1" + strings.Repeat("0", 1000)
	for s, want := range map[string]api.Errno{
		"": api.ErrForm, "ujjain": api.ErrForm, "60": api.ErrForm, "60 180": api.ErrForm, "60;180": api.ErrForm, "1/0": api.ErrForm, "1/3601": api.ErrForm, "61": api.ErrForm, long: api.ErrForm,
		",": api.ErrForm, ",,": api.ErrForm, ",180": api.ErrForm, "60,": api.ErrForm, "61,": api.ErrForm, ",1/0": api.ErrForm, "60,,180": api.ErrForm, "1,2,3": api.ErrForm, "1,2,": api.ErrForm, ",1,2": api.ErrForm,
		" 1,2": api.ErrForm, "1 ,2": api.ErrForm, "1, 2": api.ErrForm, "1,2 ": api.ErrForm, "1,2\n": api.ErrForm, "+1,2": api.ErrForm, "1,+2": api.ErrForm, "01,2": api.ErrForm, "1,02": api.ErrForm, "-0,2": api.ErrForm, "1,-0": api.ErrForm,
		"1.5,2": api.ErrForm, "x,2": api.ErrForm, "1,x": api.ErrForm, "1/,2": api.ErrForm, "1,/2": api.ErrForm, "1/-2,2": api.ErrForm, "1,2/-3": api.ErrForm, "1/2/3,4": api.ErrForm, "1,2/3/4": api.ErrForm, "1/2,3/-0": api.ErrForm, "\xff,1": api.ErrForm,
		"1/0,2": api.ErrArg, "1,2/0": api.ErrArg, "0/0,0": api.ErrArg, "0,0/0": api.ErrArg, long + ",2": api.ErrBig, "1," + long: api.ErrBig, "1/" + long + ",2": api.ErrBig, "1,2/" + long: api.ErrBig,
		"1/0,x": api.ErrArg, "1/0," + long: api.ErrArg, "1/0,1/3601": api.ErrArg, "1/0,": api.ErrArg, long + ",x": api.ErrBig, long + ",1/0": api.ErrBig, long + ",": api.ErrBig, "x,1/0": api.ErrForm, "x," + long: api.ErrForm, "x,1/3601": api.ErrForm, "x,181": api.ErrForm,
		"1/3601,2": api.ErrRange, "1,2/3601": api.ErrRange, "1/7200,2": api.ErrRange, "1,7201/7200": api.ErrRange, "2/7202,0": api.ErrRange, "1/9223372036854775808,0": api.ErrRange, "0,1/18446744073709551617": api.ErrRange,
		"9223372036854775808,0": api.ErrRange, "0,-9223372036854775809": api.ErrRange, "18446744073709551617,0": api.ErrRange, "0,18446744073709551617/18446744073709551616": api.ErrRange,
		"1/3601,x": api.ErrRange, "1/3601,1/0": api.ErrRange, "1/3601," + long: api.ErrRange, "1/3601,": api.ErrRange, "1/18446744073709551617,x": api.ErrRange, "9223372036854775808,x": api.ErrRange, "9223372036854775808,1/0": api.ErrRange, "-9223372036854775809,": api.ErrRange,
		"61,0": api.ErrRange, "-61,0": api.ErrRange, "0,181": api.ErrRange, "0,-181": api.ErrRange, "216001/3600,0": api.ErrRange, "-216001/3600,0": api.ErrRange, "0,648001/3600": api.ErrRange, "0,-648001/3600": api.ErrRange, "61,181": api.ErrRange,
		"9223372036854775807,0": api.ErrRange, "0,-9223372036854775808": api.ErrRange, "6148914691236517205,0": api.ErrRange,
		"61,x": api.ErrForm, "61,1/0": api.ErrArg, "61," + long: api.ErrBig, "61,1/-2": api.ErrForm, "9223372036854775807,x": api.ErrForm, "-9223372036854775808,1/0": api.ErrArg, "181,x": api.ErrForm,
	} {
		if got, errno := place.Parse(s); got != (place.Place{}) || errno != want {
			t.Errorf("%.40q: %+v, %d, not %d", s, got, errno, want)
		}
	}
}

// P13.2: the text of a place that may be is read as the same angles, in lowest
// terms, and is the text of these.
func TestThereAndBack(t *testing.T) {
	count := 0
	for i, lat := range angles() {
		for j, lon := range angles() {
			p := place.Place{Lat: lat[0], LatOver: lat[1], Lon: lon[0], LonOver: lon[1]}
			if (i+j)%5 == 0 && p.Check() == api.OK {
				back(t, p)
				count++
			}
		}
	}
	for below := int64(1); below <= api.MaxDen; below++ {
		for _, above := range []int64{60*below - 7, 60 * below, below/2 + 1, -60 * below, 7 - 60*below} {
			back(t, place.Place{Lat: above, LatOver: below, Lon: 3 * above, LonOver: below})
			count++
		}
	}
	if count < 20000 {
		t.Errorf("%d places", count)
	}
}

// back reads p's text.
func back(t *testing.T, p place.Place) {
	t.Helper()
	s := p.Text()
	got, errno := place.Parse(s)
	if errno != api.OK || got.Text() != s || got.Check() != api.OK {
		t.Fatalf("%+v: %s: %+v, %d", p, s, got, errno)
	}
	lat, lon := degrees(p.Lat, p.LatOver), degrees(p.Lon, p.LonOver)
	if degrees(got.Lat, got.LatOver).Cmp(lat) != 0 || degrees(got.Lon, got.LonOver).Cmp(lon) != 0 {
		t.Fatalf("%+v: %s: %+v", p, s, got)
	}
	if strconv.FormatInt(got.LatOver, 10) != lat.Denom().String() || strconv.FormatInt(got.LonOver, 10) != lon.Denom().String() {
		t.Fatalf("%+v: %s: %+v, in no lowest terms", p, s, got)
	}
}

// P13.1: no call changes what another one answers.
func TestNothingChanges(t *testing.T) {
	p := place.Ujjain()
	p.Lat, p.LonOver = 0, 0
	for _, x := range []rat.Rat{place.Ujjain().Latitude(), place.Ujjain().Longitude()} {
		clear(x.Num().Abs)
		clear(x.Den())
	}
	if got := place.Ujjain().Text(); got != "463/20,45461/600" {
		t.Errorf("Ujjain: %s", got)
	}
}
