package rise_test

import (
	"math"
	"math/big"
	"testing"

	"ephemeris/api"
	"ephemeris/cut"
	"ephemeris/mean"
	"ephemeris/nat"
	"ephemeris/orb"
	"ephemeris/place"
	"ephemeris/rat"
	"ephemeris/rise"
	"ephemeris/whole"
)

// number is one of math/big's, by which the chapters' formulas are written out
// once more: they know nothing of the layers.
type number = *big.Rat

func of(above, below int64) number { return big.NewRat(above, below) }

func less(x, y number) number { return new(big.Rat).Sub(x, y) }

func by(x, y number) number { return new(big.Rat).Quo(x, y) }

func size(x number) number { return new(big.Rat).Abs(x) }

func floor(x number) number {
	return new(big.Rat).SetInt(new(big.Int).Div(x.Num(), x.Denom()))
}

func modulo(x, m number) number { return less(x, times(m, floor(by(x, m)))) }

func sum(l ...number) number {
	all := new(big.Rat)
	for _, x := range l {
		all.Add(all, x)
	}
	return all
}

func times(l ...number) number {
	all := of(1, 1)
	for _, x := range l {
		all.Mul(all, x)
	}
	return all
}

// index is x's floor.
func index(x number) int { return int(floor(x).Num().Int64()) }

// value is math/big's number of what stands above and below.
func value(x rat.Rat) number {
	above, below := limbs(x.Num().Abs), limbs(x.Den())
	if x.Num().Neg {
		above.Neg(above)
	}
	return new(big.Rat).SetFrac(above, below)
}

func limbs(x nat.Nat) *big.Int {
	v := new(big.Int)
	for i := len(x) - 1; i >= 0; i-- {
		v.Lsh(v, 32).Or(v, big.NewInt(int64(x[i])))
	}
	return v
}

// same tells if x is v.
func same(x rat.Rat, v number) bool { return value(x).Cmp(v) == 0 }

// high is the document's: how high the place is, from 0 to 96.
func high(k int) int64 {
	table := [...]int64{0, 225, 449, 671, 890, 1105, 1315, 1520, 1719, 1910, 2093, 2267, 2431, 2585, 2728, 2859, 2978, 3084, 3177, 3256, 3321, 3372, 3409, 3431, 3438}
	switch {
	case k > 48:
		return -high(k - 48)
	case k > 24:
		return high(48 - k)
	}
	return table[k]
}

// step is how much higher the place behind x degrees is than the one ahead.
func step(x number) number {
	k := index(by(modulo(x, of(360, 1)), of(15, 4)))
	return of(high(k+1)-high(k), 1)
}

func sine(x number) number {
	part := by(modulo(x, of(360, 1)), of(15, 4))
	k := floor(part)
	return by(sum(of(high(index(k)), 1), times(less(part, k), step(x))), of(3438, 1))
}

func arc(a number) number {
	if a.Sign() < 0 {
		return new(big.Rat).Neg(arc(size(a)))
	}
	h := times(a, of(3438, 1))
	for k := range 24 {
		if h.Cmp(of(high(k+1), 1)) <= 0 {
			part := by(less(h, of(high(k), 1)), of(high(k+1)-high(k), 1))
			return times(sum(of(int64(k), 1), part), of(15, 4))
		}
	}
	return of(90, 1)
}

// gone is how far a way of such a period was gone at t, in degrees.
func gone(t, period number) number {
	turns := by(less(t, of(-714403429586, 1)), period)
	return times(less(turns, floor(turns)), of(360, 1))
}

func year() number { return of(1577917828000, 4320000000) }

func anomaly(t number) number { return gone(t, of(1577917828000, 4319999613)) }

func sun(t number) number {
	a := sine(anomaly(t))
	equation := arc(times(a, less(of(14, 360), times(size(a), of(1, 42), of(14, 360)))))
	return modulo(less(gone(t, year()), equation), of(360, 1))
}

func precession(t number) number {
	x := less(times(less(t, of(api.Kali, 1)), of(600, 1577917828)), of(1, 4))
	x = less(modulo(sum(x, of(1, 2)), of(1, 1)), of(1, 2))
	return less(of(27, 1), times(of(108, 1), size(x)))
}

func tropical(t number) number {
	return modulo(less(sun(t), precession(t)), of(360, 1))
}

func difference(t number, p place.Place) number {
	lat := of(p.Lat, p.LatOver)
	h := times(of(1397, 3438), sine(tropical(t)))
	c := sine(sum(arc(h), of(90, 1)))
	e := by(times(h, sine(lat)), sine(sum(lat, of(90, 1))))
	return arc(by(less(of(0, 1), e), c))
}

func motion(t number) number {
	x := anomaly(t)
	p := less(of(14, 360), by(size(sine(x)), of(1080, 1)))
	return times(by(of(360, 1), year()), less(of(1, 1), times(by(step(x), of(225, 1)), p)))
}

// signTimes are the document's, by 1800.
func signTimes() [12]int64 {
	return [12]int64{1670, 1795, 1935, 1935, 1795, 1670, 1670, 1795, 1935, 1935, 1795, 1670}
}

func rising(t number) number {
	return of(signTimes()[index(by(tropical(t), of(30, 1)))], 1800)
}

func equation(t number) number {
	a := sine(anomaly(t))
	part := times(a, of(573, 10), less(of(14, 360), by(size(a), of(1080, 1))))
	return times(by(motion(t), of(360, 1)), by(part, of(360, 1)), year())
}

// stars is how long the stars take for a degree, in days.
func stars() number { return by(of(1577917828, 1582237828), of(360, 1)) }

func west(p place.Place) number {
	return by(less(of(45461, 600), of(p.Lon, p.LonOver)), of(360, 1))
}

func dawn(n int64, p place.Place) number {
	t := of(n, 1)
	degrees := sum(difference(t, p), times(of(1, 4), motion(t), rising(t)))
	return less(sum(t, of(1, 4), west(p), times(stars(), degrees)), equation(t))
}

func dusk(n int64, p place.Place) number {
	t := of(n, 1)
	degrees := less(times(of(3, 4), motion(t), rising(t)), difference(t, p))
	return less(sum(t, of(3, 4), west(p), times(stars(), degrees)), equation(t))
}

// grain is x to the grain.
func grain(x number) number { return by(floor(times(x, of(1048576, 1))), of(1048576, 1)) }

// long is n over d, of limbs.
func long(neg bool, n, d nat.Nat) rat.Rat {
	return rat.Make(whole.Int{Neg: neg, Abs: n}, whole.Int{Abs: d})
}

// tiny is less than any step of the moments that tests go by.
func tiny() rat.Rat { return long(false, nat.Nat{1}, nat.Nat{0, 0, 0, 1}) }

// places are those of all edges, in lowest terms and not, and some within.
func places() []place.Place {
	return []place.Place{
		place.Ujjain(),
		{Lat: 0, LatOver: 1, Lon: 0, LonOver: 1}, {Lat: 0, LatOver: 3600, Lon: 648000, LonOver: 3600}, {Lat: 60, LatOver: 1, Lon: 180, LonOver: 1}, {Lat: -60, LatOver: 1, Lon: -180, LonOver: 1},
		{Lat: 216000, LatOver: 3600, Lon: -648000, LonOver: 3600}, {Lat: -215999, LatOver: 3600, Lon: 647999, LonOver: 3600}, {Lat: 60*3593 - 1, LatOver: 3593, Lon: 1 - 180*3583, LonOver: 3583},
		{Lat: 926, LatOver: 40, Lon: 90922, LonOver: 1200}, {Lat: -90, LatOver: 4, Lon: -1, LonOver: 3600}, {Lat: 45, LatOver: 1, Lon: 91, LonOver: 7},
	}
}

// turns are the moments at which the precession turns, of those that days may be
// near: there it is as far as it goes on one side, or the other.
func turns() []rat.Rat {
	l := []rat.Rat{}
	for _, quarters := range []int64{-1, 1, 3, 5} {
		l = append(l, rat.Whole(api.Kali).Add(rat.Of(quarters*1577917828, 4*600)))
	}
	return l
}

// dayOf is the day of a moment.
func dayOf(t rat.Rat) int64 {
	n, _ := cut.Days(t)
	return n
}

// days are both ends of what may be, those on which the precession turns and those
// beside them, some of all years, far ones, and the creation's.
func days() []int64 {
	l := []int64{-api.MaxDay, api.MaxDay, api.Kali, 0, 1, -1, 730120, -714403429586, 1e12, -1e12, math.MaxInt64, math.MinInt64}
	for _, t := range turns() {
		for more := int64(-1); more <= 2; more++ {
			l = append(l, dayOf(t)+more)
		}
	}
	for n := int64(-api.MaxDay); n <= api.MaxDay; n += 59999 {
		l = append(l, n)
	}
	return l
}

// moments are days, what lies between them, what lies near them, and great ones.
func moments() []rat.Rat {
	l := []rat.Rat{}
	for i, n := range days() {
		day := rat.Whole(n)
		l = append(l, day, day.Sub(tiny()), day.Add(rat.Of(int64(i), 97)))
	}
	for _, t := range turns() {
		l = append(l, t, t.Sub(tiny()), t.Add(tiny()))
	}
	for _, neg := range []bool{false, true} {
		l = append(l, long(neg, nat.Nat{1, 2, 3, 4, 5, 6, 7, 8}, nat.Nat{9, 8, 7, 6}), long(neg, nat.Nat{5, 0, 0, 9}, nat.Nat{7}))
	}
	return l
}

// P14.1, Grain: what is hit exactly, and what lies just beside it; ahead of day 0
// the grain is the one below, too.
func TestGrain(t *testing.T) {
	for _, n := range []int64{0, 1, -1, 2, -2, 349525, 524288, -524288, 1048575, 1048576, -1048575, -1048576, -1048577, 765586603303, -765586603303, 3000000 << 20, -3000000 << 20, math.MaxInt64, math.MinInt64} {
		at, want := rat.Of(n, rise.Grains), of(n, 1048576)
		for _, more := range []rat.Rat{{}, tiny(), rat.Of(1, 2<<20), rat.Of(999, 1000<<20)} {
			if got := rise.Grain(at.Add(more)); !same(got, want) {
				t.Errorf("%d grains and %v: %v", n, value(more), value(got))
			}
		}
		for _, behind := range []rat.Rat{tiny(), rat.Of(1, 2<<20), rat.Of(1, 1<<20)} {
			if got := rise.Grain(at.Sub(behind)); !same(got, less(want, of(1, 1048576))) {
				t.Errorf("%d grains less %v: %v", n, value(behind), value(got))
			}
		}
	}
	if got := cut.Text(rise.Grain(rat.Of(1, 3))) + " " + cut.Text(rise.Grain(rat.Of(-1, 3))); got != "349525/1048576 -174763/524288" {
		t.Errorf("1/3, -1/3: %s", got)
	}
	for _, at := range moments() {
		if got := rise.Grain(at); !same(got, grain(value(at))) {
			t.Fatalf("%v: %v", value(at), value(got))
		}
	}
	if rise.Grains != 1048576 {
		t.Errorf("Grains: %d", rise.Grains)
	}
}

// P14.1, Precession: by eighths of its way behind day Kali; it turns at 27 and at
// -27, and just beside that it is less far.
func TestPrecession(t *testing.T) {
	for eighths, want := range map[int64]number{0: of(0, 1), 1: of(27, 2), 2: of(27, 1), 3: of(27, 2), 4: of(0, 1), 5: of(-27, 2), 6: of(-27, 1), 7: of(-27, 2), 8: of(0, 1), 9: of(27, 2), 10: of(27, 1), -1: of(-27, 2), -2: of(-27, 1), -3: of(-27, 2), -4: of(0, 1), -6: of(27, 1), 800000000002: of(27, 1), -800000000002: of(-27, 1)} {
		at := rat.Whole(api.Kali).Add(rat.Of(1577917828, 8*600).Mul(rat.Whole(eighths)))
		if got := rise.Precession(at); !same(got, want) {
			t.Errorf("%d eighths: %v", eighths, value(got))
		}
	}
	slope := times(of(108*600, 1577917828), value(tiny()))
	for i, at := range turns() {
		most, near := of(27, 1), less(of(27, 1), slope)
		if i%2 == 0 {
			most, near = most.Neg(most), near.Neg(near)
		}
		if got := rise.Precession(at); !same(got, most) {
			t.Errorf("at %v: %v", value(at), value(got))
		}
		for _, beside := range []rat.Rat{at.Add(tiny()), at.Sub(tiny())} {
			if got := rise.Precession(beside); !same(got, near) {
				t.Errorf("beside %v: %v", value(at), value(got))
			}
		}
	}
}

// P14.1, Tropical: at the creation the sun, and the precession, stand at 0, and so
// they do whenever a third of all the sun's ways is gone, and half of one: just
// ahead of that it is a whole circle less than that little. By ninths it is ahead of
// the equinox by 18 degrees, or behind it.
func TestTropical(t *testing.T) {
	for eighteenths, want := range map[int64]int64{0: 0, 3: 0, 6: 0, 18: 0, -3: 0, -12: 0, 2: 18, 4: 342, -2: 342, -4: 18} {
		at := mean.Creation().Add(rat.Whole(1577917828000).Mul(rat.Of(eighteenths, 18)))
		if got := rise.Tropical(at); !same(got, of(want, 1)) {
			t.Errorf("%d eighteenths: %v", eighteenths, value(got))
		}
		if got := rise.Tropical(at.Sub(tiny())); want == 0 && (got.Cmp(rat.Of(359999, 1000)) < 0 || got.Cmp(rat.Whole(360)) >= 0) {
			t.Errorf("just ahead of %d eighteenths: %v", eighteenths, value(got))
		}
		if got := rise.Rising(at); want == 0 && !same(got, of(1670, 1800)) {
			t.Errorf("%d eighteenths: rising %v", eighteenths, value(got))
		}
	}
}

// P14.1, Rising: all signs come, one behind the other, each with its own time: looked
// for by halves, both sides of a beginning are math/big's.
func TestSigns(t *testing.T) {
	sign := func(at rat.Rat) int { return index(by(value(rise.Tropical(at)), of(30, 1))) }
	at, seen := rat.Whole(730120), 0
	for seen < 12 {
		lo, hi := at, at.Add(rat.Whole(16))
		at = hi
		if sign(lo) == sign(hi) {
			continue
		}
		for range 80 {
			if mid := cut.Mid(lo, hi); sign(mid) == sign(at) {
				hi = mid
			} else {
				lo = mid
			}
		}
		seen++
		now, next := tropical(value(lo)), tropical(value(hi))
		if !same(rise.Tropical(lo), now) || !same(rise.Tropical(hi), next) || sign(hi) != (sign(lo)+1)%12 {
			t.Fatalf("%v: sign %d, then %d", value(lo), sign(lo), sign(hi))
		}
		if less(next, times(of(30, 1), of(int64(sign(hi)), 1))).Cmp(of(1, 1<<60)) > 0 {
			t.Fatalf("%v: sign %d begins at %v", value(lo), sign(hi), next)
		}
		for _, side := range []rat.Rat{lo, hi} {
			if got := rise.Rising(side); !same(got, of(signTimes()[sign(side)], 1800)) {
				t.Errorf("%v: sign %d, rising %v", value(side), sign(side), value(got))
			}
		}
	}
}

// P14.1, Motion, Equation: by quarters of the sun's speed behind the creation.
func TestQuarters(t *testing.T) {
	one, day := of(1, 1), by(of(360, 1), year())
	slow, little := of(14, 360), times(of(7, 225), of(41, 1080))
	most := times(of(573, 10), of(41, 1080), of(1, 360))
	for quarter, want := range [4]struct{ motion, equation number }{
		{less(one, slow), of(0, 1)}, {sum(one, little), most}, {sum(one, slow), of(0, 1)}, {less(one, little), less(of(0, 1), most)},
	} {
		for _, ways := range []int64{0, 1, -1, 1955880000} {
			at := mean.Creation().Add(mean.AnomalyYear().Mul(rat.Of(4*ways+int64(quarter), 4)))
			if got := rise.Motion(at); !same(got, times(day, want.motion)) {
				t.Errorf("motion at quarter %d: %v", quarter, value(got))
			}
			if got := rise.Equation(at); !same(got, times(want.motion, want.equation)) {
				t.Errorf("equation at quarter %d: %v", quarter, value(got))
			}
		}
	}
}

// P14.1, Motion, Equation: at each place of the table, and just ahead of it, where the
// step is another one.
func TestSteps(t *testing.T) {
	for k := range int64(96) {
		at := mean.Creation().Add(mean.AnomalyYear().Mul(rat.Of(k, 96)))
		for _, side := range []rat.Rat{at, at.Sub(tiny())} {
			v := value(side)
			if got := rise.Motion(side); !same(got, motion(v)) {
				t.Errorf("motion at %v: %v", v, value(got))
			}
			if got := rise.Equation(side); !same(got, equation(v)) {
				t.Errorf("equation at %v: %v", v, value(got))
			}
		}
	}
}

// P14.1, Precession, Tropical, Motion, Rising, Equation, Difference: of any moment,
// the last one at places by turns.
func TestMoments(t *testing.T) {
	for i, at := range moments() {
		v := value(at)
		for _, c := range []struct {
			name string
			got  rat.Rat
			want number
		}{
			{"Precession", rise.Precession(at), precession(v)}, {"Tropical", rise.Tropical(at), tropical(v)}, {"Motion", rise.Motion(at), motion(v)},
			{"Rising", rise.Rising(at), rising(v)}, {"Equation", rise.Equation(at), equation(v)},
		} {
			if !same(c.got, c.want) {
				t.Errorf("%s at %v: %v, not %v", c.name, v, value(c.got), c.want)
			}
		}
		for j, p := range places() {
			if got := rise.Difference(at, p); (i+j)%3 == 0 && !same(got, difference(v, p)) {
				t.Errorf("Difference at %v, %+v: %v", v, p, value(got))
			}
		}
	}
}

// P14.1, Dawn, Dusk, Sunrise, Sunset: of any day, at places by turns.
func TestDays(t *testing.T) {
	for i, n := range days() {
		for j, p := range places() {
			if (i+j)%4 != 0 {
				continue
			}
			up, down := dawn(n, p), dusk(n, p)
			if got := rise.Dawn(n, p); !same(got, up) {
				t.Errorf("Dawn of %d, %+v: %v", n, p, value(got))
			}
			if got := rise.Dusk(n, p); !same(got, down) {
				t.Errorf("Dusk of %d, %+v: %v", n, p, value(got))
			}
			if got := rise.Sunrise(n, p); !same(got, grain(up)) {
				t.Errorf("Sunrise of %d, %+v: %v", n, p, value(got))
			}
			if got := rise.Sunset(n, p); !same(got, grain(down)) {
				t.Errorf("Sunset of %d, %+v: %v", n, p, value(got))
			}
		}
	}
}

// P14.1, Dawn, Dusk: on the creation's day nothing but the motion counts at Ujjain,
// and the longitude elsewhere.
func TestCreationsDay(t *testing.T) {
	n, lag := of(-714403429586, 1), of(722275, 3*395559457)
	for _, c := range []struct {
		p    place.Place
		west number
	}{
		{place.Ujjain(), of(0, 1)}, {place.Place{Lat: 60, LatOver: 1, Lon: 45461, LonOver: 600}, of(0, 1)},
		{place.Place{Lat: 0, LatOver: 1, Lon: 0, LonOver: 1}, of(45461, 216000)}, {place.Place{Lat: 0, LatOver: 1, Lon: 180, LonOver: 1}, of(45461-108000, 216000)}, {place.Place{Lat: 0, LatOver: 1, Lon: -180, LonOver: 1}, of(45461+108000, 216000)},
	} {
		if got := rise.Dawn(-714403429586, c.p); !same(got, sum(n, of(1, 4), c.west, lag)) {
			t.Errorf("Dawn at %+v: %v", c.p, value(got))
		}
		if got := rise.Dusk(-714403429586, c.p); !same(got, sum(n, of(3, 4), c.west, times(of(3, 1), lag))) {
			t.Errorf("Dusk at %+v: %v", c.p, value(got))
		}
	}
}

// P14.1: no call changes what it is asked of, nor what others answer.
func TestNothingChanges(t *testing.T) {
	p := place.Ujjain()
	for _, at := range moments() {
		v := value(at)
		for _, x := range []rat.Rat{rise.Grain(at), rise.Precession(at), rise.Tropical(at), rise.Difference(at, p), rise.Motion(at), rise.Rising(at), rise.Equation(at)} {
			clear(x.Num().Abs)
			clear(x.Den())
		}
		if !same(at, v) || !same(rise.Motion(at), motion(v)) {
			t.Fatalf("%v: now %v", v, value(at))
		}
	}
	if got := rise.Sunrise(730120, p); p != place.Ujjain() || !same(got, grain(dawn(730120, place.Ujjain()))) {
		t.Errorf("Sunrise: %v, at %+v", value(got), p)
	}
}

// P14.2: from one sunrise to the next one, and from it to that day's sunset, at all
// edges; short days come, and long ones.
func TestBetween(t *testing.T) {
	short, long := 0, 0
	for i, p := range places() {
		next := rat.Rat{}
		for _, first := range []int64{-api.MaxDay, api.Kali, dayOf(turns()[i%4]) - 100, 730120, api.MaxDay - 100} {
			for n := first; n < first+200; n++ {
				now := next
				if n == first {
					now = rise.Sunrise(n, p)
				}
				next = rise.Sunrise(n+1, p)
				light := rise.Sunset(n, p).Sub(now)
				if way := next.Sub(now); way.Cmp(rat.Of(98, 100)) < 0 || way.Cmp(rat.Of(102, 100)) > 0 {
					t.Fatalf("day %d, %+v: %v to the next sunrise", n, p, value(way))
				}
				if light.Cmp(rat.Of(2, 10)) < 0 || light.Cmp(rat.Of(8, 10)) > 0 {
					t.Fatalf("day %d, %+v: %v to the sunset", n, p, value(light))
				}
				short, long = short+counts(rat.Of(3, 10), light), long+counts(light, rat.Of(7, 10))
			}
		}
	}
	if short == 0 || long == 0 {
		t.Errorf("%d short days, %d long ones", short, long)
	}
}

// counts is 1 if x is above y.
func counts(x, y rat.Rat) int {
	return max(x.Cmp(y), 0)
}

// P14.3: at the equator the difference is 0; north and south of it alike, with the
// other sign.
func TestEquator(t *testing.T) {
	for _, at := range moments() {
		for _, over := range []int64{1, 7, 3600} {
			if got := rise.Difference(at, place.Place{Lat: 0, LatOver: over, Lon: over, LonOver: 1}); got.Sign() != 0 {
				t.Errorf("at %v: %v", value(at), value(got))
			}
		}
		north := rise.Difference(at, place.Place{Lat: 119, LatOver: 2, Lon: 0, LonOver: 1})
		if south := rise.Difference(at, place.Place{Lat: -119, LatOver: 2, Lon: 77, LonOver: 1}); !south.Same(north.Opp()) {
			t.Errorf("at %v: %v north, %v south", value(at), value(north), value(south))
		}
	}
}

// P14.3: east by 360 degrees times x the sun rises, and sets, earlier by x; to the
// grain, if x is whole grains, just so too.
func TestEast(t *testing.T) {
	for _, n := range days() {
		for i, from := range []place.Place{{Lat: 60, LatOver: 1, Lon: -180, LonOver: 1}, {Lat: -463, LatOver: 20, Lon: -90, LonOver: 1}, {Lat: 0, LatOver: 3600, Lon: 0, LonOver: 7}} {
			to := from
			to.Lon, to.LonOver = 180, 1
			x := of(int64(4-i), 4)
			if i == 2 {
				x = of(1, 2)
			}
			for _, c := range []struct {
				name  string
				where func(n int64, p place.Place) rat.Rat
			}{{"Dawn", rise.Dawn}, {"Dusk", rise.Dusk}, {"Sunrise", rise.Sunrise}, {"Sunset", rise.Sunset}} {
				if got := c.where(n, from).Sub(c.where(n, to)); !same(got, x) {
					t.Errorf("%s of %d, from %+v: %v", c.name, n, from, value(got))
				}
			}
			to.Lon, to.LonOver = 3599, 3600
			x = by(less(of(3599, 3600), of(from.Lon, from.LonOver)), of(360, 1))
			if up, down := rise.Dawn(n, from).Sub(rise.Dawn(n, to)), rise.Dusk(n, from).Sub(rise.Dusk(n, to)); !same(up, x) || !same(down, x) {
				t.Errorf("%d, from %+v: %v, %v", n, from, value(up), value(down))
			}
		}
	}
}

// P14.4: what stands above, or below, of Dawn and Dusk has less than 4096 bits, and so
// have Sun, Moon and Phase at a sunrise.
func TestBits(t *testing.T) {
	list := []int64{-api.MaxDay, api.MaxDay, api.Kali}
	for n := int64(-api.MaxDay); n <= api.MaxDay; n += 49999 {
		list = append(list, n)
	}
	for _, n := range list {
		for _, p := range places() {
			at := rise.Sunrise(n, p)
			for _, x := range []rat.Rat{rise.Dawn(n, p), rise.Dusk(n, p), orb.Sun(at), orb.Moon(at), orb.Phase(at)} {
				if got := cut.Bits(x); got >= 4096 {
					t.Errorf("day %d, %+v: %d bits", n, p, got)
				}
			}
		}
	}
}
