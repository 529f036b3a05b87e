package orb_test

import (
	"math"
	"math/big"
	"testing"

	"ephemeris/api"
	"ephemeris/cut"
	"ephemeris/mean"
	"ephemeris/nat"
	"ephemeris/orb"
	"ephemeris/rat"
	"ephemeris/whole"
)

// table is the document's: how high the places 0 to 24 of the circle are.
var table = []int64{0, 225, 449, 671, 890, 1105, 1315, 1520, 1719, 1910, 2093, 2267, 2431, 2585, 2728, 2859, 2978, 3084, 3177, 3256, 3321, 3372, 3409, 3431, 3438}

// integer is math/big's number of the same sign and limbs: it knows nothing of
// the layers.
func integer(x whole.Int) *big.Int {
	v := new(big.Int)
	for i := len(x.Abs) - 1; i >= 0; i-- {
		v.Lsh(v, 32).Or(v, big.NewInt(int64(x.Abs[i])))
	}
	if x.Neg {
		v.Neg(v)
	}
	return v
}

// value is math/big's number of what stands above and below.
func value(x rat.Rat) *big.Rat {
	return new(big.Rat).SetFrac(integer(x.Num()), integer(whole.Int{Abs: x.Den()}))
}

// is tells if x is n over d.
func is(x rat.Rat, n, d int64) bool {
	return value(x).Cmp(big.NewRat(n, d)) == 0
}

// long is n over d, of limbs.
func long(neg bool, n, d nat.Nat) rat.Rat {
	return rat.Make(whole.Int{Neg: neg, Abs: n}, whole.Int{Abs: d})
}

// modulo is by math/big what is left over of x by m.
func modulo(x, m *big.Rat) *big.Rat {
	q := new(big.Rat).Quo(x, m)
	floor := new(big.Rat).SetInt(new(big.Int).Div(q.Num(), q.Denom()))
	return q.Sub(x, floor.Mul(floor, m))
}

// whereMean is by math/big what layer 11's Of is.
func whereMean(t, period *big.Rat) *big.Rat {
	if period.Sign() <= 0 {
		return new(big.Rat)
	}
	days := new(big.Rat).Sub(t, big.NewRat(-714403429586, 1))
	way := modulo(days, period)
	return way.Mul(way.Quo(way, period), big.NewRat(360, 1))
}

// sineOf is by math/big the sine of x degrees, from 0 to 360: by the first
// quarter's alone.
func sineOf(x *big.Rat) *big.Rat {
	if x.Cmp(big.NewRat(180, 1)) > 0 {
		half := sineOf(new(big.Rat).Sub(x, big.NewRat(180, 1)))
		return half.Neg(half)
	}
	if x.Cmp(big.NewRat(90, 1)) > 0 {
		return sineOf(new(big.Rat).Sub(big.NewRat(180, 1), x))
	}
	steps := new(big.Rat).Mul(x, big.NewRat(4, 15))
	k := new(big.Int).Div(steps.Num(), steps.Denom()).Int64()
	next := min(k+1, 24)
	high := new(big.Rat).Sub(steps, big.NewRat(k, 1))
	high.Mul(high, big.NewRat(table[next]-table[k], 1))
	high.Add(high, big.NewRat(table[k], 1))
	return high.Quo(high, big.NewRat(3438, 1))
}

// arcOf is by math/big the arc of a.
func arcOf(a *big.Rat) *big.Rat {
	high := new(big.Rat).Mul(new(big.Rat).Abs(a), big.NewRat(3438, 1))
	arc := big.NewRat(90, 1)
	for k := 23; k >= 0; k-- {
		if high.Cmp(big.NewRat(table[k+1], 1)) <= 0 {
			arc.Sub(high, big.NewRat(table[k], 1))
			arc.Quo(arc, big.NewRat(table[k+1]-table[k], 1))
			arc.Add(arc, big.NewRat(int64(k), 1))
			arc.Mul(arc, big.NewRat(15, 4))
		}
	}
	if a.Sign() < 0 {
		arc.Neg(arc)
	}
	return arc
}

// path is an orbit by math/big.
type path struct {
	period, anomaly, size, change *big.Rat
}

// pathOf is that of the same numbers.
func pathOf(o orb.Orbit) path {
	return path{value(o.Period), value(o.Anomaly), value(o.Size), value(o.Change)}
}

// sunPath and moonPath are the document's.
func sunPath() path {
	return path{big.NewRat(1577917828000, 4320000000), big.NewRat(1577917828000, 4319999613), big.NewRat(14, 360), big.NewRat(1, 42)}
}

func moonPath() path {
	return path{big.NewRat(1577917828, 57753336), big.NewRat(1577917828, 57265137), big.NewRat(32, 360), big.NewRat(1, 96)}
}

// equation is by math/big what Equation is.
func (p path) equation(t *big.Rat) *big.Rat {
	a := sineOf(whereMean(t, p.anomaly))
	less := new(big.Rat).Abs(a)
	less.Mul(less, p.change).Mul(less, p.size)
	less.Sub(p.size, less)
	return arcOf(less.Mul(less, a))
}

// at is by math/big what At is.
func (p path) at(t *big.Rat) *big.Rat {
	x := new(big.Rat).Sub(whereMean(t, p.period), p.equation(t))
	return modulo(x, big.NewRat(360, 1))
}

// part is by math/big in which of so many parts of the circle x is, from 0 on.
func part(x *big.Rat, parts int64) int {
	k := new(big.Rat).Mul(x, big.NewRat(parts, 360))
	return int(new(big.Int).Div(k.Num(), k.Denom()).Int64())
}

// elements is by math/big what a moment is.
func elements(t *big.Rat) orb.Elements {
	sun, moon, circle := sunPath().at(t), moonPath().at(t), big.NewRat(360, 1)
	phase, both := modulo(new(big.Rat).Sub(moon, sun), circle), modulo(new(big.Rat).Add(moon, sun), circle)
	return orb.Elements{Sign: part(sun, 12), Tithi: part(phase, 30) + 1, Star: part(moon, 27) + 1, Yoga: part(both, 27) + 1, Half: part(phase, 60) + 1}
}

// tiny is less than any step of the moments that tests go by.
func tiny() rat.Rat {
	return long(false, nat.Nat{1}, nat.Nat{0, 0, 0, 1})
}

// moments are days and what lies between them, near the creation, day Kali and
// day 0, just beside each, and far ahead of all and far behind.
func moments() []rat.Rat {
	l := []rat.Rat{}
	for _, day := range []rat.Rat{mean.Creation(), rat.Whole(api.Kali), {}, rat.Whole(730120), rat.Whole(api.MaxDay), rat.Whole(-api.MaxDay)} {
		for _, more := range []rat.Rat{{}, tiny(), rat.Of(1, 3), rat.Of(1, 4), rat.Of(765, 1024), rat.Whole(1), rat.Whole(7), rat.Whole(14), rat.Whole(20), rat.Of(365, 4), rat.Of(365, 2), rat.Whole(12345)} {
			l = append(l, day.Add(more), day.Sub(more))
		}
	}
	for _, neg := range []bool{false, true} {
		l = append(l,
			long(neg, nat.Nat{1}, nat.Nat{1, 2, 3}), long(neg, nat.Nat{5, 0, 0, 9}, nat.Nat{7}), long(neg, nat.Nat{1, 2, 3, 4, 5, 6, 7, 8}, nat.Nat{1}),
			long(neg, nat.Nat{1, 2, 3, 4, 5, 6, 7, 8}, nat.Nat{9, 8, 7, 6}))
	}
	return append(l, rat.Whole(math.MaxInt64), rat.Whole(math.MinInt64), rat.Of(math.MinInt64, 3), rat.Whole(-1e12), rat.Whole(1e12))
}

// orbits are the document's, and others: with periods that are none, with
// epicycles that are great, or below 0, and that change by much.
func orbits() []orb.Orbit {
	l := []orb.Orbit{orb.SunOrbit(), orb.MoonOrbit(), {}}
	for _, period := range []rat.Rat{{}, rat.Whole(-4), rat.Whole(4), rat.Of(1, 7), rat.Of(math.MaxInt64, 3)} {
		for _, size := range []rat.Rat{{}, rat.Of(1, 5), rat.Whole(1), rat.Whole(9), rat.Of(-2, 3)} {
			for _, change := range []rat.Rat{{}, rat.Of(1, 2), rat.Whole(1), rat.Whole(3), rat.Of(-1, 4)} {
				l = append(l, orb.Orbit{Period: period, Anomaly: mean.AnomalyMonth(), Size: size, Change: change})
				l = append(l, orb.Orbit{Period: mean.Year(), Anomaly: period, Size: size, Change: change})
			}
		}
	}
	return l
}

// P12.1, SunOrbit, MoonOrbit.
func TestOrbits(t *testing.T) {
	for _, c := range []struct {
		name string
		o    orb.Orbit
		want path
	}{{"SunOrbit", orb.SunOrbit(), sunPath()}, {"MoonOrbit", orb.MoonOrbit(), moonPath()}} {
		got := pathOf(c.o)
		if got.period.Cmp(c.want.period) != 0 || got.anomaly.Cmp(c.want.anomaly) != 0 || got.size.Cmp(c.want.size) != 0 || got.change.Cmp(c.want.change) != 0 {
			t.Errorf("%s: %v", c.name, got)
		}
	}
}

// P12.1, Equation, At: quarters of an anomaly of 4 days behind the creation, and
// ahead of it; behind half of it the sine is below 0, and the epicycle is less
// all the same. A circle has no place below 0, nor a whole one.
func TestQuarters(t *testing.T) {
	for _, c := range []struct {
		period, anomaly int64
		size, change    rat.Rat
		days            int64 // behind the creation
		equation, at    int64
	}{
		{8, 4, rat.Whole(1), rat.Of(1, 2), 0, 0, 0},
		{8, 4, rat.Whole(1), rat.Of(1, 2), 1, 30, 15},
		{8, 4, rat.Whole(1), rat.Of(1, 2), 2, 0, 90},
		{8, 4, rat.Whole(1), rat.Of(1, 2), 3, -30, 165},
		{8, 4, rat.Whole(1), rat.Of(1, 2), 4, 0, 180},
		{8, 4, rat.Whole(1), rat.Of(1, 2), -1, -30, 345},
		{8, 4, rat.Whole(1), rat.Of(1, 2), -2, 0, 270},
		{8, 4, rat.Whole(1), rat.Of(1, 2), -3, 30, 195},
		{36, 4, rat.Whole(1), rat.Of(1, 2), 1, 30, 340},
		{36, 4, rat.Whole(1), rat.Of(1, 2), 35, -30, 20},
		{12, 4, rat.Whole(1), rat.Of(1, 2), 1, 30, 0},
		{12, 4, rat.Whole(1), rat.Of(1, 2), -1, -30, 0},
		{8, 4, rat.Of(1, 2), rat.Whole(0), 1, 30, 15},
		{8, 4, rat.Of(1, 2), rat.Whole(0), 3, -30, 165},
		{8, 4, rat.Of(2, 3), rat.Of(1, 4), 3, -30, 165},
		{8, 4, rat.Whole(3), rat.Whole(0), 1, 90, 315},
		{8, 4, rat.Whole(3), rat.Whole(0), 3, -90, 225},
		{8, 4, rat.Of(-1, 2), rat.Whole(0), 1, -30, 75},
		{8, 4, rat.Whole(1), rat.Whole(1), 1, 0, 45},
		{8, 4, rat.Whole(1), rat.Of(3, 2), 1, -30, 75},
		{8, 4, rat.Of(1, 3), rat.Of(-1, 2), 1, 30, 15},
		{0, 4, rat.Whole(1), rat.Of(1, 2), 1, 30, 330},
		{-8, 4, rat.Whole(1), rat.Of(1, 2), 3, -30, 30},
		{8, 0, rat.Whole(1), rat.Of(1, 2), 1, 0, 45},
		{8, -4, rat.Whole(1), rat.Of(1, 2), 3, 0, 135},
		{0, 0, rat.Whole(1), rat.Of(1, 2), 3, 0, 0},
	} {
		o := orb.Orbit{Period: rat.Whole(c.period), Anomaly: rat.Whole(c.anomaly), Size: c.size, Change: c.change}
		at := mean.Creation().Add(rat.Whole(c.days))
		if got := o.Equation(at); !is(got, c.equation, 1) {
			t.Errorf("Equation %+v: %v", c, value(got))
		}
		if got := o.At(at); !is(got, c.at, 1) {
			t.Errorf("At %+v: %v", c, value(got))
		}
	}
}

// P12.1, Equation, At: of any orbit at any moment; the orbits share the moments
// among them, since math/big's sides are slow.
func TestOrbitMoments(t *testing.T) {
	const shares = 5
	for i, o := range orbits() {
		p := pathOf(o)
		for j, at := range moments() {
			if (i+j)%shares != 0 && i > 1 {
				continue
			}
			v := value(at)
			if got := o.Equation(at); value(got).Cmp(p.equation(v)) != 0 {
				t.Fatalf("Equation of %v at %v: %v", p, v, value(got))
			}
			if got := o.At(at); value(got).Cmp(p.at(v)) != 0 {
				t.Fatalf("At of %v at %v: %v", p, v, value(got))
			}
		}
	}
}

// P12.1, Sun, Moon, Phase, Sign, Tithi, At: of any moment.
func TestMoments(t *testing.T) {
	circle := big.NewRat(360, 1)
	for _, at := range moments() {
		v := value(at)
		sun, moon := sunPath().at(v), moonPath().at(v)
		if got := orb.Sun(at); value(got).Cmp(sun) != 0 {
			t.Fatalf("Sun at %v: %v", v, value(got))
		}
		if got := orb.Moon(at); value(got).Cmp(moon) != 0 {
			t.Fatalf("Moon at %v: %v", v, value(got))
		}
		if got := orb.Phase(at); value(got).Cmp(modulo(new(big.Rat).Sub(moon, sun), circle)) != 0 {
			t.Fatalf("Phase at %v: %v", v, value(got))
		}
		check(t, at)
	}
}

// check holds what a moment is against math/big's, by all three calls.
func check(t *testing.T, at rat.Rat) {
	t.Helper()
	want := elements(value(at))
	if got := orb.At(at); got != want {
		t.Fatalf("At %v: %+v, not %+v", value(at), got, want)
	}
	if sign, tithi := orb.Sign(at), orb.Tithi(at); sign != want.Sign || tithi != want.Tithi {
		t.Fatalf("Sign, Tithi at %v: %d, %d", value(at), sign, tithi)
	}
}

// P12.1: a part begins with its beginning, and just ahead of it there is the one
// ahead. In 1577917828000 days all goes round so many times that both equations
// are 0 behind each eighteenth of them, where the sun stands at 0, and the moon a
// whole number of its parts from it.
func TestBeginnings(t *testing.T) {
	rounds := []struct {
		above, below int64 // of such days behind the creation
		at, ahead    orb.Elements
	}{
		{0, 1, orb.Elements{Sign: 0, Tithi: 1, Star: 1, Yoga: 1, Half: 1}, orb.Elements{Sign: 11, Tithi: 30, Star: 27, Yoga: 27, Half: 60}},
		{1, 18, orb.Elements{Sign: 0, Tithi: 21, Star: 19, Yoga: 19, Half: 41}, orb.Elements{Sign: 11, Tithi: 20, Star: 18, Yoga: 18, Half: 40}},
		{2, 18, orb.Elements{Sign: 0, Tithi: 11, Star: 10, Yoga: 10, Half: 21}, orb.Elements{Sign: 11, Tithi: 10, Star: 9, Yoga: 9, Half: 20}},
		{1, 1, orb.Elements{Sign: 0, Tithi: 1, Star: 1, Yoga: 1, Half: 1}, orb.Elements{Sign: 11, Tithi: 30, Star: 27, Yoga: 27, Half: 60}},
		{-1, 18, orb.Elements{Sign: 0, Tithi: 11, Star: 10, Yoga: 10, Half: 21}, orb.Elements{Sign: 11, Tithi: 10, Star: 9, Yoga: 9, Half: 20}},
	}
	for _, c := range rounds {
		at := mean.Creation().Add(rat.Whole(1577917828000).Mul(rat.Of(c.above, c.below)))
		if sun := orb.Sun(at); sun.Sign() != 0 {
			t.Errorf("%d/%d: sun at %v", c.above, c.below, value(sun))
		}
		if got := orb.At(at); got != c.at || orb.Sign(at) != c.at.Sign || orb.Tithi(at) != c.at.Tithi {
			t.Errorf("%d/%d: %+v", c.above, c.below, got)
		}
		just := at.Sub(tiny())
		if got := orb.At(just); got != c.ahead || orb.Sign(just) != c.ahead.Sign || orb.Tithi(just) != c.ahead.Tithi {
			t.Errorf("just ahead of %d/%d: %+v", c.above, c.below, got)
		}
	}
}

// P12.1: each star begins where it begins: behind 706977 ways of its speed more
// the moon's equation is 0, and it is 4 parts of 27 on, and whole ways.
func TestStars(t *testing.T) {
	seen := map[int]bool{}
	for k := int64(-27); k <= 27; k++ {
		at := mean.Creation().Add(mean.AnomalyMonth().Mul(rat.Whole(706977 * k)))
		want := int(((19251112*k)%27+27)%27) + 1
		if moon := orb.Moon(at); !is(moon, 40*int64(want-1), 3) {
			t.Errorf("%d: moon at %v", k, value(moon))
		}
		if got := orb.At(at).Star; got != want {
			t.Errorf("%d: star %d, not %d", k, got, want)
		}
		if got := orb.At(at.Sub(tiny())).Star; got != (want+25)%27+1 {
			t.Errorf("just ahead of %d: star %d, not that ahead of %d", k, got, want)
		}
		seen[want] = true
	}
	if len(seen) != 27 {
		t.Errorf("%d stars", len(seen))
	}
}

// kinds are the parts of a moment, by their indexes from 0 on.
var kinds = []struct {
	name  string
	parts int
	index func(e orb.Elements) int
}{
	{"Sign", 12, func(e orb.Elements) int { return e.Sign }},
	{"Tithi", 30, func(e orb.Elements) int { return e.Tithi - 1 }},
	{"Star", 27, func(e orb.Elements) int { return e.Star - 1 }},
	{"Yoga", 27, func(e orb.Elements) int { return e.Yoga - 1 }},
	{"Half", 60, func(e orb.Elements) int { return e.Half - 1 }},
}

// P12.1: all parts of each kind come, one behind the other, and each ends where
// the next one begins: looked for by halves, both sides are math/big's.
func TestParts(t *testing.T) {
	for _, kind := range kinds {
		step := rat.Of(1, 4)
		if kind.name == "Sign" {
			step = rat.Whole(15)
		}
		index := func(at rat.Rat) int { return kind.index(orb.At(at)) }
		at := rat.Whole(730120)
		now := index(at)
		for found := 0; found < kind.parts; {
			next := at.Add(step)
			if index(next) == now {
				at = next
				continue
			}
			lo, hi := at, next
			for range 40 {
				if mid := cut.Mid(lo, hi); index(mid) == now {
					lo = mid
				} else {
					hi = mid
				}
			}
			check(t, lo)
			check(t, hi)
			if got := index(hi); got != (now+1)%kind.parts {
				t.Fatalf("%s: %d behind %d", kind.name, got, now)
			}
			at, now, found = next, index(next), found+1
		}
	}
}

// P12.1, At, Sign, Tithi: each is from its first one to its last one.
func TestBounds(t *testing.T) {
	circle := rat.Whole(360)
	for _, at := range moments() {
		e := orb.At(at)
		for _, kind := range kinds {
			if k := kind.index(e); k < 0 || k >= kind.parts {
				t.Errorf("%v: %+v", value(at), e)
			}
		}
		for _, x := range []rat.Rat{orb.Sun(at), orb.Moon(at), orb.Phase(at)} {
			if x.Sign() < 0 || x.Cmp(circle) >= 0 {
				t.Errorf("%v: at %v", value(at), value(x))
			}
		}
		if e.Tithi != (e.Half+1)/2 {
			t.Errorf("%v: half %d of tithi %d", value(at), e.Half, e.Tithi)
		}
	}
}

// P12.1, Karana: seven that come eight times, and four that come once; none of
// what is no half.
func TestKarana(t *testing.T) {
	want := [61]int{1: 11, 58: 8, 59: 9, 60: 10}
	for half, next := 2, 1; half <= 57; half++ {
		want[half] = next
		if next++; next == 8 {
			next = 1
		}
	}
	for half, k := range want {
		if got := orb.Karana(half); got != k {
			t.Errorf("Karana of %d: %d, not %d", half, got, k)
		}
	}
	for half, k := range map[int]int{1: 11, 2: 1, 3: 2, 8: 7, 9: 1, 56: 6, 57: 7, 58: 8, 59: 9, 60: 10, 0: 0, -1: 0, -5: 0, -58: 0, 61: 0, 62: 0, 65: 0, 120: 0, math.MaxInt: 0, math.MinInt: 0} {
		if got := orb.Karana(half); got != k {
			t.Errorf("Karana of %d: %d, not %d", half, got, k)
		}
	}
}

// P12.1: no call changes what it is asked of.
func TestNothingChanges(t *testing.T) {
	o := orb.MoonOrbit()
	for _, at := range moments() {
		v := value(at)
		orb.At(at)
		for _, x := range []rat.Rat{orb.Sun(at), orb.Moon(at), orb.Phase(at), o.Equation(at), o.At(at)} {
			clear(x.Num().Abs)
			clear(x.Den())
		}
		if value(at).Cmp(v) != 0 || value(o.Period).Cmp(moonPath().period) != 0 {
			t.Fatalf("%v: now %v", v, value(at))
		}
	}
}

// days are every one of some years, and many of all that may be, at midnight and
// at other times.
func days() []rat.Rat {
	l := []rat.Rat{}
	for _, first := range []int64{api.Kali, 0, 730120} {
		for n := range int64(800) {
			l = append(l, rat.Whole(first+n))
		}
	}
	for n := int64(-api.MaxDay); n <= api.MaxDay; n += 9973 {
		l = append(l, rat.Whole(n), rat.Of(5*n+2, 5))
	}
	return l
}

// apart is how far x is from y on the circle, without a sign.
func apart(x, y rat.Rat) rat.Rat {
	return cut.Into(x.Sub(y), rat.Whole(-180), rat.Whole(180)).Abs()
}

// P12.2: the sun is at most 2.2 degrees from its mean longitude, the moon 5.1; it
// comes near to that, on both sides.
func TestNear(t *testing.T) {
	sunMost, moonMost := rat.Of(22, 10), rat.Of(51, 10)
	sunFar, moonFar := [2]int{}, [2]int{}
	for _, at := range append(days(), moments()...) {
		sun, moon := orb.Sun(at), orb.Moon(at)
		if got := apart(sun, mean.Sun(at)); got.Cmp(sunMost) > 0 || !got.Same(orb.SunOrbit().Equation(at).Abs()) {
			t.Fatalf("sun at %v: %v from its mean longitude", value(at), value(got))
		}
		if got := apart(moon, mean.Moon(at)); got.Cmp(moonMost) > 0 || !got.Same(orb.MoonOrbit().Equation(at).Abs()) {
			t.Fatalf("moon at %v: %v from its mean longitude", value(at), value(got))
		}
		count(&sunFar, orb.SunOrbit().Equation(at), rat.Of(21, 10))
		count(&moonFar, orb.MoonOrbit().Equation(at), rat.Whole(5))
	}
	if sunFar[0] == 0 || sunFar[1] == 0 || moonFar[0] == 0 || moonFar[1] == 0 {
		t.Errorf("far behind, and far ahead: sun %v, moon %v", sunFar, moonFar)
	}
}

// count counts what is more than so far from 0: behind, and ahead.
func count(far *[2]int, equation, most rat.Rat) {
	if equation.Cmp(most) > 0 {
		far[0]++
	}
	if equation.Opp().Cmp(most) > 0 {
		far[1]++
	}
}

// P12.3: how far sun, moon and phase go in a day; slow and fast days come.
func TestMoves(t *testing.T) {
	for _, c := range []struct {
		name                   string
		where                  func(t rat.Rat) rat.Rat
		least, slow, fast, top rat.Rat
	}{
		{"sun", orb.Sun, rat.Of(94, 100), rat.Of(96, 100), rat.Of(101, 100), rat.Of(103, 100)},
		{"moon", orb.Moon, rat.Whole(12), rat.Of(124, 10), rat.Of(14, 1), rat.Of(144, 10)},
		{"phase", orb.Phase, rat.Of(109, 10), rat.Of(113, 10), rat.Of(130, 10), rat.Of(135, 10)},
	} {
		slow, fast := 0, 0
		for _, at := range days() {
			way := cut.Mod(c.where(at.Add(rat.Whole(1))).Sub(c.where(at)), rat.Whole(360))
			if way.Cmp(c.least) < 0 || way.Cmp(c.top) > 0 {
				t.Fatalf("%s at %v: %v in a day", c.name, value(at), value(way))
			}
			if way.Cmp(c.slow) < 0 {
				slow++
			}
			if way.Cmp(c.fast) > 0 {
				fast++
			}
		}
		if slow == 0 || fast == 0 {
			t.Errorf("%s: %d slow days, %d fast ones", c.name, slow, fast)
		}
	}
}

// P12.4: of a whole day that may be what stands above, or below, of Sun and Moon
// has less than 256 bits, of Phase less than 512.
func TestBits(t *testing.T) {
	list := []int64{-api.MaxDay, api.MaxDay, api.Kali, 0}
	for n := int64(-api.MaxDay); n <= api.MaxDay; n += 1999 {
		list = append(list, n)
	}
	for _, n := range list {
		day := rat.Whole(n)
		sun, moon, phase := cut.Bits(orb.Sun(day)), cut.Bits(orb.Moon(day)), cut.Bits(orb.Phase(day))
		if sun >= 256 || moon >= 256 || phase >= 512 {
			t.Errorf("day %d: %d, %d, %d bits", n, sun, moon, phase)
		}
	}
}
