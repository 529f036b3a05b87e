package sine_test

import (
	"math"
	"math/big"
	"testing"

	"ephemeris/nat"
	"ephemeris/rat"
	"ephemeris/sine"
	"ephemeris/whole"
)

// table is the document's: how high the places 0 to 24 of the circle are.
var table = []int64{0, 225, 449, 671, 890, 1105, 1315, 1520, 1719, 1910, 2093, 2267, 2431, 2585, 2728, 2859, 2978, 3084, 3177, 3256, 3321, 3372, 3409, 3431, 3438}

// integer is math/big's number of the same sign and limbs: it knows nothing of
// the layers.
func integer(x whole.Int) *big.Int {
	v := new(big.Int)
	for i := len(x.Abs) - 1; i >= 0; i-- {
		v.Lsh(v, 32).Or(v, big.NewInt(int64(x.Abs[i])))
	}
	if x.Neg {
		v.Neg(v)
	}
	return v
}

// value is math/big's number of what stands above and below.
func value(x rat.Rat) *big.Rat {
	return new(big.Rat).SetFrac(integer(x.Num()), integer(whole.Int{Abs: x.Den()}))
}

// is tells if x is n over d.
func is(x rat.Rat, n, d int64) bool {
	return value(x).Cmp(big.NewRat(n, d)) == 0
}

// height is how high a place from 0 to 96 is, by going up the table and down
// again, and so below the middle.
func height(place int64) int64 {
	switch {
	case place <= 24:
		return table[place]
	case place <= 48:
		return table[48-place]
	case place <= 72:
		return -table[place-48]
	default:
		return -table[96-place]
	}
}

// ahead is the place from 0 to 95 that isn't above v degrees, and what is above
// it, by the length of 3 3/4 degrees.
func ahead(v *big.Rat) (int64, *big.Rat) {
	x := new(big.Rat).Mul(v, big.NewRat(4, 15))
	floor := new(big.Int).Div(x.Num(), x.Denom())
	x.Sub(x, new(big.Rat).SetInt(floor))
	return floor.Mod(floor, big.NewInt(96)).Int64(), x
}

// sineOf is the sine of v degrees, by math/big.
func sineOf(v *big.Rat) *big.Rat {
	k, part := ahead(v)
	part.Mul(part, big.NewRat(height(k+1)-height(k), 1))
	part.Add(part, big.NewRat(height(k), 1))
	return part.Quo(part, big.NewRat(3438, 1))
}

// arcOf is the arc of v, by math/big.
func arcOf(v *big.Rat) *big.Rat {
	h := new(big.Rat).Mul(new(big.Rat).Abs(v), big.NewRat(3438, 1))
	arc := big.NewRat(90, 1)
	for k := 23; k >= 0; k-- {
		if h.Cmp(big.NewRat(table[k+1], 1)) <= 0 {
			arc.Sub(h, big.NewRat(table[k], 1))
			arc.Quo(arc, big.NewRat(table[k+1]-table[k], 1))
			arc.Add(arc, big.NewRat(int64(k), 1))
			arc.Mul(arc, big.NewRat(15, 4))
		}
	}
	if v.Sign() < 0 {
		arc.Neg(arc)
	}
	return arc
}

// long is n over d, of limbs.
func long(neg bool, n, d nat.Nat) rat.Rat {
	return rat.Make(whole.Int{Neg: neg, Abs: n}, whole.Int{Abs: d})
}

// degrees are all places of some circles, what lies between them and just beside
// them, and what is far away, on both sides of 0.
func degrees() []rat.Rat {
	tiny := long(false, nat.Nat{1}, nat.Nat{0, 0, 0, 1})
	l := []rat.Rat{{}}
	for k := int64(-200); k <= 200; k++ {
		x := rat.Of(15*k, 4)
		l = append(l, x, x.Add(tiny), x.Sub(tiny), x.Add(rat.Of(15, 8)), x.Add(rat.Of(1, 7)))
	}
	for _, neg := range []bool{false, true} {
		l = append(l,
			long(neg, nat.Nat{1}, nat.Nat{1, 2, 3}), long(neg, nat.Nat{5, 0, 0, 9}, nat.Nat{7}), long(neg, nat.Nat{1, 2, 3, 4, 5, 6, 7, 8}, nat.Nat{1}),
			long(neg, nat.Nat{1, 2, 3, 4, 5, 6, 7, 8}, nat.Nat{9, 8, 7, 6}), long(neg, nat.Nat{math.MaxUint32, math.MaxUint32, math.MaxUint32}, nat.Nat{2}))
	}
	return append(l, rat.Whole(math.MaxInt64), rat.Whole(math.MinInt64), rat.Of(math.MinInt64, 3), rat.Of(394479457, 1080000))
}

// sines are what arcs are asked of: each place's, what lies between two, just
// above and just below them, and what is no sine.
func sines() []rat.Rat {
	tiny := long(false, nat.Nat{1}, nat.Nat{0, 0, 0, 1})
	l := []rat.Rat{{}, tiny, tiny.Opp()}
	for _, h := range table {
		x := rat.Of(h, 3438)
		for _, more := range []rat.Rat{{}, tiny, tiny.Opp(), rat.Of(1, 9999), rat.Of(-1, 9999), rat.Of(1, 1000)} {
			l = append(l, x.Add(more), x.Add(more).Opp())
		}
	}
	for n := int64(-110); n <= 110; n++ {
		l = append(l, rat.Of(n, 100), rat.Of(n, 97))
	}
	return append(l, rat.Whole(2), rat.Whole(-2), rat.Whole(math.MaxInt64), rat.Whole(math.MinInt64), long(false, nat.Nat{5, 0, 0, 9}, nat.Nat{7}), long(true, nat.Nat{5, 0, 0, 9}, nat.Nat{7}))
}

// P10.1, Step, Of, Cosine: of any rational number.
func TestSines(t *testing.T) {
	for _, x := range degrees() {
		v := value(x)
		k, _ := ahead(v)
		if got := sine.Step(x); int64(got) != height(k+1)-height(k) {
			t.Fatalf("Step of %v: %d", v, got)
		}
		if got := sine.Of(x); value(got).Cmp(sineOf(v)) != 0 {
			t.Fatalf("Of %v: %v", v, value(got))
		}
		if got := sine.Cosine(x); value(got).Cmp(sineOf(new(big.Rat).Add(v, big.NewRat(90, 1)))) != 0 {
			t.Fatalf("Cosine of %v: %v", v, value(got))
		}
	}
}

// P10.1, Of: at places, between them, below 0, and far away.
func TestOf(t *testing.T) {
	for _, c := range []struct{ n, d, above, below int64 }{
		{0, 1, 0, 1}, {30, 1, 1, 2}, {90, 1, 1, 1}, {150, 1, 1, 2}, {180, 1, 0, 1}, {210, 1, -1, 2}, {270, 1, -1, 1}, {330, 1, -1, 2}, {360, 1, 0, 1}, {390, 1, 1, 2},
		{-30, 1, -1, 2}, {-90, 1, -1, 1}, {-180, 1, 0, 1}, {-270, 1, 1, 1}, {-360, 1, 0, 1}, {-330, 1, 1, 2},
		{15, 4, 225, 3438}, {-15, 4, -225, 3438}, {15, 2, 449, 3438}, {345, 4, 3431, 3438}, {375, 4, 3431, 3438}, {45, 1, 2431, 3438}, {60, 1, 2978, 3438},
		{1, 1, 60, 3438}, {-1, 1, -60, 3438}, {15, 8, 225, 6876}, {45, 8, 674, 6876}, {-45, 8, -674, 6876}, {705, 8, 6869, 6876}, {735, 8, 6869, 6876}, {1425, 8, 225, 6876}, {1455, 8, -225, 6876},
		{5, 1, 899, 10314}, {179, 1, 60, 3438}, {181, 1, -60, 3438}, {359, 1, -60, 3438}, {361, 1, 60, 3438}, {360e9 + 30, 1, 1, 2}, {-360e9 + 30, 1, 1, 2}, {-360e9 - 30, 1, -1, 2},
	} {
		if got := sine.Of(rat.Of(c.n, c.d)); !is(got, c.above, c.below) {
			t.Errorf("Of %d/%d: %v", c.n, c.d, value(got))
		}
	}
}

// P10.1, Cosine: the sine of 90 degrees more.
func TestCosine(t *testing.T) {
	for _, c := range []struct{ n, d, above, below int64 }{
		{0, 1, 1, 1}, {60, 1, 1, 2}, {90, 1, 0, 1}, {120, 1, -1, 2}, {180, 1, -1, 1}, {270, 1, 0, 1}, {300, 1, 1, 2}, {360, 1, 1, 1},
		{-60, 1, 1, 2}, {-90, 1, 0, 1}, {-180, 1, -1, 1}, {15, 4, 3431, 3438}, {-15, 4, 3431, 3438}, {15, 8, 6869, 6876}, {30, 1, 2978, 3438}, {89, 1, 60, 3438}, {91, 1, -60, 3438}, {360e9 + 60, 1, 1, 2},
	} {
		if got := sine.Cosine(rat.Of(c.n, c.d)); !is(got, c.above, c.below) {
			t.Errorf("Cosine of %d/%d: %v", c.n, c.d, value(got))
		}
	}
}

// P10.1, Step: a place's own is what follows it, of what lies just below it what
// is ahead of it.
func TestStep(t *testing.T) {
	for _, c := range []struct {
		n, d int64
		want int
	}{
		{0, 1, 225}, {1, 1, 225}, {15, 4, 224}, {3749, 1000, 225}, {15, 2, 222}, {30, 1, 191}, {345, 4, 7}, {90, 1, -7}, {89, 1, 7}, {91, 1, -7}, {375, 4, -22},
		{705, 4, -225}, {179, 1, -225}, {180, 1, -225}, {181, 1, -225}, {735, 4, -224}, {269, 1, -7}, {270, 1, 7}, {271, 1, 7}, {359, 1, 225}, {360, 1, 225}, {361, 1, 225},
		{-1, 1000, 225}, {-15, 4, 225}, {-4, 1, 224}, {-90, 1, 7}, {-91, 1, -7}, {-180, 1, -225}, {-181, 1, -225}, {-360, 1, 225}, {-361, 1, 225}, {360e9 + 15, 1, 215}, {-360e9 + 15, 1, 215}, {-360e9 - 1, 1, 225},
	} {
		if got := sine.Step(rat.Of(c.n, c.d)); got != c.want {
			t.Errorf("Step of %d/%d: %d", c.n, c.d, got)
		}
	}
}

// P10.1, Arc: of any rational number.
func TestArcs(t *testing.T) {
	for _, a := range sines() {
		if got := sine.Arc(a); value(got).Cmp(arcOf(value(a))) != 0 {
			t.Fatalf("Arc of %v: %v", value(a), value(got))
		}
	}
}

// P10.1, Arc: just at a place and just above it, and of what is above 1, or
// below -1.
func TestArc(t *testing.T) {
	for _, c := range []struct{ n, d, above, below int64 }{
		{0, 1, 0, 1}, {1, 2, 30, 1}, {-1, 2, -30, 1}, {1, 1, 90, 1}, {-1, 1, -90, 1}, {2, 1, 90, 1}, {-2, 1, -90, 1}, {3439, 3438, 90, 1}, {-3439, 3438, -90, 1}, {1e18, 1, 90, 1}, {-1e18, 1, -90, 1},
		{225, 3438, 15, 4}, {-225, 3438, -15, 4}, {224, 3438, 224, 60}, {226, 3438, 225 * 15, 224 * 4}, {-226, 3438, -225 * 15, 224 * 4}, {1, 3438, 1, 60}, {-1, 3438, -1, 60},
		{449, 3438, 15, 2}, {450, 3438, 445 * 15, 222 * 4}, {3431, 3438, 345, 4}, {3432, 3438, 162 * 15, 7 * 4}, {3437, 3438, 167 * 15, 7 * 4}, {2431, 3438, 45, 1}, {2978, 3438, 60, 1}, {6869, 6876, 705, 8}, {1, 1e17, 573, 1e18},
	} {
		if got := sine.Arc(rat.Of(c.n, c.d)); !is(got, c.above, c.below) {
			t.Errorf("Arc of %d/%d: %v", c.n, c.d, value(got))
		}
	}
}

// P10.1: no call changes what it is asked of.
func TestNothingChanges(t *testing.T) {
	for _, x := range degrees() {
		v := value(x)
		sine.Step(x)
		for _, y := range []rat.Rat{sine.Of(x), sine.Cosine(x), sine.Arc(x)} {
			clear(y.Num().Abs)
			clear(y.Den())
		}
		if value(x).Cmp(v) != 0 {
			t.Errorf("%v: now %v", v, value(x))
		}
	}
}

// P10.2: a circle more changes nothing; back is the other sign; of 180 degrees
// less it it is the same.
func TestTurns(t *testing.T) {
	for _, x := range degrees() {
		y := sine.Of(x)
		for _, circles := range []rat.Rat{rat.Whole(360), rat.Whole(-360), rat.Whole(3600), long(true, nat.Nat{0, 0, 0, 360}, nat.Nat{1})} {
			more := x.Add(circles)
			if !sine.Of(more).Same(y) || !sine.Cosine(more).Same(sine.Cosine(x)) || sine.Step(more) != sine.Step(x) {
				t.Fatalf("%v and %v: %v", value(x), value(circles), value(sine.Of(more)))
			}
		}
		if got := sine.Of(x.Opp()); !got.Same(y.Opp()) {
			t.Fatalf("%v, with the other sign: %v", value(x), value(got))
		}
		if got := sine.Of(rat.Whole(180).Sub(x)); !got.Same(y) {
			t.Fatalf("180 less %v: %v", value(x), value(got))
		}
		if got := sine.Of(x.Add(rat.Whole(180))); !got.Same(y.Opp()) || !sine.Of(x.Add(rat.Whole(90))).Same(sine.Cosine(x)) {
			t.Fatalf("%v and 180: %v", value(x), value(got))
		}
	}
}

// P10.3: the sine of a's arc is a, from -1 to 1; what is beyond has an arc of 90
// degrees.
func TestSineOfArc(t *testing.T) {
	one, right := rat.Whole(1), rat.Whole(90)
	for _, a := range sines() {
		arc := sine.Arc(a)
		if a.Abs().Cmp(one) > 0 {
			if !arc.Abs().Same(right) || arc.Sign() != a.Sign() {
				t.Errorf("Arc of %v: %v", value(a), value(arc))
			}
			continue
		}
		if back := sine.Of(arc); !back.Same(a) || arc.Abs().Cmp(right) > 0 {
			t.Errorf("%v: arc %v, back %v", value(a), value(arc), value(back))
		}
	}
}

// P10.3: the arc of x's sine is x, from -90 to 90; so of other degrees it is what
// of these has the same sine.
func TestArcOfSine(t *testing.T) {
	right, inside := rat.Whole(90), 0
	for _, x := range degrees() {
		want := x
		if x.Abs().Cmp(right) <= 0 {
			inside++
		} else if want = rat.Whole(180).Sub(x); want.Abs().Cmp(right) > 0 {
			continue
		}
		if got := sine.Arc(sine.Of(x)); !got.Same(want) {
			t.Errorf("%v: sine %v, back %v", value(x), value(sine.Of(x)), value(got))
		}
	}
	if inside < 200 {
		t.Errorf("only %d from -90 to 90", inside)
	}
}

// P10.4: from -90 to 90 degrees sines rise, and so do arcs of what lies from -1
// to 1.
func TestRising(t *testing.T) {
	const parts = 16 // of each 3 3/4 degrees
	last, arc := sine.Of(rat.Whole(-90)), sine.Arc(rat.Whole(-1))
	for n := int64(-24*parts + 1); n <= 24*parts; n++ {
		next := sine.Of(rat.Of(15*n, 4*parts))
		if next.Cmp(last) <= 0 {
			t.Fatalf("%d of %d parts: %v behind %v", n, parts, value(next), value(last))
		}
		more := sine.Arc(rat.Of(n, 24*parts))
		if more.Cmp(arc) <= 0 {
			t.Fatalf("%d of %d parts: arc %v behind %v", n, parts, value(more), value(arc))
		}
		last, arc = next, more
	}
}

// P10.4: no sine is below -1, or above 1; in 3 3/4 degrees they rise, and fall,
// by at most 225/3438.
func TestBounds(t *testing.T) {
	one, most, width := rat.Whole(1), rat.Of(225, 3438), rat.Of(15, 4)
	for _, x := range degrees() {
		y := sine.Of(x)
		if y.Abs().Cmp(one) > 0 {
			t.Errorf("%v: %v", value(x), value(y))
		}
		for _, more := range []rat.Rat{width, rat.Of(15, 8), rat.Of(1, 9), width.Opp()} {
			if got := sine.Of(x.Add(more)).Sub(y).Abs(); got.Cmp(most) > 0 {
				t.Errorf("%v and %v: %v more", value(x), value(more), value(got))
			}
		}
		if step := sine.Step(x); step > 225 || step < -225 || step == 0 {
			t.Errorf("Step of %v: %d", value(x), step)
		}
	}
}
