package cut_test

import (
	"math"
	"math/big"
	"slices"
	"strings"
	"testing"

	"ephemeris/api"
	"ephemeris/cut"
	"ephemeris/digits"
	"ephemeris/nat"
	"ephemeris/rat"
	"ephemeris/whole"
)

const top = math.MaxUint32

// integer is math/big's number of the same sign and limbs: it knows nothing of
// the layers.
func integer(x whole.Int) *big.Int {
	v := new(big.Int)
	for i := len(x.Abs) - 1; i >= 0; i-- {
		v.Lsh(v, 32).Or(v, big.NewInt(int64(x.Abs[i])))
	}
	if x.Neg {
		v.Neg(v)
	}
	return v
}

// value is math/big's number of what stands above and below.
func value(x rat.Rat) *big.Rat {
	return new(big.Rat).SetFrac(integer(x.Num()), integer(whole.Int{Abs: x.Den()}))
}

// is tells if x is v, as it may be answered: no 0 that is Neg, no limbs 0 at the
// top.
func is(x whole.Int, v *big.Int) bool {
	if len(x.Abs) == 0 {
		return !x.Neg && v.Sign() == 0
	}
	return x.Abs[len(x.Abs)-1] != 0 && integer(x).Cmp(v) == 0
}

// floor is the greatest whole number that isn't above v.
func floor(v *big.Rat) *big.Int {
	return new(big.Int).Div(v.Num(), v.Denom())
}

// long is n over d, of limbs.
func long(neg bool, n, d nat.Nat) rat.Rat {
	return rat.Make(whole.Int{Neg: neg, Abs: n}, whole.Int{Abs: d})
}

// samples are the zero Rat, small fractions with both signs, whole ones and
// halves among them, and great ones.
func samples() []rat.Rat {
	l := []rat.Rat{{}}
	for n := int64(-25); n <= 25; n++ {
		for _, d := range []int64{1, 2, 3, 4, 7, 10} {
			l = append(l, rat.Of(n, d))
		}
	}
	for _, neg := range []bool{false, true} {
		l = append(l,
			long(neg, nat.Nat{0, 1 << 31}, nat.Nat{1}), long(neg, nat.Nat{top, 1<<31 - 1}, nat.Nat{1}), long(neg, nat.Nat{1, 1 << 31}, nat.Nat{1}),
			long(neg, nat.Nat{0, 0, 1}, nat.Nat{1}), long(neg, nat.Nat{1, 0, 1}, nat.Nat{2}), long(neg, nat.Nat{top, top}, nat.Nat{2}),
			long(neg, nat.Nat{1}, nat.Nat{0, 0, 1}), long(neg, nat.Nat{top, top, top}, nat.Nat{1, 0, 7}), long(neg, nat.Nat{5, 0, 0, 9}, nat.Nat{0, 0, 0, 6}))
	}
	return append(l, rat.Of(394479457, 1080000), rat.Of(-1132959, 1), rat.Of(math.MinInt64, 3), rat.Of(math.MaxInt64, math.MinInt64))
}

// few are numbers of all kinds, for what is asked of three of them.
func few() []rat.Rat {
	return []rat.Rat{
		{}, rat.Whole(1), rat.Whole(-1), rat.Of(1, 2), rat.Of(-7, 2), rat.Of(10, 3), rat.Of(-10, 3), rat.Of(22, 7), rat.Whole(360), rat.Whole(-180), rat.Whole(370),
		rat.Of(15, 4), rat.Of(-1577917828, 57753336), long(false, nat.Nat{5, 0, 0, 9}, nat.Nat{0, 0, 6}), long(true, nat.Nat{top, top, top}, nat.Nat{1, 0, 7}),
	}
}

// P6.1, Floor, Ceil, Round and Frac.
func TestCut(t *testing.T) {
	for _, x := range samples() {
		v := value(x)
		if got := cut.Floor(x); !is(got, floor(v)) {
			t.Errorf("Floor of %v: %v", v, got)
		}
		up := floor(new(big.Rat).Neg(v))
		if got := cut.Ceil(x); !is(got, up.Neg(up)) {
			t.Errorf("Ceil of %v: %v", v, got)
		}
		if got := cut.Round(x); !is(got, floor(new(big.Rat).Add(v, big.NewRat(1, 2)))) {
			t.Errorf("Round of %v: %v", v, got)
		}
		want := new(big.Rat).Sub(v, new(big.Rat).SetInt(floor(v)))
		if got := cut.Frac(x); value(got).Cmp(want) != 0 {
			t.Errorf("Frac of %v: %v", v, value(got))
		}
	}
}

// P6.1, of numbers below 0, and of what lies in the middle of two.
func TestCutBelow(t *testing.T) {
	for _, c := range []struct {
		n, d               int64
		floor, ceil, round int64
	}{
		{0, 1, 0, 0, 0}, {5, 1, 5, 5, 5}, {-5, 1, -5, -5, -5},
		{7, 2, 3, 4, 4}, {-7, 2, -4, -3, -3}, {1, 2, 0, 1, 1}, {-1, 2, -1, 0, 0}, {3, 2, 1, 2, 2}, {-3, 2, -2, -1, -1},
		{1, 3, 0, 1, 0}, {-1, 3, -1, 0, 0}, {2, 3, 0, 1, 1}, {-2, 3, -1, 0, -1},
		{499, 1000, 0, 1, 0}, {501, 1000, 0, 1, 1}, {-499, 1000, -1, 0, 0}, {-501, 1000, -1, 0, -1},
	} {
		x := rat.Of(c.n, c.d)
		if !is(cut.Floor(x), big.NewInt(c.floor)) || !is(cut.Ceil(x), big.NewInt(c.ceil)) || !is(cut.Round(x), big.NewInt(c.round)) {
			t.Errorf("%d over %d: %v, %v, %v", c.n, c.d, cut.Floor(x), cut.Ceil(x), cut.Round(x))
		}
	}
}

// P6.1, Days: the floor, if it is a number of 64 bits.
func TestDays(t *testing.T) {
	for _, x := range samples() {
		want := floor(value(x))
		n, ok := cut.Days(x)
		if ok != want.IsInt64() || ok && n != want.Int64() || !ok && n != 0 {
			t.Errorf("Days of %v: %d, %t", value(x), n, ok)
		}
	}
	most, least := rat.Whole(math.MaxInt64), rat.Whole(math.MinInt64)
	for _, c := range []struct {
		x  rat.Rat
		n  int64
		ok bool
	}{
		{rat.Of(-7, 2), -4, true}, {rat.Rat{}, 0, true},
		{most, math.MaxInt64, true}, {most.Add(rat.Of(2, 3)), math.MaxInt64, true}, {most.Add(rat.Whole(1)), 0, false},
		{least, math.MinInt64, true}, {least.Add(rat.Of(1, 3)), math.MinInt64, true}, {least.Sub(rat.Of(1, 3)), 0, false},
	} {
		if n, ok := cut.Days(c.x); n != c.n || ok != c.ok {
			t.Errorf("Days of %v: %d, %t", value(c.x), n, ok)
		}
	}
}

// P6.1, Of: of any whole number, 0 that is Neg and limbs 0 at the top too.
func TestOf(t *testing.T) {
	for _, x := range []whole.Int{{}, {Neg: true}, {Neg: true, Abs: nat.Nat{0, 0}}, {Abs: nat.Nat{7, 0}}, {Neg: true, Abs: nat.Nat{top, 1, 0}}, whole.Of(math.MinInt64), {Abs: nat.Nat{0, 0, 0, 1}}} {
		got := cut.Of(x)
		if value(got).Cmp(new(big.Rat).SetInt(integer(x))) != 0 || !slices.Equal(got.Den(), nat.Nat{1}) {
			t.Errorf("Of %v: %v", x, value(got))
		}
	}
}

// P6.1: what Of is handed isn't changed, nor kept.
func TestOfKeepsNothing(t *testing.T) {
	abs := nat.Nat{5, 6, 0}
	x := cut.Of(whole.Int{Neg: true, Abs: abs})
	if !slices.Equal(abs, nat.Nat{5, 6, 0}) {
		t.Errorf("now %v", abs)
	}
	clear(abs)
	floor := cut.Floor(x)
	clear(floor.Abs)
	clear(cut.Ceil(x).Abs)
	clear(cut.Round(x).Abs)
	if !slices.Equal(x.Num().Abs, nat.Nat{5, 6}) {
		t.Errorf("hangs on other memory: %v", x.Num())
	}
}

// P6.1, Mod: what is left over; 0, if the length isn't above 0.
func TestMod(t *testing.T) {
	for _, x := range samples() {
		for _, m := range few() {
			want := new(big.Rat)
			if m.Sign() > 0 {
				times := new(big.Rat).SetInt(floor(new(big.Rat).Quo(value(x), value(m))))
				want.Sub(value(x), times.Mul(times, value(m)))
			}
			if got := cut.Mod(x, m); value(got).Cmp(want) != 0 {
				t.Fatalf("Mod of %v by %v: %v", value(x), value(m), value(got))
			}
		}
	}
	for _, c := range []struct{ x, m, want rat.Rat }{
		{rat.Whole(7), rat.Whole(3), rat.Whole(1)}, {rat.Whole(-7), rat.Whole(3), rat.Whole(2)}, {rat.Whole(-6), rat.Whole(3), rat.Rat{}},
		{rat.Of(-1, 2), rat.Whole(360), rat.Of(719, 2)}, {rat.Of(7, 2), rat.Of(2, 3), rat.Of(1, 6)},
		{rat.Whole(7), rat.Rat{}, rat.Rat{}}, {rat.Whole(7), rat.Whole(-3), rat.Rat{}}, {rat.Whole(-7), rat.Of(-1, 9), rat.Rat{}},
	} {
		if got := cut.Mod(c.x, c.m); !got.Same(c.want) {
			t.Errorf("Mod of %v by %v: %v", value(c.x), value(c.m), value(got))
		}
	}
}

// P6.1, Into: moved by whole lengths; 0, if the first bound isn't below the second.
func TestInto(t *testing.T) {
	half := rat.Of(1, 2)
	for _, c := range []struct{ x, a, b, want rat.Rat }{
		{rat.Whole(370), rat.Whole(-180), rat.Whole(180), rat.Whole(10)},
		{rat.Whole(180), rat.Whole(-180), rat.Whole(180), rat.Whole(-180)},
		{rat.Whole(-180), rat.Whole(-180), rat.Whole(180), rat.Whole(-180)},
		{rat.Whole(-181), rat.Whole(-180), rat.Whole(180), rat.Whole(179)},
		{rat.Whole(0), rat.Whole(5), rat.Whole(7), rat.Whole(6)},
		{rat.Whole(-1), rat.Whole(-9), rat.Whole(-7), rat.Whole(-9)},
		{rat.Of(11, 4), half.Opp(), half, rat.Of(-1, 4)},
		{half, half.Opp(), half, half.Opp()},
		{rat.Whole(3), rat.Whole(5), rat.Whole(5), rat.Rat{}},
		{rat.Whole(6), rat.Whole(7), rat.Whole(5), rat.Rat{}},
		{rat.Whole(5), rat.Rat{}, rat.Rat{}, rat.Rat{}},
	} {
		if got := cut.Into(c.x, c.a, c.b); !got.Same(c.want) {
			t.Errorf("Into of %v, from %v to %v: %v", value(c.x), value(c.a), value(c.b), value(got))
		}
	}
}

// P6.1, Mid.
func TestMid(t *testing.T) {
	for _, a := range samples() {
		for _, b := range few() {
			want := new(big.Rat).Add(value(a), value(b))
			want.Quo(want, big.NewRat(2, 1))
			if got := cut.Mid(a, b); value(got).Cmp(want) != 0 || !got.Same(cut.Mid(b, a)) {
				t.Fatalf("Mid of %v and %v: %v", value(a), value(b), value(got))
			}
		}
	}
}

// P6.1, Bits: the more of what stands above and below; of 0 that is 1, below.
func TestBits(t *testing.T) {
	for _, x := range samples() {
		v := value(x)
		if got := cut.Bits(x); got != max(v.Num().BitLen(), v.Denom().BitLen()) {
			t.Errorf("Bits of %v: %d", v, got)
		}
	}
	for _, c := range []struct {
		x    rat.Rat
		bits int
	}{
		{rat.Rat{}, 1}, {rat.Whole(1), 1}, {rat.Whole(-8), 4}, {rat.Of(1, 8), 4}, {rat.Of(-255, 7), 8}, {rat.Of(7, -255), 8}, {rat.Of(6, 12), 2},
	} {
		if got := cut.Bits(c.x); got != c.bits {
			t.Errorf("Bits of %v: %d", value(c.x), got)
		}
	}
}

// text is how v is written.
func text(v *big.Rat) string {
	return strings.TrimSuffix(v.String(), "/1")
}

// P6.1, Text: with a stroke, if it isn't whole.
func TestText(t *testing.T) {
	for _, x := range samples() {
		if got := cut.Text(x); got != text(value(x)) {
			t.Errorf("Text of %v: %s", value(x), got)
		}
	}
	for _, c := range []struct {
		x    rat.Rat
		text string
	}{
		{rat.Rat{}, "0"}, {rat.Of(0, -3), "0"}, {rat.Of(-6, -4), "3/2"}, {rat.Of(6, -4), "-3/2"}, {rat.Of(6, -3), "-2"}, {rat.Of(1, 10), "1/10"}, {rat.Whole(10), "10"},
	} {
		if got := cut.Text(c.x); got != c.text {
			t.Errorf("Text of %v: %s", value(c.x), got)
		}
	}
}

// P6.1, Parse: with a stroke and without; no lowest terms are asked for.
func TestParse(t *testing.T) {
	nines := strings.Repeat("9", digits.MaxDigits)
	for _, c := range []struct {
		s    string
		want rat.Rat
	}{
		{"0", rat.Rat{}}, {"7", rat.Whole(7)}, {"-7", rat.Whole(-7)}, {"1000000000000", rat.Whole(1e12)},
		{"3/2", rat.Of(3, 2)}, {"-3/2", rat.Of(-3, 2)}, {"6/4", rat.Of(3, 2)}, {"-6/3", rat.Whole(-2)}, {"0/5", rat.Rat{}}, {"5/1", rat.Whole(5)},
		{nines + "/" + nines, rat.Whole(1)}, {"-" + nines + "/" + nines, rat.Whole(-1)},
	} {
		if got, errno := cut.Parse(c.s); errno != api.OK || !got.Same(c.want) {
			t.Errorf("Parse of %.20q: %v, %d", c.s, value(got), errno)
		}
	}
}

// P6.1, Parse: what is no number; of several errors the one of what is ahead of
// the stroke, and Parse's ahead of those of what is below 0, or 0.
func TestNoNumber(t *testing.T) {
	more := strings.Repeat("9", digits.MaxDigits+1)
	for _, c := range []struct {
		s     string
		errno api.Errno
	}{
		{"", api.ErrForm}, {"x", api.ErrForm}, {"-", api.ErrForm}, {"-0", api.ErrForm}, {"+1", api.ErrForm}, {"01", api.ErrForm}, {"1.5", api.ErrForm}, {" 1", api.ErrForm}, {"1 ", api.ErrForm}, {"\xff", api.ErrForm}, {"1\x00", api.ErrForm},
		{"/", api.ErrForm}, {"/2", api.ErrForm}, {"1/", api.ErrForm}, {"-/2", api.ErrForm}, {"-0/2", api.ErrForm}, {"1/-0", api.ErrForm}, {"1/+2", api.ErrForm}, {"1/02", api.ErrForm}, {"1/00", api.ErrForm}, {"01/2", api.ErrForm},
		{"1 / 2", api.ErrForm}, {"1/ 2", api.ErrForm}, {"1//2", api.ErrForm}, {"1/2/", api.ErrForm}, {"1/2/3", api.ErrForm}, {"1\\2", api.ErrForm}, {"1\u20442", api.ErrForm}, {"1/x", api.ErrForm},
		{"1/-2", api.ErrForm}, {"-1/-2", api.ErrForm}, {"0/-1", api.ErrForm}, {"1/0", api.ErrArg}, {"-1/0", api.ErrArg}, {"0/0", api.ErrArg},
		{more, api.ErrBig}, {"-" + more, api.ErrBig}, {more + "/2", api.ErrBig}, {"2/" + more, api.ErrBig}, {"2/-" + more, api.ErrBig},
		{more + "/x", api.ErrBig}, {more + "/0", api.ErrBig}, {"x/" + more, api.ErrForm}, {"x/0", api.ErrForm}, {"/0", api.ErrForm}, {"2/" + more + "/", api.ErrForm}, {more + "x", api.ErrForm},
	} {
		if got, errno := cut.Parse(c.s); errno != c.errno || got.Sign() != 0 {
			t.Errorf("Parse of %.20q: %v, %d", c.s, value(got), errno)
		}
	}
}

// P6.1: no call changes what it is asked of.
func TestNothingChanges(t *testing.T) {
	for _, x := range samples() {
		v, m := value(x), rat.Of(22, 7)
		cut.Days(x)
		cut.Bits(x)
		cut.Text(x)
		for _, n := range []whole.Int{cut.Floor(x), cut.Ceil(x), cut.Round(x), cut.Frac(x).Num(), cut.Mod(x, m).Num(), cut.Into(x, x, m).Num(), cut.Mid(x, m).Num()} {
			clear(n.Abs)
		}
		if value(x).Cmp(v) != 0 || !m.Same(rat.Of(22, 7)) {
			t.Errorf("%v: now %v", v, value(x))
		}
	}
}

// P6.2: a number lies from its floor on up to the next whole number, without
// this, and likewise below its ceil; it is less than a half away from where it is
// rounded to, or just a half below that.
func TestWhere(t *testing.T) {
	one, half := rat.Whole(1), rat.Of(1, 2)
	for _, x := range samples() {
		below, above, near := cut.Of(cut.Floor(x)), cut.Of(cut.Ceil(x)), cut.Of(cut.Round(x))
		if below.Cmp(x) > 0 || below.Add(one).Cmp(x) <= 0 || above.Cmp(x) < 0 || above.Sub(one).Cmp(x) >= 0 {
			t.Errorf("%v: from %v to %v", value(x), value(below), value(above))
		}
		if away := near.Sub(x); away.Cmp(half) > 0 || away.Cmp(half.Opp()) <= 0 {
			t.Errorf("%v: round %v", value(x), value(near))
		}
		if part := cut.Frac(x); part.Sign() < 0 || part.Cmp(one) >= 0 || !below.Add(part).Same(x) {
			t.Errorf("%v: part %v", value(x), value(part))
		}
	}
}

// P6.2: a whole number more changes nothing but that.
func TestWholeMore(t *testing.T) {
	for _, x := range samples() {
		for _, n := range []whole.Int{whole.Of(1), whole.Of(-1), whole.Of(360), whole.Of(-1132959), {Neg: true, Abs: nat.Nat{1, 2, 3}}} {
			y := x.Add(cut.Of(n))
			if cut.Floor(y).Cmp(cut.Floor(x).Add(n)) != 0 || cut.Ceil(y).Cmp(cut.Ceil(x).Add(n)) != 0 || cut.Round(y).Cmp(cut.Round(x).Add(n)) != 0 {
				t.Errorf("%v and %v: %v, %v, %v", value(x), n, cut.Floor(y), cut.Ceil(y), cut.Round(y))
			}
			if !cut.Frac(y).Same(cut.Frac(x)) {
				t.Errorf("%v and %v: part %v", value(x), n, value(cut.Frac(y)))
			}
		}
	}
}

// isWhole tells if nothing but 1 stands below.
func isWhole(x rat.Rat) bool {
	return slices.Equal(x.Den(), nat.Nat{1})
}

// P6.2: what is left over lies from 0 on up to the length, without this, whole
// lengths away; as many lengths more change nothing.
func TestLengths(t *testing.T) {
	for _, x := range samples() {
		for _, m := range few() {
			if m.Sign() <= 0 {
				continue
			}
			got := cut.Mod(x, m)
			if got.Sign() < 0 || got.Cmp(m) >= 0 || !isWhole(x.Sub(got).Div(m)) {
				t.Fatalf("Mod of %v by %v: %v", value(x), value(m), value(got))
			}
			if !cut.Mod(x.Add(m.Mul(rat.Whole(-7))), m).Same(got) {
				t.Fatalf("Mod of %v by %v: 7 lengths matter", value(x), value(m))
			}
		}
	}
}

// P6.2: what is moved in between two bounds lies there, whole lengths away; what
// lies there stays.
func TestBounds(t *testing.T) {
	for _, x := range few() {
		for _, a := range few() {
			for _, b := range few() {
				got := cut.Into(x, a, b)
				if a.Cmp(b) >= 0 {
					if got.Sign() != 0 {
						t.Fatalf("Into of %v, from %v to %v: %v", value(x), value(a), value(b), value(got))
					}
					continue
				}
				if got.Cmp(a) < 0 || got.Cmp(b) >= 0 || !isWhole(x.Sub(got).Div(b.Sub(a))) {
					t.Fatalf("Into of %v, from %v to %v: %v", value(x), value(a), value(b), value(got))
				}
				inside := x.Cmp(a) >= 0 && x.Cmp(b) < 0
				if inside != got.Same(x) || !cut.Into(x.Add(b).Sub(a), a, b).Same(got) {
					t.Fatalf("Into of %v, from %v to %v: %v", value(x), value(a), value(b), value(got))
				}
			}
		}
	}
}

// P6.2: the middle is as far from the one as from the other.
func TestMiddle(t *testing.T) {
	for _, a := range few() {
		for _, b := range few() {
			mid := cut.Mid(a, b)
			if !mid.Sub(a).Same(b.Sub(mid)) || mid.Cmp(a) != b.Cmp(mid) {
				t.Errorf("Mid of %v and %v: %v", value(a), value(b), value(mid))
			}
		}
	}
}

// P6.3: a number is read of its text.
func TestThereAndBack(t *testing.T) {
	for _, x := range samples() {
		if back, errno := cut.Parse(cut.Text(x)); errno != api.OK || !back.Same(x) {
			t.Errorf("%s: back %v, %d", cut.Text(x), value(back), errno)
		}
	}
}

// P6.3: of all short texts just those are read that say a number, and those in
// lowest terms are written the same.
func TestReadIsWritten(t *testing.T) {
	texts := []string{""}
	for from, size := 0, 0; size < 5; size++ {
		to := len(texts)
		for _, s := range texts[from:to] {
			for _, c := range "-+/0126" {
				texts = append(texts, s+string(c))
			}
		}
		from = to
	}
	read, lowest := 0, 0
	for _, s := range texts {
		x, errno := cut.Parse(s)
		above, behind, stroke := strings.Cut(s, "/")
		want, ok := new(big.Int).SetString(above, 10)
		isText := ok && want.String() == above
		if stroke {
			d, ok := new(big.Int).SetString(behind, 10)
			isText = isText && ok && d.String() == behind && d.Sign() > 0
		}
		if isText != (errno == api.OK) || !isText && x.Sign() != 0 {
			t.Fatalf("%q: %v, %d", s, value(x), errno)
		}
		if !isText {
			continue
		}
		read++
		v, _ := new(big.Rat).SetString(s)
		if value(x).Cmp(v) != 0 || (cut.Text(x) == s) != (text(v) == s) {
			t.Fatalf("%q: %v, written %s", s, value(x), cut.Text(x))
		}
		if cut.Text(x) == s {
			lowest++
		}
	}
	if read == 0 || lowest == 0 || lowest == read {
		t.Errorf("of %d texts %d are read, %d in lowest terms", len(texts), read, lowest)
	}
}
