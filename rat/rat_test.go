package rat_test

import (
	"math"
	"math/big"
	"slices"
	"testing"

	"ephemeris/nat"
	"ephemeris/rat"
	"ephemeris/whole"
)

const top = math.MaxUint32

// natural is math/big's number of the same limbs: it knows nothing of the layers.
func natural(x nat.Nat) *big.Int {
	v := new(big.Int)
	for i := len(x) - 1; i >= 0; i-- {
		v.Lsh(v, 32).Or(v, big.NewInt(int64(x[i])))
	}
	return v
}

// integer is math/big's number of the same sign and limbs.
func integer(x whole.Int) *big.Int {
	v := natural(x.Abs)
	if x.Neg {
		v.Neg(v)
	}
	return v
}

// trimmed tells if x has no limbs 0 at the top.
func trimmed(x nat.Nat) bool {
	return len(x) == 0 || x[len(x)-1] != 0
}

// is tells if x is v: above and below stand just the numbers that stand there in
// lowest terms, as whole numbers may be answered.
func is(x rat.Rat, v *big.Rat) bool {
	num, den := x.Num(), x.Den()
	clean := trimmed(num.Abs) && trimmed(den) && !(num.Neg && len(num.Abs) == 0)
	return clean && integer(num).Cmp(v.Num()) == 0 && natural(den).Cmp(v.Denom()) == 0
}

// pair is a Rat, and what it is by math/big.
type pair struct {
	x rat.Rat
	v *big.Rat
}

// made is n over d, which isn't 0.
func made(n, d whole.Int) pair {
	return pair{rat.Make(n, d), new(big.Rat).SetFrac(integer(n), integer(d))}
}

// small are the zero Rat, and fractions of small numbers with all signs, many of
// which are one number.
func small() []pair {
	l := []pair{{rat.Rat{}, new(big.Rat)}}
	for n := int64(-9); n <= 9; n++ {
		for _, d := range []int64{1, -1, 2, 3, 4, -6, 7, 8, 9, -12} {
			l = append(l, made(whole.Of(n), whole.Of(d)))
		}
	}
	return l
}

// sizes are numbers of limbs at the edges, and longer ones that share divisors;
// some have limbs 0 at the top.
func sizes() []nat.Nat {
	return []nat.Nat{
		{1}, {6, 0}, {30}, {1 << 31}, {top}, {0, 1}, {top, top}, {0, 1 << 31, 0},
		{12, 0, 9}, {0, 0, 1}, {0, 6, 6, 0, 0}, {top, 0, top, 0, top}, {1, 2, 3, 4, 5, 6, 7},
		{0x2540be40, 0x17, 0x9502f900, 0x5d2}, {2784041813, 1890764033, 77, 3, 9, 1 << 20},
	}
}

// great are fractions of these.
func great() []pair {
	var l []pair
	for i, n := range sizes() {
		for j, d := range sizes() {
			l = append(l, made(whole.Int{Neg: (i+j)%2 == 1, Abs: n}, whole.Int{Neg: i%3 == 1, Abs: d}))
		}
	}
	return l
}

func samples() []pair {
	return append(small(), great()...)
}

// few are numbers of all kinds, for what is asked of three of them.
func few() []rat.Rat {
	return []rat.Rat{
		{}, rat.Whole(1), rat.Whole(-1), rat.Of(1, 2), rat.Of(-1, 2), rat.Of(2, 3), rat.Of(-5, 6), rat.Of(6, 5), rat.Of(-7, 12), rat.Of(12, 7), rat.Whole(360),
		rat.Of(394479457, 1080000), rat.Of(math.MinInt64, 3), rat.Of(1, math.MaxInt64), rat.Of(-1577917828, 57753336),
		rat.Make(whole.Int{Neg: true, Abs: nat.Nat{0, 6, 6}}, whole.Int{Abs: nat.Nat{12, 0, 9, 1}}),
		rat.Make(whole.Int{Abs: nat.Nat{top, top, top}}, whole.Int{Abs: nat.Nat{0, 0, 0, 1}}),
	}
}

// P5.1, Make: all signs, limbs 0 at the top, common divisors.
func TestMake(t *testing.T) {
	for _, c := range samples() {
		if !is(c.x, c.v) {
			t.Errorf("%v: %v over %v", c.v, c.x.Num(), c.x.Den())
		}
	}
	for _, c := range []struct {
		n, d whole.Int
		v    *big.Rat
	}{
		{whole.Int{Neg: true}, whole.Of(-5), new(big.Rat)},
		{whole.Int{Neg: true, Abs: nat.Nat{0, 0}}, whole.Of(5), new(big.Rat)},
		{whole.Int{Neg: true, Abs: nat.Nat{6, 0}}, whole.Int{Neg: true, Abs: nat.Nat{4, 0, 0}}, big.NewRat(3, 2)},
		{whole.Int{Abs: nat.Nat{6, 0}}, whole.Int{Neg: true, Abs: nat.Nat{4, 0, 0}}, big.NewRat(-3, 2)},
	} {
		if x := rat.Make(c.n, c.d); !is(x, c.v) {
			t.Errorf("Make of %v, %v: %v over %v", c.n, c.d, x.Num(), x.Den())
		}
	}
}

// P5.1, Make and Of: over 0 all is 0.
func TestOverNothing(t *testing.T) {
	for _, n := range []whole.Int{{}, whole.Of(5), whole.Of(-5), {Neg: true, Abs: nat.Nat{0, 0, 1}}} {
		for _, d := range []whole.Int{{}, {Neg: true}, {Abs: nat.Nat{0}}, {Neg: true, Abs: nat.Nat{0, 0, 0}}} {
			if x := rat.Make(n, d); !is(x, new(big.Rat)) {
				t.Errorf("Make of %v, %v: %v over %v", n, d, x.Num(), x.Den())
			}
		}
	}
	for _, n := range []int64{0, 5, -5, math.MaxInt64, math.MinInt64} {
		if x := rat.Of(n, 0); !is(x, new(big.Rat)) {
			t.Errorf("Of(%d, 0): %v over %v", n, x.Num(), x.Den())
		}
	}
}

// P5.1, Of and Whole: of numbers of 64 bits, the lowest one too.
func TestOf(t *testing.T) {
	if x := rat.Of(-6, -4); !is(x, big.NewRat(3, 2)) {
		t.Errorf("Of(-6, -4): %v over %v", x.Num(), x.Den())
	}
	numbers := []int64{0, 1, -1, 2, -4, 6, 360, -1132959, 1 << 32, -1 << 62, math.MaxInt64, -math.MaxInt64, math.MinInt64}
	for _, n := range numbers {
		if x := rat.Whole(n); !is(x, new(big.Rat).SetInt64(n)) {
			t.Errorf("Whole(%d): %v over %v", n, x.Num(), x.Den())
		}
		for _, d := range numbers {
			if d == 0 {
				continue
			}
			want := new(big.Rat).SetFrac(big.NewInt(n), big.NewInt(d))
			if x := rat.Of(n, d); !is(x, want) {
				t.Errorf("Of(%d, %d): %v over %v", n, d, x.Num(), x.Den())
			}
		}
	}
}

// P5.1, Num and Den: of 0: 0, 1.
func TestNothing(t *testing.T) {
	for i, x := range []rat.Rat{{}, rat.Whole(0), rat.Of(0, -7), rat.Of(7, 0), rat.Sum(), rat.Of(1, 3).Sub(rat.Of(2, 6)), rat.Of(1, 3).Mul(rat.Rat{})} {
		if len(x.Num().Abs) != 0 || x.Num().Neg || !slices.Equal(x.Den(), nat.Nat{1}) || x.Sign() != 0 {
			t.Errorf("%d: %v over %v", i, x.Num(), x.Den())
		}
		if !x.Same(rat.Rat{}) || !(rat.Rat{}).Same(x) || x.Cmp(rat.Rat{}) != 0 || x.Same(rat.Whole(1)) {
			t.Errorf("%d: isn't 0", i)
		}
	}
}

// P5.1, Sign, Opp and Abs.
func TestOne(t *testing.T) {
	for _, c := range samples() {
		if c.x.Sign() != c.v.Sign() {
			t.Errorf("Sign of %v: %d", c.v, c.x.Sign())
		}
		if x := c.x.Opp(); !is(x, new(big.Rat).Neg(c.v)) {
			t.Errorf("Opp of %v: %v over %v", c.v, x.Num(), x.Den())
		}
		if x := c.x.Abs(); !is(x, new(big.Rat).Abs(c.v)) {
			t.Errorf("Abs of %v: %v over %v", c.v, x.Num(), x.Den())
		}
	}
}

// P5.1, Cmp and Same, of any two.
func TestCmp(t *testing.T) {
	for _, c := range samples() {
		for _, d := range samples() {
			want := c.v.Cmp(d.v)
			if got := c.x.Cmp(d.x); got != want {
				t.Fatalf("Cmp of %v and %v: %d", c.v, d.v, got)
			}
			if got := c.x.Same(d.x); got != (want == 0) {
				t.Fatalf("Same of %v and %v: %t", c.v, d.v, got)
			}
		}
	}
}

// P5.1, Add, Sub, Mul and Div, of any two.
func TestTwo(t *testing.T) {
	for _, c := range samples() {
		for _, d := range samples() {
			if got := c.x.Add(d.x); !is(got, new(big.Rat).Add(c.v, d.v)) {
				t.Fatalf("Add of %v and %v: %v over %v", c.v, d.v, got.Num(), got.Den())
			}
			if got := c.x.Sub(d.x); !is(got, new(big.Rat).Sub(c.v, d.v)) {
				t.Fatalf("Sub of %v and %v: %v over %v", c.v, d.v, got.Num(), got.Den())
			}
			if got := c.x.Mul(d.x); !is(got, new(big.Rat).Mul(c.v, d.v)) {
				t.Fatalf("Mul of %v and %v: %v over %v", c.v, d.v, got.Num(), got.Den())
			}
			want := new(big.Rat)
			if d.v.Sign() != 0 {
				want.Quo(c.v, d.v)
			}
			if got := c.x.Div(d.x); !is(got, want) {
				t.Fatalf("Div of %v and %v: %v over %v", c.v, d.v, got.Num(), got.Den())
			}
		}
	}
}

// P5.1, Div: by 0 all is 0.
func TestByNothing(t *testing.T) {
	for _, c := range samples() {
		for i, zero := range []rat.Rat{{}, rat.Whole(0), rat.Of(5, 0)} {
			if got := c.x.Div(zero); !is(got, new(big.Rat)) {
				t.Errorf("%v by the zero %d: %v over %v", c.v, i, got.Num(), got.Den())
			}
		}
	}
}

// P5.1, Sum: of none 0, of one, of all.
func TestSum(t *testing.T) {
	if got := rat.Sum(); !is(got, new(big.Rat)) {
		t.Errorf("of none: %v over %v", got.Num(), got.Den())
	}
	if got := rat.Sum([]rat.Rat{}...); !is(got, new(big.Rat)) {
		t.Errorf("of an empty list: %v over %v", got.Num(), got.Den())
	}
	if got := rat.Sum(rat.Of(1, 2), rat.Of(1, 3), rat.Of(1, 6), rat.Whole(-3)); !is(got, big.NewRat(-2, 1)) {
		t.Errorf("of four: %v over %v", got.Num(), got.Den())
	}
	var l []rat.Rat
	total := new(big.Rat)
	for _, c := range samples() {
		if got := rat.Sum(c.x); !is(got, c.v) {
			t.Errorf("of %v: %v over %v", c.v, got.Num(), got.Den())
		}
		l = append(l, c.x)
		total.Add(total, c.v)
		if got := rat.Sum(l...); !is(got, total) {
			t.Fatalf("of %d: %v over %v", len(l), got.Num(), got.Den())
		}
	}
}

// answers are all numbers that calls of x and y answer.
func answers(x, y rat.Rat) []rat.Rat {
	x.Sign()
	x.Cmp(y)
	x.Same(y)
	return []rat.Rat{x.Opp(), x.Abs(), x.Add(y), x.Sub(y), x.Mul(y), x.Div(y), rat.Sum(x), rat.Sum(x, y, x), rat.Make(x.Num(), y.Num()), x, y}
}

// spoil writes over a number, and over what may be appended to it.
func spoil(x nat.Nat) {
	x = x[:cap(x)]
	for i := range x {
		x[i] ^= top
	}
}

// P5.1: nothing is changed by any call, neither the numbers that are asked of
// nor those that Make is handed; what is done to these, or to what Num and Den
// answer, changes no Rat.
func TestNothingChanges(t *testing.T) {
	for _, c := range []struct{ n, d whole.Int }{
		{whole.Of(0), whole.Of(5)}, {whole.Of(1), whole.Of(1)}, {whole.Of(-6), whole.Of(-4)}, {whole.Of(7), whole.Of(-1)},
		{whole.Int{Neg: true, Abs: nat.Nat{top, 5, 0}}, whole.Int{Abs: nat.Nat{0, 6, 0, 0}}},
		{whole.Int{Abs: nat.Nat{1, 2, 3}}, whole.Int{Neg: true, Abs: nat.Nat{1, 2, 3}}},
	} {
		n, d := slices.Clone(c.n.Abs), slices.Clone(c.d.Abs)
		x := rat.Make(whole.Int{Neg: c.n.Neg, Abs: n}, whole.Int{Neg: c.d.Neg, Abs: d})
		if !slices.Equal(n, c.n.Abs) || !slices.Equal(d, c.d.Abs) {
			t.Fatalf("Make of %v, %v: now %v, %v", c.n, c.d, n, d)
		}
		spoil(n)
		spoil(d)
		for _, y := range few() {
			keep := made(c.n, c.d)
			l, want := answers(x, y), answers(keep.x, y)
			for i, z := range l {
				if !z.Same(want[i]) {
					t.Fatalf("%v and %v over %v: answer %d hangs on other memory", keep.v, y.Num(), y.Den(), i)
				}
				spoil(z.Num().Abs)
				spoil(z.Den())
			}
			if !is(x, keep.v) {
				t.Fatalf("%v: now %v over %v", keep.v, x.Num(), x.Den())
			}
		}
	}
}

// P5.1: Sum leaves the list that it is handed as it is.
func TestSumChangesNothing(t *testing.T) {
	l := few()
	rat.Sum(l...)
	for i, x := range few() {
		if !l[i].Same(x) {
			t.Errorf("%d: now %v over %v", i, l[i].Num(), l[i].Den())
		}
	}
}

// P5.2: what stands below is above 0, and has no common divisor with what stands
// above but 1, whatever a number came of.
func TestLowest(t *testing.T) {
	one := big.NewInt(1)
	for _, x := range few() {
		for _, y := range few() {
			for i, z := range answers(x, y) {
				num, den := integer(z.Num()), natural(z.Den())
				if den.Sign() <= 0 {
					t.Fatalf("answer %d: %v over %v", i, num, den)
				}
				if new(big.Int).GCD(nil, nil, num.Abs(num), den).Cmp(one) != 0 {
					t.Fatalf("answer %d: %v over %v aren't in lowest terms", i, num, den)
				}
			}
		}
	}
}

// P5.2: a common factor of both changes nothing of what is made.
func TestCommonFactor(t *testing.T) {
	for _, c := range small() {
		n, d := c.x.Num(), whole.Int{Abs: c.x.Den()}
		for _, f := range []whole.Int{whole.Of(2), whole.Of(-1), whole.Of(-360), {Abs: nat.Nat{0, 0, 1}}, {Neg: true, Abs: nat.Nat{1, top, top}}} {
			if x := rat.Make(n.Mul(f), d.Mul(f)); !is(x, c.v) || !x.Same(c.x) {
				t.Errorf("%v, both times %v: %v over %v", c.v, f, x.Num(), x.Den())
			}
		}
	}
}

// P5.2: long sums and products stay in lowest terms.
func TestLongWays(t *testing.T) {
	sum, product, quotient := rat.Rat{}, rat.Whole(1), rat.Whole(1)
	wantSum, wantProduct := new(big.Rat), big.NewRat(1, 1)
	for n := int64(1); n <= 200; n++ {
		step, v := rat.Of(n*n-50, n), big.NewRat(n*n-50, n)
		sum, product, quotient = sum.Add(step), product.Mul(step), quotient.Div(step)
		wantSum.Add(wantSum, v)
		wantProduct.Mul(wantProduct, v)
		if !is(sum, wantSum) || !is(product, wantProduct) || !is(quotient, new(big.Rat).Inv(wantProduct)) {
			t.Fatalf("behind %d steps: %v over %v", n, sum.Num(), sum.Den())
		}
	}
}

// P5.3: sums and products go in any order.
func TestAnyOrder(t *testing.T) {
	for _, x := range few() {
		for _, y := range few() {
			if !x.Add(y).Same(y.Add(x)) || !x.Mul(y).Same(y.Mul(x)) {
				t.Fatalf("%v and %v: the order matters", x, y)
			}
			for _, z := range few() {
				if !x.Add(y).Add(z).Same(x.Add(y.Add(z))) || !x.Mul(y).Mul(z).Same(x.Mul(y.Mul(z))) {
					t.Fatalf("%v, %v, %v: the order matters", x, y, z)
				}
				if sum := rat.Sum(x, y, z); !sum.Same(rat.Sum(z, x, y)) || !sum.Same(rat.Sum(y, x, z)) || !sum.Same(x.Add(y).Add(z)) {
					t.Fatalf("%v, %v, %v: the order of a sum matters", x, y, z)
				}
			}
		}
	}
}

// P5.3: products and quotients go by parts, of sums and of differences.
func TestParts(t *testing.T) {
	for _, x := range few() {
		for _, y := range few() {
			for _, z := range few() {
				if !x.Add(y).Mul(z).Same(x.Mul(z).Add(y.Mul(z))) || !x.Sub(y).Mul(z).Same(x.Mul(z).Sub(y.Mul(z))) {
					t.Fatalf("%v and %v, times %v: not by parts", x, y, z)
				}
				if !x.Add(y).Div(z).Same(x.Div(z).Add(y.Div(z))) {
					t.Fatalf("%v and %v, by %v: not by parts", x, y, z)
				}
			}
		}
	}
}

// P5.3: what is divided by what isn't 0, times that, is itself; what is added and
// taken away is gone; 0 and 1 change nothing.
func TestThereAndBack(t *testing.T) {
	one := rat.Whole(1)
	for _, c := range samples() {
		x := c.x
		if !x.Add(rat.Rat{}).Same(x) || !x.Sub(rat.Rat{}).Same(x) || !x.Mul(one).Same(x) || !x.Div(one).Same(x) || x.Mul(rat.Rat{}).Sign() != 0 {
			t.Errorf("%v with 0, or 1", c.v)
		}
		if !x.Mul(rat.Whole(-1)).Same(x.Opp()) || !x.Opp().Opp().Same(x) || x.Add(x.Opp()).Sign() != 0 || x.Sub(x).Sign() != 0 {
			t.Errorf("%v and its opposite", c.v)
		}
		for _, d := range samples() {
			y := d.x
			if !x.Add(y).Sub(y).Same(x) || !x.Sub(y).Same(x.Add(y.Opp())) {
				t.Fatalf("%v and %v, less it", c.v, d.v)
			}
			if y.Sign() != 0 && (!x.Div(y).Mul(y).Same(x) || !x.Mul(y).Div(y).Same(x) || !x.Div(y).Same(x.Mul(one.Div(y)))) {
				t.Fatalf("%v by %v, times it", c.v, d.v)
			}
		}
	}
}

// P5.4: sums, and products by what is above 0, keep the order; by what is below
// 0 they turn it round.
func TestOrder(t *testing.T) {
	for _, x := range few() {
		for _, y := range few() {
			order := x.Cmp(y)
			if y.Cmp(x) != -order || y.Opp().Cmp(x.Opp()) != order || x.Sub(y).Sign() != order || x.Same(y) != (order == 0) {
				t.Fatalf("%v and %v: %d", x, y, order)
			}
			for _, z := range few() {
				if x.Add(z).Cmp(y.Add(z)) != order || x.Sub(z).Cmp(y.Sub(z)) != order {
					t.Fatalf("%v and %v, with %v: another order", x, y, z)
				}
				if x.Mul(z).Cmp(y.Mul(z)) != order*z.Sign() || x.Div(z).Cmp(y.Div(z)) != order*z.Sign() {
					t.Fatalf("%v and %v, times or by %v: another order", x, y, z)
				}
				if order <= 0 && y.Cmp(z) <= 0 && x.Cmp(z) > 0 {
					t.Fatalf("%v, %v, %v: no order", x, y, z)
				}
			}
		}
	}
}

// P5.4: a sum of what is above 0 is above its parts, and no Abs is below 0.
func TestAbove(t *testing.T) {
	for _, x := range few() {
		if x.Abs().Sign() < 0 || x.Abs().Cmp(x) < 0 || x.Abs().Cmp(x.Opp()) < 0 || !x.Abs().Same(x) && !x.Abs().Same(x.Opp()) {
			t.Errorf("Abs of %v: %v", x, x.Abs())
		}
		for _, y := range few() {
			if y.Sign() > 0 && (x.Add(y).Cmp(x) <= 0 || x.Sub(y).Cmp(x) >= 0) {
				t.Errorf("%v and %v: not above it", x, y)
			}
			if x.Add(y).Abs().Cmp(x.Abs().Add(y.Abs())) > 0 || !x.Mul(y).Abs().Same(x.Abs().Mul(y.Abs())) {
				t.Errorf("%v and %v, without signs", x, y)
			}
		}
	}
}
