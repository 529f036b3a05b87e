package whole_test

import (
	"math"
	"math/big"
	"slices"
	"testing"

	"ephemeris/nat"
	"ephemeris/whole"
)

const top = math.MaxUint32

// value is math/big's number of the same sign and limbs: it knows nothing of
// the layers.
func value(x whole.Int) *big.Int {
	v := new(big.Int)
	for i := len(x.Abs) - 1; i >= 0; i-- {
		v.Lsh(v, 32).Or(v, big.NewInt(int64(x.Abs[i])))
	}
	if x.Neg {
		v.Neg(v)
	}
	return v
}

// clean tells if x may be answered: no 0 that is Neg, no limbs 0 at the top.
func clean(x whole.Int) bool {
	if len(x.Abs) == 0 {
		return !x.Neg
	}
	return x.Abs[len(x.Abs)-1] != 0
}

// is tells if x is v, as it may be answered.
func is(x whole.Int, v *big.Int) bool {
	return clean(x) && value(x).Cmp(v) == 0
}

// same tells if x and y are one answer.
func same(x, y whole.Int) bool {
	return x.Neg == y.Neg && slices.Equal(x.Abs, y.Abs)
}

// sizes are numbers of limbs at the edges, 0 itself and limbs 0 at the top among
// them.
func sizes() []nat.Nat {
	return []nat.Nat{
		nil, {0, 0}, {1}, {2, 0}, {3}, {7, 0, 0}, {10}, {1<<31 - 1}, {1 << 31}, {top - 1}, {top},
		{0, 1}, {1, 1}, {top, 1<<31 - 1}, {0, 1 << 31}, {1, 1 << 31, 0}, {top, top},
		{0, 0, 1}, {1, 0, 1, 0}, {top, top, top}, {6, 0, 0, 1 << 31}, {top - 1, top, 1, 0, 0},
	}
}

// long are numbers of many sizes whose limbs follow no pattern.
func long() []nat.Nat {
	var l []nat.Nat
	seed := uint64(1)
	for size := range 12 {
		x := make(nat.Nat, 3*size+1)
		for i := range x {
			seed = seed*6364136223846793005 + 1442695040888963407
			x[i] = uint32(seed >> 32)
		}
		l = append(l, x)
	}
	return l
}

// both are these, above and below 0: 0 that is Neg too.
func both(l []nat.Nat) []whole.Int {
	var all []whole.Int
	for _, abs := range l {
		all = append(all, whole.Int{Abs: abs}, whole.Int{Neg: true, Abs: abs})
	}
	return all
}

func samples() []whole.Int {
	return both(append(sizes(), long()...))
}

// few are numbers of all kinds, for what is asked of three of them.
func few() []whole.Int {
	return both([]nat.Nat{nil, {0, 0}, {1}, {6, 0}, {1 << 31}, {top}, {0, 1}, {top, top, 0}, {12, 0, 9}, {top, top, top, top}})
}

// floor is what x by y is, rounded down, and what is left over.
func floor(x, y *big.Int) (*big.Int, *big.Int) {
	q, r := new(big.Int).QuoRem(x, y, new(big.Int))
	if r.Sign() != 0 && r.Sign() != y.Sign() {
		q.Sub(q, big.NewInt(1))
		r.Add(r, y)
	}
	return q, r
}

// P3.1, Make and Opp: 0 has no sign, and nothing has limbs 0 at the top.
func TestMake(t *testing.T) {
	for _, x := range samples() {
		if got := whole.Make(x.Neg, x.Abs); !is(got, value(x)) {
			t.Errorf("Make of %v: %v", x, got)
		}
		if got := x.Opp(); !is(got, new(big.Int).Neg(value(x))) {
			t.Errorf("Opp of %v: %v", x, got)
		}
	}
	if got := whole.Make(true, nat.Nat{5, 0}); !same(got, whole.Int{Neg: true, Abs: nat.Nat{5}}) {
		t.Errorf("Make of -5: %v", got)
	}
}

// P3.1, Of and Small: numbers of 64 bits there and back.
func TestOfSmall(t *testing.T) {
	for _, n := range []int64{0, 1, -1, 7, -7, math.MaxInt32, math.MinInt32, top, -top, 1 << 32, -1 << 32, math.MaxInt64, -math.MaxInt64, math.MinInt64} {
		x := whole.Of(n)
		if !is(x, big.NewInt(n)) {
			t.Errorf("Of(%d): %v", n, x)
		}
		x.Abs = append(x.Abs, 0, 0)
		if back, ok := x.Small(); back != n || !ok {
			t.Errorf("Small of %d: %d, %t", n, back, ok)
		}
	}
}

// P3.1, Small: what is no number of 64 bits, and what just is one.
func TestSmall(t *testing.T) {
	for _, x := range samples() {
		v := value(x)
		want, isOne := int64(0), v.IsInt64()
		if isOne {
			want = v.Int64()
		}
		if n, ok := x.Small(); n != want || ok != isOne {
			t.Errorf("Small of %v: %d, %t", x, n, ok)
		}
	}
	for _, c := range []struct {
		x  whole.Int
		n  int64
		ok bool
	}{
		{whole.Int{Abs: nat.Nat{top, 1<<31 - 1}}, math.MaxInt64, true},
		{whole.Int{Abs: nat.Nat{0, 1 << 31}}, 0, false},
		{whole.Int{Neg: true, Abs: nat.Nat{0, 1 << 31}}, math.MinInt64, true},
		{whole.Int{Neg: true, Abs: nat.Nat{1, 1 << 31}}, 0, false},
		{whole.Int{Neg: true, Abs: nat.Nat{top, top}}, 0, false},
		{whole.Int{Neg: true, Abs: nat.Nat{0, 0, 1}}, 0, false},
		{whole.Int{Neg: true, Abs: nat.Nat{0, 0}}, 0, true},
		{whole.Int{}, 0, true},
	} {
		if n, ok := c.x.Small(); n != c.n || ok != c.ok {
			t.Errorf("Small of %v: %d, %t", c.x, n, ok)
		}
	}
}

// P3.1, Sign and Cmp.
func TestOrder(t *testing.T) {
	for _, x := range samples() {
		if x.Sign() != value(x).Sign() {
			t.Errorf("Sign of %v: %d", x, x.Sign())
		}
		for _, y := range samples() {
			if want := value(x).Cmp(value(y)); x.Cmp(y) != want {
				t.Fatalf("Cmp of %v and %v: %d", x, y, x.Cmp(y))
			}
		}
	}
	if none := (whole.Int{Neg: true, Abs: nat.Nat{0}}); none.Sign() != 0 || none.Cmp(whole.Int{}) != 0 || none.Cmp(whole.Of(-1)) != 1 {
		t.Error("0 that is Neg")
	}
}

// P3.1, Add, Sub and Mul, of any two.
func TestTwo(t *testing.T) {
	for _, x := range samples() {
		for _, y := range samples() {
			v, w := value(x), value(y)
			if got := x.Add(y); !is(got, new(big.Int).Add(v, w)) {
				t.Fatalf("Add of %v and %v: %v", x, y, got)
			}
			if got := x.Sub(y); !is(got, new(big.Int).Sub(v, w)) {
				t.Fatalf("Sub of %v and %v: %v", x, y, got)
			}
			if got := x.Mul(y); !is(got, new(big.Int).Mul(v, w)) {
				t.Fatalf("Mul of %v and %v: %v", x, y, got)
			}
		}
	}
}

// P3.1, DivMod: of any two, by 0 too.
func TestDivMod(t *testing.T) {
	for _, x := range samples() {
		for _, y := range samples() {
			q, r := x.DivMod(y)
			wantQ, wantR := new(big.Int), new(big.Int)
			if value(y).Sign() != 0 {
				wantQ, wantR = floor(value(x), value(y))
			}
			if !is(q, wantQ) || !is(r, wantR) {
				t.Fatalf("%v by %v: %v, %v", x, y, q, r)
			}
		}
	}
}

// P3.1, DivMod, by numbers that are written out: rounded towards below, whatever
// the signs.
func TestDivModWritten(t *testing.T) {
	for _, c := range []struct{ x, y, q, r int64 }{
		{7, 2, 3, 1}, {-7, 2, -4, 1}, {7, -2, -4, -1}, {-7, -2, 3, -1},
		{6, 2, 3, 0}, {-6, 2, -3, 0}, {6, -2, -3, 0}, {-6, -2, 3, 0},
		{1, 2, 0, 1}, {-1, 2, -1, 1}, {1, -2, -1, -1}, {-1, -2, 0, -1},
		{0, 5, 0, 0}, {0, -5, 0, 0}, {5, 0, 0, 0}, {-5, 0, 0, 0}, {0, 0, 0, 0},
		{math.MinInt64, math.MaxInt64, -2, math.MaxInt64 - 1}, {-1, math.MaxInt64, -1, math.MaxInt64 - 1},
	} {
		q, r := whole.Of(c.x).DivMod(whole.Of(c.y))
		if !is(q, big.NewInt(c.q)) || !is(r, big.NewInt(c.r)) {
			t.Errorf("%d by %d: %v, %v", c.x, c.y, q, r)
		}
	}
}

// answers are all numbers that calls of x and y answer.
func answers(x, y whole.Int) []whole.Int {
	x.Sign()
	x.Small()
	x.Cmp(y)
	q, r := x.DivMod(y)
	return []whole.Int{whole.Make(x.Neg, x.Abs), x.Opp(), x.Add(y), x.Sub(y), x.Mul(y), q, r}
}

// spoil writes over a number, and over what may be appended to it.
func spoil(x nat.Nat) {
	x = x[:cap(x)]
	for i := range x {
		x[i] ^= top
	}
}

// copyOf is x in memory of its own.
func copyOf(x whole.Int) whole.Int {
	return whole.Int{Neg: x.Neg, Abs: slices.Clone(x.Abs)}
}

// P3.1: no call changes a number that it is asked of, nor answers memory of it,
// nor of another answer.
func TestNothingChanges(t *testing.T) {
	for _, x := range few() {
		for _, y := range few() {
			a, b := copyOf(x), copyOf(y)
			l, want := answers(a, b), answers(copyOf(x), copyOf(y))
			if !same(a, x) || !same(b, y) {
				t.Fatalf("%v and %v: now %v and %v", x, y, a, b)
			}
			spoil(a.Abs)
			spoil(b.Abs)
			for i, z := range l {
				if !same(z, want[i]) {
					t.Fatalf("%v and %v: answer %d hangs on other memory", x, y, i)
				}
				spoil(z.Abs)
			}
		}
	}
}

// P3.2: x is y times the quotient, and what is left over, which lies from 0 on
// up to y, without y.
func TestDivision(t *testing.T) {
	for _, x := range samples() {
		for _, y := range samples() {
			if y.Sign() == 0 {
				continue
			}
			q, r := x.DivMod(y)
			if y.Mul(q).Add(r).Cmp(x) != 0 {
				t.Fatalf("%v by %v: %v, %v", x, y, q, r)
			}
			if r.Sign() == -y.Sign() || r.Cmp(y) != -y.Sign() {
				t.Fatalf("%v by %v leaves %v over", x, y, r)
			}
			if q, r := x.Mul(y).DivMod(y); q.Cmp(x) != 0 || r.Sign() != 0 {
				t.Fatalf("%v times %v, by it: %v, %v", x, y, q, r)
			}
		}
	}
}

// P3.2: what is made of a quotient and of what is left over is divided into just
// these, where that is as little, or as much, as it may be.
func TestMadeOfParts(t *testing.T) {
	for _, y := range samples() {
		if y.Sign() == 0 {
			continue
		}
		one := whole.Of(int64(y.Sign()))
		for _, q := range few() {
			for _, r := range []whole.Int{{}, y.Sub(one)} {
				x := y.Mul(q).Add(r)
				if gotQ, gotR := x.DivMod(y); gotQ.Cmp(q) != 0 || gotR.Cmp(r) != 0 {
					t.Fatalf("%v by %v: %v, %v, not %v, %v", x, y, gotQ, gotR, q, r)
				}
			}
		}
	}
}

// P3.3: sums and products go in any order.
func TestAnyOrder(t *testing.T) {
	for _, x := range few() {
		for _, y := range few() {
			if !same(x.Add(y), y.Add(x)) || !same(x.Mul(y), y.Mul(x)) {
				t.Fatalf("%v and %v: the order matters", x, y)
			}
			for _, z := range few() {
				if !same(x.Add(y).Add(z), x.Add(y.Add(z))) || !same(x.Mul(y).Mul(z), x.Mul(y.Mul(z))) {
					t.Fatalf("%v, %v, %v: the order matters", x, y, z)
				}
			}
		}
	}
}

// P3.3: products go by parts, of sums and of differences.
func TestParts(t *testing.T) {
	for _, x := range few() {
		for _, y := range few() {
			for _, z := range few() {
				if !same(x.Add(y).Mul(z), x.Mul(z).Add(y.Mul(z))) || !same(x.Sub(y).Mul(z), x.Mul(z).Sub(y.Mul(z))) {
					t.Fatalf("%v and %v, times %v: not by parts", x, y, z)
				}
			}
		}
	}
}

// P3.3: 0 and 1 change nothing, and what is added and taken away is gone.
func TestNeutral(t *testing.T) {
	for _, x := range samples() {
		plain := whole.Make(x.Neg, x.Abs)
		if !same(x.Add(whole.Int{}), plain) || !same(x.Sub(whole.Int{Neg: true}), plain) || !same(x.Mul(whole.Of(1)), plain) {
			t.Errorf("%v with 0, or times 1", x)
		}
		if !same(x.Mul(whole.Of(-1)), x.Opp()) || !same(x.Opp().Opp(), plain) || !same(x.Add(x.Opp()), whole.Int{}) || !same(x.Sub(x), whole.Int{}) {
			t.Errorf("%v and its opposite", x)
		}
		for _, y := range samples() {
			if !same(x.Add(y).Sub(y), plain) || !same(x.Sub(y), x.Add(y.Opp())) {
				t.Fatalf("%v and %v, less it", x, y)
			}
		}
	}
}
