package mult_test

import (
	"math"
	"math/big"
	"slices"
	"testing"

	"ephemeris/mult"
	"ephemeris/nat"
)

const top = math.MaxUint32

// value is math/big's number of the same limbs: it knows nothing of the layers.
func value(x nat.Nat) *big.Int {
	v := new(big.Int)
	for i := len(x) - 1; i >= 0; i-- {
		v.Lsh(v, 32).Or(v, big.NewInt(int64(x[i])))
	}
	return v
}

// is tells if x is v, and has no limbs 0 at the top.
func is(x nat.Nat, v *big.Int) bool {
	return value(x).Cmp(v) == 0 && (len(x) == 0 || x[len(x)-1] != 0)
}

// patterns are all numbers of up to four limbs that are 0, at the edges or full:
// limbs 0 at the top and 0 itself among them. Divided by each other they need
// digits of quotients put right.
func patterns() []nat.Nat {
	l := []nat.Nat{{}}
	for from, places := 0, 0; places < 4; places++ {
		to := len(l)
		for _, x := range l[from:to] {
			for _, limb := range []uint32{0, 1, 1 << 31, top} {
				l = append(l, append(slices.Clone(x), limb))
			}
		}
		from = to
	}
	return l
}

// long are numbers of many sizes whose limbs follow no pattern, each third one
// with limbs 0 at the top.
func long() []nat.Nat {
	var l []nat.Nat
	seed := uint64(1)
	for size := range 40 {
		x := make(nat.Nat, size)
		for i := range x {
			seed = seed*6364136223846793005 + 1442695040888963407
			x[i] = uint32(seed >> 32)
		}
		if size%3 == 0 {
			x = append(x, 0, 0)
		}
		l = append(l, x)
	}
	return l
}

func samples() []nat.Nat {
	return append(append(patterns(), nil), long()...)
}

// few are patterns of all kinds, for what is asked of three numbers.
func few() []nat.Nat {
	return []nat.Nat{nil, {0, 0}, {1}, {6, 0}, {1 << 31}, {top}, {0, 1}, {top, top}, {12, 0, 9}, {1, 0, 1 << 31, 0}, {top, top, top, top, top}}
}

// P2.1, Mul and Product.
func TestMul(t *testing.T) {
	for _, x := range samples() {
		for _, y := range samples() {
			if got := mult.Mul(x, y); !is(got, new(big.Int).Mul(value(x), value(y))) {
				t.Fatalf("Mul of %v and %v: %v", x, y, got)
			}
		}
	}
	if got := mult.Mul(nat.Of(1<<32), nat.Of(1<<32)); !slices.Equal(got, nat.Nat{0, 0, 1}) {
		t.Errorf("Mul: %v", got)
	}
}

// P2.1, Product: of none 1, of all else.
func TestProduct(t *testing.T) {
	if got := mult.Product(); !slices.Equal(got, nat.Nat{1}) {
		t.Errorf("of none: %v", got)
	}
	if got := mult.Product(nat.Nat{7, 0}); !slices.Equal(got, nat.Nat{7}) {
		t.Errorf("of one: %v", got)
	}
	if got := mult.Product(nat.Of(3), nil, nat.Of(5)); len(got) != 0 {
		t.Errorf("with 0: %v", got)
	}
	all := big.NewInt(1)
	var l []nat.Nat
	for _, x := range samples() {
		if v := value(x); v.Sign() > 0 {
			l = append(l, x)
			all.Mul(all, v)
		}
	}
	if got := mult.Product(l...); !is(got, all) {
		t.Error("of all: not theirs")
	}
}

// P2.1, Small.
func TestSmall(t *testing.T) {
	for _, x := range samples() {
		for _, y := range []uint32{1, 2, 3, 7, 10, 1 << 16, 1 << 31, top - 1, top} {
			q, r := mult.Small(x, y)
			wantQ, wantR := new(big.Int).DivMod(value(x), big.NewInt(int64(y)), new(big.Int))
			if !is(q, wantQ) || int64(r) != wantR.Int64() {
				t.Fatalf("%v by %d: %v, %d", x, y, q, r)
			}
		}
		if q, r := mult.Small(x, 0); len(q) != 0 || r != 0 {
			t.Errorf("%v by 0: %v, %d", x, q, r)
		}
	}
}

// P2.1, DivMod: by 0, and by each other.
func TestDivMod(t *testing.T) {
	for _, x := range samples() {
		for _, y := range samples() {
			q, r := mult.DivMod(x, y)
			if value(y).Sign() == 0 {
				if len(q) != 0 || len(r) != 0 {
					t.Fatalf("%v by %v: %v, %v", x, y, q, r)
				}
				continue
			}
			wantQ, wantR := new(big.Int).DivMod(value(x), value(y), new(big.Int))
			if !is(q, wantQ) || !is(r, wantR) {
				t.Fatalf("%v by %v: %v, %v", x, y, q, r)
			}
		}
	}
	if q, r := mult.DivMod(nat.Of(100), nat.Of(7)); !slices.Equal(q, nat.Nat{14}) || !slices.Equal(r, nat.Nat{2}) {
		t.Errorf("100 by 7: %v, %v", q, r)
	}
}

// P2.1, Gcd: of any two, 0 among them.
func TestGcd(t *testing.T) {
	for _, x := range samples() {
		for _, y := range samples() {
			want := new(big.Int).GCD(nil, nil, value(x), value(y))
			if got := mult.Gcd(x, y); !is(got, want) {
				t.Fatalf("%v and %v: %v", x, y, got)
			}
		}
	}
	for _, c := range []struct{ x, y, gcd nat.Nat }{
		{nat.Nat{12}, nat.Nat{18}, nat.Nat{6}},
		{nat.Nat{12, 0}, nat.Nat{0, 0}, nat.Nat{12}},
		{nil, nat.Nat{18, 0}, nat.Nat{18}},
		{nil, nat.Nat{0}, nil},
		{nat.Nat{1}, nat.Nat{top, top}, nat.Nat{1}},
	} {
		if got := mult.Gcd(c.x, c.y); !slices.Equal(got, c.gcd) {
			t.Errorf("%v and %v: %v", c.x, c.y, got)
		}
	}
}

// answers are all numbers that calls of x and y answer.
func answers(x, y nat.Nat) []nat.Nat {
	q, r := mult.DivMod(x, y)
	small, _ := mult.Small(x, 7)
	same, _ := mult.Small(x, 1)
	return []nat.Nat{mult.Mul(x, y), mult.Product(x), mult.Product(x, y), q, r, small, same, mult.Gcd(x, y), mult.Gcd(y, x)}
}

// spoil writes over a number, and over what may be appended to it.
func spoil(x nat.Nat) {
	x = x[:cap(x)]
	for i := range x {
		x[i] ^= top
	}
}

// P2.1: no call changes a number that it is asked of, nor answers memory of it,
// nor of another answer.
func TestNothingChanges(t *testing.T) {
	for _, x := range few() {
		for _, y := range few() {
			a, b := slices.Clone(x), slices.Clone(y)
			l, want := answers(a, b), answers(x, y)
			if !slices.Equal(a, x) || !slices.Equal(b, y) {
				t.Fatalf("%v and %v: now %v and %v", x, y, a, b)
			}
			spoil(a)
			spoil(b)
			for i, z := range l {
				if !slices.Equal(z, want[i]) {
					t.Fatalf("%v and %v: answer %d hangs on other memory", x, y, i)
				}
				spoil(z)
			}
			if !is(mult.Mul(x, y), new(big.Int).Mul(value(x), value(y))) {
				t.Fatalf("%v and %v: changed", x, y)
			}
		}
	}
}

// P2.2: x is y times the quotient, and what is left over, which is below y.
func TestDivision(t *testing.T) {
	for _, x := range samples() {
		for _, y := range samples() {
			if y.Bits() == 0 {
				continue
			}
			q, r := mult.DivMod(x, y)
			if !slices.Equal(mult.Mul(y, q).Add(r), x.Trim()) || r.Cmp(y) >= 0 {
				t.Fatalf("%v by %v: %v, %v", x, y, q, r)
			}
			if q, r := mult.DivMod(mult.Mul(x, y), y); !slices.Equal(q, x.Trim()) || len(r) != 0 {
				t.Fatalf("%v times %v, by it: %v, %v", x, y, q, r)
			}
		}
	}
}

// P2.2: what is made of a quotient and of what is left over is divided into just
// these, where both are as great, or as small, as they may be: there the digits
// of a quotient are the hardest to tell.
func TestMadeOfParts(t *testing.T) {
	for _, y := range append(patterns(), long()...) {
		if y.Bits() == 0 {
			continue
		}
		most, _ := y.Sub(nat.Of(1))
		half, _ := mult.Small(y, 2)
		for _, q := range []nat.Nat{{}, {1}, {1 << 31}, {top - 1}, {top}, {0, 1}, {top, top}, {0, top}, {top - 1, top, 1}} {
			for _, r := range []nat.Nat{{}, half, most} {
				x := mult.Mul(y, q).Add(r)
				if gotQ, gotR := mult.DivMod(x, y); !slices.Equal(gotQ, q) || !slices.Equal(gotR, r) {
					t.Fatalf("%v by %v: %v, %v, not %v, %v", x, y, gotQ, gotR, q, r)
				}
			}
		}
	}
}

// P2.2, of Small: it is DivMod by one limb.
func TestSmallDivision(t *testing.T) {
	for _, x := range samples() {
		for _, y := range []uint32{1, 3, 1 << 31, top} {
			q, r := mult.Small(x, y)
			wide, rest := mult.DivMod(x, nat.Nat{y})
			if r >= y || !slices.Equal(q, wide) || !slices.Equal(nat.Of(uint64(r)), rest) {
				t.Fatalf("%v by %d: %v, %d", x, y, q, r)
			}
		}
	}
}

// P2.3: products go by parts, in any order.
func TestParts(t *testing.T) {
	for _, x := range few() {
		for _, y := range few() {
			if !slices.Equal(mult.Mul(x, y), mult.Mul(y, x)) {
				t.Fatalf("%v and %v: the order matters", x, y)
			}
			for _, z := range few() {
				parts := mult.Mul(x, z).Add(mult.Mul(y, z))
				if !slices.Equal(mult.Mul(x.Add(y), z), parts) {
					t.Fatalf("%v and %v, times %v: not by parts", x, y, z)
				}
				if !slices.Equal(mult.Product(x, y, z), mult.Mul(x, mult.Mul(y, z))) {
					t.Fatalf("%v, %v, %v: Product", x, y, z)
				}
			}
		}
	}
}

// P2.3: a common factor comes out of a Gcd.
func TestCommonFactor(t *testing.T) {
	for _, x := range few() {
		for _, y := range few() {
			for _, z := range few() {
				got := mult.Gcd(mult.Mul(x, z), mult.Mul(y, z))
				if want := mult.Mul(mult.Gcd(x, y), z); !slices.Equal(got, want) {
					t.Fatalf("%v and %v, times %v: %v, not %v", x, y, z, got, want)
				}
			}
		}
	}
}
