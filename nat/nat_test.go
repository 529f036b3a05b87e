package nat_test

import (
	"math"
	"math/big"
	"slices"
	"testing"

	"ephemeris/nat"
)

const top = math.MaxUint32

// value is math/big's number of the same limbs: it knows nothing of package nat.
func value(x nat.Nat) *big.Int {
	v := new(big.Int)
	for i := len(x) - 1; i >= 0; i-- {
		v.Lsh(v, 32).Or(v, big.NewInt(int64(x[i])))
	}
	return v
}

// is tells if x is v, and has no limbs 0 at the top.
func is(x nat.Nat, v *big.Int) bool {
	return value(x).Cmp(v) == 0 && (len(x) == 0 || x[len(x)-1] != 0)
}

// patterns are all numbers of up to three limbs that are 0, small, half or
// full: limbs 0 at the top and 0 itself among them.
func patterns() []nat.Nat {
	l := []nat.Nat{{}}
	for from, places := 0, 0; places < 3; places++ {
		to := len(l)
		for _, x := range l[from:to] {
			for _, limb := range []uint32{0, 1, 1 << 31, top} {
				l = append(l, append(slices.Clone(x), limb))
			}
		}
		from = to
	}
	return l
}

// long are numbers of many sizes whose limbs follow no pattern, each third one
// with limbs 0 at the top.
func long() []nat.Nat {
	var l []nat.Nat
	seed := uint64(1)
	for size := range 40 {
		x := make(nat.Nat, size)
		for i := range x {
			seed = seed*6364136223846793005 + 1442695040888963407
			x[i] = uint32(seed >> 32)
		}
		if size%3 == 0 {
			x = append(x, 0, 0)
		}
		l = append(l, x)
	}
	return l
}

func samples() []nat.Nat {
	return append(append(patterns(), nil), long()...)
}

// P1.1, Of and Uint: numbers of 64 bits there and back, and none beyond.
func TestOfUint(t *testing.T) {
	for _, n := range []uint64{0, 1, 2, top, 1 << 32, 1<<32 + 1, 1 << 63, math.MaxUint64} {
		x := nat.Of(n)
		if !is(x, new(big.Int).SetUint64(n)) {
			t.Errorf("Of(%d): %v", n, x)
		}
		if back, ok := append(x, 0, 0).Uint(); back != n || !ok {
			t.Errorf("Uint of %d: %d, %t", n, back, ok)
		}
	}
	if !slices.Equal(nat.Of(1<<32), nat.Nat{0, 1}) || len(nat.Of(0)) != 0 {
		t.Errorf("Of: %v, %v", nat.Of(1<<32), nat.Of(0))
	}
	for _, x := range []nat.Nat{{0, 0, 1}, {7, 7, 7}, {0, 0, 0, 1, 0}} {
		if n, ok := x.Uint(); n != 0 || ok {
			t.Errorf("Uint of %v: %d, %t", x, n, ok)
		}
	}
	if n, ok := nat.Nat(nil).Uint(); n != 0 || !ok {
		t.Errorf("Uint of nothing: %d, %t", n, ok)
	}
}

// P1.1, Trim, Bits and Bit.
func TestBits(t *testing.T) {
	for _, x := range samples() {
		v := value(x)
		if !is(x.Trim(), v) {
			t.Errorf("Trim of %v: %v", x, x.Trim())
		}
		if x.Bits() != v.BitLen() {
			t.Errorf("Bits of %v: %d", x, x.Bits())
		}
		for i := range 32*len(x) + 40 {
			if x.Bit(i) != int(v.Bit(i)) {
				t.Errorf("Bit %d of %v: %d", i, x, x.Bit(i))
			}
		}
		for _, i := range []int{-1, -32, -33, math.MinInt, math.MaxInt} {
			if x.Bit(i) != 0 {
				t.Errorf("Bit %d of %v: %d", i, x, x.Bit(i))
			}
		}
	}
}

// P1.1, Cmp, Add and Sub, of any two.
func TestTwo(t *testing.T) {
	for _, x := range samples() {
		for _, y := range samples() {
			v, w := value(x), value(y)
			if x.Cmp(y) != v.Cmp(w) {
				t.Fatalf("Cmp of %v and %v: %d", x, y, x.Cmp(y))
			}
			if sum := x.Add(y); !is(sum, new(big.Int).Add(v, w)) {
				t.Fatalf("Add of %v and %v: %v", x, y, sum)
			}
			rest, ok := x.Sub(y)
			if ok != (v.Cmp(w) >= 0) || !ok && len(rest) != 0 {
				t.Fatalf("Sub of %v and %v: %v, %t", x, y, rest, ok)
			}
			if ok && !is(rest, new(big.Int).Sub(v, w)) {
				t.Fatalf("Sub of %v and %v: %v", x, y, rest)
			}
		}
	}
}

// P1.1, Shl and Shr, within the shifts that may be and beyond them.
func TestShifts(t *testing.T) {
	shifts := []int{0, 1, 31, 32, 33, 63, 64, 95, 96, 97, 8191, nat.MaxShift, 8193, 99999, math.MaxInt, -1, -32, -8192, math.MinInt}
	for _, x := range samples() {
		for _, n := range shifts {
			up := uint(min(max(n, 0), nat.MaxShift))
			if got := x.Shl(n); !is(got, new(big.Int).Lsh(value(x), up)) {
				t.Errorf("Shl of %v by %d: %v", x, n, got)
			}
			down := uint(min(max(n, 0), 99999))
			if got := x.Shr(n); !is(got, new(big.Int).Rsh(value(x), down)) {
				t.Errorf("Shr of %v by %d: %v", x, n, got)
			}
		}
	}
	if nat.MaxShift != 8192 {
		t.Errorf("MaxShift: %d", nat.MaxShift)
	}
}

// P1.1: Shr isn't held to MaxShift.
func TestShrFar(t *testing.T) {
	x := nat.Nat{5}.Shl(nat.MaxShift).Shl(nat.MaxShift)
	if got := x.Shr(2*nat.MaxShift - 1); !slices.Equal(got, nat.Nat{10}) {
		t.Errorf("Shr: %v", got)
	}
	if got := x.Shr(2*nat.MaxShift + 3); len(got) != 0 {
		t.Errorf("Shr of all: %v", got)
	}
}

// P1.1, Sum.
func TestSum(t *testing.T) {
	if got := nat.Sum(); len(got) != 0 {
		t.Errorf("of none: %v", got)
	}
	if got := nat.Sum(nat.Of(3), nat.Of(1<<32-3)); !slices.Equal(got, nat.Nat{0, 1}) {
		t.Errorf("of two: %v", got)
	}
	if got := nat.Sum(nat.Nat{4, 0}); !slices.Equal(got, nat.Nat{4}) {
		t.Errorf("of one: %v", got)
	}
	total := new(big.Int)
	for _, x := range samples() {
		total.Add(total, value(x))
	}
	if got := nat.Sum(samples()...); !is(got, total) {
		t.Errorf("of all: %v", got)
	}
}

// answers are all numbers that calls of x and y answer.
func answers(x, y nat.Nat) []nat.Nat {
	rest, _ := x.Sub(y)
	x.Bits()
	x.Bit(40)
	x.Uint()
	x.Cmp(y)
	return []nat.Nat{x.Trim(), x.Add(y), rest, x.Shl(0), x.Shl(37), x.Shr(0), x.Shr(-1), x.Shr(37), nat.Sum(x), nat.Sum(x, y)}
}

// spoil writes over a number, and over what may be appended to it.
func spoil(x nat.Nat) {
	x = x[:cap(x)]
	for i := range x {
		x[i] ^= top
	}
}

// P1.1: no call changes a number that it is asked of, nor answers memory of it.
func TestNothingChanges(t *testing.T) {
	for _, x := range patterns() {
		for _, y := range []nat.Nat{{}, {1}, {top, 0}, {0, 1, 0}, {1, 2, 3}} {
			a, b := slices.Clone(x), slices.Clone(y)
			l := answers(a, b)
			for _, z := range l {
				spoil(z)
			}
			if !slices.Equal(a, x) || !slices.Equal(b, y) {
				t.Fatalf("%v and %v: now %v and %v", x, y, a, b)
			}
			fresh := answers(a, b)
			spoil(a)
			spoil(b)
			for i, z := range answers(x, y) {
				if !slices.Equal(z, fresh[i]) {
					t.Fatalf("%v and %v: answer %d hangs on their memory", x, y, i)
				}
			}
		}
	}
}

// P1.2: what is added to both sides changes nothing of how they stand.
func TestOrder(t *testing.T) {
	for _, x := range patterns() {
		for _, y := range patterns() {
			if x.Cmp(y) != -y.Cmp(x) {
				t.Fatalf("%v and %v: %d, back %d", x, y, x.Cmp(y), y.Cmp(x))
			}
			for _, z := range []nat.Nat{{}, {0, 0}, {1}, {top}, {top, top, top}, {0, 0, 0, 1}} {
				if x.Add(z).Cmp(y.Add(z)) != x.Cmp(y) {
					t.Fatalf("%v and %v, with %v: %d", x, y, z, x.Add(z).Cmp(y.Add(z)))
				}
			}
		}
	}
}

// P1.2: a sum doesn't hang on an order.
func TestSumOrder(t *testing.T) {
	for _, x := range patterns() {
		for _, y := range patterns() {
			z := nat.Nat{top, 5, top}
			sum := nat.Sum(x, y, z)
			for _, l := range [][]nat.Nat{{y, x, z}, {z, y, x}, {y, z, x}, {x.Add(y), z}, {x, y.Add(z)}} {
				if !slices.Equal(nat.Sum(l...), sum) {
					t.Fatalf("%v: %v, not %v", l, nat.Sum(l...), sum)
				}
			}
		}
	}
}

// P1.3: there and back, by sums and by shifts.
func TestThereAndBack(t *testing.T) {
	for _, x := range samples() {
		for _, y := range samples() {
			if back, ok := x.Add(y).Sub(y); !ok || !slices.Equal(back, x.Trim()) {
				t.Fatalf("%v and %v, less it: %v, %t", x, y, back, ok)
			}
		}
		for n := range 200 {
			if back := x.Shl(n).Shr(n); !slices.Equal(back, x.Trim()) {
				t.Fatalf("%v by %d and back: %v", x, n, back)
			}
		}
		if back := x.Shl(nat.MaxShift).Shr(nat.MaxShift); !slices.Equal(back, x.Trim()) {
			t.Fatalf("%v by MaxShift and back: %v", x, back)
		}
	}
}
