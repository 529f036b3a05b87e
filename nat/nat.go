// Package nat is layer 1: see shared/doc/01-nat.md.
package nat

import (
	"cmp"
	"math/bits"
	"slices"
)

// Nat is a natural number: its limbs of 32 bits, the lowest first.
type Nat []uint32

// MaxShift is by how many bits a number is moved up at most.
const MaxShift = 8192

// limb is how many bits a limb has.
const limb = 32

// Of: a number.
func Of(n uint64) Nat {
	return Nat{uint32(n), uint32(n >> limb)}.cut()
}

// cut shares x's memory: it is for what is only read, or was made here.
func (x Nat) cut() Nat {
	n := len(x)
	for n > 0 && x[n-1] == 0 {
		n--
	}
	return x[:n]
}

// Trim: without noughts at the top.
func (x Nat) Trim() Nat {
	return slices.Clone(x.cut())
}

// Bits: how many bits it has.
func (x Nat) Bits() int {
	x = x.cut()
	if len(x) == 0 {
		return 0
	}
	top := len(x) - 1
	return top*limb + bits.Len32(x[top])
}

// Bit: the one at a place.
func (x Nat) Bit(i int) int {
	if i < 0 || i/limb >= len(x) {
		return 0
	}
	return int(x[i/limb] >> (i % limb) & 1)
}

// Cmp: -1, 0, 1: below, the same, above.
func (x Nat) Cmp(y Nat) int {
	x, y = x.cut(), y.cut()
	if len(x) != len(y) {
		return cmp.Compare(len(x), len(y))
	}
	for i := len(x) - 1; i >= 0; i-- {
		if x[i] != y[i] {
			return cmp.Compare(x[i], y[i])
		}
	}
	return 0
}

// Add: the sum.
func (x Nat) Add(y Nat) Nat {
	x, y = x.cut(), y.cut()
	if len(x) < len(y) {
		x, y = y, x
	}
	sum := make(Nat, len(x)+1)
	carry := uint32(0)
	for i := range x {
		sum[i], carry = bits.Add32(x[i], y.at(i), carry)
	}
	sum[len(x)] = carry
	return sum.cut()
}

// at lets a shorter number be gone through beside a longer one.
func (x Nat) at(i int) uint32 {
	if i >= len(x) {
		return 0
	}
	return x[i]
}

// Sub: the difference; false: it would be below 0.
func (x Nat) Sub(y Nat) (Nat, bool) {
	if x.Cmp(y) < 0 {
		return nil, false
	}
	x, y = x.cut(), y.cut()
	rest := make(Nat, len(x))
	borrow := uint32(0)
	for i := range x {
		rest[i], borrow = bits.Sub32(x[i], y.at(i), borrow)
	}
	return rest.cut(), true
}

// Shl: so many bits up.
func (x Nat) Shl(n int) Nat {
	n = min(max(n, 0), MaxShift)
	x = x.cut()
	limbs, rest := n/limb, n%limb
	up := make(Nat, len(x)+limbs+1)
	for i := range x {
		wide := uint64(x[i]) << rest
		up[i+limbs] |= uint32(wide)
		up[i+limbs+1] = uint32(wide >> limb)
	}
	return up.cut()
}

// Shr: so many bits down; what falls out is lost.
func (x Nat) Shr(n int) Nat {
	n = max(n, 0)
	x = x.cut()
	limbs, rest := n/limb, n%limb
	if limbs >= len(x) {
		return nil
	}
	down := make(Nat, len(x)-limbs)
	for i := range down {
		wide := uint64(x.at(i+limbs+1))<<limb | uint64(x[i+limbs])
		down[i] = uint32(wide >> rest)
	}
	return down.cut()
}

// Uint: as a number of 64 bits; false: it is greater.
func (x Nat) Uint() (uint64, bool) {
	if x.Bits() > 2*limb {
		return 0, false
	}
	return uint64(x.at(1))<<limb | uint64(x.at(0)), true
}

// Sum: of all.
func Sum(l ...Nat) Nat {
	sum := Nat{}
	for _, x := range l {
		sum = sum.Add(x)
	}
	return sum
}
