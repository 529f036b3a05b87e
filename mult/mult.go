// Package mult is layer 2: see shared/doc/02-mult.md.
package mult

import (
	"math"
	"math/bits"

	"ephemeris/nat"
)

// limb is how many bits a limb has.
const limb = 32

// cut shares x's memory: it is for what is only read, or was made here.
func cut(x nat.Nat) nat.Nat {
	return x[:(x.Bits()+limb-1)/limb]
}

// at counts limbs that a number doesn't have as 0.
func at(x nat.Nat, i int) uint64 {
	if i < 0 || i >= len(x) {
		return 0
	}
	return uint64(x[i])
}

// Mul: the product.
func Mul(x, y nat.Nat) nat.Nat {
	x, y = cut(x), cut(y)
	product := make(nat.Nat, len(x)+len(y))
	for i, a := range x {
		carry := uint64(0)
		for j, b := range y {
			carry += uint64(a)*uint64(b) + uint64(product[i+j])
			product[i+j] = uint32(carry)
			carry >>= limb
		}
		product[i+len(y)] = uint32(carry)
	}
	return cut(product)
}

// Product: of all; of none 1.
func Product(l ...nat.Nat) nat.Nat {
	product := nat.Of(1)
	for _, x := range l {
		product = Mul(product, x)
	}
	return product
}

// Small: by a limb: the quotient, and what is left over; 0, 0: by 0.
func Small(x nat.Nat, y uint32) (nat.Nat, uint32) {
	if y == 0 {
		return nil, 0
	}
	quotient := make(nat.Nat, len(x))
	rest := uint64(0)
	for i := len(x) - 1; i >= 0; i-- {
		rest = rest<<limb | uint64(x[i])
		quotient[i] = uint32(rest / uint64(y))
		rest %= uint64(y)
	}
	return cut(quotient), uint32(rest)
}

// DivMod: the quotient, and what is left over; 0, 0: by 0.
func DivMod(x, y nat.Nat) (nat.Nat, nat.Nat) {
	x, y = cut(x), cut(y)
	if len(y) == 0 {
		return nil, nil
	}
	rest := make(nat.Nat, len(x))
	copy(rest, x)
	quotient := make(nat.Nat, max(len(x)-len(y)+1, 0))
	reduce(rest, y, quotient)
	return cut(quotient), cut(rest)
}

// reduce leaves in x what it leaves over by y, whose top limb isn't 0. The
// quotient's limbs go into quotient, but for a nil one: a Gcd has no use for it.
func reduce(x, y, quotient nat.Nat) {
	n := len(y)
	head := pair(y, n-1)
	for j := len(x) - n; j >= 0; j-- {
		// Of x at j, its limb j+n isn't above y's top one, which is less than
		// head: Div64 never overflows. By these limbs alone a digit is at most
		// 1 too great: it is below 2^32, and head isn't.
		digit, _ := bits.Div64(at(x, j+n), pair(x, j+n-1), head)
		digit = min(digit, math.MaxUint32)
		if take(x[j:], y, digit) {
			digit--
			putBack(x[j:], y)
		}
		if j+n < len(x) {
			x[j+n] = 0
		}
		if quotient != nil {
			quotient[j] = uint32(digit)
		}
	}
}

// pair: limb i of x, and the one below it.
func pair(x nat.Nat, i int) uint64 {
	return at(x, i)<<limb | at(x, i-1)
}

// take takes digit times y away from x, whose limb above y's it only reads; it
// tells if that went below 0.
func take(x, y nat.Nat, digit uint64) bool {
	carry := uint64(0)
	for i := range y {
		carry += digit * uint64(y[i])
		rest, borrow := bits.Sub32(x[i], uint32(carry), 0)
		x[i] = rest
		carry = carry>>limb + uint64(borrow)
	}
	return carry > at(x, len(y))
}

// putBack adds y to x once more; what is carried out of it makes up for what
// take went below 0.
func putBack(x, y nat.Nat) {
	carry := uint32(0)
	for i := range y {
		x[i], carry = bits.Add32(x[i], y[i], carry)
	}
}

// Gcd: the greatest number that both are multiples of; of 0 and 0: 0.
func Gcd(x, y nat.Nat) nat.Nat {
	a, b := x.Trim(), y.Trim()
	if len(b) == 0 {
		return a
	}
again:
	reduce(a, b, nil)
	a, b = b, cut(a)
	if len(b) > 0 {
		goto again
	}
	return a
}
