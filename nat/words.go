package nat

import (
	"cmp"
	"math/bits"
	"slices"
)

// The functions of this file work on the words of a number, the lowest first.
// What they answer as a number is new and trimmed; what is handed in as one is
// trimmed, too.

// trim cuts off the noughts at the high end.
func trim(x []uint64) []uint64 {
	size := len(x)
	for size > 0 && x[size-1] == 0 {
		size--
	}
	return x[:size]
}

// compare gives -1, 0 or 1: x is below, equal to, above y.
func compare(x, y []uint64) int {
	if len(x) != len(y) {
		return cmp.Compare(len(x), len(y))
	}
	for i := len(x) - 1; i >= 0; i-- {
		if x[i] != y[i] {
			return cmp.Compare(x[i], y[i])
		}
	}
	return 0
}

// bitLength gives how many bits x has, from its highest 1 downward.
func bitLength(x []uint64) int {
	if len(x) == 0 {
		return 0
	}
	return 64*(len(x)-1) + bits.Len64(x[len(x)-1])
}

// room gives a copy of x with noughts above it, size words in all.
func room(x []uint64, size int) []uint64 {
	z := make([]uint64, size)
	copy(z, x)
	return z
}

// sum gives x + y.
func sum(x, y []uint64) []uint64 {
	z := room(x, max(len(x), len(y))+1)
	addInto(z, y)
	return trim(z)
}

// difference gives x - y; y is not above x.
func difference(x, y []uint64) []uint64 {
	z := slices.Clone(x)
	subFrom(z, y)
	return trim(z)
}

// addInto adds x to z, which is no shorter, and gives the carry out of z.
func addInto(z, x []uint64) uint64 {
	carry := uint64(0)
	for i, word := range x {
		z[i], carry = bits.Add64(z[i], word, carry)
	}
	for i := len(x); carry != 0 && i < len(z); i++ {
		z[i], carry = bits.Add64(z[i], 0, carry)
	}
	return carry
}

// subFrom takes x, which is not above z, away from z.
func subFrom(z, x []uint64) {
	borrow := uint64(0)
	for i, word := range x {
		z[i], borrow = bits.Sub64(z[i], word, borrow)
	}
	for i := len(x); borrow != 0; i++ {
		z[i], borrow = bits.Sub64(z[i], 0, borrow)
	}
}

// addProduct adds x*y to as many words of z as x has, and gives the word that
// goes above them.
func addProduct(z, x []uint64, y uint64) uint64 {
	above := uint64(0)
	for i, word := range x {
		high, low := bits.Mul64(word, y)
		low, carry := bits.Add64(low, above, 0)
		high += carry
		z[i], carry = bits.Add64(z[i], low, 0)
		above = high + carry
	}
	return above
}

// subProduct takes x*y away from as many words of z as x has, and gives the
// word that is still to be taken from what is above them.
func subProduct(z, x []uint64, y uint64) uint64 {
	above := uint64(0)
	for i, word := range x {
		high, low := bits.Mul64(word, y)
		low, carry := bits.Add64(low, above, 0)
		high += carry
		z[i], carry = bits.Sub64(z[i], low, 0)
		above = high + carry
	}
	return above
}

// scale makes z, in its place, z*y + more, and gives the word that goes above.
func scale(z []uint64, y, more uint64) uint64 {
	for i, word := range z {
		high, low := bits.Mul64(word, y)
		low, carry := bits.Add64(low, more, 0)
		z[i], more = low, high+carry
	}
	return more
}

// shiftUp gives x with count noughts below its bits.
func shiftUp(x []uint64, count int) []uint64 {
	if len(x) == 0 {
		return nil
	}
	step, turn := count/64, count%64
	z := make([]uint64, len(x)+step+1)
	for i, word := range x {
		z[i+step] |= word << turn
		z[i+step+1] = word >> (64 - turn)
	}
	return trim(z)
}

// shiftDown gives x without its lowest count bits.
func shiftDown(x []uint64, count int) []uint64 {
	step, turn := count/64, count%64
	if step >= len(x) {
		return nil
	}
	z := slices.Clone(x[step:])
	for i := range z {
		z[i] >>= turn
		if i+1 < len(z) {
			z[i] |= x[step+i+1] << (64 - turn)
		}
	}
	return trim(z)
}
