package nat

import (
	"math/bits"
	"slices"
)

// divisor gives the greatest number that divides x and y. Most steps of
// Euclid's way are made on the highest bits alone, many at once (Lehmer's way).
func divisor(x, y []uint64) []uint64 {
	if compare(x, y) < 0 {
		x, y = y, x
	}
	for len(y) > 1 {
		if many := leadingSteps(x, y); many.oldY != 0 {
			x, y = many.apply(x, y)
			continue
		}
		_, rest := divide(x, y)
		x, y = y, rest
	}
	if len(y) == 0 {
		return slices.Clone(x)
	}
	rest := divideByWord(slices.Clone(x), y[0])
	return trim([]uint64{smallDivisor(y[0], rest)})
}

// smallDivisor is divisor of single words.
func smallDivisor(x, y uint64) uint64 {
	for y != 0 {
		x, y = y, x%y
	}
	return x
}

// steps is what some steps of Euclid's way make of a pair x, y. After an even
// number of them it is oldX*x - oldY*y and newY*y - newX*x, after an odd one
// what is taken away changes places with what it is taken from.
type steps struct {
	oldX, oldY uint64
	newX, newY uint64
	even       bool
}

// leadingSteps finds, by the highest bits of x and y alone, steps that are
// surely those of the whole numbers, too; oldY is 0 where it finds none that
// help. x is not below y, and both have two words at least.
func leadingSteps(x, y []uint64) steps {
	top := len(x) - 1
	turn := bits.LeadingZeros64(x[top])
	a := x[top]<<turn | x[top-1]>>(64-turn)
	b := uint64(0)
	switch top - len(y) {
	case -1:
		b = y[top]<<turn | y[top-1]>>(64-turn)
	case 0:
		b = y[top-1] >> (64 - turn)
	}
	found := steps{newX: 1}
	nextX, nextY := uint64(0), uint64(1)
	// A quotient is sure as long as what was cut off can't change it: this is
	// Collins' condition.
	for b >= nextY && a-b >= found.newY+nextY {
		quotient := a / b
		a, b = b, a%b
		found.oldX, found.newX, nextX = found.newX, nextX, found.newX+quotient*nextX
		found.oldY, found.newY, nextY = found.newY, nextY, found.newY+quotient*nextY
		found.even = !found.even
	}
	return found
}

// apply makes the steps of the whole numbers.
func (s steps) apply(x, y []uint64) (a, b []uint64) {
	if s.even {
		return mix(x, s.oldX, y, s.oldY), mix(y, s.newY, x, s.newX)
	}
	return mix(y, s.oldY, x, s.oldX), mix(x, s.newX, y, s.newY)
}

// mix gives x*p - y*q, which is not below 0.
func mix(x []uint64, p uint64, y []uint64, q uint64) []uint64 {
	z := make([]uint64, max(len(x), len(y))+1)
	z[len(x)] = addProduct(z, x, p)
	owed := subProduct(z, y, q)
	subFrom(z[len(y):], []uint64{owed})
	return trim(z)
}
