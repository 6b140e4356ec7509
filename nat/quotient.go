package nat

import (
	"math"
	"math/bits"
	"slices"
)

// divide gives the quotient downward of x by y, which is not 0, and the rest.
func divide(x, y []uint64) (quotient, rest []uint64) {
	if compare(x, y) < 0 {
		return nil, slices.Clone(x)
	}
	if len(y) == 1 {
		quotient = slices.Clone(x)
		rest = []uint64{divideByWord(quotient, y[0])}
		return trim(quotient), trim(rest)
	}
	return longDivide(x, y)
}

// divideByWord makes z, in its place, its quotient by y and gives the rest.
func divideByWord(z []uint64, y uint64) uint64 {
	rest := uint64(0)
	for i := len(z) - 1; i >= 0; i-- {
		z[i], rest = bits.Div64(rest, z[i], y)
	}
	return rest
}

// longDivide divides as by hand, a word being a digit. Both are shifted until
// the highest bit of y's highest word is 1: else the guesses would be too wild.
func longDivide(x, y []uint64) (quotient, rest []uint64) {
	turn := bits.LeadingZeros64(y[len(y)-1])
	below := shiftUp(y, turn)
	left := room(shiftUp(x, turn), len(x)+1)
	quotient = make([]uint64, len(x)-len(y)+1)
	for i := len(quotient) - 1; i >= 0; i-- {
		quotient[i] = takeDigit(left[i:i+len(y)+1], below)
	}
	return trim(quotient), shiftDown(trim(left), turn)
}

// takeDigit takes y from left as often as it goes, and gives how often; left is
// one word longer than y and below y times 2 to the 64.
func takeDigit(left, y []uint64) uint64 {
	size := len(y)
	digit := guess(left[size-2:], y[size-2:])
	owed := subProduct(left, y, digit)
	top, under := bits.Sub64(left[size], owed, 0)
	for under != 0 {
		digit--
		var over uint64
		top, over = bits.Add64(top, addInto(left[:size], y), 0)
		under -= over
	}
	left[size] = top
	return digit
}

// guess gives how often y, two words, goes into left, three of them: for
// longer numbers of these high ends that is right or too high.
func guess(left, y []uint64) uint64 {
	digit, rest, over := uint64(math.MaxUint64), uint64(0), uint64(0)
	if left[2] < y[1] {
		digit, rest = bits.Div64(left[2], left[1], y[1])
	} else {
		rest, over = bits.Add64(left[1], y[1], 0)
	}
	for over == 0 {
		high, low := bits.Mul64(digit, y[0])
		if high < rest || high == rest && low <= left[0] {
			break
		}
		digit--
		rest, over = bits.Add64(rest, y[1], 0)
	}
	return digit
}
