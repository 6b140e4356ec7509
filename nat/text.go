package nat

import (
	"strings"

	"rentier/api"
	"rentier/fault"
)

// A word holds wordDigits digits: wordTen is the power of ten above them.
const (
	wordDigits = 19
	wordTen    = 10_000_000_000_000_000_000
)

// shortDigits is how long a piece of a text is that is written digit by digit.
const shortDigits = 16 * wordDigits

// Get gives the number of a text; ErrForm of any that Text would not give.
func Get(s string) (*Nat, error) {
	if !isNumber(s) {
		return nil, fault.Of(api.ErrForm)
	}
	words := make([]uint64, 0, len(s)/wordDigits+1)
	for len(s) > 0 {
		size := (len(s)-1)%wordDigits + 1
		words = append(words, scale(words, wordTen, value(s[:size])))
		s = s[size:]
	}
	return own(words), nil
}

// isNumber tells whether s is a number's text.
func isNumber(s string) bool {
	if len(s) == 0 || len(s) > api.MaxDigits || s[0] == '0' && len(s) > 1 {
		return false
	}
	for i := range len(s) {
		if s[i] < '0' || s[i] > '9' {
			return false
		}
	}
	return true
}

// value gives the number of at most wordDigits digits.
func value(digits string) uint64 {
	n := uint64(0)
	for i := range len(digits) {
		n = n*10 + uint64(digits[i]-'0')
	}
	return n
}

// Text gives n in base 10.
func (n *Nat) Text() string {
	if n.Zero() {
		return "0"
	}
	powers := tenPowers(n.list())
	out := make([]byte, int(shortDigits)<<len(powers))
	write(out, n.list(), powers)
	return strings.TrimLeft(string(out), "0")
}

// tenPowers gives 10 to the shortDigits, its square, the square of that, and so
// on, as far as they are not above x.
func tenPowers(x []uint64) [][]uint64 {
	var powers [][]uint64
	next := power([]uint64{10}, shortDigits)
	for compare(next, x) <= 0 {
		powers = append(powers, next)
		if 2*len(next)-1 > len(x) {
			break
		}
		next = product(next, next)
	}
	return powers
}

// write fills out with the digits of x, noughts ahead. It cuts a long number in
// two by the last of powers, since digit by digit it would take too long.
func write(out []byte, x []uint64, powers [][]uint64) {
	if len(powers) == 0 || len(x) == 0 {
		writeShort(out, x)
		return
	}
	last, half := len(powers)-1, len(out)/2
	high, low := divide(x, powers[last])
	write(out[:half], high, powers[:last])
	write(out[half:], low, powers[:last])
}

// writeShort fills out with the digits of x, noughts ahead.
func writeShort(out []byte, x []uint64) {
	left := append([]uint64{}, x...)
	for end := len(out); end > 0; end -= wordDigits {
		word := divideByWord(left, wordTen)
		left = trim(left)
		for at := end - 1; at >= end-wordDigits; at-- {
			out[at] = byte('0' + word%10)
			word /= 10
		}
	}
}
