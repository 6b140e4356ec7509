package nat

import "math/bits"

// longWords is from how many words on both factors are cut into halves.
const longWords = 40

// product gives x * y.
func product(x, y []uint64) []uint64 {
	if len(x) < len(y) {
		x, y = y, x
	}
	if len(y) < longWords {
		return shortProduct(x, y)
	}
	z := make([]uint64, len(x)+len(y))
	for at := 0; at < len(x); at += len(y) {
		piece := trim(x[at:min(at+len(y), len(x))])
		if len(piece) == len(y) {
			addInto(z[at:], halvedProduct(piece, y))
		} else {
			addInto(z[at:], product(piece, y))
		}
	}
	return trim(z)
}

// shortProduct gives x * y word by word of y.
func shortProduct(x, y []uint64) []uint64 {
	z := make([]uint64, len(x)+len(y))
	for i, word := range y {
		z[i+len(x)] = addProduct(z[i:], x, word)
	}
	return trim(z)
}

// halvedProduct gives x * y of equal lengths by three products of their halves
// where the plain way takes four.
func halvedProduct(x, y []uint64) []uint64 {
	half := (len(x) + 1) / 2
	lowX, lowY := trim(x[:half]), trim(y[:half])
	highX, highY := x[half:], y[half:]
	low, high := product(lowX, lowY), product(highX, highY)
	middle := product(sum(lowX, highX), sum(lowY, highY))
	subFrom(middle, low)
	subFrom(middle, high)
	z := room(low, len(x)+len(y))
	addInto(z[half:], trim(middle))
	addInto(z[2*half:], high)
	return trim(z)
}

// power gives x to the k; k below 0 is as 0.
func power(x []uint64, k int) []uint64 {
	z := []uint64{1}
	for place := bits.Len(uint(max(k, 0))) - 1; place >= 0; place-- {
		z = product(z, z)
		if k>>place&1 == 1 {
			z = product(z, x)
		}
	}
	return z
}
