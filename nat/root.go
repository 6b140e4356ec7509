package nat

import (
	"math/bits"
	"slices"
)

// root gives the greatest number whose k-th power is not above x; k is above 1.
// A long root is worked out from that of x's high end, which has about half as
// many bits, by Newton's way.
func root(x []uint64, k int) []uint64 {
	length := bitLength(x)
	if k >= length {
		return trim([]uint64{min(1, uint64(length))})
	}
	size := (length-1)/k + 1
	spread := bits.Len(uint(k))
	if size <= 2*spread+4 {
		return shortRoot(x, k, size)
	}
	cut := (size-spread)/2 - 1
	start := root(shiftDown(x, cut*k), k)
	return lowerRoot(x, k, shiftUp(sum(start, []uint64{1}), cut))
}

// shortRoot finds the root, which has at most size bits, bit by bit.
func shortRoot(x []uint64, k, size int) []uint64 {
	z := []uint64{}
	for place := size - 1; place >= 0; place-- {
		try := sum(z, shiftUp([]uint64{1}, place))
		if compare(power(try, k), x) <= 0 {
			z = try
		}
	}
	return z
}

// lowerRoot goes down to the root from a start above it: every step that is not
// yet there goes lower, and none goes below it.
func lowerRoot(x []uint64, k int, start []uint64) []uint64 {
	z := start
	for {
		part, _ := divide(x, power(z, k-1))
		all := sum(product(z, []uint64{uint64(k - 1)}), part)
		next, _ := divide(all, []uint64{uint64(k)})
		if compare(next, z) >= 0 {
			return slices.Clone(z)
		}
		z = next
	}
}
