package dec

import (
	"strings"

	"rentier/api"
	"rentier/fault"
	"rentier/nat"
	"rentier/num"
	"rentier/rat"
)

// Get gives the value of a decimal and how many digits stand behind its point;
// ErrForm of any other text.
func Get(s string) (*rat.Rat, int, error) {
	if len(s) > maxSigns {
		return nil, 0, fault.Of(api.ErrForm)
	}
	unsigned, below := strings.CutPrefix(s, "-")
	size, places, ok := read(unsigned)
	if !ok || below && size.Zero() {
		return nil, 0, fault.Of(api.ErrForm)
	}
	value, err := rat.New(num.New(below, size), num.New(false, tenPower(places)))
	if err != nil {
		return nil, 0, err
	}
	return value, places, nil
}

// read gives the digits of a decimal without a sign, as if no point stood in
// it, and how many of them stand behind the point.
func read(s string) (size *nat.Nat, places int, ok bool) {
	whole, part, cut := strings.Cut(s, ".")
	if cut && !isPart(part) {
		return nil, 0, false
	}
	size, err := nat.Get(whole)
	if err != nil {
		return nil, 0, false
	}
	for i := range len(part) {
		size = size.Mul(nat.Of(10)).Add(nat.Of(uint64(part[i] - '0')))
	}
	return size, len(part), true
}

// isPart tells whether s may stand behind a decimal's point.
func isPart(s string) bool {
	if len(s) == 0 || len(s) > maxPlaces {
		return false
	}
	for i := range len(s) {
		if s[i] < '0' || s[i] > '9' {
			return false
		}
	}
	return true
}

// text gives the decimal of a size in units of the last of so many places.
func text(below bool, size *nat.Nat, places int) string {
	digits := size.Text()
	if missing := places + 1 - len(digits); missing > 0 {
		digits = strings.Repeat("0", missing) + digits
	}
	if places > 0 {
		point := len(digits) - places
		digits = digits[:point] + "." + digits[point:]
	}
	// What was rounded to 0 has no sign any more.
	if below && !size.Zero() {
		return "-" + digits
	}
	return digits
}
