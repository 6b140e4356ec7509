package date

import (
	"strconv"
	"strings"

	"rentier/api"
	"rentier/fault"
)

// pattern is the form of a day's text: a digit for each 0.
const pattern = "0000-00-00"

// Text gives a day as YYYY-MM-DD; "" if day is none.
func Text(day int) string {
	c, err := Civil(day)
	if err != nil {
		return ""
	}
	return padded(c.Year, 4) + "-" + padded(c.Month, 2) + "-" + padded(c.Day, 2)
}

// Get gives the number of a day's text; ErrForm if s is not of that form,
// ErrDate if it is no day.
func Get(s string) (int, error) {
	if !hasForm(s) {
		return 0, fault.Of(api.ErrForm)
	}
	return Of(api.Civil{Year: number(s[:4]), Month: number(s[5:7]), Day: number(s[8:])})
}

// padded gives n in so many digits, noughts ahead.
func padded(n, size int) string {
	s := strconv.Itoa(n)
	return strings.Repeat("0", size-len(s)) + s
}

// hasForm tells whether s is of four, two, two digits with `-` between.
func hasForm(s string) bool {
	if len(s) != len(pattern) {
		return false
	}
	for i := range len(pattern) {
		if pattern[i] == '-' && s[i] != '-' || pattern[i] == '0' && !isDigit(s[i]) {
			return false
		}
	}
	return true
}

// isDigit tells whether c is 0 to 9.
func isDigit(c byte) bool { return c >= '0' && c <= '9' }

// number gives the value of a few digits.
func number(digits string) int {
	n := 0
	for i := range len(digits) {
		n = 10*n + int(digits[i]-'0')
	}
	return n
}
