package date_test

import (
	"errors"
	"fmt"
	"math"
	"regexp"
	"strings"
	"testing"
	"time"

	"rentier/api"
	"rentier/date"
	"rentier/fault"
)

// far are whole numbers that are no day, no month, and no year of 1900 to 2199.
func far() []int {
	return []int{-1, -2, -7, -365, -1900, -109572, 109573, 109574, 110000, 146097, 1 << 31, 1 << 32, -1 << 31, -1 << 32, math.MaxInt, math.MaxInt - 1, math.MinInt, math.MinInt + 1}
}

// isOf fails unless Of gives that number.
func isOf(t *testing.T, c api.Civil, want int) {
	t.Helper()
	if day, err := date.Of(c); err != nil || day != want {
		t.Fatalf("Of %v: %d, %v, not %d", c, day, err, want)
	}
}

// noneOf fails unless Of refuses c as no day.
func noneOf(t *testing.T, c api.Civil) {
	t.Helper()
	if day, err := date.Of(c); day != 0 || !errors.Is(err, fault.Of(api.ErrDate)) || fault.Code(err) != api.ErrDate {
		t.Fatalf("Of %v: %d, %v", c, day, err)
	}
}

// reads fails unless Get gives that number.
func reads(t *testing.T, s string, want int) {
	t.Helper()
	if day, err := date.Get(s); err != nil || day != want {
		t.Fatalf("Get(%q): %d, %v, not %d", s, day, err, want)
	}
}

// unread fails unless Get refuses s by just that error.
func unread(t *testing.T, s string, code api.Errno) {
	t.Helper()
	if day, err := date.Get(s); day != 0 || !errors.Is(err, fault.Of(code)) || fault.Code(err) != code {
		t.Fatalf("Get(%.70q): %d, %v, not error %d", s, day, err, code)
	}
}

// civil gives a day of the library's calendar.
func civil(at time.Time) api.Civil {
	return api.Civil{Year: at.Year(), Month: int(at.Month()), Day: at.Day()}
}

// first is January 1, 1900 in the library's calendar.
func first() time.Time { return time.Date(1900, time.January, 1, 0, 0, 0, 0, time.UTC) }

// number counts the days from first to a day of the library's calendar; a
// time.Duration is too short for the last of them.
func number(at time.Time) int { return int(at.Unix()-first().Unix()) / (24 * 60 * 60) }

// All days are those of another calendar, one behind the other.
func TestAllDays(t *testing.T) {
	at := first()
	for day := range api.MaxDay + 1 {
		want := civil(at)
		if c, err := date.Civil(day); err != nil || c != want {
			t.Fatalf("Civil %d: %v, %v, not %v", day, c, err, want)
		}
		isOf(t, want, day)
		if got := date.Weekday(day); got != int(at.Weekday()) {
			t.Fatalf("Weekday of %v: %d, not %d", want, got, at.Weekday())
		}
		text := at.Format(time.DateOnly)
		if got := date.Text(day); got != text {
			t.Fatalf("Text of %v: %q, not %q", want, got, text)
		}
		reads(t, text, day)
		at = at.AddDate(0, 0, 1)
	}
	if civil(at) != (api.Civil{Year: 2200, Month: 1, Day: 1}) {
		t.Errorf("the day behind the last one is %v", at)
	}
}

func TestDaysThatAreKnown(t *testing.T) {
	for _, x := range []struct {
		text         string
		day, weekday int
	}{
		{"1900-01-01", 0, 1}, {"1900-01-02", 1, 2}, {"1900-01-06", 5, 6}, {"1900-01-07", 6, 0}, {"1900-01-31", 30, 3}, {"1900-02-01", 31, 4}, {"1900-02-28", 58, 3}, {"1900-03-01", 59, 4}, {"1900-12-31", 364, 1}, {"1901-01-01", 365, 2},
		{"1904-02-29", 1519, 1}, {"1904-12-31", 1825, 6}, {"1905-01-01", 1826, 0}, {"1969-07-20", 25402, 0}, {"1970-01-01", 25567, 4}, {"1999-12-31", 36523, 5}, {"2000-01-01", 36524, 6}, {"2000-02-29", 36583, 2}, {"2000-03-01", 36584, 3},
		{"2001-01-01", 36890, 1}, {"2100-02-28", 73107, 0}, {"2100-03-01", 73108, 1}, {"2199-12-31", 109572, 2},
	} {
		reads(t, x.text, x.day)
		if s := date.Text(x.day); s != x.text {
			t.Errorf("Text of %d: %q, not %q", x.day, s, x.text)
		}
		if got := date.Weekday(x.day); got != x.weekday {
			t.Errorf("Weekday of %s: %d, not %d", x.text, got, x.weekday)
		}
	}
}

// Around each year's months, a day is one or is none as that month is long.
func TestOfAroundAllMonths(t *testing.T) {
	for year := 1895; year <= 2205; year++ {
		for month := -1; month <= 14; month++ {
			for day := -2; day <= 34; day++ {
				c := api.Civil{Year: year, Month: month, Day: day}
				at := time.Date(year, time.Month(month), day, 0, 0, 0, 0, time.UTC)
				if civil(at) != c || year < 1900 || year > 2199 {
					noneOf(t, c)
					continue
				}
				isOf(t, c, number(at))
			}
		}
	}
}

func TestOfNoDay(t *testing.T) {
	for _, c := range []api.Civil{
		{}, {Year: 1899, Month: 12, Day: 31}, {Year: 2200, Month: 1, Day: 1}, {Year: 0, Month: 1, Day: 1}, {Year: 1500, Month: 2, Day: 28}, {Year: 2400, Month: 2, Day: 29}, {Year: -2000, Month: 1, Day: 1}, {Year: 99, Month: 1, Day: 1},
		{Year: 1900, Month: 2, Day: 29}, {Year: 2100, Month: 2, Day: 29}, {Year: 2001, Month: 2, Day: 29}, {Year: 2000, Month: 2, Day: 30}, {Year: 2000, Month: 4, Day: 31}, {Year: 2000, Month: 6, Day: 31}, {Year: 2000, Month: 9, Day: 31}, {Year: 2000, Month: 11, Day: 31},
		{Year: 2000, Month: 1, Day: 32}, {Year: 2000, Month: 1, Day: 0}, {Year: 2000, Month: 0, Day: 1}, {Year: 2000, Month: 13, Day: 1}, {Year: 2000, Month: 0, Day: 0}, {Year: 2000, Month: 1, Day: 31 + 7},
	} {
		noneOf(t, c)
	}
	for _, n := range far() {
		noneOf(t, api.Civil{Year: n, Month: 1, Day: 1})
		noneOf(t, api.Civil{Year: 2000, Month: n, Day: 1})
		noneOf(t, api.Civil{Year: 2000, Month: 1, Day: n})
		noneOf(t, api.Civil{Year: n, Month: n, Day: n})
	}
}

func TestNumbersOfNoDay(t *testing.T) {
	for _, day := range far() {
		if c, err := date.Civil(day); c != (api.Civil{}) || !errors.Is(err, fault.Of(api.ErrDate)) || fault.Code(err) != api.ErrDate {
			t.Errorf("Civil %d: %v, %v", day, c, err)
		}
		if got := date.Weekday(day); got != -1 {
			t.Errorf("Weekday of %d: %d", day, got)
		}
		if got := date.Text(day); got != "" {
			t.Errorf("Text of %d: %q", day, got)
		}
	}
}

func TestLeap(t *testing.T) {
	for year := -2400; year <= 4400; year++ {
		want := time.Date(year, time.December, 31, 0, 0, 0, 0, time.UTC).YearDay() == 366
		if date.Leap(year) != want {
			t.Errorf("Leap %d: %v", year, !want)
		}
	}
	// 2^62 and 2^63 are by 4, and no hundreds.
	for year, want := range map[int]bool{math.MaxInt: false, math.MinInt: true, math.MinInt + 1: false, 1 << 62: true, 400 << 50: true, 100 * (1<<50 + 1): false, -400 << 50: true, -100 * (1<<50 + 1): false} {
		if date.Leap(year) != want {
			t.Errorf("Leap %d: %v", year, !want)
		}
	}
}

func TestLength(t *testing.T) {
	for _, year := range []int{-2400, -100, -4, -1, 0, 4, 5, 1600, 1700, 1899, 1900, 1904, 1999, 2000, 2001, 2024, 2100, 2196, 2199, 2200, 2400, 9999} {
		for month := 1; month <= 12; month++ {
			want := time.Date(year, time.Month(month+1), 0, 0, 0, 0, 0, time.UTC).Day()
			if got := date.Length(year, month); got != want {
				t.Errorf("Length %d, %d: %d, not %d", year, month, got, want)
			}
		}
		for _, month := range append(far(), 0, 13, 14, 24, 28, 31, 256+1, 1<<32+1, -12) {
			if got := date.Length(year, month); got != 0 {
				t.Errorf("Length %d, %d: %d", year, month, got)
			}
		}
	}
	for year, want := range map[int]int{math.MaxInt: 28, math.MinInt: 29, 400 << 50: 29, -100 * (1<<50 + 1): 28} {
		if date.Length(year, 2) != want || date.Length(year, 1) != 31 || date.Length(year, 11) != 30 || date.Length(year, 12) != 31 || date.Length(year, 0) != 0 || date.Length(year, 13) != 0 {
			t.Errorf("Length of the months of %d", year)
		}
	}
}

func TestGetOfNoDay(t *testing.T) {
	for _, s := range []string{
		"0000-00-00", "0000-01-01", "0001-01-01", "1899-12-31", "2200-01-01", "9999-12-31", "9999-99-99", "1900-00-01", "1900-01-00", "1900-13-01", "1900-01-32", "1900-02-29", "2100-02-29", "2001-02-29", "2000-02-30", "2000-04-31", "2000-00-00",
		"2000-99-01", "2000-01-99", "2000-20-01", "0199-01-01", "0200-01-01",
	} {
		unread(t, s, api.ErrDate)
	}
}

func TestGetOfWrongForms(t *testing.T) {
	for _, s := range []string{
		"", "-", "--", "2", "2000", "2000-", "2000-01", "2000-01-", "2000-01-1", "2000-1-01", "2000-1-1", "200-01-01", "200-001-01", "20000-01-01", "2000-001-01", "2000-01-001", "2000-01-01-", "2000-01-010", "02000-01-01", "20000-1-01", "2000-1-011",
		" 2000-01-01", "2000-01-01 ", "2000-01-01\n", "\n2000-01-01", "2000-01-01\x00", "2000-01- 1", "2000- 1-01", " 200-01-01", "2000/01/01", "2000.01.01", "2000 01 01", "2000_01_01", "2000-01/01", "2000/01-01", "20000101", "2000010101", "0120000101", "----------",
		"-200-01-01", "+200-01-01", "2000--1-01", "2000-+1-01", "2000-01--1", "2000-01-+1", "2000-01-0x", "2000-0x-01", "x000-01-01", "0x10-01-01", "2e03-01-01", "20_0-01-01", "2000-1_-01", "200a-01-01", "2000-01-1.", "01-01-2000", "01-2000-01", "2000-Jan-01",
		"\u0662\u0660\u0660\u0660-01-01", "2000\u221201\u221201", "2000\u201001", "2000-01-\u00b2", "2000-01-\xff1", "\xff\xfe\xfd\xfc-01-01", "2000-01-01T00:00", strings.Repeat("0", 10), strings.Repeat("2", 100000), strings.Repeat("-", 100000), "2000-01-01" + strings.Repeat("0", 100000),
	} {
		unread(t, s, api.ErrForm)
	}
}

// Of all texts that are off a right one by one sign, only digits for digits
// keep the form.
func TestGetOfTextsOffByOneSign(t *testing.T) {
	form := regexp.MustCompile(`^[0-9]{4}-[0-9]{2}-[0-9]{2}$`)
	for _, right := range []string{"1900-01-01", "2000-02-29", "2199-12-31", "2008-10-09"} {
		for i := range len(right) {
			unread(t, right[:i]+right[i+1:], api.ErrForm)
			for c := range 256 {
				unread(t, right[:i]+string([]byte{byte(c)})+right[i:], api.ErrForm)
				s := right[:i] + string([]byte{byte(c)}) + right[i+1:]
				at, err := time.Parse(time.DateOnly, s)
				switch {
				case !form.MatchString(s):
					unread(t, s, api.ErrForm)
				case err != nil || at.Year() < 1900 || at.Year() > 2199:
					unread(t, s, api.ErrDate)
				default:
					reads(t, s, number(at))
				}
			}
		}
	}
}

// Each text of the form is a day or is none, as another calendar has it.
func TestGetOfAllTextsOfSomeYears(t *testing.T) {
	for _, year := range []int{0, 190, 1899, 1900, 1904, 2000, 2026, 2100, 2199, 2200, 9999} {
		for month := range 100 {
			for day := range 100 {
				s := fmt.Sprintf("%04d-%02d-%02d", year, month, day)
				at, err := time.Parse(time.DateOnly, s)
				if err != nil || year < 1900 || year > 2199 {
					unread(t, s, api.ErrDate)
					continue
				}
				reads(t, s, number(at))
			}
		}
	}
}
