package easter_test

import (
	"errors"
	"math"
	"testing"
	"time"

	"rentier/api"
	"rentier/date"
	"rentier/easter"
	"rentier/fault"
)

// moons are the days from March 21 to Easter's full moon of 1900 to 2199, by
// the year's place in the moon's cycle, as the churches' tables have them.
var moons = [19]int{24, 13, 2, 21, 10, 28, 18, 7, 26, 15, 4, 23, 12, 1, 20, 9, 27, 17, 6}

// falls fails unless Sunday of a year gives that day.
func falls(t *testing.T, year int, want string) {
	t.Helper()
	if got, err := easter.Sunday(year); err != nil || date.Text(got) != want {
		t.Errorf("Sunday of %d: %s, %v, not %s", year, date.Text(got), err, want)
	}
}

// fallsNot fails unless Sunday finds no day.
func fallsNot(t *testing.T, year int) {
	t.Helper()
	if got, err := easter.Sunday(year); got != 0 || !errors.Is(err, fault.Of(api.ErrDate)) || fault.Code(err) != api.ErrDate {
		t.Errorf("Sunday of %d: %d, %v", year, got, err)
	}
}

// Easter is the first Sunday behind its full moon, in each year that there is.
func TestSundayOfAllYears(t *testing.T) {
	for year := 1900; year <= 2199; year++ {
		day := time.Date(year, time.March, 21+moons[year%19]+1, 0, 0, 0, 0, time.UTC)
		for day.Weekday() != time.Sunday {
			day = day.AddDate(0, 0, 1)
		}
		falls(t, year, day.Format(time.DateOnly))
	}
}

func TestSundayOfKnownYears(t *testing.T) {
	for year, want := range map[int]string{
		1916: "1916-04-23", 1945: "1945-04-01", 1966: "1966-04-10", 1970: "1970-03-29", 1978: "1978-03-26", 1984: "1984-04-22", 1989: "1989-03-26", 1997: "1997-03-30", 1999: "1999-04-04", 2001: "2001-04-15", 2002: "2002-03-31", 2010: "2010-04-04", 2013: "2013-03-31", 2018: "2018-04-01", 2019: "2019-04-21", 2020: "2020-04-12", 2021: "2021-04-04", 2022: "2022-04-17", 2023: "2023-04-09", 2024: "2024-03-31", 2026: "2026-04-05", 2027: "2027-03-28",
	} {
		falls(t, year, want)
	}
}

// The first and the last years, and those at the turns of centuries.
func TestSundayAtTheEdges(t *testing.T) {
	for year, want := range map[int]string{
		1900: "1900-04-15", 1901: "1901-04-07", 1999: "1999-04-04", 2000: "2000-04-23", 2099: "2099-04-12", 2100: "2100-03-28", 2101: "2101-04-17", 2198: "2198-03-25", 2199: "2199-04-14",
	} {
		falls(t, year, want)
	}
}

// The earliest and the latest days of Easter, and those years whose Sunday is a
// week ahead of what the moon's plain count has.
func TestSundayAtItsEnds(t *testing.T) {
	for year, want := range map[int]string{
		1913: "1913-03-23", 2008: "2008-03-23", 2160: "2160-03-23",
		1943: "1943-04-25", 2038: "2038-04-25", 2190: "2190-04-25",
		1954: "1954-04-18", 1981: "1981-04-19", 2049: "2049-04-18", 2076: "2076-04-19", 2106: "2106-04-18", 2133: "2133-04-19",
		2011: "2011-04-24", 2095: "2095-04-24", 1940: "1940-03-24", 2035: "2035-03-25",
	} {
		falls(t, year, want)
	}
}

// A year's Easter is the same whatever was asked ahead of it.
func TestSundayAsksNothingOfBefore(t *testing.T) {
	for year := 2199; year >= 1900; year-- {
		first, _ := easter.Sunday(year)
		fallsNot(t, -year)
		if again, err := easter.Sunday(year); err != nil || again != first {
			t.Errorf("Sunday of %d: %d, then %d, %v", year, first, again, err)
		}
	}
}

func TestSundayOfOtherYears(t *testing.T) {
	for _, year := range []int{1899, 1898, 1818, 1583, 1582, 2200, 2201, 2285, 3900, 4100, 1, 0, -1, -18, -19, -100, -1900, -2000, -2199, 19, 24, 99, 100, 999, 1 << 16, 1<<16 + 2000, 1<<32 + 2000, -1<<32 + 2000, math.MaxInt32, math.MinInt32, math.MaxInt, math.MaxInt - 1, math.MinInt, math.MinInt + 1, math.MinInt + 2000} {
		fallsNot(t, year)
	}
	for off := range 5000 {
		fallsNot(t, 1899-off)
		fallsNot(t, 2200+off)
	}
}
