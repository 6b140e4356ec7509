package month_test

import (
	"errors"
	"math"
	"testing"
	"time"

	"rentier/api"
	"rentier/date"
	"rentier/fault"
	"rentier/month"
)

// noDays are whole numbers that are no day.
func noDays() []int {
	return []int{-1, -2, -31, -365, -109572, 109573, 109574, 146097, 1 << 31, 1 << 32, -1 << 31, -1 << 32, math.MaxInt, math.MaxInt - 1, math.MinInt, math.MinInt + 1}
}

// tooMany are months that Add does not go.
func tooMany() []int {
	return []int{-3601, 3601, -3602, 3602, -3612, 3612, -22801, -24000, 24000, 1 << 32, -1 << 32, 1<<32 + 1, 1 << 60, 1 << 62, math.MaxInt, math.MaxInt - 1, math.MaxInt - 22800, math.MinInt, math.MinInt + 1, math.MinInt + 22800}
}

// at gives the number of a day's text.
func at(t *testing.T, s string) int {
	t.Helper()
	day, err := date.Get(s)
	if err != nil {
		t.Fatalf("%q is no day", s)
	}
	return day
}

// civil gives a day's year, month and day of the month.
func civil(t *testing.T, day int) api.Civil {
	t.Helper()
	c, err := date.Civil(day)
	if err != nil {
		t.Fatalf("%d is no day", day)
	}
	return c
}

// adds fails unless Add gives that day.
func adds(t *testing.T, day, months int, end bool, want int) {
	t.Helper()
	if got, err := month.Add(day, months, end); err != nil || got != want {
		t.Fatalf("Add %s, %d, %v: %s, %v, not %s", date.Text(day), months, end, date.Text(got), err, date.Text(want))
	}
}

// addsNot fails unless Add finds no day.
func addsNot(t *testing.T, day, months int, end bool) {
	t.Helper()
	if got, err := month.Add(day, months, end); got != 0 || !errors.Is(err, fault.Of(api.ErrDate)) || fault.Code(err) != api.ErrDate {
		t.Fatalf("Add %d, %d, %v: %d, %v", day, months, end, got, err)
	}
}

// endsNot fails unless End finds no day.
func endsNot(t *testing.T, year, m int) {
	t.Helper()
	if got, err := month.End(year, m); got != 0 || !errors.Is(err, fault.Of(api.ErrDate)) || fault.Code(err) != api.ErrDate {
		t.Fatalf("End %d, %d: %d, %v", year, m, got, err)
	}
}

// lastOf gives, by the library's calendar, the last day of the month that is so
// many months behind a year's month.
func lastOf(year, m, months int) api.Civil {
	last := time.Date(year, time.Month(m+months+1), 0, 0, 0, 0, 0, time.UTC)
	return api.Civil{Year: last.Year(), Month: int(last.Month()), Day: last.Day()}
}

func TestAddOfKnownDays(t *testing.T) {
	for _, x := range []struct {
		from   string
		months int
		end    bool
		to     string
	}{
		{"2000-01-31", 1, false, "2000-02-29"}, {"2000-01-30", 1, false, "2000-02-29"}, {"2000-01-29", 1, false, "2000-02-29"}, {"2000-01-28", 1, false, "2000-02-28"}, {"2001-01-31", 1, false, "2001-02-28"}, {"1900-01-31", 1, false, "1900-02-28"}, {"2100-01-29", 1, false, "2100-02-28"},
		{"2000-01-31", 3, false, "2000-04-30"}, {"2000-03-31", -1, false, "2000-02-29"}, {"2000-04-30", 1, false, "2000-05-30"}, {"2000-04-30", 1, true, "2000-05-31"}, {"2000-05-30", 1, true, "2000-06-30"}, {"2000-05-30", 2, true, "2000-07-30"}, {"2000-05-31", 1, true, "2000-06-30"},
		{"2000-02-29", 12, false, "2001-02-28"}, {"2000-02-29", 12, true, "2001-02-28"}, {"2000-02-29", 48, false, "2004-02-29"}, {"2000-02-28", 12, true, "2001-02-28"}, {"2001-02-28", -12, true, "2000-02-29"}, {"2001-02-28", -12, false, "2000-02-28"}, {"2000-02-28", 1, true, "2000-03-28"}, {"1900-02-28", 1, true, "1900-03-31"},
		{"2000-12-31", 1, false, "2001-01-31"}, {"2000-12-01", 1, false, "2001-01-01"}, {"2000-01-01", -1, false, "1999-12-01"}, {"2000-11-30", 1, true, "2000-12-31"}, {"2001-01-31", -2, true, "2000-11-30"}, {"2000-01-15", 12, true, "2001-01-15"}, {"2000-01-15", -12, false, "1999-01-15"}, {"2000-12-15", 12, false, "2001-12-15"}, {"2000-12-15", -12, false, "1999-12-15"},
		{"1900-01-01", 3599, false, "2199-12-01"}, {"1900-01-31", 3599, false, "2199-12-31"}, {"2199-12-31", -3599, false, "1900-01-31"}, {"2199-12-30", -3599, true, "1900-01-30"}, {"1900-02-28", -1, true, "1900-01-31"}, {"1900-02-28", -1, false, "1900-01-28"}, {"2199-11-30", 1, true, "2199-12-31"}, {"2199-11-30", 1, false, "2199-12-30"},
	} {
		adds(t, at(t, x.from), x.months, x.end, at(t, x.to))
	}
}

// Each day keeps itself when no month is added, with and without end.
func TestAddOfNoMonths(t *testing.T) {
	for day := range api.MaxDay + 1 {
		adds(t, day, 0, false, day)
		adds(t, day, 0, true, day)
	}
}

// From the last days of each month, and from others, some months either way are
// as another calendar has them.
func TestAddAgainstAnotherCalendar(t *testing.T) {
	for _, months := range []int{-3600, -3599, -2400, -1201, -121, -49, -48, -25, -24, -13, -12, -11, -7, -6, -3, -2, -1, 1, 2, 3, 6, 7, 11, 12, 13, 24, 25, 48, 49, 121, 1201, 2400, 3599, 3600} {
		for day := 0; day <= api.MaxDay; day++ {
			from := civil(t, day)
			if from.Day > 2 && from.Day < 27 && from.Day != 15 {
				continue
			}
			last := lastOf(from.Year, from.Month, months)
			for _, end := range []bool{false, true} {
				to := last
				if !end || from != lastOf(from.Year, from.Month, 0) {
					to.Day = min(last.Day, from.Day)
				}
				if to.Year < 1900 || to.Year > 2199 {
					addsNot(t, day, months, end)
					continue
				}
				want, err := date.Of(to)
				if err != nil {
					t.Fatalf("%v is no day", to)
				}
				adds(t, day, months, end, want)
			}
		}
	}
}

// From some days, all months that there are end up a day or none.
func TestAddOfAllMonths(t *testing.T) {
	for _, s := range []string{"1900-01-01", "1900-01-31", "1900-02-28", "2000-02-29", "2049-12-31", "2050-01-30", "2199-12-01", "2199-12-31"} {
		day := at(t, s)
		from := civil(t, day)
		for months := -3600; months <= 3600; months++ {
			to := lastOf(from.Year, from.Month, months)
			if to.Year < 1900 || to.Year > 2199 {
				addsNot(t, day, months, false)
				addsNot(t, day, months, true)
				continue
			}
			last, err := date.Of(to)
			if err != nil {
				t.Fatalf("%v is no day", to)
			}
			same := last - max(to.Day-from.Day, 0)
			adds(t, day, months, false, same)
			if from == lastOf(from.Year, from.Month, 0) {
				same = last
			}
			adds(t, day, months, true, same)
		}
	}
}

func TestAddBeyondTheCalendar(t *testing.T) {
	for _, x := range []struct {
		from   string
		months int
	}{
		{"1900-01-01", -1}, {"1900-01-31", -1}, {"1900-12-31", -12}, {"1900-01-01", -3600}, {"1900-01-01", 3600}, {"1900-01-31", 3600}, {"2199-12-31", 1}, {"2199-12-01", 1}, {"2199-12-31", -3600}, {"2199-12-31", 3600}, {"2199-01-31", 12}, {"2050-01-01", -1801}, {"2050-01-01", 1800}, {"2000-01-01", -1201}, {"2000-01-01", 2400},
	} {
		addsNot(t, at(t, x.from), x.months, false)
		addsNot(t, at(t, x.from), x.months, true)
	}
}

func TestAddOfTooManyMonths(t *testing.T) {
	for _, months := range tooMany() {
		for _, day := range append(noDays(), 0, 30, 36583, api.MaxDay) {
			addsNot(t, day, months, false)
			addsNot(t, day, months, true)
		}
	}
}

func TestAddToNoDay(t *testing.T) {
	for _, day := range noDays() {
		for _, months := range []int{-3600, -12, -1, 0, 1, 12, 3600} {
			addsNot(t, day, months, false)
			addsNot(t, day, months, true)
		}
	}
}

// A day is its month's last one just if the day behind it is a first one.
func TestLast(t *testing.T) {
	for day := range api.MaxDay {
		if want := civil(t, day+1).Day == 1; month.Last(day) != want {
			t.Fatalf("Last of %s: %v", date.Text(day), !want)
		}
	}
	if !month.Last(api.MaxDay) {
		t.Error("Last of the last day")
	}
	for _, day := range noDays() {
		if month.Last(day) {
			t.Errorf("Last of %d", day)
		}
	}
}

func TestLastOfKnownDays(t *testing.T) {
	for s, want := range map[string]bool{
		"1900-01-31": true, "1900-02-27": false, "1900-02-28": true, "2000-02-28": false, "2000-02-29": true, "2001-02-28": true, "2100-02-28": true, "2104-02-28": false, "2000-04-29": false, "2000-04-30": true, "2000-05-30": false, "2000-05-31": true, "2000-05-01": false, "2199-12-30": false, "2199-12-31": true,
	} {
		if month.Last(at(t, s)) != want {
			t.Errorf("Last of %s: %v", s, !want)
		}
	}
}

func TestEndOfAllMonths(t *testing.T) {
	want := -1
	for year := 1900; year <= 2199; year++ {
		for m := 1; m <= 12; m++ {
			want += lastOf(year, m, 0).Day
			if got, err := month.End(year, m); err != nil || got != want {
				t.Fatalf("End %d, %d: %d, %v, not %d", year, m, got, err, want)
			}
		}
	}
	if want != api.MaxDay {
		t.Errorf("the months end at %d", want)
	}
}

func TestEndOfNoMonth(t *testing.T) {
	wrong := append(noDays(), 0, 13, 14, 24, 256+1, 1<<32+1)
	for _, n := range wrong {
		for year := 1900; year <= 2199; year++ {
			endsNot(t, year, n)
		}
		endsNot(t, n, n)
	}
	for m := 1; m <= 12; m++ {
		for _, year := range append(wrong, 19, 99, 1600, 1899, 2200, 2201, 2400, 3900, -1900, -2000, 1<<32+2000) {
			endsNot(t, year, m)
		}
	}
}

func TestBetweenOfKnownDays(t *testing.T) {
	for _, x := range []struct {
		a, b string
		want int
	}{
		{"2000-01-01", "2000-01-01", 0}, {"2000-01-01", "2000-01-31", 0}, {"2000-01-31", "2000-01-01", 0}, {"2000-01-31", "2000-02-01", 1}, {"2000-01-01", "2000-02-29", 1}, {"2000-02-01", "2000-01-31", -1}, {"1999-12-31", "2000-01-01", 1}, {"2000-01-01", "1999-12-31", -1}, {"1999-12-31", "2001-01-01", 13}, {"2001-01-01", "1999-12-31", -13},
		{"2000-06-15", "2001-06-14", 12}, {"2000-12-01", "2001-01-31", 1}, {"2000-01-01", "2000-12-31", 11}, {"2000-12-31", "2010-01-01", 109}, {"1900-01-01", "2199-12-31", 3599}, {"2199-12-31", "1900-01-01", -3599}, {"1900-01-31", "2199-12-01", 3599},
	} {
		if got := month.Between(at(t, x.a), at(t, x.b)); got != x.want {
			t.Errorf("Between %s, %s: %d, not %d", x.a, x.b, got, x.want)
		}
	}
}

// The months count up by one with each first day, from wherever they are told.
func TestBetweenOfAllDays(t *testing.T) {
	for _, a := range []int{0, 30, 31, 364, 365, 36583, 54786, 109541, 109542, api.MaxDay} {
		start := civil(t, a)
		want := 12*(1900-start.Year) + 1 - start.Month
		for b := range api.MaxDay + 1 {
			if b > 0 && month.Last(b-1) {
				want++
			}
			if got := month.Between(a, b); got != want {
				t.Fatalf("Between %s, %s: %d, not %d", date.Text(a), date.Text(b), got, want)
			}
			if got := month.Between(b, a); got != -want {
				t.Fatalf("Between %s, %s: %d, not %d", date.Text(b), date.Text(a), got, -want)
			}
		}
	}
}

func TestBetweenOfNoDays(t *testing.T) {
	for _, a := range noDays() {
		for _, b := range append(noDays(), 0, 1, 31, 36583, api.MaxDay) {
			if got := month.Between(a, b); got != 0 {
				t.Errorf("Between %d, %d: %d", a, b, got)
			}
			if got := month.Between(b, a); got != 0 {
				t.Errorf("Between %d, %d: %d", b, a, got)
			}
		}
	}
}
