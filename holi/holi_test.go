package holi_test

import (
	"math"
	"testing"
	"time"

	"rentier/api"
	"rentier/date"
	"rentier/easter"
	"rentier/holi"
)

// far are whole numbers that are no year of 1900 to 2199, and no number of a
// rule.
func far() []int {
	return []int{-101, -102, -1900, -2000, -109572, 109573, 109574, 146097, 1 << 31, 1 << 32, -1 << 31, -1 << 32, 1<<32 + 1, 1<<32 + 2000, -1<<32 + 2000, math.MaxInt, math.MaxInt - 1, math.MinInt, math.MinInt + 1, math.MinInt + 2000}
}

// fixed is the rule of a month's day.
func fixed(month, day int, shift bool) api.Rule {
	return api.Rule{Kind: api.HFixed, Month: month, Day: day, Shift: shift}
}

// nth is the rule of a month's n-th weekday.
func nth(month, n, weekday int) api.Rule {
	return api.Rule{Kind: api.HNth, Month: month, N: n, Weekday: weekday}
}

// off is the rule of the day n behind Easter Sunday.
func off(n int) api.Rule { return api.Rule{Kind: api.HEaster, N: n} }

// wrongRules are rules that may not be, each off a right one by little.
func wrongRules() []api.Rule {
	rules := []api.Rule{{}, {Kind: 4, Month: 1, Day: 1}, {Kind: -1, Month: 1, Day: 1}, {Month: 1, Day: 1}, {Month: 1, N: 1}, {Shift: true}}
	for month := 1; month <= 12; month++ {
		rules = append(rules, fixed(month, 0, false), fixed(month, -1, false), fixed(month, 32, false), fixed(month, 0, true), fixed(month, 32, true), nth(month, 0, 1), nth(month, 6, 1), nth(month, -2, 1), nth(month, 1, 7), nth(month, 1, -1), nth(month, -1, 7))
	}
	for _, month := range []int{0, -1, -12, 13, 14, 24} {
		rules = append(rules, fixed(month, 1, false), fixed(month, 0, false), fixed(month, 28, true), nth(month, 1, 0), nth(month, -1, 6))
	}
	for _, month := range []int{4, 6, 9, 11} {
		rules = append(rules, fixed(month, 31, false), fixed(month, 31, true))
	}
	rules = append(rules, fixed(2, 30, false), fixed(2, 30, true), fixed(2, 31, false), off(101), off(-101))
	for _, n := range []int{1, -1} {
		rules = append(rules,
			api.Rule{Kind: api.HFixed, Month: 1, Day: 1, N: n}, api.Rule{Kind: api.HFixed, Month: 1, Day: 1, Weekday: n}, api.Rule{Kind: api.HFixed, Month: 1, Day: 1, N: n, Shift: true},
			api.Rule{Kind: api.HNth, Month: 1, N: 1, Day: n}, api.Rule{Kind: api.HNth, Month: 1, N: -1, Day: n},
			api.Rule{Kind: api.HEaster, Month: n}, api.Rule{Kind: api.HEaster, Day: n}, api.Rule{Kind: api.HEaster, Weekday: n}, api.Rule{Kind: api.HEaster, N: 1, Month: n})
	}
	rules = append(rules, api.Rule{Kind: api.HNth, Month: 1, N: 1, Shift: true}, api.Rule{Kind: api.HNth, Month: 1, N: -1, Weekday: 6, Shift: true}, api.Rule{Kind: api.HEaster, Shift: true}, api.Rule{Kind: api.HEaster, N: -2, Shift: true})
	for _, n := range far() {
		rules = append(rules,
			api.Rule{Kind: n}, api.Rule{Kind: n, Month: 1, Day: 1}, fixed(n, 1, false), fixed(1, n, true), fixed(n, n, false), api.Rule{Kind: api.HFixed, Month: 1, Day: 1, N: n}, api.Rule{Kind: api.HFixed, Month: 1, Day: 1, Weekday: n},
			nth(n, 1, 1), nth(1, n, 1), nth(1, 1, n), nth(n, n, n), api.Rule{Kind: api.HNth, Month: 1, N: 1, Day: n},
			off(n), api.Rule{Kind: api.HEaster, Month: n}, api.Rule{Kind: api.HEaster, Day: n}, api.Rule{Kind: api.HEaster, Weekday: n})
	}
	return rules
}

// someRules are right ones of all kinds, those over the year's end among them.
func someRules() []api.Rule {
	return []api.Rule{
		fixed(1, 1, false), fixed(1, 1, true), fixed(1, 2, true), fixed(2, 28, true), fixed(2, 29, false), fixed(2, 29, true), fixed(3, 1, true), fixed(7, 4, true), fixed(12, 25, false), fixed(12, 30, true), fixed(12, 31, false), fixed(12, 31, true),
		nth(1, 1, 0), nth(1, 3, 1), nth(2, 5, 4), nth(5, -1, 1), nth(11, 4, 4), nth(12, 5, 0), nth(12, -1, 6),
		off(0), off(-2), off(1), off(49), off(60), off(100), off(-81), off(-82), off(-90), off(-100),
	}
}

// number gives the number of a day of the library's calendar.
func number(at time.Time) int {
	first := time.Date(1900, time.January, 1, 0, 0, 0, 0, time.UTC)
	return int(at.Unix()-first.Unix()) / (24 * 60 * 60)
}

// isOn fails unless Day gives that day.
func isOn(t *testing.T, r api.Rule, year, want int) {
	t.Helper()
	if got, is := holi.Day(r, year); !is || got != want {
		t.Fatalf("Day %+v of %d: %s, %v, not %s", r, year, date.Text(got), is, date.Text(want))
	}
}

// isNever fails unless Day finds no day.
func isNever(t *testing.T, r api.Rule, year int) {
	t.Helper()
	if got, is := holi.Day(r, year); is || got != 0 {
		t.Fatalf("Day %+v of %d: %d, %v", r, year, got, is)
	}
}

// falls fails unless Day gives the day of that text ("": none), and Is holds of
// it, but not of the day from which it was shifted.
func falls(t *testing.T, r api.Rule, year int, want string) {
	t.Helper()
	if want == "" {
		isNever(t, r, year)
		return
	}
	day, err := date.Get(want)
	if err != nil {
		t.Fatalf("%q is no day", want)
	}
	isOn(t, r, year, day)
	if !holi.Is(r, day) {
		t.Errorf("Is %+v, %s: false", r, want)
	}
	plain, err := date.Of(api.Civil{Year: year, Month: r.Month, Day: r.Day})
	if err == nil && plain != day && holi.Is(r, plain) {
		t.Errorf("Is %+v, %s, from which it is shifted", r, date.Text(plain))
	}
}

// Each fixed day may be that the library's calendar has in the leap year 2000.
func TestMayFixed(t *testing.T) {
	for month := -2; month <= 15; month++ {
		for day := -2; day <= 40; day++ {
			at := time.Date(2000, time.Month(month), day, 0, 0, 0, 0, time.UTC)
			want := at.Year() == 2000 && at.Month() == time.Month(month) && at.Day() == day
			if holi.May(fixed(month, day, false)) != want || holi.May(fixed(month, day, true)) != want {
				t.Errorf("May of the fixed day %d of month %d: not %v", day, month, want)
			}
		}
	}
}

func TestMayNth(t *testing.T) {
	ns := map[int]bool{-1: true, 1: true, 2: true, 3: true, 4: true, 5: true}
	for month := -2; month <= 15; month++ {
		for n := -10; n <= 10; n++ {
			for weekday := -8; weekday <= 14; weekday++ {
				want := month > 0 && month < 13 && ns[n] && weekday >= 0 && weekday < 7
				r := nth(month, n, weekday)
				if holi.May(r) != want {
					t.Errorf("May %+v: not %v", r, want)
				}
				if r.Shift = true; holi.May(r) {
					t.Errorf("May %+v, which shifts", r)
				}
			}
		}
	}
}

func TestMayEaster(t *testing.T) {
	for n := -300; n <= 300; n++ {
		if want := n > -101 && n < 101; holi.May(off(n)) != want {
			t.Errorf("May of Easter and %d days: not %v", n, want)
		}
	}
}

func TestMayNot(t *testing.T) {
	for _, r := range wrongRules() {
		if holi.May(r) {
			t.Errorf("May %+v", r)
		}
	}
	for _, r := range someRules() {
		if !holi.May(r) {
			t.Errorf("May %+v: false", r)
		}
	}
}

// A rule that may not be has no day, whatever is asked.
func TestWrongRules(t *testing.T) {
	for _, r := range wrongRules() {
		for _, year := range append(far(), 0, 1899, 1900, 1999, 2000, 2024, 2199, 2200) {
			isNever(t, r, year)
		}
		for day := 36524 - 10; day < 36524+400; day++ {
			if holi.Is(r, day) {
				t.Fatalf("Is %+v, %s", r, date.Text(day))
			}
		}
		for _, day := range append(far(), -1, 0, api.MaxDay) {
			if holi.Is(r, day) {
				t.Fatalf("Is %+v, %d", r, day)
			}
		}
	}
}

func TestKnownDays(t *testing.T) {
	for _, x := range []struct {
		r    api.Rule
		year int
		want string
	}{
		{fixed(12, 25, false), 2021, "2021-12-25"}, {fixed(12, 25, true), 2021, "2021-12-24"}, {fixed(12, 25, true), 2022, "2022-12-26"}, {fixed(12, 25, true), 2023, "2023-12-25"}, {fixed(7, 4, true), 2026, "2026-07-03"}, {fixed(7, 4, true), 2027, "2027-07-05"}, {fixed(7, 3, true), 2026, "2026-07-03"}, {fixed(7, 6, true), 2026, "2026-07-06"},
		{fixed(1, 1, true), 2000, "1999-12-31"}, {fixed(1, 1, true), 2011, "2010-12-31"}, {fixed(1, 1, true), 2012, "2012-01-02"}, {fixed(12, 31, true), 2017, "2018-01-01"}, {fixed(12, 31, true), 2022, "2022-12-30"}, {fixed(5, 1, true), 2022, "2022-05-02"}, {fixed(5, 31, true), 2020, "2020-06-01"}, {fixed(8, 1, true), 2020, "2020-07-31"},
		{fixed(2, 29, false), 2000, "2000-02-29"}, {fixed(2, 29, false), 2024, "2024-02-29"}, {fixed(2, 29, true), 2020, "2020-02-28"}, {fixed(2, 29, true), 2032, "2032-03-01"}, {fixed(2, 29, false), 1900, ""}, {fixed(2, 29, true), 1900, ""}, {fixed(2, 29, false), 2100, ""}, {fixed(2, 29, true), 2023, ""}, {fixed(2, 29, true), 2026, ""}, {fixed(2, 28, true), 2026, "2026-02-27"},
		{nth(1, 3, 1), 2026, "2026-01-19"}, {nth(2, 3, 1), 2026, "2026-02-16"}, {nth(5, -1, 1), 2026, "2026-05-25"}, {nth(9, 1, 1), 2026, "2026-09-07"}, {nth(10, 2, 1), 2026, "2026-10-12"}, {nth(11, 4, 4), 2026, "2026-11-26"}, {nth(11, 1, 0), 2026, "2026-11-01"}, {nth(11, 5, 0), 2026, "2026-11-29"}, {nth(11, 5, 1), 2026, "2026-11-30"}, {nth(11, 5, 2), 2026, ""}, {nth(11, -1, 2), 2026, "2026-11-24"}, {nth(11, -1, 1), 2026, "2026-11-30"},
		{nth(2, 1, 0), 2026, "2026-02-01"}, {nth(2, 4, 6), 2026, "2026-02-28"}, {nth(2, -1, 6), 2026, "2026-02-28"}, {nth(2, -1, 0), 2026, "2026-02-22"}, {nth(2, 5, 0), 2026, ""}, {nth(2, 5, 6), 2020, "2020-02-29"}, {nth(2, -1, 6), 2020, "2020-02-29"}, {nth(2, 5, 0), 2020, ""}, {nth(1, 1, 1), 1900, "1900-01-01"}, {nth(1, 1, 0), 1900, "1900-01-07"}, {nth(12, 5, 2), 2199, "2199-12-31"}, {nth(12, -1, 2), 2199, "2199-12-31"}, {nth(12, 5, 3), 2199, ""}, {nth(12, -1, 3), 2199, "2199-12-25"},
		{off(0), 2026, "2026-04-05"}, {off(-2), 2026, "2026-04-03"}, {off(1), 2026, "2026-04-06"}, {off(39), 2026, "2026-05-14"}, {off(50), 2026, "2026-05-25"}, {off(60), 2026, "2026-06-04"}, {off(-47), 2026, "2026-02-17"}, {off(100), 2026, "2026-07-14"}, {off(-100), 2026, "2025-12-26"}, {off(-82), 2008, "2008-01-01"}, {off(-83), 2008, "2007-12-31"}, {off(0), 1900, "1900-04-15"}, {off(-100), 1900, "1900-01-05"}, {off(100), 2199, "2199-07-23"}, {off(100), 2038, "2038-08-03"},
	} {
		falls(t, x.r, x.year, x.want)
	}
}

// All fixed days are those of another calendar, shifted by its weekdays.
func TestFixedOfAllYears(t *testing.T) {
	shifts := map[time.Weekday]int{time.Saturday: -1, time.Sunday: 1}
	for year := 1900; year <= 2199; year++ {
		for month := 1; month <= 12; month++ {
			for day := 1; day <= time.Date(2000, time.Month(month+1), 0, 0, 0, 0, 0, time.UTC).Day(); day++ {
				at := time.Date(year, time.Month(month), day, 0, 0, 0, 0, time.UTC)
				if at.Day() != day {
					isNever(t, fixed(month, day, false), year)
					isNever(t, fixed(month, day, true), year)
					continue
				}
				isOn(t, fixed(month, day, false), year, number(at))
				isOn(t, fixed(month, day, true), year, number(at)+shifts[at.Weekday()])
			}
		}
	}
}

// Each month's days, gone through in another calendar, are its first weekdays,
// its second ones, and so on.
func TestNthOfAllYears(t *testing.T) {
	for year := 1900; year <= 2199; year++ {
		for month := time.January; month <= time.December; month++ {
			var days [7][]int
			for at := time.Date(year, month, 1, 0, 0, 0, 0, time.UTC); at.Month() == month; at = at.AddDate(0, 0, 1) {
				days[at.Weekday()] = append(days[at.Weekday()], number(at))
			}
			for weekday, those := range days {
				for n, day := range those {
					isOn(t, nth(int(month), n+1, weekday), year, day)
				}
				if len(those) < 5 {
					isNever(t, nth(int(month), 5, weekday), year)
				}
				isOn(t, nth(int(month), -1, weekday), year, those[len(those)-1])
			}
		}
	}
}

func TestEasterOfAllYears(t *testing.T) {
	for year := 1900; year <= 2199; year++ {
		sunday, err := easter.Sunday(year)
		if err != nil {
			t.Fatal(err)
		}
		for n := -100; n <= 100; n++ {
			isOn(t, off(n), year, sunday+n)
		}
	}
}

func TestDayOfOtherYears(t *testing.T) {
	for _, r := range someRules() {
		for _, year := range append(far(), 0, 1, -1, 4, 99, 1600, 1896, 1899, 2200, 2201, 2204, 2400, 3900) {
			isNever(t, r, year)
		}
	}
}

// Of all days just those are a rule's that it has in some year, its own or one
// beside it.
func TestIsOfAllDays(t *testing.T) {
	for _, r := range someRules() {
		holidays := map[int]bool{}
		for year := 1900; year <= 2199; year++ {
			if day, is := holi.Day(r, year); is {
				holidays[day] = true
			}
		}
		for day := -400; day <= api.MaxDay+400; day++ {
			if holi.Is(r, day) != holidays[day] {
				t.Fatalf("Is %+v, %s: not %v", r, date.Text(day), holidays[day])
			}
		}
	}
}

func TestIsOverTheYearsEnd(t *testing.T) {
	for _, x := range []struct {
		r    api.Rule
		text string
		want bool
	}{
		{fixed(1, 1, true), "1999-12-31", true}, {fixed(1, 1, true), "2000-01-01", false}, {fixed(1, 1, true), "2000-12-31", false}, {fixed(1, 1, false), "1999-12-31", false}, {fixed(1, 1, false), "2000-01-01", true}, {fixed(12, 31, true), "2018-01-01", true}, {fixed(12, 31, true), "2017-12-31", false}, {fixed(12, 31, false), "2017-12-31", true}, {fixed(12, 31, false), "2018-01-01", false},
		{off(-100), "2025-12-26", true}, {off(-100), "2026-12-17", false}, {off(-100), "2026-12-18", true}, {off(-100), "2026-12-26", false}, {off(-83), "2007-12-31", true}, {off(-82), "2008-01-01", true}, {fixed(1, 1, false), "1900-01-01", true}, {fixed(1, 1, true), "1900-01-01", true}, {fixed(12, 31, true), "2199-12-31", true}, {fixed(12, 31, true), "1900-01-01", false}, {fixed(1, 1, true), "2199-12-31", false}, {off(0), "1900-01-01", false},
	} {
		day, err := date.Get(x.text)
		if err != nil {
			t.Fatalf("%q is no day", x.text)
		}
		if holi.Is(x.r, day) != x.want {
			t.Errorf("Is %+v, %s: not %v", x.r, x.text, x.want)
		}
	}
}

func TestIsOfNoDay(t *testing.T) {
	for _, r := range someRules() {
		for _, day := range append(far(), -1, -2, -7, -365, api.MaxDay+1, api.MaxDay+2, api.MaxDay+365) {
			if holi.Is(r, day) {
				t.Errorf("Is %+v, %d", r, day)
			}
		}
	}
}
