package roll_test

import (
	"errors"
	"math"
	"testing"
	"time"

	"rentier/api"
	"rentier/cal"
	"rentier/date"
	"rentier/fault"
	"rentier/roll"
)

// none stands for the answer that there is no such day.
const none = -1

// allRules are the rules that there are.
func allRules() []int {
	return []int{api.RNone, api.RFollowing, api.RModFollow, api.RPreceding, api.RModPrecede}
}

// wrongRules are numbers of no rule.
func wrongRules() []int {
	return []int{-1, -2, -4, 5, 6, 7, 8, 16, 255, 256, 257, 1 << 32, 1<<32 + 1, 1<<32 + 4, -1 << 32, math.MaxInt, math.MinInt, math.MinInt + 1}
}

// noDays are whole numbers that are no days.
func noDays() []int {
	return []int{-1, -2, -3, -31, -365, api.MaxDay + 1, api.MaxDay + 2, api.MaxDay + 3, api.MaxDay + 365, 1 << 31, 1 << 32, 1<<32 + 1, -1 << 31, -1 << 32, -1<<32 + 1, math.MaxInt, math.MaxInt - 1, math.MinInt, math.MinInt + 1}
}

// dayOf gives the number of a day's text.
func dayOf(t *testing.T, text string) int {
	t.Helper()
	day, err := date.Get(text)
	if err != nil {
		t.Fatalf("%q is no day", text)
	}
	return day
}

// closedOn gives the calendar that is closed on days, which may be more than one
// calendar is made of.
func closedOn(t *testing.T, days ...int) *cal.Cal {
	t.Helper()
	all := cal.Join()
	for len(days) > 0 {
		n := min(len(days), 100)
		c, err := cal.New(nil, days[:n]...)
		if err != nil {
			t.Fatal(err)
		}
		all, days = cal.Join(all, c), days[n:]
	}
	return all
}

// closedBy gives the calendar of rules and days.
func closedBy(t *testing.T, rules []api.Rule, more ...int) *cal.Cal {
	t.Helper()
	c, err := cal.New(rules, more...)
	if err != nil {
		t.Fatal(err)
	}
	return c
}

// span are the days from a to b, both of them.
func span(a, b int) []int {
	var days []int
	for day := a; day <= b; day++ {
		days = append(days, day)
	}
	return days
}

// banks are the holidays of a union's banks.
func banks() []api.Rule {
	return []api.Rule{{Kind: api.HFixed, Month: 1, Day: 1}, {Kind: api.HEaster, N: -2}, {Kind: api.HEaster, N: 1}, {Kind: api.HFixed, Month: 5, Day: 1}, {Kind: api.HFixed, Month: 12, Day: 25}, {Kind: api.HFixed, Month: 12, Day: 26}}
}

// edges close the first days and the last ones of many months.
func edges() []api.Rule {
	return []api.Rule{{Kind: api.HFixed, Month: 1, Day: 1}, {Kind: api.HFixed, Month: 1, Day: 31}, {Kind: api.HFixed, Month: 2, Day: 28}, {Kind: api.HFixed, Month: 2, Day: 29}, {Kind: api.HFixed, Month: 3, Day: 1}, {Kind: api.HFixed, Month: 4, Day: 30}, {Kind: api.HFixed, Month: 5, Day: 1}, {Kind: api.HFixed, Month: 12, Day: 31}, {Kind: api.HNth, Month: 6, N: 1, Weekday: 1}, {Kind: api.HNth, Month: 8, N: -1, Weekday: 5}, {Kind: api.HNth, Month: 10, N: -1, Weekday: 4}}
}

// answers fails unless Day answers that day, or 0 and ErrDate where want is none.
func answers(t *testing.T, c *cal.Cal, day, rule, want int) {
	t.Helper()
	got, err := roll.Day(c, day, rule)
	if want == none {
		if got != 0 || !errors.Is(err, fault.Of(api.ErrDate)) || fault.Code(err) != api.ErrDate {
			t.Fatalf("%d by %d: %d, %v, not error %d", day, rule, got, err, api.ErrDate)
		}
		return
	}
	if got != want || err != nil {
		t.Fatalf("%s by %d: %s, %v, not %s", date.Text(day), rule, date.Text(got), err, date.Text(want))
	}
}

// refuses fails unless Day answers 0 and ErrForm.
func refuses(t *testing.T, c *cal.Cal, day, rule int) {
	t.Helper()
	if got, err := roll.Day(c, day, rule); got != 0 || !errors.Is(err, fault.Of(api.ErrForm)) || fault.Code(err) != api.ErrForm {
		t.Fatalf("%d by %d: %d, %v, not error %d", day, rule, got, err, api.ErrForm)
	}
}

// monthOf numbers the month of a day by the library's calendar.
func monthOf(day int) int {
	d := time.Date(1900, time.January, 1+day, 0, 0, 0, 0, time.UTC)
	return 12*d.Year() + int(d.Month())
}

// byRules gives what Day has to answer of one day by each rule, from the open
// days that lie nearest on both sides, none where there is none.
func byRules(ahead, day, behind int) map[int]int {
	want := map[int]int{api.RNone: day, api.RFollowing: behind, api.RModFollow: behind, api.RPreceding: ahead, api.RModPrecede: ahead}
	if behind == none || monthOf(behind) != monthOf(day) {
		want[api.RModFollow] = ahead
	}
	if ahead == none || monthOf(ahead) != monthOf(day) {
		want[api.RModPrecede] = behind
	}
	return want
}

// rollsAllDays fails unless Day goes along a list of the nearest open days.
func rollsAllDays(t *testing.T, c *cal.Cal) {
	t.Helper()
	ahead, behind := make([]int, api.MaxDay+1), make([]int, api.MaxDay+1)
	last, next := none, none
	for day := range ahead {
		if c.Open(day) {
			last = day
		}
		if c.Open(api.MaxDay - day) {
			next = api.MaxDay - day
		}
		ahead[day], behind[api.MaxDay-day] = last, next
	}
	for day := range ahead {
		for rule, want := range byRules(ahead[day], day, behind[day]) {
			answers(t, c, day, rule, want)
		}
	}
}

func TestAllDays(t *testing.T) {
	rollsAllDays(t, nil)
	rollsAllDays(t, new(cal.Cal))
	rollsAllDays(t, closedBy(t, nil))
	rollsAllDays(t, closedBy(t, banks()))
	rollsAllDays(t, closedBy(t, edges(), 0, 1, 2, 50000, 50001, api.MaxDay-1, api.MaxDay))
	rollsAllDays(t, cal.Join(closedBy(t, banks()), nil, closedBy(t, edges())))
}

// Weeks, months and a whole year are closed, as are the first and the last ones.
func TestLongClosed(t *testing.T) {
	var days []int
	for _, x := range [][2]string{{"1900-01-01", "1900-02-14"}, {"1999-12-20", "2000-01-10"}, {"2001-03-01", "2001-03-31"}, {"2003-05-10", "2003-08-20"}, {"2010-01-01", "2010-12-31"}, {"2199-11-28", "2199-12-31"}} {
		days = append(days, span(dayOf(t, x[0]), dayOf(t, x[1]))...)
	}
	rollsAllDays(t, closedOn(t, days...))
}

// rolled is what Day answers of one day by the rules in their order; "": none.
type rolled struct {
	day  string
	want [5]string
}

// rollsAs fails unless Day answers as the rows tell.
func rollsAs(t *testing.T, c *cal.Cal, rows []rolled) {
	t.Helper()
	for _, row := range rows {
		for rule, text := range row.want {
			want := none
			if text != "" {
				want = dayOf(t, text)
			}
			answers(t, c, dayOf(t, row.day), rule, want)
		}
	}
}

func TestKnownDays(t *testing.T) {
	rollsAs(t, closedBy(t, banks()), []rolled{
		// open
		{"2024-01-03", [5]string{"2024-01-03", "2024-01-03", "2024-01-03", "2024-01-03", "2024-01-03"}},
		{"2024-05-31", [5]string{"2024-05-31", "2024-05-31", "2024-05-31", "2024-05-31", "2024-05-31"}},
		// within a month
		{"2024-01-06", [5]string{"2024-01-06", "2024-01-08", "2024-01-08", "2024-01-05", "2024-01-05"}},
		{"2024-01-07", [5]string{"2024-01-07", "2024-01-08", "2024-01-08", "2024-01-05", "2024-01-05"}},
		{"2024-05-01", [5]string{"2024-05-01", "2024-05-02", "2024-05-02", "2024-04-30", "2024-05-02"}},
		// a month's end, from a Good Friday to an Easter Monday
		{"2024-03-29", [5]string{"2024-03-29", "2024-04-02", "2024-03-28", "2024-03-28", "2024-03-28"}},
		{"2024-03-31", [5]string{"2024-03-31", "2024-04-02", "2024-03-28", "2024-03-28", "2024-03-28"}},
		{"2024-04-01", [5]string{"2024-04-01", "2024-04-02", "2024-04-02", "2024-03-28", "2024-04-02"}},
		// a leap year's February
		{"2032-02-29", [5]string{"2032-02-29", "2032-03-01", "2032-02-27", "2032-02-27", "2032-02-27"}},
		// a year's end: the other month is of another year
		{"2022-12-31", [5]string{"2022-12-31", "2023-01-02", "2022-12-30", "2022-12-30", "2022-12-30"}},
		{"2023-01-01", [5]string{"2023-01-01", "2023-01-02", "2023-01-02", "2022-12-30", "2023-01-02"}},
		{"2023-12-25", [5]string{"2023-12-25", "2023-12-27", "2023-12-27", "2023-12-22", "2023-12-22"}},
		// the first day and the last ones
		{"1900-01-01", [5]string{"1900-01-01", "1900-01-02", "1900-01-02", "", "1900-01-02"}},
		{"2199-12-31", [5]string{"2199-12-31", "2199-12-31", "2199-12-31", "2199-12-31", "2199-12-31"}},
	})
}

// Both ways lead out of the month: the modified rules go the other way all the same.
func TestClosedMonth(t *testing.T) {
	first, last := dayOf(t, "2024-07-01"), dayOf(t, "2024-07-31")
	c := closedOn(t, span(first, last)...)
	for day := first; day <= last; day++ {
		for rule, text := range map[int]string{api.RFollowing: "2024-08-01", api.RModFollow: "2024-06-28", api.RPreceding: "2024-06-28", api.RModPrecede: "2024-08-01"} {
			answers(t, c, day, rule, dayOf(t, text))
		}
		answers(t, c, day, api.RNone, day)
	}
}

// A month of the same name of another year is another month.
func TestClosedYear(t *testing.T) {
	day := dayOf(t, "2024-03-15")
	c := closedOn(t, span(dayOf(t, "2023-03-18"), dayOf(t, "2025-03-09"))...)
	rollsAs(t, c, []rolled{{"2024-03-15", [5]string{"2024-03-15", "2025-03-10", "2023-03-17", "2023-03-17", "2025-03-10"}}})
	c = closedOn(t, span(dayOf(t, "2024-03-10"), dayOf(t, "2025-03-09"))...)
	answers(t, c, day, api.RModFollow, dayOf(t, "2024-03-08"))
	answers(t, c, day, api.RModPrecede, dayOf(t, "2024-03-08"))
}

// Beyond the first and the last open day there is none to move to.
func TestBeyondTheDays(t *testing.T) {
	rollsAs(t, closedOn(t, append(span(0, 10), span(api.MaxDay-5, api.MaxDay)...)...), []rolled{
		{"1900-01-01", [5]string{"1900-01-01", "1900-01-12", "1900-01-12", "", "1900-01-12"}},
		{"1900-01-11", [5]string{"1900-01-11", "1900-01-12", "1900-01-12", "", "1900-01-12"}},
		{"2199-12-26", [5]string{"2199-12-26", "", "2199-12-25", "2199-12-25", "2199-12-25"}},
		{"2199-12-31", [5]string{"2199-12-31", "", "2199-12-25", "2199-12-25", "2199-12-25"}},
	})
	// The month has no open day, and the other way there is none at all.
	rollsAs(t, closedOn(t, append(span(0, 31), span(api.MaxDay-31, api.MaxDay)...)...), []rolled{
		{"1900-01-15", [5]string{"1900-01-15", "1900-02-02", "", "", "1900-02-02"}},
		{"1900-02-01", [5]string{"1900-02-01", "1900-02-02", "1900-02-02", "", "1900-02-02"}},
		{"2199-12-15", [5]string{"2199-12-15", "", "2199-11-29", "2199-11-29", ""}},
		{"2199-11-30", [5]string{"2199-11-30", "", "2199-11-29", "2199-11-29", "2199-11-29"}},
	})
}

func TestNeverOpen(t *testing.T) {
	c := closedOn(t, span(0, api.MaxDay)...)
	for _, day := range []int{0, 1, 31, 50000, api.MaxDay - 1, api.MaxDay} {
		answers(t, c, day, api.RNone, day)
		for _, rule := range allRules()[1:] {
			answers(t, c, day, rule, none)
		}
		for _, rule := range wrongRules() {
			refuses(t, c, day, rule)
		}
	}
}

func TestNoDay(t *testing.T) {
	for _, c := range []*cal.Cal{nil, closedBy(t, banks()), closedOn(t, 0, api.MaxDay)} {
		for _, day := range noDays() {
			for _, rule := range allRules() {
				answers(t, c, day, rule, none)
			}
		}
	}
}

// That there is no such rule comes ahead of that there is no such day.
func TestWrongRule(t *testing.T) {
	for _, c := range []*cal.Cal{nil, closedBy(t, banks())} {
		for _, rule := range wrongRules() {
			for _, day := range append(noDays(), 0, 5, 6, 50000, api.MaxDay) {
				refuses(t, c, day, rule)
			}
		}
	}
}

// A calendar is no other once it was asked, and answers the same again.
func TestAskedAgain(t *testing.T) {
	asked, fresh := closedBy(t, banks(), 45000), closedBy(t, banks(), 45000)
	rollsAllDays(t, asked)
	rollsAllDays(t, asked)
	for day := 0; day <= api.MaxDay; day++ {
		if asked.Open(day) != fresh.Open(day) {
			t.Fatalf("%s is open or closed otherwise than before", date.Text(day))
		}
	}
}
