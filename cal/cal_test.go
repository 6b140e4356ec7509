package cal_test

import (
	"math"
	"slices"
	"testing"
	"time"

	"rentier/api"
	"rentier/cal"
	"rentier/date"
	"rentier/fault"
	"rentier/holi"
)

// far are whole numbers that are no days.
func far() []int {
	return []int{-1, -2, -7, -64, -365, api.MaxDay + 1, api.MaxDay + 2, api.MaxDay + 64, api.MaxDay + 365, 1 << 31, 1 << 32, 1<<32 + 7, -1 << 31, -1 << 32, -1<<32 + 7, math.MaxInt, math.MaxInt - 1, math.MinInt, math.MinInt + 1, math.MinInt + 2000}
}

// fixed is the rule of a month's day.
func fixed(month, day int, shift bool) api.Rule {
	return api.Rule{Kind: api.HFixed, Month: month, Day: day, Shift: shift}
}

// nth is the rule of a month's n-th weekday.
func nth(month, n, weekday int) api.Rule {
	return api.Rule{Kind: api.HNth, Month: month, N: n, Weekday: weekday}
}

// off is the rule of the day n behind Easter Sunday.
func off(n int) api.Rule { return api.Rule{Kind: api.HEaster, N: n} }

// exchange are the holidays of a stock exchange since 2022.
func exchange() []api.Rule {
	return []api.Rule{fixed(1, 1, true), nth(1, 3, 1), nth(2, 3, 1), off(-2), nth(5, -1, 1), fixed(6, 19, true), fixed(7, 4, true), nth(9, 1, 1), nth(11, 4, 4), fixed(12, 25, true)}
}

// banks are the holidays of a union's banks.
func banks() []api.Rule {
	return []api.Rule{fixed(1, 1, false), off(-2), off(1), fixed(5, 1, false), fixed(12, 25, false), fixed(12, 26, false)}
}

// wrongRules are rules that may not be.
func wrongRules() []api.Rule {
	return []api.Rule{{}, {Kind: 4}, fixed(2, 30, false), fixed(13, 1, false), fixed(1, 0, true), nth(1, 0, 1), nth(1, 6, 1), nth(1, 1, 7), off(101), {Kind: api.HEaster, Shift: true}, {Kind: math.MinInt, Month: math.MaxInt}}
}

// dayOf gives the number of a day's text.
func dayOf(t *testing.T, text string) int {
	t.Helper()
	day, err := date.Get(text)
	if err != nil {
		t.Fatalf("%q is no day", text)
	}
	return day
}

// daysOf gives the numbers of days' texts.
func daysOf(t *testing.T, texts ...string) []int {
	t.Helper()
	days := make([]int, len(texts))
	for i, text := range texts {
		days[i] = dayOf(t, text)
	}
	return days
}

// made gives a calendar that may be.
func made(t *testing.T, rules []api.Rule, more ...int) *cal.Cal {
	t.Helper()
	c, err := cal.New(rules, more...)
	if err != nil || c == nil {
		t.Fatalf("New of %d rules, %d days: %v", len(rules), len(more), err)
	}
	return c
}

// refuses fails unless New answers nil and that error.
func refuses(t *testing.T, want api.Errno, rules []api.Rule, more ...int) {
	t.Helper()
	if c, err := cal.New(rules, more...); c != nil || fault.Code(err) != want {
		t.Errorf("New %+v, %v: %v, not error %d", rules, more, err, want)
	}
}

// isWorkday tells by the library's calendar whether a day is none of a week's
// end.
func isWorkday(day int) bool {
	weekday := time.Date(1900, time.January, 1+day, 0, 0, 0, 0, time.UTC).Weekday()
	return weekday != time.Saturday && weekday != time.Sunday
}

// opensBut fails unless c is open on all days but those of weeks' ends, of
// rules and of more.
func opensBut(t *testing.T, c *cal.Cal, rules []api.Rule, more ...int) {
	t.Helper()
	for day := 0; day <= api.MaxDay; day++ {
		holiday := func(r api.Rule) bool { return holi.Is(r, day) }
		want := isWorkday(day) && !slices.Contains(more, day) && !slices.ContainsFunc(rules, holiday)
		if c.Open(day) != want {
			t.Fatalf("Open %s: not %v", date.Text(day), want)
		}
	}
	for _, day := range far() {
		if c.Open(day) {
			t.Fatalf("Open %d, which is no day", day)
		}
	}
}

// openDays gives the days on which c is open, rising.
func openDays(c *cal.Cal) []int {
	var days []int
	for day := 0; day <= api.MaxDay; day++ {
		if c.Open(day) {
			days = append(days, day)
		}
	}
	return days
}

// adds fails unless Add answers that day.
func adds(t *testing.T, c *cal.Cal, day, n, want int) {
	t.Helper()
	if got, err := c.Add(day, n); err != nil || got != want {
		t.Fatalf("Add %s, %d: %s, %v, not %s", date.Text(day), n, date.Text(got), err, date.Text(want))
	}
}

// addsNot fails unless Add answers 0 and that error.
func addsNot(t *testing.T, c *cal.Cal, day, n int, want api.Errno) {
	t.Helper()
	if got, err := c.Add(day, n); got != 0 || fault.Code(err) != want {
		t.Fatalf("Add %d, %d: %d, %v, not error %d", day, n, got, err, want)
	}
}

// counts fails unless Count answers that number.
func counts(t *testing.T, c *cal.Cal, a, b, want int) {
	t.Helper()
	if got := c.Count(a, b); got != want {
		t.Fatalf("Count %d, %d: %d, not %d", a, b, got, want)
	}
}

func TestOpenOfAllDays(t *testing.T) {
	more := append(daysOf(t, "2001-09-11", "2001-09-12", "2012-10-29", "2012-10-30", "2024-02-29", "2024-06-01"), 0, 1, 62, 63, 64, 65, 127, 128, api.MaxDay-1, api.MaxDay)
	opensBut(t, made(t, exchange()), exchange())
	opensBut(t, made(t, banks()), banks())
	opensBut(t, made(t, exchange(), more...), exchange(), more...)
	opensBut(t, made(t, nil, more...), nil, more...)
}

// A shift and the way from Easter lead over a year's end.
func TestOpenOverTheYearsEnd(t *testing.T) {
	rules := []api.Rule{fixed(1, 1, true), fixed(12, 31, true), off(-100), fixed(2, 29, true), nth(2, 5, 1), nth(12, 5, 2)}
	opensBut(t, made(t, rules), rules)
}

func TestKnownDays(t *testing.T) {
	c := made(t, exchange(), daysOf(t, "2018-12-05", "2025-01-09")...)
	for text, want := range map[string]bool{
		"2024-01-01": false, "2024-01-02": true, "2024-01-15": false, "2024-02-19": false, "2024-03-29": false, "2024-04-01": true, "2024-05-27": false, "2024-06-19": false, "2024-07-04": false, "2024-07-05": true, "2024-09-02": false, "2024-11-28": false, "2024-11-29": true, "2024-12-24": true, "2024-12-25": false, "2024-12-26": true, "2024-12-28": false, "2024-12-29": false, "2024-12-30": true,
		"2021-12-24": false, "2022-12-26": false, "2020-07-03": false, "2021-07-05": false, "2021-12-31": false, "2022-01-03": true, "2018-12-05": false, "2018-12-04": true, "2018-12-06": true, "2025-01-09": false, "2025-01-10": true,
	} {
		if c.Open(dayOf(t, text)) != want {
			t.Errorf("Open %s: not %v", text, want)
		}
	}
	for _, x := range []struct {
		a, b string
		want int
	}{{"2022-01-01", "2023-01-01", 251}, {"2023-01-01", "2024-01-01", 250}, {"2024-01-01", "2025-01-01", 252}, {"2025-01-01", "2026-01-01", 250}, {"2024-01-31", "2024-02-29", 20}, {"2024-12-23", "2025-01-02", 6}} {
		counts(t, c, dayOf(t, x.a), dayOf(t, x.b), x.want)
	}
	for _, x := range []struct {
		from string
		n    int
		to   string
	}{{"2024-12-24", 1, "2024-12-26"}, {"2024-12-24", 5, "2025-01-02"}, {"2025-01-08", 1, "2025-01-10"}, {"2025-01-10", -1, "2025-01-08"}, {"2024-12-25", 0, "2024-12-25"}, {"2024-12-25", 1, "2024-12-26"}, {"2024-12-25", -1, "2024-12-24"}, {"2024-12-28", 1, "2024-12-30"}, {"2024-12-29", -1, "2024-12-27"}, {"2024-03-28", 1, "2024-04-01"}, {"2024-04-01", -2, "2024-03-27"}} {
		adds(t, c, dayOf(t, x.from), x.n, dayOf(t, x.to))
	}
}

// Twenty rules and a hundred days may be, and each of them counts.
func TestMostRulesAndDays(t *testing.T) {
	var rules []api.Rule
	for day := 1; day <= 20; day++ {
		rules = append(rules, fixed(3, day, false))
	}
	var more []int
	for i := range 100 {
		more = append(more, 40000+3*i)
	}
	opensBut(t, made(t, rules, more...), rules, more...)
	refuses(t, api.ErrRange, append(rules, fixed(3, 21, false)), more...)
	refuses(t, api.ErrRange, rules, append(more, 1)...)
	refuses(t, api.ErrRange, append(rules, rules[0]))
	refuses(t, api.ErrRange, nil, append(more, more[0])...)
	refuses(t, api.ErrRange, make([]api.Rule, 100000), make([]int, 100000)...)
}

// A wrong rule or day counts wherever it stands.
func TestNewOfWrongOnes(t *testing.T) {
	for _, wrong := range wrongRules() {
		for i := range 20 {
			rules := slices.Repeat([]api.Rule{off(0)}, 20)
			rules[i] = wrong
			refuses(t, api.ErrForm, rules)
			refuses(t, api.ErrForm, rules, 0, 5, api.MaxDay)
		}
		refuses(t, api.ErrForm, []api.Rule{wrong})
	}
	for _, wrong := range far() {
		for i := range 100 {
			more := make([]int, 100)
			more[i] = wrong
			refuses(t, api.ErrDate, nil, more...)
			refuses(t, api.ErrDate, exchange(), more...)
		}
		refuses(t, api.ErrDate, nil, wrong)
	}
}

// Too many comes ahead of a wrong rule, that of a wrong day.
func TestOrderOfErrors(t *testing.T) {
	wrong := wrongRules()[:1]
	refuses(t, api.ErrForm, wrong, -1)
	refuses(t, api.ErrForm, append(exchange(), wrong...), api.MaxDay+1)
	refuses(t, api.ErrRange, slices.Repeat(wrong, 21))
	refuses(t, api.ErrRange, slices.Repeat(wrong, 21), -1)
	refuses(t, api.ErrRange, wrong, slices.Repeat([]int{-1}, 101)...)
	refuses(t, api.ErrRange, nil, slices.Repeat([]int{-1}, 101)...)
	refuses(t, api.ErrDate, nil, slices.Repeat([]int{-1}, 100)...)
	for _, n := range []int{1001, -1001, 1 << 32, math.MaxInt, math.MinInt} {
		for _, day := range append(far(), 0, 1, 50000, api.MaxDay) {
			addsNot(t, made(t, nil), day, n, api.ErrRange)
			addsNot(t, nil, day, n, api.ErrRange)
		}
	}
}

// isPlain fails unless c is the calendar of no rules and no days.
func isPlain(t *testing.T, c *cal.Cal) {
	t.Helper()
	opensBut(t, c, nil)
	friday := dayOf(t, "2023-12-29")
	adds(t, c, friday, 1, friday+3)
	adds(t, c, friday+3, -1, friday)
	adds(t, c, friday+1, 0, friday+1)
	adds(t, c, friday, 1000, friday+1400)
	adds(t, c, friday, -1000, friday-1400)
	addsNot(t, c, -1, 0, api.ErrDate)
	addsNot(t, c, 0, -1, api.ErrDate)
	addsNot(t, c, api.MaxDay, 1, api.ErrDate)
	counts(t, c, 0, api.MaxDay+1, 78267)
	counts(t, c, friday, friday+14, 10)
	counts(t, c, friday+1, friday+3, 0)
}

func TestOfNothing(t *testing.T) {
	isPlain(t, nil)
	isPlain(t, made(t, nil))
	isPlain(t, made(t, []api.Rule{}, []int{}...))
	isPlain(t, cal.Join())
	isPlain(t, cal.Join(nil))
	isPlain(t, cal.Join(nil, made(t, nil), nil, new(cal.Cal)))
	isPlain(t, cal.Join([]*cal.Cal{}...))
	isPlain(t, new(cal.Cal))
	if cal.Join() == nil || cal.Join(nil, nil) == nil {
		t.Error("Join is nil")
	}
}

func TestJoin(t *testing.T) {
	more := daysOf(t, "2024-01-02", "2024-01-03", "2001-09-11")
	a, b, d := made(t, exchange(), more[:2]...), made(t, banks()), made(t, []api.Rule{nth(8, -1, 1)}, more[2])
	all := append(append(exchange(), banks()...), nth(8, -1, 1))
	opensBut(t, cal.Join(a), exchange(), more[:2]...)
	opensBut(t, cal.Join(a, b), append(exchange(), banks()...), more[:2]...)
	opensBut(t, cal.Join(a, b, d), all, more...)
	opensBut(t, cal.Join(nil, d, cal.Join(b, nil, b), a, nil), all, more...)
	// None of those that are joined is another than before.
	opensBut(t, a, exchange(), more[:2]...)
	opensBut(t, b, banks())
	opensBut(t, d, []api.Rule{nth(8, -1, 1)}, more[2])
}

// More rules and days may be joined than one calendar may be made of; one that
// is joined with itself again and again is no other.
func TestJoinOfMany(t *testing.T) {
	var all []*cal.Cal
	var rules []api.Rule
	for month := 1; month <= 12; month++ {
		some := []api.Rule{fixed(month, 1, false), fixed(month, 10, true), nth(month, 2, 2), nth(month, -1, 5)}
		rules = append(rules, some...)
		all = append(all, made(t, some, 36600+month))
	}
	var more []int
	for month := 1; month <= 12; month++ {
		more = append(more, 36600+month)
	}
	opensBut(t, cal.Join(all...), rules, more...)
	one := all[0]
	for range 100 {
		one = cal.Join(one, one, nil, one)
	}
	opensBut(t, one, rules[:4], more[0])
	opensBut(t, cal.Join(slices.Repeat(all[:1], 2000)...), rules[:4], more[0])
}

// closedUpToFebruary gives a calendar that is closed on all days but those of January.
func closedUpToFebruary(t *testing.T) *cal.Cal {
	t.Helper()
	var all []*cal.Cal
	for month := 2; month <= 12; month++ {
		for weekday := 1; weekday <= 5; weekday++ {
			all = append(all, made(t, []api.Rule{nth(month, 1, weekday), nth(month, 2, weekday), nth(month, 3, weekday), nth(month, 4, weekday), nth(month, 5, weekday)}))
		}
	}
	return cal.Join(all...)
}

func TestAlmostAlwaysClosed(t *testing.T) {
	c := closedUpToFebruary(t)
	adds(t, c, dayOf(t, "2024-01-31"), 1, dayOf(t, "2025-01-01"))
	adds(t, c, dayOf(t, "2024-02-01"), -1, dayOf(t, "2024-01-31"))
	adds(t, c, dayOf(t, "2024-07-01"), 24, dayOf(t, "2026-01-01"))
	adds(t, c, dayOf(t, "2024-07-01"), 0, dayOf(t, "2024-07-01"))
	addsNot(t, c, dayOf(t, "2199-01-31"), 1, api.ErrDate)
	counts(t, c, dayOf(t, "2024-01-01"), dayOf(t, "2025-01-01"), 23)
	january := made(t, []api.Rule{nth(1, 1, 1), nth(1, 1, 2), nth(1, 1, 3), nth(1, 1, 4), nth(1, 1, 5), nth(1, 2, 1), nth(1, 2, 2), nth(1, 2, 3), nth(1, 2, 4), nth(1, 2, 5), nth(1, 3, 1), nth(1, 3, 2), nth(1, 3, 3), nth(1, 3, 4), nth(1, 3, 5)})
	late := made(t, []api.Rule{nth(1, 4, 1), nth(1, 4, 2), nth(1, 4, 3), nth(1, 4, 4), nth(1, 4, 5), nth(1, 5, 1), nth(1, 5, 2), nth(1, 5, 3), nth(1, 5, 4), nth(1, 5, 5)})
	never := cal.Join(c, january, late)
	counts(t, never, math.MinInt, math.MaxInt, 0)
	for _, day := range []int{0, 1, 50000, api.MaxDay} {
		adds(t, never, day, 0, day)
		for _, n := range []int{1, -1, 1000, -1000} {
			addsNot(t, never, day, n, api.ErrDate)
		}
	}
}

// addsAsListed fails unless Add goes along a list of all open days.
func addsAsListed(t *testing.T, c *cal.Cal, open []int, day, n int) {
	t.Helper()
	at, on := slices.BinarySearch(open, day)
	to := at + n // n below 0: what lies ahead of day ends at at-1
	if n > 0 && !on {
		to--
	}
	switch {
	case n == 0:
		adds(t, c, day, 0, day)
	case to < 0 || to >= len(open):
		addsNot(t, c, day, n, api.ErrDate)
	default:
		adds(t, c, day, n, open[to])
	}
}

func TestAddAlongAllDays(t *testing.T) {
	for _, c := range []*cal.Cal{nil, made(t, exchange(), 0, 3, 4, api.MaxDay), made(t, banks(), api.MaxDay-1)} {
		open := openDays(c)
		for day := 0; day <= api.MaxDay; day++ {
			for _, n := range []int{0, 1, -1, 2, -2, 5, -5} {
				addsAsListed(t, c, open, day, n)
			}
		}
		for day := 0; day <= api.MaxDay; day += 97 {
			for _, n := range []int{250, -250, 999, -999, 1000, -1000} {
				addsAsListed(t, c, open, day, n)
			}
		}
		for _, edge := range []int{1, 2, 7, 999, 1000} {
			for _, day := range []int{open[edge] - 1, open[edge], open[edge] + 1, open[len(open)-1-edge] - 1, open[len(open)-1-edge], open[len(open)-1-edge] + 1} {
				for _, n := range []int{edge - 1, edge, edge + 1, 1 - edge, -edge, -edge - 1} {
					if n >= -1000 && n <= 1000 {
						addsAsListed(t, c, open, day, n)
					}
				}
			}
		}
	}
}

func TestAddOfNoDay(t *testing.T) {
	for _, c := range []*cal.Cal{nil, made(t, exchange())} {
		for _, day := range far() {
			for _, n := range []int{0, 1, -1, 1000, -1000} {
				addsNot(t, c, day, n, api.ErrDate)
			}
		}
	}
}

func TestCountOfAllDays(t *testing.T) {
	for _, c := range []*cal.Cal{nil, made(t, exchange(), 0, 3, 4, api.MaxDay), made(t, banks(), api.MaxDay-1)} {
		ahead := make([]int, api.MaxDay+2)
		for day := 0; day <= api.MaxDay; day++ {
			ahead[day+1] = ahead[day]
			if c.Open(day) {
				ahead[day+1]++
			}
		}
		for a := 0; a <= api.MaxDay+1; a += 7919 {
			for b := 0; b <= api.MaxDay+1; b += 1009 {
				counts(t, c, a, b, max(0, ahead[b]-ahead[a]))
			}
		}
		for day := 0; day <= api.MaxDay; day++ {
			counts(t, c, day, day+1, ahead[day+1]-ahead[day])
			counts(t, c, day, day, 0)
			counts(t, c, day+1, day, 0)
		}
		for _, a := range append(far(), 0, 1, 50000, api.MaxDay) {
			for _, b := range append(far(), 0, 1, 50000, api.MaxDay) {
				from, to := min(max(a, 0), api.MaxDay+1), min(max(b, 0), api.MaxDay+1)
				counts(t, c, a, b, max(0, ahead[to]-ahead[from]))
			}
		}
	}
}

// What is handed in is neither changed nor kept, its spare room neither.
func TestListsHandedIn(t *testing.T) {
	rules := append(make([]api.Rule, 0, 40), exchange()...)
	more := append(make([]int, 0, 200), 50000, 40000, 60000, 40000)
	c := made(t, rules, more...)
	if !slices.Equal(rules, exchange()) || !slices.Equal(more, []int{50000, 40000, 60000, 40000}) {
		t.Error("New changes what it is given")
	}
	for _, r := range rules[len(rules):cap(rules)] {
		if r != (api.Rule{}) {
			t.Error("New writes into spare room of rules")
		}
	}
	for _, day := range more[len(more):cap(more)] {
		if day != 0 {
			t.Error("New writes into spare room of days")
		}
	}
	for i := range rules {
		rules[i] = fixed(6, 1+i, false)
	}
	for i := range more {
		more[i] = 45000 + i
	}
	opensBut(t, c, exchange(), 50000, 40000, 60000)
}

// Writing over a calendar changes none that was made of it.
func TestWrittenOver(t *testing.T) {
	a, b := made(t, exchange()), made(t, banks(), 40000)
	cs := append(make([]*cal.Cal, 0, 8), a, b)
	both, alone := cal.Join(cs...), cal.Join(a)
	if cs[0] != a || cs[1] != b || cs[:3][2] != nil {
		t.Error("Join changes what it is given")
	}
	if alone == a || cal.Join() == cal.Join() {
		t.Error("Join answers no new calendar")
	}
	cs[0], cs[1] = nil, nil
	*a, *b = *made(t, nil, 1), cal.Cal{}
	opensBut(t, both, append(exchange(), banks()...), 40000)
	opensBut(t, alone, exchange())
	opensBut(t, a, nil, 1)
	isPlain(t, b)
	*both = cal.Cal{}
	opensBut(t, alone, exchange())
}
