package plan_test

import (
	"errors"
	"math"
	"math/rand"
	"slices"
	"strings"
	"testing"
	"time"

	"rentier/api"
	"rentier/bond"
	"rentier/cal"
	"rentier/date"
	"rentier/fault"
	"rentier/plan"
	"rentier/roll"
)

// noDays are whole numbers that are no days.
func noDays() []int {
	return []int{-1, -2, -31, -365, api.MaxDay + 1, api.MaxDay + 2, 1 << 31, 1 << 32, 1<<32 + 36524, -1 << 31, -1 << 32, math.MaxInt, math.MaxInt - 1, math.MinInt, math.MinInt + 1}
}

// dayOf gives the number of a day's text.
func dayOf(t *testing.T, text string) int {
	t.Helper()
	day, err := date.Get(text)
	if err != nil {
		t.Fatalf("%q is no day", text)
	}
	return day
}

// some gives a bond from one day to another that may be.
func some(issue, mature, freq, stub int, end bool) api.Bond {
	return api.Bond{Issue: issue, Mature: mature, Freq: freq, Coupon: "4.125", Redeem: "100", Count: api.CActAct, Stub: stub, End: end, Ex: 7}
}

// named is some from and to days that are texts.
func named(t *testing.T, issue, mature string, freq, stub int, end bool) api.Bond {
	t.Helper()
	return some(dayOf(t, issue), dayOf(t, mature), freq, stub, end)
}

// told tells the days from which and to which periods are.
func told(ps []api.Period) string {
	var l []string
	for _, p := range ps {
		l = append(l, date.Text(p.Start)+" "+date.Text(p.End))
	}
	return strings.Join(l, ", ")
}

// has fails unless these are the periods of b.
func has(t *testing.T, b api.Bond, want string) {
	t.Helper()
	if ps, err := plan.Of(b); err != nil || told(ps) != want {
		t.Fatalf("Of %s to %s, %+v: %s, %v, not %s", date.Text(b.Issue), date.Text(b.Mature), b, told(ps), err, want)
	}
}

// is fails unless err is a Fault of that code at that place, with nothing
// behind it.
func is(t *testing.T, err error, code api.Errno, at string) {
	t.Helper()
	f, ok := err.(*fault.Fault)
	if !ok || *f != (fault.Fault{Code: code, At: at}) || !errors.Is(err, fault.Of(code)) {
		t.Fatalf("%v, not %q: error %d", err, at, code)
	}
}

// hasNot fails unless Of and Adjusted answer an error of that code at that
// place, and nothing else.
func hasNot(t *testing.T, b api.Bond, code api.Errno, at string) {
	t.Helper()
	ps, err := plan.Of(b)
	if ps != nil {
		t.Fatalf("Of %+v: %s", b, told(ps))
	}
	is(t, err, code, at)
	// a rule and a calendar of which roll.Day has no error, and ones that have
	for _, rule := range []int{api.RNone, api.RFollowing, 5, -1} {
		l, err := plan.Adjusted(b, nil, rule)
		if l != nil {
			t.Fatalf("Adjusted %+v: %v", b, l)
		}
		is(t, err, code, at)
	}
}

// quasi fails unless that is the anchor ahead of the anchor end.
func quasi(t *testing.T, b api.Bond, end, want int) {
	t.Helper()
	if got, err := plan.Quasi(b, end); err != nil || got != want {
		t.Fatalf("Quasi %+v, %s: %s, %v, not %s", b, date.Text(end), date.Text(got), err, date.Text(want))
	}
}

// quasiNot fails unless Quasi finds no anchor.
func quasiNot(t *testing.T, b api.Bond, end int) {
	t.Helper()
	if got, err := plan.Quasi(b, end); got != 0 || err != fault.Of(api.ErrDate) {
		t.Fatalf("Quasi %+v, %d (%s): %d, %v", b, end, date.Text(end), got, err)
	}
}

// regular fails unless Regular answers want of the period of two days.
func regular(t *testing.T, b api.Bond, start, end int, want bool) {
	t.Helper()
	if plan.Regular(b, api.Period{Start: start, End: end}) != want {
		t.Fatalf("Regular %+v, %d to %d (%s to %s) is not %v", b, start, end, date.Text(start), date.Text(end), want)
	}
}

// anchorBy gives the k-th anchor of a bond by the library's calendar; false if
// it is ahead of 1900.
func anchorBy(b api.Bond, k int) (int, bool) {
	zero := time.Date(1900, 1, 1, 0, 0, 0, 0, time.UTC)
	mature := zero.AddDate(0, 0, b.Mature)
	// The day 0 of a month is the last one of the month ahead.
	last := func(on int) int {
		return time.Date(mature.Year(), mature.Month()+time.Month(on)+1, 0, 0, 0, 0, 0, time.UTC).Day()
	}
	on := -k * 12 / b.Freq
	day := min(mature.Day(), last(on))
	if b.End && mature.Day() == last(0) {
		day = last(on)
	}
	at := time.Date(mature.Year(), mature.Month()+time.Month(on), day, 0, 0, 0, 0, time.UTC)
	return int((at.Unix() - zero.Unix()) / 86400), !at.Before(zero)
}

// planBy gives the periods of a bond by the library's calendar; false if it
// needs a stub and lets none.
func planBy(b api.Bond) ([]api.Period, bool) {
	var ps []api.Period
	end := b.Mature
	for k := 1; ; k++ {
		start, ok := anchorBy(b, k)
		if !ok || start < b.Issue {
			break
		}
		ps = append([]api.Period{{Start: start, End: end}}, ps...)
		end = start
	}
	switch {
	case end == b.Issue:
		return ps, true
	case b.Stub == api.SNone:
		return nil, false
	case b.Stub == api.SLong && len(ps) > 0:
		ps[0].Start = b.Issue
		return ps, true
	}
	return append([]api.Period{{Start: b.Issue, End: end}}, ps...), true
}

func TestPeriodsWithoutStub(t *testing.T) {
	for stub := api.SNone; stub <= api.SLong; stub++ {
		for _, end := range []bool{false, true} {
			has(t, named(t, "2004-01-01", "2005-01-01", 1, stub, end), "2004-01-01 2005-01-01")
			has(t, named(t, "2003-01-01", "2005-01-01", 1, stub, end), "2003-01-01 2004-01-01, 2004-01-01 2005-01-01")
			has(t, named(t, "2004-01-15", "2005-01-15", 2, stub, end), "2004-01-15 2004-07-15, 2004-07-15 2005-01-15")
			has(t, named(t, "2004-07-30", "2005-04-30", 4, stub, false), "2004-07-30 2004-10-30, 2004-10-30 2005-01-30, 2005-01-30 2005-04-30")
			has(t, named(t, "2004-12-17", "2005-01-17", 12, stub, end), "2004-12-17 2005-01-17")
			has(t, some(0, 31, 12, stub, end), "1900-01-01 1900-02-01")
		}
		has(t, named(t, "2199-06-30", "2199-12-31", 2, stub, true), "2199-06-30 2199-12-31")
		has(t, named(t, "2199-06-30", "2199-12-31", 2, stub, false), "2199-06-30 2199-12-31")
	}
}

func TestAnchorsAtMonthsEnds(t *testing.T) {
	// from the last day of a month that has fewer: with End always the last one
	has(t, named(t, "2004-07-31", "2005-04-30", 4, api.SNone, true), "2004-07-31 2004-10-31, 2004-10-31 2005-01-31, 2005-01-31 2005-04-30")
	has(t, named(t, "2003-02-28", "2005-02-28", 1, api.SNone, true), "2003-02-28 2004-02-29, 2004-02-29 2005-02-28")
	has(t, named(t, "2003-02-28", "2005-02-28", 1, api.SNone, false), "2003-02-28 2004-02-28, 2004-02-28 2005-02-28")
	// ahead of the month without a 31st there is one again: each anchor is gone to from Mature
	has(t, named(t, "2004-12-31", "2005-03-31", 12, api.SNone, false), "2004-12-31 2005-01-31, 2005-01-31 2005-02-28, 2005-02-28 2005-03-31")
	has(t, named(t, "2004-12-30", "2005-03-30", 12, api.SNone, true), "2004-12-30 2005-01-30, 2005-01-30 2005-02-28, 2005-02-28 2005-03-30")
	has(t, named(t, "2003-08-29", "2004-08-29", 2, api.SNone, true), "2003-08-29 2004-02-29, 2004-02-29 2004-08-29")
	has(t, named(t, "2002-02-28", "2004-02-29", 1, api.SNone, false), "2002-02-28 2003-02-28, 2003-02-28 2004-02-29")
	has(t, named(t, "2000-02-29", "2004-02-29", 1, api.SNone, false), "2000-02-29 2001-02-28, 2001-02-28 2002-02-28, 2002-02-28 2003-02-28, 2003-02-28 2004-02-29")
	// 1900 and 2100 have no February 29
	has(t, named(t, "1900-02-28", "1901-02-28", 1, api.SNone, true), "1900-02-28 1901-02-28")
	has(t, named(t, "2099-02-28", "2104-02-29", 1, api.SNone, true), "2099-02-28 2100-02-28, 2100-02-28 2101-02-28, 2101-02-28 2102-02-28, 2102-02-28 2103-02-28, 2103-02-28 2104-02-29")
	// Whether Issue is its month's last day is never asked.
	hasNot(t, named(t, "2004-02-29", "2005-02-28", 1, api.SNone, false), api.ErrBond, "stub")
	hasNot(t, named(t, "2004-02-28", "2005-02-28", 1, api.SNone, true), api.ErrBond, "stub")
	has(t, named(t, "2004-04-30", "2005-10-30", 2, api.SNone, true), "2004-04-30 2004-10-30, 2004-10-30 2005-04-30, 2005-04-30 2005-10-30")
}

func TestStubs(t *testing.T) {
	short := func(issue, want string) {
		t.Helper()
		has(t, named(t, issue, "2005-01-01", 2, api.SShort, false), want)
	}
	long := func(issue, want string) { t.Helper(); has(t, named(t, issue, "2005-01-01", 2, api.SLong, false), want) }
	short("2004-12-31", "2004-12-31 2005-01-01")
	long("2004-12-31", "2004-12-31 2005-01-01")
	short("2004-07-02", "2004-07-02 2005-01-01")
	long("2004-07-02", "2004-07-02 2005-01-01")
	short("2004-07-01", "2004-07-01 2005-01-01")
	long("2004-07-01", "2004-07-01 2005-01-01")
	short("2004-06-30", "2004-06-30 2004-07-01, 2004-07-01 2005-01-01")
	long("2004-06-30", "2004-06-30 2005-01-01")
	short("2004-01-02", "2004-01-02 2004-07-01, 2004-07-01 2005-01-01")
	long("2004-01-02", "2004-01-02 2005-01-01")
	long("2004-01-01", "2004-01-01 2004-07-01, 2004-07-01 2005-01-01")
	short("2003-12-31", "2003-12-31 2004-01-01, 2004-01-01 2004-07-01, 2004-07-01 2005-01-01")
	long("2003-12-31", "2003-12-31 2004-07-01, 2004-07-01 2005-01-01")
	// where there is no anchor ahead of Issue
	has(t, some(1, 14, 1, api.SShort, false), "1900-01-02 1900-01-15")
	has(t, some(1, 14, 1, api.SLong, false), "1900-01-02 1900-01-15")
	has(t, some(0, 14+31, 12, api.SShort, false), "1900-01-01 1900-01-15, 1900-01-15 1900-02-15")
	has(t, some(0, 14+31, 12, api.SLong, false), "1900-01-01 1900-02-15")
}

func TestStubsThatShouldNotBe(t *testing.T) {
	for _, issue := range []string{"2004-12-31", "2004-07-02", "2004-06-30", "2004-01-02", "2003-12-31", "1990-05-05"} {
		hasNot(t, named(t, issue, "2005-01-01", 2, api.SNone, false), api.ErrBond, "stub")
		hasNot(t, named(t, issue, "2005-01-01", 2, api.SNone, true), api.ErrBond, "stub")
	}
	hasNot(t, some(1, 14, 1, api.SNone, false), api.ErrBond, "stub")
	hasNot(t, some(0, 14+31, 12, api.SNone, false), api.ErrBond, "stub")
}

// wrongBonds gives bonds that may not be, each wrong in one thing.
func wrongBonds() []api.Bond {
	var l []api.Bond
	add := func(spoil func(*api.Bond)) {
		// January 1 of 2000 and of 2005.
		b := some(36524, 38351, 2, api.SShort, false)
		spoil(&b)
		l = append(l, b)
	}
	for _, day := range noDays() {
		add(func(b *api.Bond) { b.Issue = day })
		add(func(b *api.Bond) { b.Mature = day })
	}
	for _, n := range []int{0, -1, 3, 6, 24, 1<<32 + 2, math.MaxInt, math.MinInt, math.MinInt + 2} {
		add(func(b *api.Bond) { b.Freq = n })
	}
	for _, n := range []int{-1, 5, 31, 1 << 32, math.MaxInt, math.MinInt} {
		add(func(b *api.Bond) { b.Count = n })
		add(func(b *api.Bond) { b.Stub = n })
	}
	for _, n := range []int{-1, 31, 1 << 32, math.MaxInt, math.MinInt} {
		add(func(b *api.Bond) { b.Ex = n })
	}
	for _, s := range []string{"", "x", "-1", "01", "30.000001", "1.0000000"} {
		add(func(b *api.Bond) { b.Coupon = s })
	}
	for _, s := range []string{"", "0", "-100", "x", "200.000001", "1.0000000"} {
		add(func(b *api.Bond) { b.Redeem = s })
	}
	add(func(b *api.Bond) { b.Issue = b.Mature })
	add(func(b *api.Bond) { b.Issue = b.Mature + 1 })
	add(func(b *api.Bond) { b.Mature += 10000 })                    // of more than 30 years
	add(func(b *api.Bond) { b.Freq, b.Mature = 12, b.Mature+6000 }) // of too many flows
	add(func(b *api.Bond) { *b = api.Bond{} })
	return l
}

func TestBondsThatMayNotBe(t *testing.T) {
	for _, b := range wrongBonds() {
		want, ok := bond.Check(b).(*fault.Fault)
		if !ok {
			t.Fatalf("%+v may be", b)
		}
		// A stub that should not be comes behind all that Check finds.
		lacking := b
		lacking.Issue, lacking.Stub = b.Issue+1, b.Stub&^api.SShort
		for _, b := range []api.Bond{b, lacking} {
			if f, ok := bond.Check(b).(*fault.Fault); ok && *f == *want {
				hasNot(t, b, want.Code, want.At)
			}
		}
		// at anchors, at no anchors, and at no days
		for _, end := range append(noDays(), b.Mature, 38351, 38351-184, 38350, 0, api.MaxDay) {
			got, err := plan.Quasi(b, end)
			if got != 0 {
				t.Fatalf("Quasi %+v, %d: %d", b, end, got)
			}
			is(t, err, want.Code, want.At)
			regular(t, b, end, end, false)
		}
		// July 1, 2004, and January 1, 2005
		regular(t, b, 38167, 38351, false)
		regular(t, b, 0, 0, false)
	}
	regular(t, some(36524, 38351, 2, api.SShort, false), 38167, 38351, true)
}

func TestQuasi(t *testing.T) {
	for stub := api.SNone; stub <= api.SLong; stub++ {
		// Anchors are there whatever the stub, and even of a bond that lets none
		// though it needs one.
		b := named(t, "2003-11-10", "2005-01-01", 2, stub, false)
		at := func(s string) int { return dayOf(t, s) }
		quasi(t, b, at("2005-01-01"), at("2004-07-01"))
		quasi(t, b, at("2004-07-01"), at("2004-01-01"))
		quasi(t, b, at("2004-01-01"), at("2003-07-01")) // ahead of Issue
		for _, s := range []string{"2003-07-01", "2003-11-10", "2003-11-11", "2004-01-02", "2004-06-30", "2004-07-02", "2004-10-01", "2004-12-31", "2005-01-02", "2005-07-01"} {
			quasiNot(t, b, at(s))
		}
		// An anchor that is Issue is not behind it.
		b.Issue = at("2004-07-01")
		quasi(t, b, at("2005-01-01"), at("2004-07-01"))
		quasiNot(t, b, at("2004-07-01"))
		for _, day := range noDays() {
			quasiNot(t, b, day)
		}
	}
	// of months that have no such day, and back
	b := named(t, "2004-01-10", "2005-03-31", 12, api.SShort, false)
	quasi(t, b, dayOf(t, "2005-03-31"), dayOf(t, "2005-02-28"))
	quasi(t, b, dayOf(t, "2005-02-28"), dayOf(t, "2005-01-31"))
	quasi(t, b, dayOf(t, "2004-02-29"), dayOf(t, "2004-01-31"))
	quasi(t, b, dayOf(t, "2004-01-31"), dayOf(t, "2003-12-31"))
	quasiNot(t, b, dayOf(t, "2004-02-28"))
	b = named(t, "2004-01-10", "2005-02-28", 2, api.SShort, true)
	quasi(t, b, dayOf(t, "2005-02-28"), dayOf(t, "2004-08-31"))
	quasi(t, b, dayOf(t, "2004-08-31"), dayOf(t, "2004-02-29"))
	quasiNot(t, b, dayOf(t, "2004-08-28"))
}

func TestQuasiBeyond1900(t *testing.T) {
	for freq, first := range map[int]string{1: "1901-01-01", 2: "1900-07-01", 4: "1900-04-01", 12: "1900-02-01"} {
		// The first day that has an anchor ahead of it has 1900's first.
		b := some(0, dayOf(t, first), freq, api.SShort, false)
		quasi(t, b, b.Mature, 0)
		regular(t, b, 0, b.Mature, true)
		has(t, b, "1900-01-01 "+first)
		b = some(0, b.Mature-1, freq, api.SShort, false)
		quasiNot(t, b, b.Mature)
		for start := -400; start < b.Mature; start++ {
			regular(t, b, start, b.Mature, false)
		}
	}
	b := some(10, 14+31, 12, api.SLong, false)
	quasi(t, b, 14+31, 14)
	quasiNot(t, b, 14)
	for start := -100; start < 14; start++ {
		regular(t, b, start, 14, false)
	}
}

func TestRegular(t *testing.T) {
	at := func(s string) int { return dayOf(t, s) }
	for stub := api.SNone; stub <= api.SLong; stub++ {
		b := named(t, "2003-11-10", "2005-01-01", 2, stub, false)
		regular(t, b, at("2004-07-01"), at("2005-01-01"), true)
		regular(t, b, at("2004-01-01"), at("2004-07-01"), true)
		regular(t, b, at("2003-07-01"), at("2004-01-01"), true)  // begins ahead of Issue
		regular(t, b, at("2003-01-01"), at("2003-07-01"), false) // ends ahead of it
		regular(t, b, at("2005-01-01"), at("2005-07-01"), false)
		regular(t, b, at("2004-01-01"), at("2005-01-01"), false)
		regular(t, b, at("2003-11-10"), at("2004-01-01"), false)
		regular(t, b, at("2003-11-10"), at("2004-07-01"), false)
		regular(t, b, at("2004-07-02"), at("2005-01-02"), false)
		regular(t, b, at("2004-07-02"), at("2005-01-01"), false)
		regular(t, b, at("2004-06-30"), at("2005-01-01"), false)
		regular(t, b, at("2005-01-01"), at("2004-07-01"), false)
		regular(t, b, at("2005-01-01"), at("2005-01-01"), false)
		for _, day := range noDays() {
			regular(t, b, day, at("2005-01-01"), false)
			regular(t, b, at("2004-07-01"), day, false)
			regular(t, b, day, day, false)
		}
		// one that ends at Issue
		b.Issue = at("2004-07-01")
		regular(t, b, at("2004-01-01"), at("2004-07-01"), false)
		regular(t, b, at("2004-07-01"), at("2005-01-01"), true)
	}
}

func TestAt(t *testing.T) {
	ps := []api.Period{{Start: 10, End: 20}, {Start: 20, End: 21}, {Start: 21, End: 40}}
	for day, want := range map[int]int{9: -1, 10: 0, 19: 0, 20: 1, 21: 2, 22: 2, 39: 2, 40: -1, 41: -1, 0: -1, -10: -1, math.MaxInt: -1, math.MinInt: -1} {
		if got := plan.At(ps, day); got != want {
			t.Errorf("At %d: %d, not %d", day, got, want)
		}
	}
	if plan.At(nil, 0) != -1 || plan.At([]api.Period{}, 0) != -1 || plan.At([]api.Period{{}}, 0) != -1 {
		t.Errorf("At of none")
	}
	// periods that are no schedule: gaps, empty and backward ones, falling ones, huge ones
	odd := []api.Period{{Start: 5, End: 5}, {Start: 9, End: 3}, {Start: 50, End: 60}, {Start: 5, End: 7}, {Start: math.MinInt, End: -7}, {Start: 100, End: math.MaxInt}}
	for day, want := range map[int]int{5: 3, 6: 3, 7: -1, 8: -1, 4: -1, 55: 2, 60: -1, math.MinInt: 4, -8: 4, -7: -1, 100: 5, math.MaxInt - 1: 5, math.MaxInt: -1} {
		if got := plan.At(odd, day); got != want {
			t.Errorf("At %d of odd periods: %d, not %d", day, got, want)
		}
	}
	long := make([]api.Period, 100000)
	for k := range long {
		long[k] = api.Period{Start: k, End: k + 1}
	}
	if plan.At(long, 99999) != 99999 || plan.At(long, 100000) != -1 {
		t.Errorf("At of a long list")
	}
}

func TestAdjusted(t *testing.T) {
	// ends on a Sunday, a Wednesday, a Sunday and a Saturday
	b := named(t, "2004-01-31", "2005-12-31", 2, api.SLong, true)
	b.Issue = dayOf(t, "2004-04-15")
	c, err := cal.New([]api.Rule{{Kind: api.HFixed, Month: 12, Day: 30}, {Kind: api.HFixed, Month: 6, Day: 30}})
	if err != nil {
		t.Fatal(err)
	}
	for _, x := range []struct {
		c    *cal.Cal
		rule int
		want string
	}{
		{nil, api.RNone, "2004-12-31 2005-06-30 2005-12-31"},
		{c, api.RNone, "2004-12-31 2005-06-30 2005-12-31"},
		{nil, api.RFollowing, "2004-12-31 2005-06-30 2006-01-02"},
		{c, api.RFollowing, "2004-12-31 2005-07-01 2006-01-02"},
		{nil, api.RModFollow, "2004-12-31 2005-06-30 2005-12-30"},
		{c, api.RModFollow, "2004-12-31 2005-06-29 2005-12-29"},
		{nil, api.RPreceding, "2004-12-31 2005-06-30 2005-12-30"},
		{c, api.RPreceding, "2004-12-31 2005-06-29 2005-12-29"},
		{c, api.RModPrecede, "2004-12-31 2005-06-29 2005-12-29"},
		{new(cal.Cal), api.RFollowing, "2004-12-31 2005-06-30 2006-01-02"},
	} {
		days, err := plan.Adjusted(b, x.c, x.rule)
		var l []string
		for _, day := range days {
			l = append(l, date.Text(day))
		}
		if got := strings.Join(l, " "); err != nil || got != x.want {
			t.Errorf("Adjusted by %d: %s, %v, not %s", x.rule, got, err, x.want)
		}
	}
}

// adjustsNot fails unless Adjusted answers roll.Day's error of that code.
func adjustsNot(t *testing.T, b api.Bond, c *cal.Cal, rule int, code api.Errno) {
	t.Helper()
	if l, err := plan.Adjusted(b, c, rule); l != nil || err != fault.Of(code) {
		t.Fatalf("Adjusted %+v by %d: %v, %v", b, rule, l, err)
	}
}

func TestAdjustedToNone(t *testing.T) {
	b := named(t, "2198-01-01", "2199-12-31", 2, api.SShort, true)
	for _, rule := range []int{-1, 5, 6, 256, 1 << 32, 1<<32 + 1, math.MaxInt, math.MinInt, math.MinInt + 1} {
		adjustsNot(t, b, nil, rule, api.ErrForm)
		adjustsNot(t, b, new(cal.Cal), rule, api.ErrForm)
	}
	// The last of all days is closed, and none is behind it: of the ends ahead nothing is told.
	closed, err := cal.New(nil, api.MaxDay)
	if err != nil {
		t.Fatal(err)
	}
	adjustsNot(t, b, closed, api.RFollowing, api.ErrDate)
	if l, err := plan.Adjusted(b, closed, api.RModFollow); err != nil || l[len(l)-1] != api.MaxDay-1 {
		t.Fatalf("Adjusted back from the last day: %v, %v", l, err)
	}
	// The first of all days on which a bond may pay is closed, and so is that ahead.
	closed, err = cal.New(nil, 0, 1)
	if err != nil {
		t.Fatal(err)
	}
	early := some(0, 1, 12, api.SShort, false)
	adjustsNot(t, early, closed, api.RPreceding, api.ErrDate)
	if l, err := plan.Adjusted(early, closed, api.RModPrecede); err != nil || !slices.Equal(l, []int{2}) {
		t.Fatalf("Adjusted on from the first days: %v, %v", l, err)
	}
}

func TestAnswersAreNotShared(t *testing.T) {
	b := some(36524, 38351, 2, api.SLong, false)
	b.Issue += 10
	first, _ := plan.Of(b)
	days, _ := plan.Adjusted(b, nil, api.RFollowing)
	want, wantDays := slices.Clone(first), slices.Clone(days)
	for _, p := range [][]api.Period{first, first[:cap(first)]} {
		for k := range p {
			p[k] = api.Period{Start: -1, End: -1}
		}
	}
	clear(days[:cap(days)])
	if again, _ := plan.Of(b); !slices.Equal(again, want) {
		t.Errorf("Of is shared")
	}
	if again, _ := plan.Adjusted(b, nil, api.RFollowing); !slices.Equal(again, wantDays) {
		t.Errorf("Adjusted is shared")
	}
	ps := slices.Clone(want)
	plan.At(ps[:2], ps[3].Start)
	if !slices.Equal(ps, want) {
		t.Errorf("At writes")
	}
}

// anyBond gives a bond of days, Freq, Stub and End by chance; it may be.
func anyBond(r *rand.Rand) api.Bond {
	for {
		freq := []int{1, 2, 4, 12}[r.Intn(4)]
		issue := []int{r.Intn(api.MaxDay + 1), r.Intn(500), api.MaxDay - r.Intn(500), 36524 + r.Intn(3000)}[r.Intn(4)]
		long := []int{r.Intn(11000), r.Intn(6000), r.Intn(1000), r.Intn(60)}[r.Intn(4)]
		b := some(issue, issue+long, freq, r.Intn(3), r.Intn(2) == 0)
		if r.Intn(2) == 0 {
			b.Mature = toLast(b.Mature)
		}
		if k := r.Intn(60); r.Intn(2) == 0 && bond.Check(b) == nil {
			if day, ok := anchorBy(b, k); ok {
				b.Issue = day
			}
		}
		if bond.Check(b) == nil {
			return b
		}
	}
}

// toLast gives the last day of a day's month.
func toLast(day int) int {
	c, err := date.Civil(day)
	if err != nil {
		return day
	}
	c.Day = date.Length(c.Year, c.Month)
	day, _ = date.Of(c)
	return day
}

func TestAgainstTheLibrary(t *testing.T) {
	r := rand.New(rand.NewSource(14))
	for n := 0; n < 2000; n++ {
		b := anyBond(r)
		want, ok := planBy(b)
		if !ok {
			hasNot(t, b, api.ErrBond, "stub")
		} else {
			has(t, b, told(want))
			sound(t, b, want)
		}
		quasisBy(t, r, b)
	}
}

// sound fails unless the parts of a schedule fit one another.
func sound(t *testing.T, b api.Bond, ps []api.Period) {
	t.Helper()
	if len(ps) > api.MaxFlows {
		t.Fatalf("%+v: %d periods", b, len(ps))
	}
	var ends []int
	for k, p := range ps {
		if plan.At(ps, p.Start) != k || plan.At(ps, p.End-1) != k {
			t.Fatalf("%+v: At of %d", b, k)
		}
		end, err := roll.Day(nil, p.End, api.RModFollow)
		if err != nil {
			t.Fatal(err)
		}
		ends = append(ends, end)
		if k > 0 {
			regular(t, b, p.Start, p.End, true)
		}
	}
	if plan.At(ps, b.Issue-1) != -1 || plan.At(ps, b.Mature) != -1 {
		t.Fatalf("%+v: At beyond", b)
	}
	if got, err := plan.Adjusted(b, nil, api.RModFollow); err != nil || !slices.Equal(got, ends) {
		t.Fatalf("%+v: Adjusted %v, %v, not %v", b, got, err, ends)
	}
}

// quasisBy compares Quasi and Regular at the anchors of b, and near them, with
// the library's.
func quasisBy(t *testing.T, r *rand.Rand, b api.Bond) {
	t.Helper()
	for k := 0; ; k++ {
		end, ok := anchorBy(b, k)
		if !ok {
			return
		}
		if end <= b.Issue {
			quasiNot(t, b, end)
			return
		}
		near := end - 1 - r.Intn(27)
		quasiNot(t, b, near)
		start, ok := anchorBy(b, k+1)
		if !ok {
			quasiNot(t, b, end)
			regular(t, b, start, end, false)
			continue
		}
		quasi(t, b, end, start)
		regular(t, b, start, end, true)
		regular(t, b, near, end, false)
		regular(t, b, start, near, false)
		// not of two anchors that are no neighbours
		if far, ok := anchorBy(b, k+2); ok {
			regular(t, b, far, end, false)
		}
	}
}
