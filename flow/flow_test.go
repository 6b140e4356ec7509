package flow_test

import (
	"errors"
	"math"
	"math/big"
	"math/rand"
	"slices"
	"strings"
	"testing"
	"time"

	"rentier/api"
	"rentier/bond"
	"rentier/date"
	"rentier/fault"
	"rentier/flow"
	"rentier/plan"
	"rentier/rat"
)

// noDays are whole numbers that are no days.
func noDays() []int {
	return []int{-1, -2, -31, -365, api.MaxDay + 1, api.MaxDay + 2, 1 << 31, 1 << 32, 1<<32 + 36524, -1 << 31, -1 << 32, math.MaxInt, math.MaxInt - 1, math.MinInt, math.MinInt + 1}
}

// counts are the kinds of counts of days.
func counts() []int { return []int{api.CThirty, api.CAct360, api.CAct365, api.CActAct} }

// plain are those that don't go by the anchors.
func plain() []int { return counts()[:3] }

// dayOf gives the number of a day's text.
func dayOf(t *testing.T, text string) int {
	t.Helper()
	day, err := date.Get(text)
	if err != nil {
		t.Fatalf("%q is no day", text)
	}
	return day
}

// period gives one from and to days that are texts.
func period(t *testing.T, start, end string) api.Period {
	t.Helper()
	return api.Period{Start: dayOf(t, start), End: dayOf(t, end)}
}

// some gives a bond from one day to another that may be.
func some(issue, mature, freq, kind, stub int) api.Bond {
	return api.Bond{Issue: issue, Mature: mature, Freq: freq, Coupon: "6", Redeem: "100", Count: kind, Stub: stub}
}

// named is some from and to days that are texts.
func named(t *testing.T, issue, mature string, freq, kind, stub int) api.Bond {
	t.Helper()
	return some(dayOf(t, issue), dayOf(t, mature), freq, kind, stub)
}

// told tells flows.
func told(fs []api.Flow) string {
	var l []string
	for _, f := range fs {
		l = append(l, date.Text(f.Day)+" "+f.Amount)
	}
	return strings.Join(l, ", ")
}

// is fails unless err is a Fault of that code at that place, with nothing
// behind it; without a place unless it is that of fault.Of.
func is(t *testing.T, err error, code api.Errno, at string) {
	t.Helper()
	if at == "" {
		if err != fault.Of(code) {
			t.Fatalf("%v, not error %d", err, code)
		}
		return
	}
	f, ok := err.(*fault.Fault)
	if !ok || *f != (fault.Fault{Code: code, At: at}) || !errors.Is(err, fault.Of(code)) {
		t.Fatalf("%v, not %q: error %d", err, at, code)
	}
}

// has fails unless that is the part of a year.
func has(t *testing.T, b api.Bond, p api.Period, from, to int, want string) {
	t.Helper()
	got, err := flow.Part(b, p, from, to)
	if err != nil || got == nil || got.Text() != want {
		t.Fatalf("Part %+v, %s to %s, of %s to %s: %s, %v, not %s", b, date.Text(from), date.Text(to), date.Text(p.Start), date.Text(p.End), got.Text(), err, want)
	}
}

// hasNot fails unless Part answers an error of that code without a place.
func hasNot(t *testing.T, b api.Bond, p api.Period, from, to int, code api.Errno) {
	t.Helper()
	got, err := flow.Part(b, p, from, to)
	if got != nil || err != fault.Of(code) {
		t.Fatalf("Part %+v, %d to %d, of %+v: %s, %v, not error %d", b, from, to, p, got.Text(), err, code)
	}
}

// pays fails unless that is what is paid of a period.
func pays(t *testing.T, b api.Bond, p api.Period, want string) {
	t.Helper()
	got, err := flow.Pay(b, p)
	if err != nil || got == nil || got.Text() != want {
		t.Fatalf("Pay %+v, %s to %s: %s, %v, not %s", b, date.Text(p.Start), date.Text(p.End), got.Text(), err, want)
	}
}

// paysNot fails unless Pay answers an error of that code without a place.
func paysNot(t *testing.T, b api.Bond, p api.Period, code api.Errno) {
	t.Helper()
	got, err := flow.Pay(b, p)
	if got != nil || err != fault.Of(code) {
		t.Fatalf("Pay %+v, %+v: %s, %v, not error %d", b, p, got.Text(), err, code)
	}
}

// gives fails unless those are the flows of b.
func gives(t *testing.T, b api.Bond, want string) {
	t.Helper()
	if fs, err := flow.Of(b); err != nil || told(fs) != want {
		t.Fatalf("Of %+v: %s, %v, not %s", b, told(fs), err, want)
	}
}

// leaves fails unless those are the flows of b that are left on settle.
func leaves(t *testing.T, b api.Bond, settle int, want string) {
	t.Helper()
	if fs, err := flow.Left(b, settle); err != nil || told(fs) != want {
		t.Fatalf("Left %+v, %s: %s, %v, not %s", b, date.Text(settle), told(fs), err, want)
	}
}

// leavesNot fails unless Left answers an error of that code without a place.
func leavesNot(t *testing.T, b api.Bond, settle int, code api.Errno) {
	t.Helper()
	if fs, err := flow.Left(b, settle); fs != nil || err != fault.Of(code) {
		t.Fatalf("Left %+v, %d: %s, %v, not error %d", b, settle, told(fs), err, code)
	}
}

// lowest gives a fraction's text in lowest terms.
func lowest(t *testing.T, text string) string {
	t.Helper()
	r, ok := new(big.Rat).SetString(text)
	if !ok {
		t.Fatalf("%q is no fraction", text)
	}
	return r.RatString()
}

// Of the counts that don't go by the anchors a period may be any at all.
func TestPartByDays(t *testing.T) {
	for _, x := range []struct {
		start, end, from, to   string
		thirty, act360, act365 string
	}{
		{"2004-07-01", "2005-01-01", "2004-07-01", "2005-01-01", "180/360", "184/360", "184/365"},
		{"2004-07-01", "2005-01-01", "2004-07-01", "2004-07-01", "0", "0", "0"},
		{"2004-07-01", "2005-01-01", "2005-01-01", "2005-01-01", "0", "0", "0"},
		{"2004-07-01", "2005-01-01", "2004-07-31", "2004-08-31", "30/360", "31/360", "31/365"},
		{"2004-07-01", "2005-01-01", "2004-07-30", "2004-07-31", "0", "1/360", "1/365"},
		{"2004-01-01", "2004-07-01", "2004-02-28", "2004-03-01", "3/360", "2/360", "2/365"},
		// a stub, a longer one, one that is none of the bond's, one beyond its life
		{"2003-11-16", "2004-01-01", "2003-11-16", "2004-01-01", "45/360", "46/360", "46/365"},
		{"2003-11-16", "2004-07-01", "2003-12-31", "2004-05-31", "150/360", "152/360", "152/365"},
		{"2004-02-03", "2004-11-12", "2004-02-03", "2004-11-12", "279/360", "283/360", "283/365"},
		{"1900-01-01", "2199-12-31", "1900-01-01", "2199-12-31", "107999/360", "109572/360", "109572/365"},
		// one that is empty
		{"2004-02-03", "2004-02-03", "2004-02-03", "2004-02-03", "0", "0", "0"},
	} {
		p := period(t, x.start, x.end)
		for kind, want := range map[int]string{api.CThirty: x.thirty, api.CAct360: x.act360, api.CAct365: x.act365} {
			for stub := api.SShort; stub <= api.SLong; stub++ {
				b := named(t, "2003-11-16", "2005-01-01", 2, kind, stub)
				has(t, b, p, dayOf(t, x.from), dayOf(t, x.to), lowest(t, want))
			}
		}
	}
}

func TestPartByAnchors(t *testing.T) {
	for _, x := range []struct {
		freq                 int
		start, end, from, to string
		want                 string
	}{
		// regular ones: of halves of a year, of a quarter, a year, a month
		{2, "2004-07-01", "2005-01-01", "2004-07-01", "2005-01-01", "1/2"},
		{2, "2004-07-01", "2005-01-01", "2004-07-01", "2004-07-02", "1/368"},
		{2, "2004-07-01", "2005-01-01", "2004-12-31", "2005-01-01", "1/368"},
		{2, "2004-07-01", "2005-01-01", "2004-07-01", "2004-07-01", "0"},
		{2, "2004-07-01", "2005-01-01", "2005-01-01", "2005-01-01", "0"},
		{2, "2004-01-01", "2004-07-01", "2004-02-01", "2004-03-01", "29/364"},
		{4, "2004-10-01", "2005-01-01", "2004-10-01", "2004-11-01", "31/368"},
		{1, "2004-01-01", "2005-01-01", "2004-01-01", "2004-02-01", "31/366"},
		{12, "2004-02-01", "2004-03-01", "2004-02-01", "2004-02-11", "10/348"},
		// one that begins ahead of Issue, which is November 16, 2003
		{2, "2003-07-01", "2004-01-01", "2003-07-01", "2004-01-01", "1/2"},
		{2, "2003-07-01", "2004-01-01", "2003-07-03", "2003-07-04", "1/368"},
		// a short stub, of the quasi-period from July 1, 2003, on
		{2, "2003-11-16", "2004-01-01", "2003-11-16", "2004-01-01", "46/368"},
		{2, "2003-11-16", "2004-01-01", "2003-11-17", "2003-12-17", "30/368"},
		{1, "2003-11-16", "2004-01-01", "2003-11-16", "2004-01-01", "46/365"},
		// a long one, and its quasi-periods of 184 and of 182 days
		{2, "2003-11-16", "2004-07-01", "2003-11-16", "2004-07-01", "5/8"},
		{2, "2003-11-16", "2004-07-01", "2003-11-16", "2003-11-16", "0"},
		{2, "2003-11-16", "2004-07-01", "2003-11-16", "2004-01-01", "46/368"},
		{2, "2003-11-16", "2004-07-01", "2003-11-16", "2004-01-02", "93/728"},
		{2, "2003-11-16", "2004-07-01", "2003-12-31", "2004-01-01", "1/368"},
		{2, "2003-11-16", "2004-07-01", "2004-01-01", "2004-01-01", "0"},
		{2, "2003-11-16", "2004-07-01", "2004-01-01", "2004-01-02", "1/364"},
		{2, "2003-11-16", "2004-07-01", "2003-12-31", "2004-01-02", "183/33488"},
		{2, "2003-11-16", "2004-07-01", "2004-07-01", "2004-07-01", "0"},
		{12, "2003-11-16", "2004-01-01", "2003-11-16", "2004-01-01", "1/8"},
		{12, "2003-11-16", "2004-01-01", "2003-11-30", "2003-12-02", "61/11160"},
		// several regular ones as one, and such that begin at no anchor
		{2, "2004-01-01", "2005-01-01", "2004-01-01", "2005-01-01", "1"},
		{4, "2004-01-01", "2005-01-01", "2004-01-01", "2004-12-31", "367/368"},
		{4, "2004-02-01", "2005-01-01", "2004-02-01", "2005-01-01", "333/364"},
		{2, "2004-09-29", "2005-01-01", "2004-09-29", "2005-01-01", "94/368"},
		{2, "2004-03-31", "2005-01-01", "2004-03-31", "2005-01-01", "137/182"},
		{2, "2005-01-01", "2005-01-01", "2005-01-01", "2005-01-01", "0"},
	} {
		p := period(t, x.start, x.end)
		for stub := api.SShort; stub <= api.SLong; stub++ {
			b := named(t, "2003-11-16", "2005-01-01", x.freq, api.CActAct, stub)
			has(t, b, p, dayOf(t, x.from), dayOf(t, x.to), lowest(t, x.want))
		}
	}
}

// Quasi-periods go from month's end to month's end only where the bond does.
func TestPartAtMonthsEnds(t *testing.T) {
	b := named(t, "2003-12-10", "2004-11-30", 4, api.CActAct, api.SLong)
	plain, ends := period(t, "2003-12-10", "2004-05-30"), period(t, "2003-12-10", "2004-05-31")
	to := dayOf(t, "2004-03-31")
	// 81 days of those from November 30 to February 29, 31 of those behind
	has(t, b, plain, plain.Start, to, lowest(t, "112/364"))
	hasNot(t, b, ends, ends.Start, to, api.ErrDate)
	b.End = true
	has(t, b, ends, ends.Start, to, "10273/33488") // 81/364 and 31/368
	hasNot(t, b, plain, plain.Start, to, api.ErrDate)
}

// By the anchors, the error of a period that they can't cut comes ahead of that
// of days that are not within it.
func TestPartOfNoAnchors(t *testing.T) {
	for stub := api.SShort; stub <= api.SLong; stub++ {
		b := named(t, "2003-11-16", "2005-01-01", 2, api.CActAct, stub)
		start, end := b.Issue, dayOf(t, "2004-07-01")
		var wrong []api.Period
		// ends that are no anchors, or not behind Issue
		for _, s := range []string{"2004-06-30", "2004-07-02", "2004-10-01", "2004-12-31", "2005-01-02", "2005-07-01", "2003-07-01", "2003-01-01", "2003-11-16"} {
			day := dayOf(t, s)
			wrong = append(wrong, api.Period{Start: min(start, day-1), End: day}, api.Period{Start: day - 1, End: day})
		}
		// cut up to an anchor that is not behind Issue
		for _, day := range []int{dayOf(t, "2003-06-30"), dayOf(t, "2003-01-01"), 0} {
			wrong = append(wrong, api.Period{Start: day, End: end}, api.Period{Start: day, End: b.Mature})
		}
		for _, day := range noDays() {
			wrong = append(wrong, api.Period{Start: min(day, start), End: max(day, end)})
		}
		for _, p := range wrong {
			for _, day := range append(noDays(), 0, p.Start, p.End, start, end) {
				hasNot(t, b, p, day, day, api.ErrDate)
				hasNot(t, b, p, p.Start, day, api.ErrDate)
				hasNot(t, b, p, day, p.End, api.ErrDate)
				hasNot(t, b, p, p.End, p.Start, api.ErrDate)
			}
			paysNot(t, b, p, api.ErrDate)
		}
	}
}

// early gives bonds of which a quasi-period would begin beyond 1900.
func early(kind, stub int) []api.Bond {
	return []api.Bond{
		some(19, 165, 2, kind, stub), // to June 15, 1900
		some(1, 14, 1, kind, stub),
		some(0, 30, 12, kind, stub),
		some(0, 180, 2, kind, stub),    // to June 30
		some(0, 45+28, 12, kind, stub), // to March 15
		some(3, 364+364, 1, kind, stub),
	}
}

func TestBeyond1900(t *testing.T) {
	for stub := api.SShort; stub <= api.SLong; stub++ {
		for _, b := range early(api.CActAct, stub) {
			fs, err := flow.Of(b)
			if fs != nil {
				t.Fatalf("Of %+v: %s", b, told(fs))
			}
			is(t, err, api.ErrDate, "")
			// ahead of days that are not of the bond's life, or of the period
			for _, day := range append(noDays(), 0, b.Issue-1, b.Issue, b.Mature-1, b.Mature) {
				leavesNot(t, b, day, api.ErrDate)
				hasNot(t, b, api.Period{Start: b.Issue, End: b.Mature}, day, day, api.ErrDate)
				hasNot(t, b, api.Period{Start: b.Issue, End: b.Mature}, b.Mature, day, api.ErrDate)
			}
			paysNot(t, b, api.Period{Start: b.Issue, End: b.Mature}, api.ErrDate)
			// Other counts don't ask for it.
			for _, kind := range plain() {
				b.Count = kind
				if fs, err := flow.Of(b); err != nil || len(fs) == 0 {
					t.Fatalf("Of %+v: %v", b, err)
				}
				leavesNot(t, b, b.Issue-1, api.ErrTime)
				leavesNot(t, b, b.Mature, api.ErrTime)
			}
		}
	}
	// the first of all quasi-periods
	b := some(30, 181, 2, api.CActAct, api.SShort)
	gives(t, b, "1900-07-01 18553/181")
	pays(t, b, api.Period{Start: 0, End: 181}, "3")
	gives(t, some(19, 165, 2, api.CAct365, api.SShort), "1900-06-15 512/5")
}

// By any count.
func TestPartBeyondThePeriod(t *testing.T) {
	for _, kind := range counts() {
		b := named(t, "2003-11-16", "2005-01-01", 2, kind, api.SLong)
		for _, p := range []api.Period{period(t, "2003-11-16", "2004-07-01"), period(t, "2004-07-01", "2005-01-01")} {
			hasNot(t, b, p, p.Start-1, p.End, api.ErrTime)
			hasNot(t, b, p, p.Start-1, p.Start-1, api.ErrTime)
			hasNot(t, b, p, p.Start, p.End+1, api.ErrTime)
			hasNot(t, b, p, p.End+1, p.End+1, api.ErrTime)
			hasNot(t, b, p, p.Start-1, p.End+1, api.ErrTime)
			hasNot(t, b, p, p.Start+1, p.Start, api.ErrTime)
			hasNot(t, b, p, p.End, p.End-1, api.ErrTime)
			hasNot(t, b, p, p.End, p.Start, api.ErrTime)
			for _, day := range noDays() {
				hasNot(t, b, p, day, p.End, api.ErrTime)
				hasNot(t, b, p, p.Start, day, api.ErrTime)
				hasNot(t, b, p, day, day, api.ErrTime)
			}
			// a period that is backward
			back := api.Period{Start: p.End, End: p.Start}
			for _, day := range []int{p.Start, p.End, p.Start - 1, p.End + 1, 0, -1} {
				hasNot(t, b, back, day, day, api.ErrTime)
				hasNot(t, b, back, back.Start, back.End, api.ErrTime)
				hasNot(t, b, back, back.End, back.Start, api.ErrTime)
			}
			paysNot(t, b, back, api.ErrTime)
		}
	}
}

// Of counts that don't go by the anchors, a period may reach beyond all days,
// its part may not.
func TestPartOfNoDays(t *testing.T) {
	for _, kind := range plain() {
		b := named(t, "2003-11-16", "2005-01-01", 2, kind, api.SLong)
		all := api.Period{Start: math.MinInt, End: math.MaxInt}
		for _, day := range noDays() {
			hasNot(t, b, all, min(day, b.Issue), max(day, b.Issue), api.ErrDate)
			hasNot(t, b, all, day, day, api.ErrDate)
			hasNot(t, b, api.Period{Start: day, End: day}, day, day, api.ErrDate)
			paysNot(t, b, api.Period{Start: min(day, b.Issue), End: max(day, b.Issue)}, api.ErrDate)
		}
		paysNot(t, b, all, api.ErrDate)
		has(t, b, all, b.Issue, b.Issue, "0")
		has(t, b, all, api.MaxDay, api.MaxDay, "0")
		// ErrTime is the first of the two.
		hasNot(t, b, api.Period{Start: -5, End: 100}, -6, 0, api.ErrTime)
		hasNot(t, b, api.Period{Start: -5, End: 100}, 0, -1, api.ErrTime)
		hasNot(t, b, api.Period{Start: 0, End: api.MaxDay + 5}, 0, api.MaxDay+6, api.ErrTime)
		hasNot(t, b, api.Period{Start: -5, End: 100}, -5, 0, api.ErrDate)
		hasNot(t, b, api.Period{Start: 0, End: api.MaxDay + 5}, 0, api.MaxDay+5, api.ErrDate)
	}
}

func TestPayOfRegularPeriods(t *testing.T) {
	for freq, want := range map[int]string{1: "33/8", 2: "33/16", 4: "33/32", 12: "11/32"} {
		for _, kind := range counts() {
			for stub := api.SShort; stub <= api.SLong; stub++ {
				b := named(t, "2003-12-10", "2005-12-01", freq, kind, stub)
				b.Coupon = "4.125"
				for end := b.Mature; end > b.Issue; {
					start, err := plan.Quasi(b, end)
					if err != nil {
						t.Fatal(err)
					}
					// The last one begins ahead of Issue.
					pays(t, b, api.Period{Start: start, End: end}, want)
					end = start
				}
			}
		}
	}
	b := named(t, "2004-01-01", "2005-01-01", 4, api.CAct360, api.SNone)
	p := period(t, "2004-10-01", "2005-01-01")
	for coupon, want := range map[string]string{"0": "0", "0.00": "0", "0.000001": "1/4000000", "30": "15/2", "29.999999": "29999999/4000000"} {
		b.Coupon = coupon
		pays(t, b, p, want)
	}
}

func TestPayOfStubs(t *testing.T) {
	for _, x := range []struct {
		start, end                     string
		thirty, act360, act365, actAct string
	}{
		// a short stub, a long one, those of two of the anchors that are no neighbours
		{"2003-11-16", "2004-01-01", "3/4", "23/30", "276/365", "3/4"},
		{"2003-11-16", "2004-07-01", "15/4", "19/5", "1368/365", "15/4"},
		{"2004-01-01", "2005-01-01", "6", "61/10", "2196/365", "6"},
		// one near a regular one, an empty one
		{"2004-07-02", "2005-01-01", "179/60", "61/20", "1098/365", "549/184"},
		{"2004-07-01", "2004-07-01", "0", "0", "0", "0"},
	} {
		p := period(t, x.start, x.end)
		for k, want := range []string{x.thirty, x.act360, x.act365, x.actAct} {
			for stub := api.SShort; stub <= api.SLong; stub++ {
				pays(t, named(t, "2003-11-16", "2005-01-01", 2, counts()[k], stub), p, want)
			}
		}
	}
	b := named(t, "2003-11-16", "2005-01-01", 2, api.CActAct, api.SShort)
	b.Coupon = "0"
	pays(t, b, period(t, "2003-11-16", "2004-01-01"), "0")
	b.Coupon = "0.000001"
	pays(t, b, period(t, "2003-11-16", "2004-01-01"), "1/8000000")
}

func TestKnownFlows(t *testing.T) {
	for _, x := range []struct {
		issue, mature    string
		freq, kind, stub int
		want             string
	}{
		{"2004-01-01", "2005-01-01", 2, api.CActAct, api.SNone, "2004-07-01 3, 2005-01-01 103"},
		{"2004-01-01", "2005-01-01", 2, api.CAct365, api.SLong, "2004-07-01 3, 2005-01-01 103"},
		{"2004-01-01", "2005-01-01", 4, api.CThirty, api.SShort, "2004-04-01 3/2, 2004-07-01 3/2, 2004-10-01 3/2, 2005-01-01 203/2"},
		{"2004-01-01", "2005-01-01", 1, api.CAct360, api.SNone, "2005-01-01 106"},
		{"2004-12-01", "2005-01-01", 12, api.CAct360, api.SNone, "2005-01-01 201/2"},
		{"2003-11-16", "2005-01-01", 2, api.CActAct, api.SShort, "2004-01-01 3/4, 2004-07-01 3, 2005-01-01 103"},
		{"2003-11-16", "2005-01-01", 2, api.CAct360, api.SShort, "2004-01-01 23/30, 2004-07-01 3, 2005-01-01 103"},
		{"2003-11-16", "2005-01-01", 2, api.CActAct, api.SLong, "2004-07-01 15/4, 2005-01-01 103"},
		{"2003-11-16", "2005-01-01", 2, api.CAct365, api.SLong, "2004-07-01 1368/365, 2005-01-01 103"},
		// a lone stub
		{"2004-11-01", "2005-01-01", 2, api.CActAct, api.SShort, "2005-01-01 18583/184"},
		{"2004-11-01", "2005-01-01", 2, api.CThirty, api.SLong, "2005-01-01 101"},
		{"2004-12-31", "2005-01-01", 2, api.CAct360, api.SLong, "2005-01-01 6001/60"},
		{"2004-12-31", "2005-01-01", 2, api.CThirty, api.SLong, "2005-01-01 6001/60"},
		// the last of all days
		{"2199-06-30", "2199-12-31", 2, api.CActAct, api.SNone, "2199-12-31 103"},
	} {
		b := named(t, x.issue, x.mature, x.freq, x.kind, x.stub)
		b.End = x.mature == "2199-12-31"
		gives(t, b, x.want)
		leaves(t, b, b.Issue, x.want)
	}
}

func TestWhatIsRedeemed(t *testing.T) {
	b := named(t, "2004-01-01", "2005-01-01", 2, api.CActAct, api.SNone)
	for redeem, want := range map[string]string{"100": "103", "99.5": "205/2", "0.000001": "3000001/1000000", "200": "203", "33.333333": "36333333/1000000"} {
		b.Redeem, b.Ex = redeem, 0
		gives(t, b, "2004-07-01 3, 2005-01-01 "+want)
		b.Ex = 1
		leaves(t, b, b.Mature-2, "2005-01-01 "+want)
		leaves(t, b, b.Mature-1, "2005-01-01 "+lowest(t, redeem))
	}
	// Nothing is paid on a coupon's day, and told all the same.
	b.Coupon, b.Redeem, b.Ex = "0", "100", 0
	gives(t, b, "2004-07-01 0, 2005-01-01 100")
	leaves(t, b, b.Issue, "2004-07-01 0, 2005-01-01 100")
}

func TestLeft(t *testing.T) {
	const three, two, one = "2004-01-01 3/4, 2004-07-01 3, 2005-01-01 103", "2004-07-01 3, 2005-01-01 103", "2005-01-01 103"
	for _, x := range []struct {
		settle string
		ex     int
		want   string
	}{
		{"2003-11-16", 0, three}, {"2003-12-31", 0, three}, {"2004-01-01", 0, two}, {"2004-06-30", 0, two}, {"2004-07-01", 0, one}, {"2004-12-31", 0, one},
		{"2003-12-31", 1, two}, {"2003-12-30", 1, three}, {"2004-01-01", 1, two}, {"2004-06-29", 1, two}, {"2004-06-30", 1, one}, {"2004-07-01", 1, one}, {"2004-12-30", 1, one}, {"2004-12-31", 1, "2005-01-01 100"},
		{"2003-12-24", 7, three}, {"2003-12-25", 7, two}, {"2003-12-31", 7, two}, {"2004-01-01", 7, two}, {"2004-06-23", 7, two}, {"2004-06-24", 7, one}, {"2004-07-01", 7, one}, {"2004-12-24", 7, one}, {"2004-12-25", 7, "2005-01-01 100"}, {"2004-12-31", 7, "2005-01-01 100"},
		{"2003-12-01", 30, three}, {"2003-12-02", 30, two}, {"2004-05-31", 30, two}, {"2004-06-01", 30, one}, {"2004-12-01", 30, one}, {"2004-12-02", 30, "2005-01-01 100"},
	} {
		b := named(t, "2003-11-16", "2005-01-01", 2, api.CActAct, api.SShort)
		b.Ex = x.ex
		leaves(t, b, dayOf(t, x.settle), x.want)
	}
}

// Where a period is not longer than Ex, its coupon stays with the seller from
// its first day on, and no other one.
func TestLeftOfShortPeriods(t *testing.T) {
	b := named(t, "2004-12-20", "2005-04-01", 12, api.CThirty, api.SShort)
	b.Ex = 30
	leaves(t, b, dayOf(t, "2004-12-20"), "2005-02-01 1/2, 2005-03-01 1/2, 2005-04-01 201/2")
	leaves(t, b, dayOf(t, "2004-12-31"), "2005-02-01 1/2, 2005-03-01 1/2, 2005-04-01 201/2")
	leaves(t, b, dayOf(t, "2005-01-01"), "2005-02-01 1/2, 2005-03-01 1/2, 2005-04-01 201/2")
	leaves(t, b, dayOf(t, "2005-01-02"), "2005-03-01 1/2, 2005-04-01 201/2")
	leaves(t, b, dayOf(t, "2005-01-31"), "2005-03-01 1/2, 2005-04-01 201/2")
	leaves(t, b, dayOf(t, "2005-02-01"), "2005-04-01 201/2")
	leaves(t, b, dayOf(t, "2005-03-01"), "2005-04-01 201/2")
	leaves(t, b, dayOf(t, "2005-03-02"), "2005-04-01 100")
	// a life that is shorter than Ex
	b = named(t, "2004-12-20", "2005-01-01", 1, api.CThirty, api.SShort)
	b.Ex = 12
	leaves(t, b, b.Issue, "2005-01-01 100")
	b.Ex = 11
	leaves(t, b, b.Issue, "2005-01-01 6011/60")
	leaves(t, b, b.Issue+1, "2005-01-01 100")
	b = some(0, 1, 12, api.CAct365, api.SShort)
	b.Ex = 30 // from a day on that is none
	leaves(t, b, 0, "1900-01-02 100")
}

func TestLeftBeyondItsLife(t *testing.T) {
	for _, kind := range counts() {
		for _, ex := range []int{0, 1, 30} {
			b := named(t, "2003-11-16", "2005-01-01", 2, kind, api.SLong)
			b.Ex = ex
			for _, day := range append(noDays(), b.Issue-1, b.Issue-2, b.Mature, b.Mature+1, 0, api.MaxDay) {
				leavesNot(t, b, day, api.ErrTime)
			}
			for _, day := range []int{b.Issue, b.Mature - 1} {
				if fs, err := flow.Left(b, day); err != nil || len(fs) == 0 {
					t.Fatalf("Left %+v, %d: %v", b, day, err)
				}
			}
		}
	}
}

// wrongBonds gives bonds that have no schedule, each wrong in one thing.
func wrongBonds() []api.Bond {
	var l []api.Bond
	add := func(spoil func(*api.Bond)) {
		for _, kind := range counts() {
			// January 1 of 2000 and of 2005.
			b := some(36524, 38351, 2, kind, api.SNone)
			spoil(&b)
			l = append(l, b)
		}
	}
	for _, day := range noDays() {
		add(func(b *api.Bond) { b.Issue = day })
		add(func(b *api.Bond) { b.Mature = day })
	}
	for _, n := range []int{0, -1, 3, 6, 24, 1<<32 + 2, math.MaxInt, math.MinInt, math.MinInt + 2} {
		add(func(b *api.Bond) { b.Freq = n })
	}
	for _, n := range []int{-1, 31, 1 << 32, math.MaxInt, math.MinInt} {
		add(func(b *api.Bond) { b.Count = n })
		add(func(b *api.Bond) { b.Stub = n })
		add(func(b *api.Bond) { b.Ex = n })
	}
	for _, s := range []string{"", "x", "-1", "01", "-0", "1.0000000", "1/2", "201"} {
		add(func(b *api.Bond) { b.Coupon = s })
		add(func(b *api.Bond) { b.Redeem = s })
	}
	add(func(b *api.Bond) { b.Redeem = "0" })
	add(func(b *api.Bond) { b.Issue = b.Mature })
	add(func(b *api.Bond) { b.Mature += 10000 })                    // of more than 30 years
	add(func(b *api.Bond) { b.Freq, b.Mature = 12, b.Mature+6000 }) // of too many flows
	add(func(b *api.Bond) { *b = api.Bond{} })
	// ones that need a stub and let none
	add(func(b *api.Bond) { b.Issue++ })
	add(func(b *api.Bond) { b.Mature++ })
	add(func(b *api.Bond) { b.Issue, b.Mature = 1, 14 })
	return l
}

// The error of a bond that has no schedule comes ahead of all others.
func TestBondsThatMayNotBe(t *testing.T) {
	for _, b := range wrongBonds() {
		_, told := plan.Of(b)
		want, ok := told.(*fault.Fault)
		if !ok {
			t.Fatalf("%+v has a schedule", b)
		}
		fs, err := flow.Of(b)
		if fs != nil {
			t.Fatalf("Of %+v: %v", b, fs)
		}
		is(t, err, want.Code, want.At)
		for _, day := range []int{37000, 36524, 38350, 38351, 0, -1, math.MinInt, math.MaxInt} {
			fs, err := flow.Left(b, day)
			if fs != nil {
				t.Fatalf("Left %+v, %d: %v", b, day, fs)
			}
			is(t, err, want.Code, want.At)
		}
		// July 1, 2004, to January 1, 2005; backward; no period; beyond all days
		for _, p := range []api.Period{{Start: 38167, End: 38351}, {Start: 38351, End: 38167}, {}, {Start: math.MinInt, End: math.MaxInt}} {
			pay, err := flow.Pay(b, p)
			if pay != nil {
				t.Fatalf("Pay %+v, %+v: %s", b, p, pay.Text())
			}
			is(t, err, want.Code, want.At)
			for _, day := range []int{38200, p.Start, p.End, -1} {
				part, err := flow.Part(b, p, p.Start, day)
				if part != nil {
					t.Fatalf("Part %+v, %+v, %d: %s", b, p, day, part.Text())
				}
				is(t, err, want.Code, want.At)
			}
		}
	}
}

// Whoever writes over an answer changes no other one.
func TestAnswersAreNotShared(t *testing.T) {
	seven, err := rat.Of(7, 9)
	if err != nil {
		t.Fatal(err)
	}
	b := named(t, "2003-11-16", "2005-01-01", 2, api.CActAct, api.SShort)
	for _, start := range []string{"2003-11-16", "2003-07-01", "2004-01-01"} {
		p := period(t, start, "2004-01-01")
		pay, err := flow.Pay(b, p)
		if err != nil {
			t.Fatal(err)
		}
		part, err := flow.Part(b, p, p.Start, p.End)
		if err != nil {
			t.Fatal(err)
		}
		wantPay, wantPart := pay.Text(), part.Text()
		*pay, *part = *seven, *seven
		pays(t, b, p, wantPay)
		has(t, b, p, p.Start, p.End, wantPart)
	}
	for _, ex := range []int{0, 30} {
		b.Ex = ex
		for _, settle := range []int{b.Issue, dayOf(t, "2003-12-31"), b.Mature - 1} {
			all, _ := flow.Of(b)
			left, _ := flow.Left(b, settle)
			wantAll, wantLeft := told(all), told(left)
			clear(all[:cap(all)])
			clear(left[:cap(left)])
			gives(t, b, wantAll)
			leaves(t, b, settle, wantLeft)
		}
	}
}

// zero is January 1, 1900, of the library's calendar.
func zero() time.Time { return time.Date(1900, 1, 1, 0, 0, 0, 0, time.UTC) }

// anchorBy gives the k-th anchor of a bond by the library's calendar; false if
// it is ahead of 1900.
func anchorBy(b api.Bond, k int) (int, bool) {
	mature := zero().AddDate(0, 0, b.Mature)
	// The day 0 of a month is the last one of the month ahead.
	last := func(on int) int {
		return time.Date(mature.Year(), mature.Month()+time.Month(on)+1, 0, 0, 0, 0, 0, time.UTC).Day()
	}
	on := -k * 12 / b.Freq
	day := min(mature.Day(), last(on))
	if b.End && mature.Day() == last(0) {
		day = last(on)
	}
	at := time.Date(mature.Year(), mature.Month()+time.Month(on), day, 0, 0, 0, 0, time.UTC)
	return int((at.Unix() - zero().Unix()) / 86400), !at.Before(zero())
}

// anchorsBy gives the anchors of a bond, falling from Mature to the first one
// that is not behind Issue; that is left out if it is ahead of 1900.
func anchorsBy(b api.Bond) []int {
	var l []int
	for k := 0; ; k++ {
		day, ok := anchorBy(b, k)
		if ok {
			l = append(l, day)
		}
		if !ok || day <= b.Issue {
			return l
		}
	}
}

// thirtyBy gives the place of a day in years of months of 30 days.
func thirtyBy(day int) int {
	d := zero().AddDate(0, 0, day)
	return 360*d.Year() + 30*int(d.Month()) + min(d.Day(), 30)
}

// partBy gives the part of a year from a day to another, day by day; false if a
// day is in none of the quasi-periods between anchors, which fall.
func partBy(b api.Bond, anchors []int, from, to int) (*big.Rat, bool) {
	switch b.Count {
	case api.CThirty:
		return big.NewRat(int64(thirtyBy(to)-thirtyBy(from)), 360), true
	case api.CAct360:
		return big.NewRat(int64(to-from), 360), true
	case api.CAct365:
		return big.NewRat(int64(to-from), 365), true
	}
	days := map[int]int64{} // of the quasi-period that ends at an anchor
	for day := from; day < to; day++ {
		k := slices.IndexFunc(anchors, func(anchor int) bool { return anchor <= day })
		if k < 1 {
			return nil, false
		}
		days[k-1]++
	}
	sum := new(big.Rat)
	for k, n := range days {
		sum.Add(sum, big.NewRat(n, int64(b.Freq*(anchors[k]-anchors[k+1]))))
	}
	return sum, true
}

// decimal gives the value of a decimal.
func decimal(text string) *big.Rat {
	r, _ := new(big.Rat).SetString(text)
	return r
}

// flowsBy gives the days and amounts of what a bond pays whoever buys it on
// settle; false if its stub can't be cut.
func flowsBy(b api.Bond, anchors []int, ps []api.Period, settle int) (string, bool) {
	var l []string
	next := true
	for k, p := range ps {
		amount := new(big.Rat).Mul(decimal(b.Coupon), big.NewRat(1, int64(b.Freq)))
		if k == 0 && !slices.Contains(anchors, b.Issue) {
			part, ok := partBy(b, anchors, p.Start, p.End)
			if !ok {
				return "", false
			}
			amount.Mul(decimal(b.Coupon), part)
		}
		if p.End <= settle {
			continue
		}
		ex := next && b.Ex > 0 && settle+b.Ex >= p.End
		next = false
		if ex {
			amount.SetInt64(0)
		}
		if p.End == b.Mature {
			amount.Add(amount, decimal(b.Redeem))
		}
		if !ex || p.End == b.Mature {
			l = append(l, date.Text(p.End)+" "+amount.RatString())
		}
	}
	return strings.Join(l, ", "), true
}

// anyBond gives a bond by chance that has a schedule.
func anyBond(r *rand.Rand) (api.Bond, []api.Period) {
	for {
		issue := []int{r.Intn(api.MaxDay + 1), r.Intn(500), api.MaxDay - r.Intn(500), 36524 + r.Intn(3000)}[r.Intn(4)]
		long := []int{r.Intn(6000), r.Intn(1000), r.Intn(1000), r.Intn(60)}[r.Intn(4)]
		b := some(issue, issue+long, []int{1, 2, 4, 12}[r.Intn(4)], 1+r.Intn(4), r.Intn(3))
		b.Coupon = []string{"0", "4.125", "0.000001", "30", "6.3"}[r.Intn(5)]
		b.Redeem = []string{"100", "99.75", "200", "0.000001"}[r.Intn(4)]
		b.End, b.Ex = r.Intn(2) == 0, r.Intn(2)*r.Intn(31)
		if bond.Check(b) != nil {
			continue
		}
		if c, err := date.Civil(b.Mature); err == nil && r.Intn(3) == 0 {
			c.Day = date.Length(c.Year, c.Month)
			b.Mature, _ = date.Of(c)
		}
		if day, ok := anchorBy(b, 1+r.Intn(8)); ok && r.Intn(3) == 0 {
			b.Issue = day
		}
		if ps, err := plan.Of(b); err == nil {
			return b, ps
		}
	}
}

func TestAgainstTheLibrary(t *testing.T) {
	r := rand.New(rand.NewSource(15))
	cut, uncut := 0, 0
	for n := 0; n < 2500; n++ {
		b, ps := anyBond(r)
		anchors := anchorsBy(b)
		want, ok := flowsBy(b, anchors, ps, -1)
		if !ok {
			uncut++
			leavesNot(t, b, b.Issue, api.ErrDate)
			leavesNot(t, b, b.Mature, api.ErrDate)
			continue
		}
		cut++
		gives(t, b, want)
		for _, day := range daysNear(r, b, ps) {
			want, _ := flowsBy(b, anchors, ps, day)
			leaves(t, b, day, want)
		}
		partsBy(t, r, b, anchors, ps)
	}
	if cut < 1000 || uncut < 10 {
		t.Errorf("%d and %d bonds of both kinds", cut, uncut)
	}
}

// daysNear gives days of a bond's life, some of them near its coupons' and
// those from which these stay with the seller.
func daysNear(r *rand.Rand, b api.Bond, ps []api.Period) []int {
	days := []int{b.Issue, b.Mature - 1}
	for range 4 {
		p := ps[r.Intn(len(ps))]
		days = append(days, p.Start, p.End-1, p.End-b.Ex, p.End-b.Ex-1, b.Issue+r.Intn(b.Mature-b.Issue))
	}
	return slices.DeleteFunc(days, func(day int) bool { return day < b.Issue || day >= b.Mature })
}

// partsBy compares Part and Pay with the library's, of some periods of a bond
// and of some that are two or more of them, or cut off.
func partsBy(t *testing.T, r *rand.Rand, b api.Bond, anchors []int, ps []api.Period) {
	t.Helper()
	for range 3 {
		k := r.Intn(len(ps))
		p := api.Period{Start: ps[r.Intn(min(k+1, 2))].Start, End: ps[k].End}
		if k > 3 {
			p.Start = ps[k-r.Intn(3)].Start + r.Intn(2)*r.Intn(20)
		}
		from := p.Start + r.Intn(p.End-p.Start+1)
		to := from + r.Intn(p.End-from+1)
		for _, x := range [][2]int{{from, to}, {p.Start, to}, {from, p.End}, {from, from}, {p.Start, p.End}} {
			want, ok := partBy(b, anchors, x[0], x[1])
			if !ok {
				t.Fatalf("%+v, %+v: no quasi-periods", b, p)
			}
			has(t, b, p, x[0], x[1], want.RatString())
			if x == [2]int{p.Start, p.End} {
				if at := slices.Index(anchors, p.End); at+1 < len(anchors) && anchors[at+1] == p.Start {
					want.SetFrac64(1, int64(b.Freq))
				}
				pays(t, b, p, want.Mul(want, decimal(b.Coupon)).RatString())
			}
		}
	}
}
