package accr_test

import (
	"errors"
	"math"
	"math/big"
	"math/rand"
	"slices"
	"testing"
	"time"

	"rentier/accr"
	"rentier/api"
	"rentier/bond"
	"rentier/date"
	"rentier/dec"
	"rentier/fault"
	"rentier/plan"
	"rentier/rat"
)

// noDays are whole numbers that are no days.
func noDays() []int {
	return []int{-1, -2, -31, -365, api.MaxDay + 1, api.MaxDay + 2, 1 << 31, 1 << 32, 1<<32 + 38000, -1 << 31, -1 << 32, math.MaxInt, math.MaxInt - 1, math.MinInt, math.MinInt + 1, math.MinInt + 30}
}

// counts are the kinds of counts of days.
func counts() []int { return []int{api.CThirty, api.CAct360, api.CAct365, api.CActAct} }

// modes are those of rounding.
func modes() []int { return []int{api.HalfUp, api.HalfEven, api.Truncate} }

// dayOf gives the number of a day's text.
func dayOf(t *testing.T, text string) int {
	t.Helper()
	day, err := date.Get(text)
	if err != nil {
		t.Fatalf("%q is no day", text)
	}
	return day
}

// some gives a bond from one day to another.
func some(issue, mature, freq, kind, stub int) api.Bond {
	return api.Bond{Issue: issue, Mature: mature, Freq: freq, Coupon: "6", Redeem: "100", Count: kind, Stub: stub}
}

// named is some from and to days that are texts.
func named(t *testing.T, issue, mature string, freq, kind, stub int) api.Bond {
	t.Helper()
	return some(dayOf(t, issue), dayOf(t, mature), freq, kind, stub)
}

// lowest gives a fraction's text in lowest terms.
func lowest(t *testing.T, text string) string {
	t.Helper()
	r, ok := new(big.Rat).SetString(text)
	if !ok {
		t.Fatalf("%q is no fraction", text)
	}
	return r.RatString()
}

// has fails unless so much has accrued.
func has(t *testing.T, b api.Bond, settle int, want string) {
	t.Helper()
	got, err := accr.Of(b, settle)
	if err != nil || got == nil || got.Text() != lowest(t, want) {
		t.Fatalf("Of %+v, %s: %s, %v, not %s", b, date.Text(settle), got.Text(), err, want)
	}
}

// isEx fails unless Ex answers that.
func isEx(t *testing.T, b api.Bond, settle int, want bool) {
	t.Helper()
	if got, err := accr.Ex(b, settle); err != nil || got != want {
		t.Fatalf("Ex %+v, %s: %v, %v, not %v", b, date.Text(settle), got, err, want)
	}
}

// tells fails unless that is the text of what has accrued.
func tells(t *testing.T, b api.Bond, settle, places, mode int, want string) {
	t.Helper()
	if got, err := accr.Text(b, settle, places, mode); err != nil || got != want {
		t.Fatalf("Text %+v, %s, %d, %d: %q, %v, not %q", b, date.Text(settle), places, mode, got, err, want)
	}
}

// is fails unless err is a Fault of that code at that place, with nothing
// behind it; without a place unless it is that of fault.Of.
func is(t *testing.T, err error, code api.Errno, at string) {
	t.Helper()
	if at == "" {
		if err != fault.Of(code) {
			t.Fatalf("%v, not error %d", err, code)
		}
		return
	}
	f, ok := err.(*fault.Fault)
	if !ok || *f != (fault.Fault{Code: code, At: at}) || !errors.Is(err, fault.Of(code)) {
		t.Fatalf("%v, not %q: error %d", err, at, code)
	}
}

// fails fails unless all three answer an error of that code at that place and
// nothing else, whatever places and mode Text is given.
func fails(t *testing.T, b api.Bond, settle int, code api.Errno, at string) {
	t.Helper()
	r, err := accr.Of(b, settle)
	if r != nil {
		t.Fatalf("Of %+v, %d: %s", b, settle, r.Text())
	}
	is(t, err, code, at)
	ex, err := accr.Ex(b, settle)
	if ex {
		t.Fatalf("Ex %+v, %d: true", b, settle)
	}
	is(t, err, code, at)
	for _, x := range [][2]int{{2, api.HalfUp}, {21, api.HalfUp}, {2, 0}, {-1, 4}} {
		text, err := accr.Text(b, settle, x[0], x[1])
		if text != "" {
			t.Fatalf("Text %+v, %d, %d, %d: %q", b, settle, x[0], x[1], text)
		}
		is(t, err, code, at)
	}
}

// Of counts but CActAct what accrues is not bent to what is paid: by CAct360 it
// is above 3 at the end of a half year.
func TestOfRegularPeriods(t *testing.T) {
	for _, x := range []struct{ settle, thirty, act360, act365, actAct string }{
		{"2004-01-01", "0", "0", "0", "0"},
		{"2004-01-02", "6/360", "6/360", "6/365", "3/182"},
		{"2004-01-31", "174/360", "180/360", "180/365", "90/182"},
		{"2004-02-29", "348/360", "354/360", "354/365", "177/182"},
		{"2004-03-01", "360/360", "360/360", "360/365", "180/182"},
		{"2004-04-01", "540/360", "546/360", "546/365", "273/182"},
		{"2004-06-30", "1074/360", "1086/360", "1086/365", "543/182"},
		{"2004-07-01", "0", "0", "0", "0"},
		{"2004-08-31", "354/360", "366/360", "366/365", "183/184"},
		{"2004-12-30", "1074/360", "1092/360", "1092/365", "546/184"},
		{"2004-12-31", "1074/360", "1098/360", "1098/365", "549/184"},
		{"2005-01-01", "0", "0", "0", "0"},
		{"2005-03-01", "360/360", "354/360", "354/365", "177/181"},
		{"2005-06-30", "1074/360", "1080/360", "1080/365", "540/181"},
		{"2005-12-31", "1074/360", "1098/360", "1098/365", "549/184"},
	} {
		for k, want := range []string{x.thirty, x.act360, x.act365, x.actAct} {
			for stub := api.SNone; stub <= api.SLong; stub++ {
				b := named(t, "2004-01-01", "2006-01-01", 2, counts()[k], stub)
				has(t, b, dayOf(t, x.settle), want)
			}
		}
	}
}

func TestOfEachFreq(t *testing.T) {
	for _, x := range []struct {
		freq                           int
		thirty, act360, act365, actAct string
	}{
		{1, "240/360", "246/360", "246/365", "246/366"},
		{2, "240/360", "246/360", "246/365", "123/182"},
		{4, "240/360", "246/360", "246/365", "123/182"},
		{12, "60/360", "60/360", "60/365", "10/58"},
	} {
		for k, want := range []string{x.thirty, x.act360, x.act365, x.actAct} {
			b := named(t, "2004-01-01", "2006-01-01", x.freq, counts()[k], api.SNone)
			has(t, b, dayOf(t, "2004-02-11"), want)
		}
	}
}

func TestOfStubs(t *testing.T) {
	for _, x := range []struct {
		stub                                   int
		settle, thirty, act360, act365, actAct string
	}{
		// of the quasi-period of 184 days from July 1, 2003, on
		{api.SShort, "2003-11-16", "0", "0", "0", "0"},
		{api.SShort, "2003-11-17", "6/360", "6/360", "6/365", "3/184"},
		{api.SShort, "2003-12-31", "264/360", "270/360", "270/365", "135/184"},
		{api.SShort, "2004-01-01", "0", "0", "0", "0"},
		{api.SShort, "2004-03-01", "360/360", "360/360", "360/365", "180/182"},
		{api.SShort, "2004-12-31", "1074/360", "1098/360", "1098/365", "549/184"},
		// and on into that of 182 days from January 1, 2004, on
		{api.SLong, "2003-11-16", "0", "0", "0", "0"},
		{api.SLong, "2003-11-17", "6/360", "6/360", "6/365", "3/184"},
		{api.SLong, "2003-12-31", "264/360", "270/360", "270/365", "135/184"},
		{api.SLong, "2004-01-01", "270/360", "276/360", "276/365", "138/184"},
		{api.SLong, "2004-01-02", "276/360", "282/360", "282/365", "279/364"},
		{api.SLong, "2004-06-30", "1344/360", "1362/360", "1362/365", "1359/364"},
		{api.SLong, "2004-07-01", "0", "0", "0", "0"},
		{api.SLong, "2004-07-02", "6/360", "6/360", "6/365", "3/184"},
	} {
		for k, want := range []string{x.thirty, x.act360, x.act365, x.actAct} {
			b := named(t, "2003-11-16", "2005-01-01", 2, counts()[k], x.stub)
			has(t, b, dayOf(t, x.settle), want)
			isEx(t, b, dayOf(t, x.settle), false)
		}
	}
}

// Half years and years, short and long first periods, worked out by hand: of
// whole periods but their last day, and of quasi-periods of other lengths.
func TestOfWorkedBonds(t *testing.T) {
	for _, x := range []struct {
		issue, mature string
		freq, stub    int
		settle, want  string
	}{
		{"2003-11-01", "2004-05-01", 2, api.SNone, "2004-04-30", "543/182"},
		{"1999-02-01", "2000-07-01", 1, api.SShort, "1999-06-30", "894/365"},
		{"1999-02-01", "2000-07-01", 1, api.SShort, "2000-06-30", "2190/366"},
		{"2002-08-15", "2004-01-15", 2, api.SLong, "2003-01-15", "918/368"},
		{"2002-08-15", "2004-01-15", 2, api.SLong, "2003-07-14", "182439/33304"},
		{"2002-08-15", "2004-01-15", 2, api.SLong, "2003-07-15", "0"},
		{"2002-08-15", "2004-01-15", 2, api.SLong, "2004-01-14", "549/184"},
	} {
		has(t, named(t, x.issue, x.mature, x.freq, api.CActAct, x.stub), dayOf(t, x.settle), x.want)
	}
}

// The period runs from month's end to month's end only where the bond does.
func TestOfMonthsEnds(t *testing.T) {
	b := named(t, "2004-02-29", "2005-02-28", 2, api.CActAct, api.SNone)
	b.End = true
	has(t, b, dayOf(t, "2004-05-31"), "276/184")
	has(t, b, dayOf(t, "2004-08-30"), "549/184")
	has(t, b, dayOf(t, "2004-08-31"), "0")
	b = named(t, "2004-02-28", "2005-02-28", 2, api.CActAct, api.SNone)
	has(t, b, dayOf(t, "2004-05-31"), "279/182")
	has(t, b, dayOf(t, "2004-08-28"), "0")
	has(t, b, dayOf(t, "2004-08-31"), "9/184")
	b = named(t, "2003-08-31", "2004-08-31", 2, api.CThirty, api.SNone)
	has(t, b, dayOf(t, "2004-02-28"), "1068/360") // from August 30 to February 28
	has(t, b, dayOf(t, "2004-02-29"), "0")
	has(t, b, dayOf(t, "2004-08-30"), "1086/360") // from February 29 to August 30
}

func TestOfEachCoupon(t *testing.T) {
	b := named(t, "2004-01-01", "2005-01-01", 2, api.CActAct, api.SNone)
	day := dayOf(t, "2004-07-24") // 23 days of 184
	for coupon, want := range map[string]string{"0": "0", "0.000000": "0", "0.000001": "1/16000000", "4.125": "33/128", "29.999999": "29999999/16000000", "30": "15/8"} {
		for _, redeem := range []string{"100", "0.000001", "200"} {
			b.Coupon, b.Redeem = coupon, redeem
			has(t, b, day, want)
		}
	}
}

func TestExDividend(t *testing.T) {
	for _, x := range []struct {
		settle string
		ex     int
		want   string
		is     bool
	}{
		// none at all
		{"2003-12-31", 0, "135/184", false}, {"2004-01-01", 0, "0", false}, {"2004-06-30", 0, "543/182", false}, {"2004-12-31", 0, "549/184", false},
		// a stub's coupon, which is 3/4
		{"2003-12-30", 1, "132/184", false}, {"2003-12-31", 1, "-3/184", true}, {"2003-12-24", 7, "114/184", false}, {"2003-12-25", 7, "-21/184", true}, {"2003-12-31", 7, "-3/184", true}, {"2003-12-01", 30, "45/184", false}, {"2003-12-02", 30, "-90/184", true},
		// a regular one
		{"2004-01-01", 1, "0", false}, {"2004-06-29", 1, "540/182", false}, {"2004-06-30", 1, "-3/182", true}, {"2004-01-01", 7, "0", false}, {"2004-06-23", 7, "522/182", false}, {"2004-06-24", 7, "-21/182", true}, {"2004-06-30", 7, "-3/182", true}, {"2004-05-31", 30, "453/182", false}, {"2004-06-01", 30, "-90/182", true},
		// the last one
		{"2004-07-01", 1, "0", false}, {"2004-12-30", 1, "546/184", false}, {"2004-12-31", 1, "-3/184", true}, {"2004-12-24", 7, "528/184", false}, {"2004-12-25", 7, "-21/184", true}, {"2004-12-01", 30, "459/184", false}, {"2004-12-02", 30, "-90/184", true}, {"2004-12-31", 30, "-3/184", true},
	} {
		b := named(t, "2003-11-16", "2005-01-01", 2, api.CActAct, api.SShort)
		b.Ex = x.ex
		has(t, b, dayOf(t, x.settle), x.want)
		isEx(t, b, dayOf(t, x.settle), x.is)
	}
}

// What is taken off is what is paid, not what the count has of the period: of a
// regular one these differ, so that by CAct360 there may be something left.
func TestExDividendByEachCount(t *testing.T) {
	for _, x := range []struct {
		stub                                   int
		settle, thirty, act360, act365, actAct string
	}{
		{api.SLong, "2004-06-01", "-30/60", "-30/60", "-180/365", "-90/182"},
		{api.SLong, "2004-06-30", "-1/60", "-1/60", "-6/365", "-3/182"},
		{api.SShort, "2003-12-02", "-29/60", "-30/60", "-180/365", "-90/184"},
		{api.SShort, "2004-06-01", "-30/60", "-28/60", "-183/365", "-90/182"},
		{api.SLong, "2004-12-02", "-29/60", "-26/60", "-171/365", "-90/184"},
		{api.SLong, "2004-12-28", "-3/60", "0", "-15/365", "-12/184"},
		{api.SLong, "2004-12-31", "-1/60", "3/60", "3/365", "-3/184"},
	} {
		for k, want := range []string{x.thirty, x.act360, x.act365, x.actAct} {
			b := named(t, "2003-11-16", "2005-01-01", 2, counts()[k], x.stub)
			b.Ex = 30
			has(t, b, dayOf(t, x.settle), want)
			isEx(t, b, dayOf(t, x.settle), true)
		}
	}
}

// Where a period is not longer than Ex, its coupon stays with the seller from
// its first day on.
func TestExDividendOfShortPeriods(t *testing.T) {
	for _, x := range []struct {
		settle, want string
		is           bool
	}{
		{"2004-12-20", "-11/60", true}, {"2004-12-31", "-1/60", true}, {"2005-01-01", "0", false}, {"2005-01-02", "-29/60", true}, {"2005-01-31", "-1/60", true}, {"2005-02-01", "-1/2", true}, {"2005-02-28", "-3/60", true}, {"2005-03-01", "0", false}, {"2005-03-02", "-29/60", true}, {"2005-03-31", "-1/60", true},
	} {
		b := named(t, "2004-12-20", "2005-04-01", 12, api.CThirty, api.SShort)
		b.Ex = 30
		has(t, b, dayOf(t, x.settle), x.want)
		isEx(t, b, dayOf(t, x.settle), x.is)
	}
	b := some(0, 1, 12, api.CAct365, api.SShort)
	b.Ex = 30 // from a day on that is none
	has(t, b, 0, "-6/365")
	isEx(t, b, 0, true)
}

// A coupon of nothing stays with the seller, too.
func TestExDividendOfNothing(t *testing.T) {
	for _, kind := range counts() {
		b := named(t, "2003-11-16", "2005-01-01", 2, kind, api.SLong)
		b.Coupon, b.Ex = "0", 7
		for _, s := range []string{"2004-06-24", "2004-06-30", "2004-12-25", "2004-12-31"} {
			has(t, b, dayOf(t, s), "0")
			isEx(t, b, dayOf(t, s), true)
		}
		for _, s := range []string{"2003-11-16", "2004-06-23", "2004-07-01", "2004-12-24"} {
			has(t, b, dayOf(t, s), "0")
			isEx(t, b, dayOf(t, s), false)
		}
	}
}

func TestText(t *testing.T) {
	for _, x := range []struct {
		freq, ex                int
		settle                  string
		places                  int
		halfUp, halfEven, trunc string
	}{
		{2, 0, "2004-01-01", 0, "0", "0", "0"}, {2, 0, "2004-01-01", 3, "0.000", "0.000", "0.000"}, {2, 0, "2004-01-01", 20, "0.00000000000000000000", "0.00000000000000000000", "0.00000000000000000000"},
		// 149/60
		{2, 0, "2004-05-31", 0, "2", "2", "2"}, {2, 0, "2004-05-31", 1, "2.5", "2.5", "2.4"}, {2, 0, "2004-05-31", 2, "2.48", "2.48", "2.48"}, {2, 0, "2004-05-30", 6, "2.483333", "2.483333", "2.483333"}, {2, 0, "2004-05-31", 20, "2.48333333333333333333", "2.48333333333333333333", "2.48333333333333333333"},
		// 1/2, 3/2, 1/20, 3/20, 1/60
		{2, 0, "2004-02-01", 0, "1", "0", "0"}, {2, 0, "2004-04-01", 0, "2", "2", "1"}, {2, 0, "2004-01-04", 1, "0.1", "0.0", "0.0"}, {2, 0, "2004-01-10", 1, "0.2", "0.2", "0.1"}, {2, 0, "2004-01-02", 2, "0.02", "0.02", "0.01"}, {2, 0, "2004-01-02", 1, "0.0", "0.0", "0.0"},
		// -1/2, -1/20, -3/20, -1/60: what is rounded to 0 has no sign
		{12, 30, "2004-02-01", 0, "-1", "0", "0"}, {12, 30, "2004-02-01", 1, "-0.5", "-0.5", "-0.5"}, {12, 30, "2004-12-28", 1, "-0.1", "0.0", "0.0"}, {12, 30, "2004-12-22", 1, "-0.2", "-0.2", "-0.1"}, {12, 30, "2004-12-31", 2, "-0.02", "-0.02", "-0.01"}, {12, 30, "2004-12-31", 1, "0.0", "0.0", "0.0"}, {12, 30, "2004-12-31", 0, "0", "0", "0"},
	} {
		b := named(t, "2004-01-01", "2005-01-01", x.freq, api.CThirty, api.SNone)
		b.Ex = x.ex
		for k, want := range []string{x.halfUp, x.halfEven, x.trunc} {
			tells(t, b, dayOf(t, x.settle), x.places, modes()[k], want)
		}
	}
}

func TestTextOfWrongPlacesAndModes(t *testing.T) {
	b := named(t, "2003-11-16", "2005-01-01", 2, api.CActAct, api.SLong)
	b.Ex = 7
	for _, settle := range []int{b.Issue, dayOf(t, "2004-03-01"), dayOf(t, "2004-06-30"), b.Mature - 1} {
		for _, places := range []int{-1, 21, -2, 22, 1 << 32, math.MaxInt, math.MinInt} {
			for _, mode := range []int{api.HalfUp, api.HalfEven, api.Truncate, 0, 4, -1} {
				text, err := accr.Text(b, settle, places, mode)
				if text != "" {
					t.Fatalf("Text %d, %d: %q", places, mode, text)
				}
				is(t, err, api.ErrRange, "")
			}
		}
		for _, mode := range []int{0, 4, -1, 1<<32 + 1, math.MaxInt, math.MinInt} {
			for _, places := range []int{0, 1, 2, 20} {
				text, err := accr.Text(b, settle, places, mode)
				if text != "" {
					t.Fatalf("Text %d, %d: %q", places, mode, text)
				}
				is(t, err, api.ErrForm, "")
			}
		}
	}
}

func TestBeyondItsLife(t *testing.T) {
	for _, kind := range counts() {
		for _, ex := range []int{0, 1, 30} {
			b := named(t, "2003-11-16", "2005-01-01", 2, kind, api.SLong)
			b.Ex = ex
			for _, day := range append(noDays(), b.Issue-1, b.Issue-2, b.Mature, b.Mature+1, 0, api.MaxDay) {
				fails(t, b, day, api.ErrTime, "")
			}
			has(t, b, b.Issue, "0")
			isEx(t, b, b.Issue, false)
			isEx(t, b, b.Mature-1, ex > 0)
		}
	}
	// the first and the last of all days
	b := some(0, api.MaxDay, 12, api.CAct365, api.SNone)
	for _, issue := range []int{0, api.MaxDay - 365} {
		b.Issue, b.Mature, b.Freq = issue, issue+365, 1
		has(t, b, b.Issue, "0")
		has(t, b, b.Mature-1, "2184/365")
		fails(t, b, b.Issue-1, api.ErrTime, "")
		fails(t, b, b.Mature, api.ErrTime, "")
		fails(t, b, b.Mature+1, api.ErrTime, "")
	}
}

// A quasi-period that would begin beyond 1900 is told ahead of a day beyond the
// bond's life, and on days of its regular periods, too.
func TestBeyond1900(t *testing.T) {
	for stub := api.SShort; stub <= api.SLong; stub++ {
		for _, b := range []api.Bond{
			some(19, 165, 2, api.CActAct, stub), // to June 15, 1900
			some(1, 14, 1, api.CActAct, stub),
			some(0, 45+28, 12, api.CActAct, stub), // to March 15
			some(3, 364+364, 1, api.CActAct, stub),
		} {
			b.Ex = 7
			for _, day := range append(noDays(), 0, b.Issue-1, b.Issue, b.Mature-8, b.Mature-1, b.Mature, api.MaxDay) {
				fails(t, b, day, api.ErrDate, "")
			}
			// Other counts don't ask for it.
			for _, kind := range counts()[:3] {
				b.Count, b.Ex = kind, 0
				has(t, b, b.Issue, "0")
				fails(t, b, b.Issue-1, api.ErrTime, "")
				fails(t, b, b.Mature, api.ErrTime, "")
			}
		}
	}
	// the first of all quasi-periods
	has(t, some(30, 181, 2, api.CActAct, api.SShort), 100, "210/181")
}

// wrongBonds gives bonds that have no schedule, each wrong in one thing.
func wrongBonds() []api.Bond {
	var l []api.Bond
	add := func(spoil func(*api.Bond)) {
		for _, kind := range counts() {
			// January 1 of 2000 and of 2005.
			b := some(36524, 38351, 2, kind, api.SNone)
			spoil(&b)
			l = append(l, b)
		}
	}
	for _, day := range noDays() {
		add(func(b *api.Bond) { b.Issue = day })
		add(func(b *api.Bond) { b.Mature = day })
	}
	for _, n := range []int{0, -1, 3, 6, 24, 1<<32 + 2, math.MaxInt, math.MinInt} {
		add(func(b *api.Bond) { b.Freq = n })
	}
	for _, n := range []int{-1, 31, 1 << 32, math.MaxInt, math.MinInt} {
		add(func(b *api.Bond) { b.Count = n })
		add(func(b *api.Bond) { b.Stub = n })
		add(func(b *api.Bond) { b.Ex = n })
	}
	for _, s := range []string{"", "x", "-1", "01", "-0", "1.0000000", "1/2", "201"} {
		add(func(b *api.Bond) { b.Coupon = s })
		add(func(b *api.Bond) { b.Redeem = s })
	}
	add(func(b *api.Bond) { b.Redeem = "0" })
	add(func(b *api.Bond) { b.Issue = b.Mature })
	add(func(b *api.Bond) { b.Mature += 10000 })                    // of more than 30 years
	add(func(b *api.Bond) { b.Freq, b.Mature = 12, b.Mature+6000 }) // of too many flows
	add(func(b *api.Bond) { *b = api.Bond{} })
	// ones that need a stub and let none
	add(func(b *api.Bond) { b.Issue++ })
	add(func(b *api.Bond) { b.Mature++ })
	add(func(b *api.Bond) { b.Issue, b.Mature = 1, 14 })
	return l
}

// The error of a bond that has no schedule comes ahead of all others.
func TestBondsThatMayNotBe(t *testing.T) {
	for _, b := range wrongBonds() {
		_, told := plan.Of(b)
		want, ok := told.(*fault.Fault)
		if !ok {
			t.Fatalf("%+v has a schedule", b)
		}
		for _, day := range []int{37000, 36524, 38350, 38351, 0, -1, math.MinInt, math.MaxInt} {
			fails(t, b, day, want.Code, want.At)
		}
	}
}

// Whoever writes over an answer changes no other one.
func TestAnswersAreNotShared(t *testing.T) {
	seven, err := rat.Of(7, 9)
	if err != nil {
		t.Fatal(err)
	}
	for _, kind := range counts() {
		b := named(t, "2003-11-16", "2005-01-01", 2, kind, api.SShort)
		b.Ex = 30
		for _, day := range []int{b.Issue, dayOf(t, "2003-12-31"), dayOf(t, "2004-01-01"), dayOf(t, "2004-03-01"), b.Mature - 1} {
			r, err := accr.Of(b, day)
			if err != nil {
				t.Fatal(err)
			}
			want := r.Text()
			*r = *seven
			has(t, b, day, want)
		}
	}
}

// zero is January 1, 1900, of the library's calendar.
func zero() time.Time { return time.Date(1900, 1, 1, 0, 0, 0, 0, time.UTC) }

// anchorBy gives the k-th anchor of a bond by the library's calendar; false if
// it is ahead of 1900.
func anchorBy(b api.Bond, k int) (int, bool) {
	mature := zero().AddDate(0, 0, b.Mature)
	// The day 0 of a month is the last one of the month ahead.
	last := func(on int) int {
		return time.Date(mature.Year(), mature.Month()+time.Month(on)+1, 0, 0, 0, 0, 0, time.UTC).Day()
	}
	on := -k * 12 / b.Freq
	day := min(mature.Day(), last(on))
	if b.End && mature.Day() == last(0) {
		day = last(on)
	}
	at := time.Date(mature.Year(), mature.Month()+time.Month(on), day, 0, 0, 0, 0, time.UTC)
	return int((at.Unix() - zero().Unix()) / 86400), !at.Before(zero())
}

// anchorsBy gives the anchors of a bond, falling from Mature to the first one
// that is not behind Issue; that is left out if it is ahead of 1900.
func anchorsBy(b api.Bond) []int {
	var l []int
	for k := 0; ; k++ {
		day, ok := anchorBy(b, k)
		if ok {
			l = append(l, day)
		}
		if !ok || day <= b.Issue {
			return l
		}
	}
}

// thirtyBy gives the place of a day in years of months of 30 days.
func thirtyBy(day int) int {
	d := zero().AddDate(0, 0, day)
	return 360*d.Year() + 30*int(d.Month()) + min(d.Day(), 30)
}

// partBy gives the part of a year from a day to another, day by day; false if a
// day is in none of the quasi-periods between anchors, which fall.
func partBy(b api.Bond, anchors []int, from, to int) (*big.Rat, bool) {
	switch b.Count {
	case api.CThirty:
		return big.NewRat(int64(thirtyBy(to)-thirtyBy(from)), 360), true
	case api.CAct360:
		return big.NewRat(int64(to-from), 360), true
	case api.CAct365:
		return big.NewRat(int64(to-from), 365), true
	}
	days := map[int]int64{} // of the quasi-period that ends at an anchor
	for day := from; day < to; day++ {
		k := slices.IndexFunc(anchors, func(anchor int) bool { return anchor <= day })
		if k < 1 {
			return nil, false
		}
		days[k-1]++
	}
	sum := new(big.Rat)
	for k, n := range days {
		sum.Add(sum, big.NewRat(n, int64(b.Freq*(anchors[k]-anchors[k+1]))))
	}
	return sum, true
}

// periodBy gives the first and the last day of that period in which settle
// lies, and whether it is regular.
func periodBy(b api.Bond, anchors []int, settle int) (start, end int, regular bool) {
	ends := slices.Clone(anchors)
	slices.Reverse(ends)
	if ends[0] <= b.Issue {
		ends = ends[1:]
	}
	stub := !slices.Contains(anchors, b.Issue)
	if stub && b.Stub == api.SLong && len(ends) > 1 {
		ends = ends[1:]
	}
	k := slices.IndexFunc(ends, func(end int) bool { return end > settle })
	if k == 0 {
		return b.Issue, ends[0], !stub
	}
	return ends[k-1], ends[k], true
}

// accruedBy gives what has accrued, and whether the coupon stays with the
// seller, in the chapter's own words; the stub, if any, can be cut.
func accruedBy(b api.Bond, anchors []int, settle int) (*big.Rat, bool) {
	coupon, _ := new(big.Rat).SetString(b.Coupon)
	start, end, regular := periodBy(b, anchors, settle)
	whole, _ := partBy(b, anchors, start, end)
	if regular {
		whole = big.NewRat(1, int64(b.Freq))
	}
	pay := new(big.Rat).Mul(coupon, whole)
	part, _ := partBy(b, anchors, start, settle)
	accrued := new(big.Rat).Mul(coupon, part)
	if regular && b.Count == api.CActAct {
		accrued.Mul(pay, big.NewRat(int64(settle-start), int64(end-start)))
	}
	if b.Ex > 0 && settle+b.Ex >= end {
		return accrued.Sub(accrued, pay), true
	}
	return accrued, false
}

// anyBond gives a bond by chance that has a schedule.
func anyBond(r *rand.Rand) api.Bond {
	for {
		issue := []int{r.Intn(api.MaxDay + 1), r.Intn(500), api.MaxDay - r.Intn(500), 36524 + r.Intn(3000)}[r.Intn(4)]
		long := []int{r.Intn(6000), r.Intn(1000), r.Intn(1000), r.Intn(60)}[r.Intn(4)]
		b := some(issue, issue+long, []int{1, 2, 4, 12}[r.Intn(4)], 1+r.Intn(4), r.Intn(3))
		b.Coupon = []string{"0", "4.125", "0.000001", "30", "6.3"}[r.Intn(5)]
		b.Redeem = []string{"100", "99.75", "200", "0.000001"}[r.Intn(4)]
		b.End, b.Ex = r.Intn(2) == 0, r.Intn(2)*r.Intn(31)
		if bond.Check(b) != nil {
			continue
		}
		if c, err := date.Civil(b.Mature); err == nil && r.Intn(3) == 0 {
			c.Day = date.Length(c.Year, c.Month)
			b.Mature, _ = date.Of(c)
		}
		if day, ok := anchorBy(b, 1+r.Intn(8)); ok && r.Intn(3) == 0 {
			b.Issue = day
		}
		if _, err := plan.Of(b); err == nil {
			return b
		}
	}
}

// daysNear gives days of a bond's life, some of them near its coupons' and
// those from which these stay with the seller.
func daysNear(r *rand.Rand, b api.Bond, anchors []int) []int {
	days := []int{b.Issue, b.Issue + 1, b.Mature - 1}
	for range 4 {
		end := anchors[r.Intn(len(anchors))]
		days = append(days, end, end+1, end-1, end-b.Ex, end-b.Ex-1, b.Issue+r.Intn(b.Mature-b.Issue))
	}
	return slices.DeleteFunc(days, func(day int) bool { return day < b.Issue || day >= b.Mature })
}

func TestAgainstTheLibrary(t *testing.T) {
	r := rand.New(rand.NewSource(16))
	var with, without, uncut int
	for range 600 {
		b := anyBond(r)
		anchors := anchorsBy(b)
		_, ok := partBy(b, anchors, b.Issue, b.Issue+1)
		for _, day := range daysNear(r, b, anchors) {
			if !ok {
				uncut++
				fails(t, b, day, api.ErrDate, "")
				continue
			}
			want, ex := accruedBy(b, anchors, day)
			if ex {
				with++
			} else {
				without++
			}
			has(t, b, day, want.RatString())
			isEx(t, b, day, ex)
			got, _ := rat.Get(want.RatString())
			places, mode := r.Intn(21), modes()[r.Intn(3)]
			text, err := dec.Round(got, places, mode)
			if err != nil {
				t.Fatal(err)
			}
			tells(t, b, day, places, mode, text)
		}
	}
	if with < 300 || without < 3000 || uncut < 50 {
		t.Errorf("%d, %d and %d days of the three kinds", with, without, uncut)
	}
}
