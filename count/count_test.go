package count_test

import (
	"errors"
	"math"
	"math/big"
	"math/rand"
	"testing"
	"time"

	"rentier/api"
	"rentier/count"
	"rentier/date"
	"rentier/fault"
	"rentier/rat"
)

// allKinds are the counts that there are.
func allKinds() []int { return []int{api.CThirty, api.CAct360, api.CAct365, api.CActAct} }

// wrongKinds are numbers of no count.
func wrongKinds() []int {
	return []int{0, -1, -2, -3, -4, 5, 6, 7, 8, 16, 255, 256, 257, 1<<32 + 1, 1<<32 + 4, -1 << 32, -1<<32 + 1, math.MaxInt, math.MinInt, math.MinInt + 1}
}

// noDays are whole numbers that are no days.
func noDays() []int {
	return []int{-1, -2, -3, -30, -31, -365, api.MaxDay + 1, api.MaxDay + 2, api.MaxDay + 31, api.MaxDay + 365, 1 << 31, 1 << 32, 1<<32 + 1, -1 << 31, -1 << 32, -1<<32 + 1, math.MaxInt, math.MaxInt - 1, math.MinInt, math.MinInt + 1}
}

// dayOf gives the number of a day's text.
func dayOf(t *testing.T, text string) int {
	t.Helper()
	day, err := date.Get(text)
	if err != nil {
		t.Fatalf("%q is no day", text)
	}
	return day
}

// counts fails unless Days gives so many.
func counts(t *testing.T, kind, a, b, want int) {
	t.Helper()
	if got := count.Days(kind, a, b); got != want {
		t.Fatalf("Days %d of %d (%s), %d (%s): %d, not %d", kind, a, date.Text(a), b, date.Text(b), got, want)
	}
}

// period is what Part is told beside the days; all zero where the kind doesn't look at it.
type period struct{ start, end, freq int }

// gives fails unless Part gives that fraction.
func gives(t *testing.T, kind, a, b int, p period, want string) {
	t.Helper()
	got, err := count.Part(kind, a, b, p.start, p.end, p.freq)
	if err != nil || got == nil || got.Text() != want {
		t.Fatalf("Part %d of %d (%s), %d (%s), %v: %s, %v, not %s", kind, a, date.Text(a), b, date.Text(b), p, got.Text(), err, want)
	}
}

// refuses fails unless Part answers nil and that error.
func refuses(t *testing.T, kind, a, b int, p period, want api.Errno) {
	t.Helper()
	got, err := count.Part(kind, a, b, p.start, p.end, p.freq)
	if got != nil || !errors.Is(err, fault.Of(want)) || fault.Code(err) != want {
		t.Fatalf("Part %d of %d, %d, %v: %s, %v, not error %d", kind, a, b, p, got.Text(), err, want)
	}
}

func TestMay(t *testing.T) {
	for _, kind := range allKinds() {
		if !count.May(kind) {
			t.Errorf("%d is no count", kind)
		}
	}
	for _, kind := range wrongKinds() {
		if count.May(kind) {
			t.Errorf("%d is a count", kind)
		}
	}
}

func TestKnownDays(t *testing.T) {
	for _, x := range []struct {
		a, b           string
		thirty, actual int
	}{
		{"2007-01-15", "2007-01-30", 15, 15}, {"2007-01-15", "2007-02-15", 30, 31}, {"2007-01-15", "2007-07-15", 180, 181}, {"2007-09-30", "2008-03-31", 180, 183}, {"2007-09-30", "2007-10-31", 30, 31}, {"2007-09-30", "2008-09-30", 360, 366},
		// a 31 is a 30 at either end, February's end is none
		{"2007-01-15", "2007-01-31", 15, 16}, {"2007-01-31", "2007-02-28", 28, 28}, {"2007-01-31", "2007-03-31", 60, 59}, {"2006-08-31", "2007-02-28", 178, 181}, {"2007-02-28", "2007-08-31", 182, 184}, {"2007-02-14", "2007-02-28", 14, 14}, {"2007-02-26", "2008-02-29", 363, 368}, {"2008-02-29", "2009-02-28", 359, 365}, {"2008-02-29", "2008-03-30", 31, 30}, {"2008-02-29", "2008-03-31", 31, 31}, {"2007-02-28", "2007-03-05", 7, 5}, {"2007-10-31", "2007-11-28", 28, 28}, {"2007-08-31", "2008-02-29", 179, 182}, {"2008-08-31", "2009-02-28", 178, 181},
		{"2007-05-29", "2007-05-31", 1, 2}, {"2007-05-30", "2007-05-31", 0, 1}, {"2007-05-31", "2007-06-01", 1, 1}, {"2007-06-30", "2007-07-01", 1, 1}, {"2007-02-28", "2007-03-01", 3, 1}, {"2008-02-28", "2008-02-29", 1, 1}, {"2008-02-29", "2008-03-01", 2, 1}, {"2007-12-31", "2008-01-01", 1, 1}, {"2007-12-31", "2008-01-31", 30, 31},
		// whole years
		{"1999-12-31", "2000-12-31", 360, 366}, {"2000-02-29", "2004-02-29", 1440, 1461}, {"1900-01-01", "2199-12-31", 107999, 109572}, {"1900-01-01", "1900-01-02", 1, 1}, {"2199-12-30", "2199-12-31", 0, 1},
	} {
		a, b := dayOf(t, x.a), dayOf(t, x.b)
		counts(t, api.CThirty, a, b, x.thirty)
		counts(t, api.CThirty, b, a, -x.thirty)
		for _, kind := range []int{api.CAct360, api.CAct365, api.CActAct} {
			counts(t, kind, a, b, x.actual)
			counts(t, kind, b, a, -x.actual)
		}
	}
}

// thirties gives each day's place in years of months of 30 days, by the
// library's calendar.
func thirties() []int {
	places := make([]int, api.MaxDay+1)
	for day := range places {
		d := time.Date(1900, time.January, 1+day, 0, 0, 0, 0, time.UTC)
		places[day] = 360*(d.Year()-1900) + 30*int(d.Month()-time.January) + min(d.Day(), 30)
	}
	return places
}

// From some days to all, both ways.
func TestAllDays(t *testing.T) {
	places := thirties()
	for _, a := range []int{0, 29, 30, 31, 58, 59, 36523, 36583, 36584, 50000, 73109, api.MaxDay - 31, api.MaxDay - 1, api.MaxDay} {
		for b := range places {
			counts(t, api.CThirty, a, b, places[b]-places[a])
			counts(t, api.CThirty, b, a, places[a]-places[b])
			for _, kind := range allKinds()[1:] {
				counts(t, kind, a, b, b-a)
				counts(t, kind, b, a, a-b)
			}
		}
	}
}

func TestDaysOfNoDay(t *testing.T) {
	for _, a := range noDays() {
		for _, b := range append(noDays(), 0, 1, 30, 31, 50000, api.MaxDay) {
			for _, kind := range append(allKinds(), wrongKinds()...) {
				counts(t, kind, a, b, 0)
				counts(t, kind, b, a, 0)
			}
		}
	}
}

func TestDaysOfNoKind(t *testing.T) {
	for _, kind := range wrongKinds() {
		for _, a := range []int{0, 30, 31, 59, 50000, api.MaxDay} {
			for _, b := range []int{0, 1, 58, 50001, api.MaxDay - 1} {
				counts(t, kind, a, b, 0)
			}
		}
	}
}

func TestKnownParts(t *testing.T) {
	for _, x := range []struct {
		kind       int
		a, b       string
		start, end string
		freq       int
		want       string
	}{
		{api.CThirty, "2007-01-15", "2007-07-15", "", "", 0, "1/2"}, {api.CThirty, "2007-05-30", "2007-05-31", "", "", 0, "0"}, {api.CThirty, "2007-02-28", "2007-03-05", "", "", 0, "7/360"}, {api.CThirty, "1999-12-31", "2000-12-31", "", "", 0, "1"}, {api.CThirty, "1900-01-01", "2199-12-31", "", "", 0, "107999/360"},
		{api.CAct360, "2007-01-15", "2007-07-15", "", "", 0, "181/360"}, {api.CAct360, "2007-02-28", "2007-03-05", "", "", 0, "1/72"}, {api.CAct360, "1999-12-31", "2000-12-31", "", "", 0, "61/60"}, {api.CAct360, "2007-05-31", "2007-05-31", "", "", 0, "0"},
		{api.CAct365, "2007-01-15", "2007-07-15", "", "", 0, "181/365"}, {api.CAct365, "2007-02-28", "2007-03-05", "", "", 0, "1/73"}, {api.CAct365, "1999-12-31", "2000-12-31", "", "", 0, "366/365"}, {api.CAct365, "1998-12-31", "1999-12-31", "", "", 0, "1"},
		// periods of a year, of a half, a quarter and a twelfth of one
		{api.CActAct, "1999-02-01", "1999-07-01", "1998-07-01", "1999-07-01", 1, "30/73"}, {api.CActAct, "1999-07-30", "2000-01-30", "1999-07-30", "2000-01-30", 2, "1/2"}, {api.CActAct, "2000-01-30", "2000-06-30", "2000-01-30", "2000-07-30", 2, "38/91"}, {api.CActAct, "1999-11-30", "2000-02-29", "1999-11-30", "2000-02-29", 4, "1/4"}, {api.CActAct, "2000-02-01", "2000-02-02", "2000-02-01", "2000-03-01", 12, "1/348"}, {api.CActAct, "2000-02-01", "2000-02-01", "2000-02-01", "2000-03-01", 12, "0"}, {api.CActAct, "2000-02-15", "2000-02-15", "2000-02-01", "2000-02-02", 1, "0"},
		// a freq that no bond has
		{api.CActAct, "2000-01-01", "2000-03-01", "2000-01-01", "2000-03-01", 3, "1/3"}, {api.CActAct, "2000-01-01", "2000-01-31", "2000-01-01", "2000-03-01", 7, "1/14"},
	} {
		p := period{freq: x.freq}
		if x.kind == api.CActAct {
			p.start, p.end = dayOf(t, x.start), dayOf(t, x.end)
		}
		gives(t, x.kind, dayOf(t, x.a), dayOf(t, x.b), p, x.want)
	}
}

// text gives a fraction's text by the library's own.
func text(n, under int, factor *big.Int) string {
	return new(big.Rat).SetFrac(big.NewInt(int64(n)), new(big.Int).Mul(big.NewInt(int64(under)), factor)).RatString()
}

func TestPartAgainstTheLibrary(t *testing.T) {
	chance := rand.New(rand.NewSource(12))
	one, places := big.NewInt(1), thirties()
	for range 20000 {
		a, b := chance.Intn(api.MaxDay+1), chance.Intn(api.MaxDay+1)
		start, end := chance.Intn(api.MaxDay+1), chance.Intn(api.MaxDay+1)
		if chance.Intn(2) == 0 {
			b, end = min(a+chance.Intn(400), api.MaxDay), min(start+1+chance.Intn(400), api.MaxDay)
		}
		a, b = min(a, b), max(a, b)
		p := period{start: start, end: end, freq: chance.Int() >> chance.Intn(63)}
		gives(t, api.CThirty, a, b, p, text(places[b]-places[a], 360, one))
		gives(t, api.CAct360, a, b, p, text(b-a, 360, one))
		gives(t, api.CAct365, a, b, p, text(b-a, 365, one))
		p.start, p.end, p.freq = min(start, end), max(start, end), max(p.freq, 1)
		if start == end {
			refuses(t, api.CActAct, a, b, p, api.ErrRange)
			continue
		}
		gives(t, api.CActAct, a, b, p, text(b-a, p.end-p.start, big.NewInt(int64(p.freq))))
	}
}

// Freq times the days of a period may be beyond an int.
func TestPartOfHugeFreq(t *testing.T) {
	for _, freq := range []int{math.MaxInt, math.MaxInt - 1, 1 << 62, 1<<62 + 1, 1 << 61, math.MaxInt/2 + 1, math.MaxInt / 3, 1 << 32, math.MaxInt/api.MaxDay + 1, math.MaxInt / api.MaxDay} {
		for _, p := range []period{{0, 1, freq}, {0, 2, freq}, {50000, 50184, freq}, {0, api.MaxDay, freq}} {
			gives(t, api.CActAct, 50000, 50181, p, text(181, p.end-p.start, big.NewInt(int64(freq))))
			gives(t, api.CActAct, 0, api.MaxDay, p, text(api.MaxDay, p.end-p.start, big.NewInt(int64(freq))))
		}
	}
}

// Only ActAct looks at the period.
func TestPartWithoutPeriod(t *testing.T) {
	for _, n := range append(noDays(), 0, 1, 2, 12, 50000) {
		for _, p := range []period{{n, 0, 1}, {0, n, 1}, {0, 0, n}, {n, n, n}, {50000, 40000, n}} {
			gives(t, api.CThirty, 45000, 45181, p, "59/120")
			gives(t, api.CAct360, 45000, 45181, p, "181/360")
			gives(t, api.CAct365, 45000, 45181, p, "181/365")
		}
	}
}

func TestPartOfNoKind(t *testing.T) {
	for _, kind := range wrongKinds() {
		refuses(t, kind, 45000, 45181, period{45000, 45184, 2}, api.ErrForm)
		refuses(t, kind, 45000, 45000, period{}, api.ErrForm)
		// ahead of all other errors
		refuses(t, kind, 45181, 45000, period{45000, 45184, 2}, api.ErrForm)
		for _, day := range noDays() {
			refuses(t, kind, day, 45181, period{45000, 45184, 2}, api.ErrForm)
			refuses(t, kind, 45000, day, period{day, 45184, 2}, api.ErrForm)
			refuses(t, kind, day, day, period{day, day, day}, api.ErrForm)
		}
	}
}

// whole is a period that ActAct takes.
func whole() period { return period{45000, 45184, 2} }

// wrongPeriods are of days, but ActAct does not take them.
func wrongPeriods() []period {
	return []period{{}, {45184, 45000, 2}, {45000, 45000, 2}, {45000, 45184, 0}, {45184, 45000, -1}}
}

func TestPartOfNoDay(t *testing.T) {
	for _, day := range noDays() {
		for _, kind := range allKinds() {
			// ahead of what is wrong with the period
			for _, p := range append(wrongPeriods(), whole()) {
				refuses(t, kind, day, 45181, p, api.ErrDate)
				refuses(t, kind, 45000, day, p, api.ErrDate)
				refuses(t, kind, day, day, p, api.ErrDate)
			}
		}
		for _, freq := range []int{2, 1, 0, -1, math.MaxInt, math.MinInt} {
			refuses(t, api.CActAct, 45000, 45181, period{day, 45184, freq}, api.ErrDate)
			refuses(t, api.CActAct, 45000, 45181, period{45000, day, freq}, api.ErrDate)
			refuses(t, api.CActAct, 45000, 45181, period{day, day, freq}, api.ErrDate)
		}
	}
}

func TestPartBackward(t *testing.T) {
	for _, kind := range allKinds() {
		for _, p := range append(wrongPeriods(), whole()) {
			refuses(t, kind, 45001, 45000, p, api.ErrDate)
			refuses(t, kind, api.MaxDay, 0, p, api.ErrDate)
			// a 31 behind a 30, which by 30E/360 are as one
			refuses(t, kind, dayOf(t, "2007-05-31"), dayOf(t, "2007-05-30"), p, api.ErrDate)
		}
		gives(t, kind, 45000, 45000, whole(), "0")
		gives(t, kind, 0, 0, whole(), "0")
		gives(t, kind, api.MaxDay, api.MaxDay, whole(), "0")
	}
}

func TestPartOfWrongPeriod(t *testing.T) {
	for _, p := range wrongPeriods() {
		refuses(t, api.CActAct, 45000, 45181, p, api.ErrRange)
		refuses(t, api.CActAct, 45000, 45000, p, api.ErrRange)
	}
	refuses(t, api.CActAct, 45000, 45181, period{1, 0, 2}, api.ErrRange)
	refuses(t, api.CActAct, 45000, 45181, period{api.MaxDay, 0, 2}, api.ErrRange)
	refuses(t, api.CActAct, 45000, 45181, period{api.MaxDay, api.MaxDay, 2}, api.ErrRange)
	for _, freq := range []int{0, -1, -2, -4, -12, -1 << 32, -1<<32 + 1, math.MinInt, math.MinInt + 1} {
		refuses(t, api.CActAct, 45000, 45181, period{45000, 45184, freq}, api.ErrRange)
	}
	gives(t, api.CActAct, 45000, 45181, period{0, 1, 1}, "181")
	gives(t, api.CActAct, 45000, 45181, period{api.MaxDay - 1, api.MaxDay, 1}, "181")
}

// Whoever writes over an answer changes no other one.
func TestPartsAreNotShared(t *testing.T) {
	five, err := rat.Of(5, 9)
	if err != nil {
		t.Fatal(err)
	}
	for kind, half := range map[int]string{api.CThirty: "1/2", api.CAct360: "23/45", api.CAct365: "184/365", api.CActAct: "1/2"} {
		for b, want := range map[int]string{45000: "0", 45184: half} {
			p := whole()
			answer, err := count.Part(kind, 45000, b, p.start, p.end, p.freq)
			if err != nil {
				t.Fatal(err)
			}
			*answer = *five
			gives(t, kind, 45000, b, p, want)
		}
	}
}
