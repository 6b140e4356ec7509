package bond_test

import (
	"errors"
	"math"
	"math/big"
	"math/rand"
	"regexp"
	"strings"
	"testing"
	"time"

	"rentier/api"
	"rentier/bond"
	"rentier/date"
	"rentier/fault"
	"rentier/rat"
)

// noDays are whole numbers that are no days.
func noDays() []int {
	return []int{-1, -2, -3, -31, -365, api.MaxDay + 1, api.MaxDay + 2, api.MaxDay + 365, 1 << 31, 1 << 32, 1<<32 + 1, 1<<32 + 36524, -1 << 31, -1 << 32, -1<<32 + 1, math.MaxInt, math.MaxInt - 1, math.MinInt, math.MinInt + 1}
}

// noFreqs are numbers of coupons that no bond has.
func noFreqs() []int {
	return []int{0, -1, -2, -4, -12, 3, 5, 6, 7, 8, 11, 13, 24, 52, 256 + 1, 256 + 2, 256 + 4, 256 + 12, 1<<32 + 1, 1<<32 + 12, -1<<32 + 2, 1<<63 - 1, math.MaxInt - 1, math.MinInt, math.MinInt + 1, math.MinInt + 2, math.MinInt + 12}
}

// noCounts are numbers of no count of days.
func noCounts() []int {
	return []int{0, -1, -4, 5, 6, 255, 256 + 1, 1<<32 + 1, 1<<32 + 4, -1<<32 + 1, math.MaxInt, math.MinInt, math.MinInt + 1}
}

// noStubs are numbers of no stub.
func noStubs() []int {
	return []int{-1, -2, 3, 4, 255, 256, 256 + 1, 1 << 32, 1<<32 + 2, -1 << 32, math.MaxInt, math.MinInt, math.MinInt + 1}
}

// noExes are so many days that no coupon belongs to the seller ahead.
func noExes() []int {
	return []int{-1, -2, -30, 31, 32, 60, 256, 256 + 30, 1 << 32, 1<<32 + 30, -1 << 32, math.MaxInt, math.MinInt, math.MinInt + 1}
}

// noDecimals are texts of no decimal.
func noDecimals() []string {
	return []string{"", "-", ".", "-0", "-0.00", "00", "01", "007", "1.", ".5", "-.5", "+1", "--1", " 1", "1 ", "1e1", "1E0", "0x1", "1/2", "1,5", "1_0", "1.2.3", "1.-5", "x", "NaN", "Inf", "٣", "1\x00", "\x00", "\xff", "5\n", "5%", "0.123456789012345678901", strings.Repeat("9", 61), strings.Repeat("0", 60), strings.Repeat("1", 1000000), strings.Repeat("-", 100000)}
}

// finePlaces are decimals of more places than a bond takes.
func finePlaces() []string {
	return []string{"1.0000000", "0.0000000", "0.0000001", "1.2345678", "5.00000000000000000000", "29.9999999", "30.0000000", "100.0000000", "0.00000000000000000001"}
}

// farDecimals are decimals too great for a bond, or below 0.
func farDecimals() []string {
	return []string{"-1", "-0.5", "-0.000001", "-30", "-200", "-100.25", "200.000001", "200.1", "201", "300", "1000", "2000", "18446744073709551616", "18446744073709551621", "4294967301", strings.Repeat("9", 60), "-" + strings.Repeat("9", 59)}
}

// dayOf gives the number of a day's text.
func dayOf(t *testing.T, text string) int {
	t.Helper()
	day, err := date.Get(text)
	if err != nil {
		t.Fatalf("%q is no day", text)
	}
	return day
}

// some gives a bond of five years that may be.
func some() api.Bond {
	// January 1 of 2000 and of 2005.
	return api.Bond{Issue: 36524, Mature: 38351, Freq: 2, Coupon: "4.125", Redeem: "100", Count: api.CActAct, Stub: api.SShort, End: true, Ex: 7}
}

// lives gives some, but from one day to another, with so many coupons a year.
func lives(issue, mature, freq int) api.Bond {
	b := some()
	b.Issue, b.Mature, b.Freq = issue, mature, freq
	return b
}

// maybe fails unless b may be.
func maybe(t *testing.T, b api.Bond) {
	t.Helper()
	if err := bond.Check(b); err != nil {
		t.Fatalf("%+v (%s to %s): %v", b, date.Text(b.Issue), date.Text(b.Mature), err)
	}
}

// refuses fails unless Check answers a Fault of that code at that place, with
// nothing behind it, and the values of b are 0.
func refuses(t *testing.T, b api.Bond, code api.Errno, at string) {
	t.Helper()
	err := bond.Check(b)
	f, ok := err.(*fault.Fault)
	if !ok || *f != (fault.Fault{Code: code, At: at}) || !errors.Is(err, fault.Of(code)) {
		t.Fatalf("%+v: %v, not %q: error %d", b, err, at, code)
	}
	worth(t, b, "0", "0")
}

// worth fails unless the values of b are these.
func worth(t *testing.T, b api.Bond, coupon, redeem string) {
	t.Helper()
	if got := bond.Coupon(b); got == nil || got.Text() != coupon {
		t.Fatalf("%+v: Coupon %s, not %s", b, got.Text(), coupon)
	}
	if got := bond.Redeem(b); got == nil || got.Text() != redeem {
		t.Fatalf("%+v: Redeem %s, not %s", b, got.Text(), redeem)
	}
}

func TestBondsThatMayBe(t *testing.T) {
	maybe(t, some())
	// without all that may be nought
	maybe(t, api.Bond{Mature: 1, Freq: 1, Coupon: "0", Redeem: "0.000001", Count: api.CThirty})
	maybe(t, lives(api.MaxDay-1, api.MaxDay, 12))
	for _, freq := range []int{1, 2, 4, 12} {
		maybe(t, lives(36524, 38351, freq))
	}
	for kind := api.CThirty; kind <= api.CActAct; kind++ {
		for stub := api.SNone; stub <= api.SLong; stub++ {
			for ex := 0; ex <= 30; ex++ {
				b := some()
				b.Count, b.Stub, b.Ex, b.End = kind, stub, ex, ex%2 == 0
				maybe(t, b)
			}
		}
	}
	// Whether a schedule may be without a stub is asked by those who make it.
	b := lives(dayOf(t, "2000-01-17"), dayOf(t, "2005-02-03"), 2)
	b.Stub = api.SNone
	maybe(t, b)
}

func TestWrongDays(t *testing.T) {
	for _, day := range noDays() {
		refuses(t, lives(day, 38351, 2), api.ErrDate, "issue")
		refuses(t, lives(36524, day, 2), api.ErrDate, "mature")
		for _, other := range noDays() {
			refuses(t, lives(day, other, 2), api.ErrDate, "issue")
		}
	}
	for _, day := range []int{0, 1, 31, 36524, api.MaxDay} {
		refuses(t, lives(day, day, 2), api.ErrBond, "mature")
		refuses(t, lives(day, 0, 2), api.ErrBond, "mature")
		refuses(t, lives(api.MaxDay, day, 2), api.ErrBond, "mature")
	}
	refuses(t, lives(38351, 36524, 2), api.ErrBond, "mature")
	refuses(t, lives(36525, 36524, 2), api.ErrBond, "mature")
	maybe(t, lives(36524, 36525, 2))
}

// From all days to 30 years on, by the library's calendar, whatever End is.
func TestLongestLife(t *testing.T) {
	for issue := range api.MaxDay {
		from := time.Date(1900, time.January, 1+issue, 0, 0, 0, 0, time.UTC)
		to := time.Date(from.Year()+30, from.Month(), from.Day(), 0, 0, 0, 0, time.UTC)
		if to.Month() != from.Month() {
			to = to.AddDate(0, 0, -to.Day())
		}
		mature := issue + int(to.Sub(from)/(24*time.Hour))
		b := lives(issue, min(mature, api.MaxDay), 1)
		b.End = issue%2 == 0
		maybe(t, b)
		if mature < api.MaxDay {
			b.Mature = mature + 1
			refuses(t, b, api.ErrBond, "mature")
		}
		if issue%100 == 0 && mature < api.MaxDay {
			b.Mature = api.MaxDay
			refuses(t, b, api.ErrBond, "mature")
		}
	}
}

func TestKnownLongestLives(t *testing.T) {
	for _, x := range []struct{ issue, last, behind string }{
		{"1900-01-01", "1930-01-01", "1930-01-02"}, {"2000-02-29", "2030-02-28", "2030-03-01"}, {"2000-12-31", "2030-12-31", "2031-01-01"},
		// The years are counted by the day, not by the month's end.
		{"1998-02-28", "2028-02-28", "2028-02-29"}, {"2169-12-31", "2199-12-31", ""}, {"2169-12-30", "2199-12-30", "2199-12-31"}, {"2170-01-01", "2199-12-31", ""},
	} {
		for _, end := range []bool{false, true} {
			b := lives(dayOf(t, x.issue), dayOf(t, x.last), 2)
			b.End = end
			maybe(t, b)
			if x.behind != "" {
				b.Mature = dayOf(t, x.behind)
				refuses(t, b, api.ErrBond, "mature")
			}
		}
	}
}

func TestWrongNumbers(t *testing.T) {
	for _, freq := range noFreqs() {
		refuses(t, lives(36524, 38351, freq), api.ErrBond, "freq")
	}
	for _, kind := range noCounts() {
		b := some()
		b.Count = kind
		refuses(t, b, api.ErrBond, "count")
	}
	for _, stub := range noStubs() {
		b := some()
		b.Stub = stub
		refuses(t, b, api.ErrBond, "stub")
	}
	for _, ex := range noExes() {
		b := some()
		b.Ex = ex
		refuses(t, b, api.ErrBond, "ex")
	}
}

func TestCoupon(t *testing.T) {
	b := some()
	for text, want := range map[string]string{"0": "0", "0.0": "0", "0.000000": "0", "0.000001": "1/1000000", "1": "1", "6": "6", "4.125": "33/8", "4.125000": "33/8", "0.333333": "333333/1000000", "10": "10", "29": "29", "29.999999": "29999999/1000000", "30": "30", "30.0": "30", "30.000000": "30"} {
		b.Coupon = text
		maybe(t, b)
		worth(t, b, want, "100")
	}
	for _, text := range noDecimals() {
		b.Coupon = text
		refuses(t, b, api.ErrForm, "coupon")
	}
	for _, text := range append(append(farDecimals(), finePlaces()...), "30.000001", "30.1", "31", "100", "200") {
		b.Coupon = text
		refuses(t, b, api.ErrBond, "coupon")
	}
}

func TestRedeem(t *testing.T) {
	b := some()
	for text, want := range map[string]string{"0.000001": "1/1000000", "0.5": "1/2", "1": "1", "30.000001": "30000001/1000000", "31": "31", "99.5": "199/2", "99.500000": "199/2", "100": "100", "100.0": "100", "199.999999": "199999999/1000000", "200": "200", "200.000000": "200"} {
		b.Redeem = text
		maybe(t, b)
		worth(t, b, "33/8", want)
	}
	for _, text := range noDecimals() {
		b.Redeem = text
		refuses(t, b, api.ErrForm, "redeem")
	}
	for _, text := range append(append(farDecimals(), finePlaces()...), "0", "0.0", "0.000000") {
		b.Redeem = text
		refuses(t, b, api.ErrBond, "redeem")
	}
}

func TestFlows(t *testing.T) {
	for _, x := range []struct {
		issue, mature string
		right         bool
	}{
		// 198 months from month to month, whatever the days of these, and 199
		{"2000-01-01", "2016-07-01", true}, {"2000-01-01", "2016-07-31", true}, {"2000-01-31", "2016-07-01", true}, {"2000-01-31", "2016-07-31", true}, {"2000-01-01", "2016-08-01", false}, {"2000-01-31", "2016-08-01", false}, {"2000-01-31", "2016-08-31", false}, {"2000-12-31", "2017-06-30", true}, {"2000-12-31", "2017-07-01", false}, {"2000-01-01", "2030-01-01", false}, {"1900-01-01", "1916-07-31", true}, {"1900-01-01", "1916-08-01", false}, {"2183-06-30", "2199-12-31", true}, {"2183-05-31", "2199-12-31", false}, {"2170-01-01", "2199-12-31", false},
	} {
		b := lives(dayOf(t, x.issue), dayOf(t, x.mature), 12)
		if x.right {
			maybe(t, b)
		} else {
			refuses(t, b, api.ErrBond, "flows")
		}
		// 30 years of quarters are few enough.
		for _, freq := range []int{1, 2, 4} {
			b.Freq = freq
			maybe(t, b)
		}
	}
}

func TestMonths(t *testing.T) {
	for freq, want := range map[int]int{1: 12, 2: 6, 4: 3, 12: 1} {
		if got := bond.Months(lives(36524, 38351, freq)); got != want {
			t.Errorf("%d: %d, not %d", freq, got, want)
		}
		// It looks at Freq alone.
		if got := bond.Months(api.Bond{Freq: freq, Issue: -1, Coupon: "x", Count: 9}); got != want {
			t.Errorf("%d: %d, not %d", freq, got, want)
		}
	}
	for _, freq := range noFreqs() {
		if got := bond.Months(lives(36524, 38351, freq)); got != 0 {
			t.Errorf("%d: %d, not 0", freq, got)
		}
	}
}

// flaw is one way to spoil a bond.
type flaw struct {
	turn func(b *api.Bond)
	code api.Errno
	at   string
}

// flaws are such, in the order in which they count.
func flaws() []flaw {
	return []flaw{
		{func(b *api.Bond) { b.Issue = -1 }, api.ErrDate, "issue"},
		{func(b *api.Bond) { b.Mature = api.MaxDay + 1 }, api.ErrDate, "mature"},
		{func(b *api.Bond) { b.Mature = 36524 }, api.ErrBond, "mature"},
		{func(b *api.Bond) { b.Freq = 3 }, api.ErrBond, "freq"},
		{func(b *api.Bond) { b.Coupon = "x" }, api.ErrForm, "coupon"},
		{func(b *api.Bond) { b.Coupon = "31" }, api.ErrBond, "coupon"},
		{func(b *api.Bond) { b.Redeem = "-0" }, api.ErrForm, "redeem"},
		{func(b *api.Bond) { b.Redeem = "0" }, api.ErrBond, "redeem"},
		{func(b *api.Bond) { b.Count = 0 }, api.ErrBond, "count"},
		{func(b *api.Bond) { b.Stub = 3 }, api.ErrBond, "stub"},
		{func(b *api.Bond) { b.Ex = 31 }, api.ErrBond, "ex"},
		{func(b *api.Bond) { b.Freq, b.Mature = 12, 45000 }, api.ErrBond, "flows"},
	}
}

// Of several flaws the first one counts.
func TestOrder(t *testing.T) {
	all := flaws()
	for mask := 1; mask < 1<<len(all); mask++ {
		b := some()
		first := -1
		// From the last one on, so that of two that turn one field the one that
		// counts stays.
		for k := len(all) - 1; k >= 0; k-- {
			if mask>>k&1 == 1 {
				all[k].turn(&b)
				first = k
			}
		}
		refuses(t, b, all[first].code, all[first].at)
	}
	// An empty bond has days, but they are the same.
	refuses(t, api.Bond{}, api.ErrBond, "mature")
}

// decimals are texts of which TestAgainstTheLibrary chooses.
func decimals() []string {
	texts := append(append(append(noDecimals(), finePlaces()...), farDecimals()...), "0", "0.5", "30", "30.000001", "200")
	for range 2 * len(texts) {
		texts = append(texts, "29.75")
	}
	return texts
}

// shape is a right decimal of at most 20 places.
var shape = regexp.MustCompile(`\A(-?)(0|[1-9][0-9]*)(\.[0-9]{1,20})?\z`)

// wrongDecimal tells by the library what is wrong with a decimal.
func wrongDecimal(text string, zero bool, most int64) api.Errno {
	parts := shape.FindStringSubmatch(text[:min(len(text), 61)])
	if parts == nil || len(text) > 60 {
		return api.ErrForm
	}
	v, ok := new(big.Rat).SetString(text)
	if !ok || parts[1] == "-" && v.Sign() == 0 {
		return api.ErrForm
	}
	if len(parts[3]) > 7 || v.Sign() < 0 || v.Sign() == 0 && !zero || v.Cmp(big.NewRat(most, 1)) > 0 {
		return api.ErrBond
	}
	return api.OK
}

// wrong tells by the library what is first wrong with a bond.
func wrong(b api.Bond) (api.Errno, string) {
	base := time.Date(1900, time.January, 1, 0, 0, 0, 0, time.UTC)
	from, to := base.AddDate(0, 0, b.Issue), base.AddDate(0, 0, b.Mature)
	months := 12*(to.Year()-from.Year()) + int(to.Month()-from.Month())
	switch {
	case from.Year() < 1900 || from.Year() > 2199:
		return api.ErrDate, "issue"
	case to.Year() < 1900 || to.Year() > 2199:
		return api.ErrDate, "mature"
	case b.Mature <= b.Issue || months > 360 || months == 360 && to.Day() > from.Day():
		return api.ErrBond, "mature"
	case b.Freq <= 0 || 12%b.Freq != 0 || b.Freq == 3 || b.Freq == 6:
		return api.ErrBond, "freq"
	}
	if code := wrongDecimal(b.Coupon, true, 30); code != api.OK {
		return code, "coupon"
	}
	if code := wrongDecimal(b.Redeem, false, 200); code != api.OK {
		return code, "redeem"
	}
	for _, x := range []struct {
		n, least, most int
		at             string
	}{{b.Count, 1, 4, "count"}, {b.Stub, 0, 2, "stub"}, {b.Ex, 0, 30, "ex"}, {months * b.Freq / 12, 0, 198, "flows"}} {
		if x.n < x.least || x.n > x.most {
			return api.ErrBond, x.at
		}
	}
	return api.OK, ""
}

func TestAgainstTheLibrary(t *testing.T) {
	chance := rand.New(rand.NewSource(13))
	texts := decimals()
	pick := func() string { return texts[chance.Intn(len(texts))] }
	met := map[string]int{}
	for range 60000 {
		b := api.Bond{Issue: chance.Intn(api.MaxDay+2000) - 500, Freq: chance.Intn(14), Coupon: pick(), Redeem: pick(), Count: chance.Intn(8), Stub: chance.Intn(4), End: chance.Intn(2) == 0, Ex: chance.Intn(34) - 1}
		b.Mature = b.Issue + chance.Intn(12000) - 200
		if chance.Intn(2) == 0 {
			b.Freq, b.Coupon, b.Redeem = 12, "29.75", "29.75"
		}
		code, at := wrong(b)
		met[at]++
		if code != api.OK {
			refuses(t, b, code, at)
			continue
		}
		maybe(t, b)
		coupon, _ := new(big.Rat).SetString(b.Coupon)
		redeem, _ := new(big.Rat).SetString(b.Redeem)
		worth(t, b, coupon.RatString(), redeem.RatString())
	}
	for _, at := range []string{"", "issue", "mature", "freq", "coupon", "redeem", "count", "stub", "ex", "flows"} {
		if met[at] < 50 {
			t.Errorf("%q was met only %d times", at, met[at])
		}
	}
}

// Whoever writes over an answer changes no other one.
func TestAnswersAreNotShared(t *testing.T) {
	seven, err := rat.Of(7, 9)
	if err != nil {
		t.Fatal(err)
	}
	bad := some()
	bad.Ex = 31
	for range 2 {
		worth(t, some(), "33/8", "100")
		refuses(t, bad, api.ErrBond, "ex")
		for _, answer := range []*rat.Rat{bond.Coupon(some()), bond.Redeem(some()), bond.Coupon(bad), bond.Redeem(bad)} {
			*answer = *seven
		}
		*bond.Check(bad).(*fault.Fault) = fault.Fault{Code: api.ErrNone, At: "there"}
	}
}
