package dec_test

import (
	"errors"
	"fmt"
	"math"
	"regexp"
	"strings"
	"testing"

	"rentier/api"
	"rentier/dec"
	"rentier/fault"
	"rentier/num"
	"rentier/rat"
)

// thrower throws numbers, always the same ones.
type thrower uint64

func (c *thrower) below(n int) int {
	*c = *c*6364136223846793005 + 1442695040888963407
	x := uint64(*c)
	return int((x ^ x>>29) * 0x9e3779b97f4a7c15 >> 33 % uint64(n))
}

// digits throws so many digits, the first one of them not 0.
func (c *thrower) digits(size int) string {
	out := []byte{byte('1' + c.below(9))}
	for len(out) < size {
		out = append(out, "0012345678999"[c.below(13)])
	}
	return string(out)
}

// of gives a fraction of small numbers.
func of(t *testing.T, n, d int64) *rat.Rat {
	t.Helper()
	a, err := rat.Of(n, d)
	if err != nil {
		t.Fatalf("rat.Of %d, %d: %v", n, d, err)
	}
	return a
}

// fraction gives the fraction of a text.
func fraction(t *testing.T, s string) *rat.Rat {
	t.Helper()
	a, err := rat.Get(s)
	if err != nil {
		t.Fatalf("rat.Get %.60s: %v", s, err)
	}
	return a
}

// unit gives 1 by 10 to the places.
func unit(t *testing.T, places int) *rat.Rat {
	t.Helper()
	a, err := of(t, 10, 1).Pow(-places)
	if err != nil {
		t.Fatalf("10 to -%d: %v", places, err)
	}
	return a
}

// size gives a without its sign.
func size(a *rat.Rat) *rat.Rat {
	if a.Sign() < 0 {
		return a.Sub(a).Sub(a)
	}
	return a
}

// reads fails unless s is a decimal of that value and so many places.
func reads(t *testing.T, s, want string, wantPlaces int) {
	t.Helper()
	a, places, err := dec.Get(s)
	if err != nil || a == nil || a.Text() != want || places != wantPlaces {
		t.Fatalf("Get(%q): %v, %d, %v, not %s, %d", s, a.Text(), places, err, want, wantPlaces)
	}
}

// unread fails unless s is refused as no decimal.
func unread(t *testing.T, s string) {
	t.Helper()
	a, places, err := dec.Get(s)
	if a != nil || places != 0 || !errors.Is(err, fault.Of(api.ErrForm)) || fault.Code(err) != api.ErrForm {
		t.Fatalf("Get(%.70q): %v, %d, %v", s, a, places, err)
	}
}

// puts fails unless Put gives that text of a.
func puts(t *testing.T, a *rat.Rat, places int, want string) {
	t.Helper()
	if got, ok := dec.Put(a, places); !ok || got != want {
		t.Fatalf("Put of %.60s, %d: %.90q, %v, not %.90q", a.Text(), places, got, ok, want)
	}
}

// unput fails unless Put gives no text of a.
func unput(t *testing.T, a *rat.Rat, places int) {
	t.Helper()
	if got, ok := dec.Put(a, places); ok || got != "" {
		t.Fatalf("Put of %.60s, %d: %q, %v", a.Text(), places, got, ok)
	}
}

// rounds fails unless Round gives that text of a.
func rounds(t *testing.T, a *rat.Rat, places, mode int, want string) {
	t.Helper()
	if got, err := dec.Round(a, places, mode); err != nil || got != want {
		t.Fatalf("Round of %.60s, %d, %d: %.90q, %v, not %.90q", a.Text(), places, mode, got, err, want)
	}
}

// counts fails unless Units gives that number of a.
func counts(t *testing.T, a *rat.Rat, mode int, want int64) {
	t.Helper()
	if got, err := dec.Units(a, mode); err != nil || got != want {
		t.Fatalf("Units of %.60s, %d: %d, %v, not %d", a.Text(), mode, got, err, want)
	}
}

// uncounted fails unless Units gives just that error of a.
func uncounted(t *testing.T, a *rat.Rat, mode int, code api.Errno) {
	t.Helper()
	if got, err := dec.Units(a, mode); got != 0 || !errors.Is(err, fault.Of(code)) || fault.Code(err) != code {
		t.Fatalf("Units of %.60s, %d: %d, %v, not error %d", a.Text(), mode, got, err, code)
	}
}

func TestGet(t *testing.T) {
	for _, x := range []struct {
		s, want string
		places  int
	}{
		{"0", "0", 0}, {"0.0", "0", 1}, {"0.00", "0", 2}, {"0." + strings.Repeat("0", 20), "0", 20}, {"1", "1", 0}, {"10", "10", 0}, {"100.00", "100", 2}, {"1.5", "3/2", 1}, {"1.50", "3/2", 2},
		{"0.05", "1/20", 2}, {"0.050", "1/20", 3}, {"10.25", "41/4", 2}, {"0.10", "1/10", 2}, {"1.01", "101/100", 2}, {"10.010", "1001/100", 3}, {"0." + strings.Repeat("0", 19) + "1", "1/1" + strings.Repeat("0", 20), 20},
		{"0." + strings.Repeat("9", 20), strings.Repeat("9", 20) + "/1" + strings.Repeat("0", 20), 20}, {"18446744073709551616.5", "36893488147419103233/2", 1}, {"9223372036854775808", "9223372036854775808", 0},
	} {
		reads(t, x.s, x.want, x.places)
		if x.want != "0" {
			reads(t, "-"+x.s, "-"+x.want, x.places)
		}
	}
}

// A text has at most 60 signs; a `-` and a point are two of them.
func TestGetOfLongTexts(t *testing.T) {
	for _, x := range []struct{ whole, part string }{
		{strings.Repeat("9", 60), ""}, {"1" + strings.Repeat("0", 59), ""}, {"-" + strings.Repeat("9", 59), ""}, {strings.Repeat("9", 58), "9"}, {"-" + strings.Repeat("9", 57), "9"},
		{strings.Repeat("7", 39), strings.Repeat("3", 20)}, {"1" + strings.Repeat("0", 38), strings.Repeat("0", 19) + "1"}, {"-1" + strings.Repeat("0", 37), strings.Repeat("0", 19) + "1"},
	} {
		s := strings.TrimSuffix(x.whole+"."+x.part, ".")
		if len(s) != 60 {
			t.Fatalf("%q has %d signs", s, len(s))
		}
		reads(t, s, fraction(t, x.whole+x.part).Mul(unit(t, len(x.part))).Text(), len(x.part))
		unread(t, x.whole+"1"+s[len(x.whole):])
		unread(t, "-"+strings.TrimPrefix(x.whole, "-")+"1"+s[len(x.whole):])
		unread(t, s+"1")
	}
	unread(t, "-"+strings.Repeat("9", 60))
	unread(t, strings.Repeat("9", 59)+".9")
	unread(t, "-"+strings.Repeat("9", 39)+"."+strings.Repeat("9", 20))
}

func TestGetOfWrongTexts(t *testing.T) {
	for _, s := range []string{
		"", "-", "--", ".", "-.", "..", ".5", "-.5", "5.", "-5.", "0.", "-0.", "00", "01", "-01", "00.5", "01.5", "-01.5", "-00", "-0", "-0.0", "-0.00", "-0." + strings.Repeat("0", 20), "--1", "---", "1-", "1.-5", "1.5-", "-1.-5",
		"+1", "-+1", "+-1", "1.+5", "1..5", "1.5.", ".1.5", "1.2.3", "1,5", "1.5,0", "1 000", "1_000", "1_0.5", "1.0_0", "1'000", " 1", "1 ", "\t1", "1\n", "1.5\n", "1. 5", "1 .5", "- 1", "1e3", "1.5e3", "1E0", "0x1", "1.0x1", "1/2", "1.5/2", "1%",
		"a", "1a", "a1", "1.a", "inf", "NaN", "\x00", "1\x00", "1.5\x00", "\xff", "1.\xff", "\u0661", "1.\u0665", "1\u00a0", "\uff11", "1\uff0e5", "\u22121", "1\u00b75",
		"0." + strings.Repeat("0", 21), "0." + strings.Repeat("1", 21), "1." + strings.Repeat("1", 58), "-1." + strings.Repeat("1", 21), strings.Repeat("9", 61), "-" + strings.Repeat("9", 60), strings.Repeat("0", 60),
		strings.Repeat("-", 60), strings.Repeat(".", 60), strings.Repeat("1", 100000), strings.Repeat("-", 100000), strings.Repeat(".", 100000), "0." + strings.Repeat("0", 100000), strings.Repeat("1", 4001),
	} {
		unread(t, s)
	}
}

// Each short text of these signs is a decimal or is none, as its form tells.
func TestGetOfAllShortTexts(t *testing.T) {
	form, nought := regexp.MustCompile(`^-?(0|[1-9][0-9]*)(\.[0-9]{1,20})?$`), regexp.MustCompile(`^-[0.]+$`)
	texts := []string{""}
	for at := 0; at < len(texts); at++ {
		s := texts[at]
		if len(s) < 5 {
			for _, sign := range "-.0159 e" {
				texts = append(texts, s+string(sign))
			}
		}
		if !form.MatchString(s) || nought.MatchString(s) {
			unread(t, s)
			continue
		}
		places := len(s) - 1 - strings.IndexByte(s+".", '.')
		a, got, err := dec.Get(s)
		if err != nil || got != max(places, 0) {
			t.Fatalf("Get(%q): %d, %v", s, got, err)
		}
		puts(t, a, got, s)
	}
}

func TestGetAndPutOfThrownTexts(t *testing.T) {
	c := thrower(1)
	for range 3000 {
		places := c.below(21)
		whole := "0"
		if c.below(4) > 0 {
			whole = c.digits(1 + c.below(38))
		}
		s, digits := whole, whole
		if places > 0 {
			part := strings.Repeat("0", c.below(places)) + c.digits(places)
			s, digits = whole+"."+part[:places], whole+part[:places]
		}
		digits = strings.TrimLeft(digits[:len(digits)-1], "0") + digits[len(digits)-1:]
		if c.below(2) == 0 && digits != "0" {
			s, digits = "-"+s, "-"+digits
		}
		value := fraction(t, digits).Mul(unit(t, places))
		reads(t, s, value.Text(), places)
		puts(t, value, places, s)
		for mode := api.HalfUp; mode <= api.Truncate; mode++ {
			rounds(t, value, places, mode, s)
		}
	}
}

func TestPut(t *testing.T) {
	deep, long := "1"+strings.Repeat("0", 20), strings.Repeat("7", 200)
	for _, x := range []struct {
		a      string
		places int
		want   string
	}{
		{"0", 0, "0"}, {"0", 1, "0.0"}, {"0", 20, "0." + strings.Repeat("0", 20)}, {"3/2", 1, "1.5"}, {"3/2", 3, "1.500"}, {"7", 0, "7"}, {"700", 0, "700"}, {"7", 20, "7." + strings.Repeat("0", 20)}, {"1/20", 2, "0.05"}, {"1/8", 3, "0.125"},
		{"1/8", 5, "0.12500"}, {"41/4", 2, "10.25"}, {"1/1000", 3, "0.001"}, {"1/" + deep, 20, "0." + strings.Repeat("0", 19) + "1"}, {"1/1048576", 20, "0.00000095367431640625"}, {"100", 2, "100.00"}, {"999/100", 2, "9.99"},
		{long, 0, long}, {long, 2, long + ".00"}, {long + "/" + deep, 20, long[:180] + "." + long[180:]},
	} {
		a := fraction(t, x.a)
		puts(t, a, x.places, x.want)
		if x.a != "0" {
			puts(t, fraction(t, "-"+x.a), x.places, "-"+x.want)
		}
	}
}

func TestPutOfNone(t *testing.T) {
	for _, x := range []struct {
		a      string
		places int
	}{
		{"3/2", 0}, {"-3/2", 0}, {"1/20", 1}, {"1/8", 2}, {"1/1000", 2}, {"1/3", 0}, {"1/3", 2}, {"1/3", 20}, {"-2/3", 20}, {"1/7", 20}, {"1/6", 20}, {"1/1" + strings.Repeat("0", 20), 19}, {"1/1" + strings.Repeat("0", 21), 20},
		{"1/2097152", 20}, {"1/" + strings.Repeat("3", 4000), 20}, {strings.Repeat("3", 4000) + "/7", 20},
	} {
		unput(t, fraction(t, x.a), x.places)
	}
	for _, places := range []int{-1, 21, -20, 22, 60, math.MaxInt, math.MinInt} {
		for _, a := range []*rat.Rat{nil, {}, of(t, 0, 1), of(t, 7, 1), of(t, -3, 2)} {
			unput(t, a, places)
		}
	}
}

// modes gives the texts of a by each mode.
func modes(t *testing.T, a *rat.Rat, places int) string {
	t.Helper()
	var all []string
	for _, mode := range []int{api.HalfUp, api.HalfEven, api.Truncate} {
		s, err := dec.Round(a, places, mode)
		if err != nil {
			t.Fatalf("Round of %.60s, %d, %d: %v", a.Text(), places, mode, err)
		}
		all = append(all, s)
	}
	return strings.Join(all, " ")
}

func TestRound(t *testing.T) {
	tiny, noughts, nines := "1"+strings.Repeat("0", 40), strings.Repeat("0", 20), strings.Repeat("9", 100)
	for _, x := range []struct {
		a      string
		places int
		want   string
	}{
		{"0", 0, "0 0 0"}, {"0", 2, "0.00 0.00 0.00"}, {"7", 3, "7.000 7.000 7.000"}, {"-7", 1, "-7.0 -7.0 -7.0"},
		{"1/2", 0, "1 0 0"}, {"3/2", 0, "2 2 1"}, {"5/2", 0, "3 2 2"}, {"7/2", 0, "4 4 3"}, {"-1/2", 0, "-1 0 0"}, {"-3/2", 0, "-2 -2 -1"}, {"-5/2", 0, "-3 -2 -2"}, {"-7/2", 0, "-4 -4 -3"},
		{"1/3", 2, "0.33 0.33 0.33"}, {"2/3", 2, "0.67 0.67 0.66"}, {"-1/3", 2, "-0.33 -0.33 -0.33"}, {"-2/3", 2, "-0.67 -0.67 -0.66"}, {"2/3", 20, "0.66666666666666666667 0.66666666666666666667 0.66666666666666666666"},
		{"1/200", 2, "0.01 0.00 0.00"}, {"3/200", 2, "0.02 0.02 0.01"}, {"-1/200", 2, "-0.01 0.00 0.00"}, {"-3/200", 2, "-0.02 -0.02 -0.01"}, {"-1/1000", 2, "0.00 0.00 0.00"}, {"-1/3", 0, "0 0 0"}, {"-2/3", 0, "-1 -1 0"},
		{"999/1000", 2, "1.00 1.00 0.99"}, {"1999/200", 2, "10.00 10.00 9.99"}, {"1989/200", 2, "9.95 9.94 9.94"}, {"-199999/2000", 2, "-100.00 -100.00 -99.99"}, {"19/2", 0, "10 10 9"}, {"-199/2", 0, "-100 -100 -99"},
		{"4" + strings.Repeat("9", 39) + "/" + tiny, 0, "0 0 0"}, {"5" + strings.Repeat("0", 38) + "1/" + tiny, 0, "1 1 0"}, {"-4" + strings.Repeat("9", 39) + "/" + tiny, 0, "0 0 0"}, {"-5" + strings.Repeat("0", 38) + "1/" + tiny, 0, "-1 -1 0"},
		{"1/2" + noughts, 20, "0.00000000000000000001 0." + noughts + " 0." + noughts}, {"3/2" + noughts, 20, "0.00000000000000000002 0.00000000000000000002 0.00000000000000000001"},
		{nines + "/2", 0, "5" + noughts + noughts + noughts + noughts + noughts[1:] + " 5" + noughts + noughts + noughts + noughts + noughts[1:] + " 4" + nines[1:]},
		{nines, 1, nines + ".0 " + nines + ".0 " + nines + ".0"}, {"1/" + nines, 20, "0." + noughts + " 0." + noughts + " 0." + noughts},
	} {
		if got := modes(t, fraction(t, x.a), x.places); got != x.want {
			t.Errorf("Round of %.60s, %d: %s, not %s", x.a, x.places, got, x.want)
		}
	}
}

// ofSmall gives n / d, d above 0, rounded to a whole number by hand.
func ofSmall(n, d int64, mode int) int64 {
	whole, rest := max(n, -n)/d, max(n, -n)%d
	left := d - rest
	if mode == api.HalfUp && rest >= left || mode == api.HalfEven && (rest > left || rest == left && whole%2 == 1) {
		whole++
	}
	if n < 0 {
		return -whole
	}
	return whole
}

func TestRoundAndUnitsOfSmallFractions(t *testing.T) {
	for n := int64(-60); n <= 60; n++ {
		for d := int64(1); d <= 20; d++ {
			a := of(t, n, d)
			for mode := api.HalfUp; mode <= api.Truncate; mode++ {
				whole := ofSmall(n, d, mode)
				counts(t, a, mode, whole)
				rounds(t, a, 0, mode, fmt.Sprint(whole))
				cents := ofSmall(100*n, d, mode)
				want := fmt.Sprintf("%d.%02d", max(cents, -cents)/100, max(cents, -cents)%100)
				if cents < 0 {
					want = "-" + want
				}
				rounds(t, a, 2, mode, want)
			}
		}
	}
}

// No decimal of so many places is nearer, and toward nought nothing is passed.
func TestRoundIsNearest(t *testing.T) {
	c := thrower(2)
	for range 3000 {
		top, _ := num.Get(c.digits(1 + c.below(39)))
		under, _ := num.Get(c.digits(1 + c.below(39)))
		a, err := rat.New(top, under)
		if err != nil {
			t.Fatal(err)
		}
		if c.below(2) == 0 {
			a = a.Sub(a).Sub(a)
		}
		places := c.below(21)
		for mode := api.HalfUp; mode <= api.Truncate; mode++ {
			s, err := dec.Round(a, places, mode)
			got, read, formErr := dec.Get(s)
			if err != nil || formErr != nil || read != places {
				t.Fatalf("Round of %s, %d, %d: %q, %v, %v", a.Text(), places, mode, s, err, formErr)
			}
			off := size(got.Sub(a))
			if mode == api.Truncate && (size(got).Cmp(size(a)) > 0 || off.Cmp(unit(t, places)) >= 0) || mode != api.Truncate && off.Add(off).Cmp(unit(t, places)) > 0 {
				t.Fatalf("Round of %s, %d, %d: %s", a.Text(), places, mode, s)
			}
		}
	}
}

// A half is even by HalfEven, away from nought by HalfUp.
func TestRoundOfHalves(t *testing.T) {
	c := thrower(3)
	half := of(t, 1, 2)
	for range 1000 {
		places, digits := c.below(21), c.digits(21+c.below(15))
		below := fraction(t, digits)
		a, next := below.Add(half).Mul(unit(t, places)), below.Add(half).Add(half).Mul(unit(t, places))
		low, ok := dec.Put(below.Mul(unit(t, places)), places)
		high, alsoOk := dec.Put(next, places)
		if !ok || !alsoOk {
			t.Fatalf("Put of %s", digits)
		}
		even := low
		if (digits[len(digits)-1]-'0')%2 == 1 {
			even = high
		}
		if got, want := modes(t, a, places), high+" "+even+" "+low; got != want {
			t.Fatalf("Round of %s, %d: %s, not %s", a.Text(), places, got, want)
		}
		if got, want := modes(t, a.Sub(a).Sub(a), places), "-"+high+" -"+even+" -"+low; got != want {
			t.Fatalf("Round of -%s, %d: %s, not %s", a.Text(), places, got, want)
		}
	}
}

func TestRoundOfWrongPlacesAndModes(t *testing.T) {
	for _, a := range []*rat.Rat{nil, {}, of(t, 0, 1), of(t, 7, 1), of(t, -1, 3)} {
		for _, places := range []int{-1, 21, -20, 22, math.MaxInt, math.MinInt} {
			for _, mode := range []int{0, 1, 2, 3, 4, -1, math.MaxInt, math.MinInt} {
				if s, err := dec.Round(a, places, mode); s != "" || !errors.Is(err, fault.Of(api.ErrRange)) {
					t.Errorf("Round of %s, %d, %d: %q, %v", a.Text(), places, mode, s, err)
				}
			}
		}
		for places := range 21 {
			for _, mode := range []int{0, 4, -1, -3, math.MaxInt, math.MinInt} {
				if s, err := dec.Round(a, places, mode); s != "" || !errors.Is(err, fault.Of(api.ErrForm)) {
					t.Errorf("Round of %s, %d, %d: %q, %v", a.Text(), places, mode, s, err)
				}
			}
		}
	}
}

func TestUnitsAtTheEnds(t *testing.T) {
	none := api.ErrLarge
	for _, x := range []struct {
		a      string
		want   [3]int64 // by HalfUp, HalfEven, Truncate
		errors [3]api.Errno
	}{
		{"9223372036854775807", [3]int64{math.MaxInt64, math.MaxInt64, math.MaxInt64}, [3]api.Errno{}},
		{"18446744073709551613/2", [3]int64{math.MaxInt64, math.MaxInt64 - 1, math.MaxInt64 - 1}, [3]api.Errno{}},
		{"27670116110564327422/3", [3]int64{math.MaxInt64, math.MaxInt64, math.MaxInt64}, [3]api.Errno{}},
		{"18446744073709551615/2", [3]int64{0, 0, math.MaxInt64}, [3]api.Errno{none, none, 0}},
		{"27670116110564327423/3", [3]int64{0, 0, math.MaxInt64}, [3]api.Errno{none, none, 0}},
		{"9223372036854775808", [3]int64{}, [3]api.Errno{none, none, none}},
		{"-9223372036854775808", [3]int64{math.MinInt64, math.MinInt64, math.MinInt64}, [3]api.Errno{}},
		{"-18446744073709551615/2", [3]int64{math.MinInt64, math.MinInt64, math.MinInt64 + 1}, [3]api.Errno{}},
		{"-27670116110564327425/3", [3]int64{math.MinInt64, math.MinInt64, math.MinInt64}, [3]api.Errno{}},
		{"-18446744073709551617/2", [3]int64{0, math.MinInt64, math.MinInt64}, [3]api.Errno{none, 0, 0}},
		{"-27670116110564327426/3", [3]int64{0, 0, math.MinInt64}, [3]api.Errno{none, none, 0}},
		{"-9223372036854775809", [3]int64{}, [3]api.Errno{none, none, none}},
		{"18446744073709551616", [3]int64{}, [3]api.Errno{none, none, none}},
		{"-18446744073709551616", [3]int64{}, [3]api.Errno{none, none, none}},
		{"-" + strings.Repeat("9", 4000), [3]int64{}, [3]api.Errno{none, none, none}},
		{strings.Repeat("9", 4000) + "/7", [3]int64{}, [3]api.Errno{none, none, none}},
		{"1/" + strings.Repeat("9", 4000), [3]int64{}, [3]api.Errno{}},
	} {
		a := fraction(t, x.a)
		for k, mode := range []int{api.HalfUp, api.HalfEven, api.Truncate} {
			if x.errors[k] != api.OK {
				uncounted(t, a, mode, x.errors[k])
				continue
			}
			counts(t, a, mode, x.want[k])
		}
	}
}

// What by no mode is an int64 is too large first, whatever the mode.
func TestUnitsOfWrongModes(t *testing.T) {
	for _, mode := range []int{0, 4, -1, -2, -3, 5, math.MaxInt, math.MinInt} {
		for _, a := range []string{"0", "7", "-1/2", "9223372036854775807", "18446744073709551615/2", "-9223372036854775808", "-18446744073709551617/2"} {
			uncounted(t, fraction(t, a), mode, api.ErrForm)
		}
		for _, a := range []string{"9223372036854775808", "18446744073709551617/2", "-9223372036854775809", "-18446744073709551619/2", strings.Repeat("9", 4000)} {
			uncounted(t, fraction(t, a), mode, api.ErrLarge)
		}
	}
}

func TestNilIsNought(t *testing.T) {
	for _, none := range []*rat.Rat{nil, {}} {
		puts(t, none, 0, "0")
		puts(t, none, 1, "0.0")
		for mode := api.HalfUp; mode <= api.Truncate; mode++ {
			rounds(t, none, 0, mode, "0")
			rounds(t, none, 3, mode, "0.000")
			counts(t, none, mode, 0)
		}
		uncounted(t, none, 0, api.ErrForm)
	}
}

// Whoever writes over what Get answered changes no other answer, and no call
// changes what it is handed.
func TestNothingIsShared(t *testing.T) {
	for _, s := range []string{"0", "1", "-1.50"} {
		a, _, err := dec.Get(s)
		if err != nil {
			t.Fatal(err)
		}
		want := a.Text()
		*a = *of(t, 5, 9)
		again, places, err := dec.Get(s)
		if err != nil || again.Text() != want {
			t.Fatalf("Get(%q) again: %s, %v", s, again.Text(), err)
		}
		puts(t, again, places, s)
		modes(t, again, 0)
		if _, err := dec.Units(again, api.HalfUp); err != nil {
			t.Fatal(err)
		}
		if again.Text() != want {
			t.Fatalf("%q was changed: %s", s, again.Text())
		}
	}
}
