package num_test

import (
	"cmp"
	"errors"
	"fmt"
	"math"
	"strings"
	"testing"

	"rentier/api"
	"rentier/fault"
	"rentier/nat"
	"rentier/num"
)

// thrower throws numbers, always the same ones.
type thrower uint64

func (c *thrower) word() uint64 {
	*c = *c*6364136223846793005 + 1442695040888963407
	x := uint64(*c)
	return (x ^ x>>29) * 0x9e3779b97f4a7c15
}

func (c *thrower) below(n int) int { return int(c.word() >> 33 % uint64(n)) }

// number throws a number of at most so many words, of either sign, often with
// odd words.
func (c *thrower) number(most int) *num.Int {
	size := nat.Of(0)
	odd := c.below(3) == 0
	for range c.below(most + 1) {
		word := c.word()
		if odd {
			word = []uint64{0, 1, math.MaxUint64, 1 << 63, 1<<63 - 1, 2}[c.below(6)]
		}
		size = size.Mul(nat.Of(1 << 32)).Mul(nat.Of(1 << 32)).Add(nat.Of(word))
	}
	return num.New(c.below(2) == 0, size)
}

// get gives the number of a right text.
func get(t *testing.T, s string) *num.Int {
	t.Helper()
	n, err := num.Get(s)
	if err != nil || n == nil {
		t.Fatalf("Get(%.30q): %v", s, err)
	}
	return n
}

// same fails unless n is the number of the text.
func same(t *testing.T, what string, n *num.Int, want string) {
	t.Helper()
	if got := n.Text(); got != want {
		t.Errorf("%s: %.60s, not %.60s", what, got, want)
	}
}

// nought fails unless n is 0 in all that can be asked of it.
func nought(t *testing.T, what string, n *num.Int) {
	t.Helper()
	small, ok := n.Small()
	if n == nil || n.Text() != "0" || n.Sign() != 0 || n.Cmp(num.Of(0)) != 0 || num.Of(0).Cmp(n) != 0 || !n.Abs().Zero() || small != 0 || !ok {
		t.Errorf("%s: %s, Sign %d", what, n.Text(), n.Sign())
	}
}

// edges are numbers next to where words and int64s end.
func edges() []int64 {
	return []int64{math.MinInt64, math.MinInt64 + 1, -1 << 32, -1<<32 + 1, -10, -9, -2, -1, 0, 1, 2, 9, 10, 1<<32 - 1, 1 << 32, math.MaxInt64 - 1, math.MaxInt64}
}

func TestGetAndText(t *testing.T) {
	if n := get(t, "0"); n.Sign() != 0 {
		t.Errorf("Sign of 0: %d", n.Sign())
	}
	for _, digits := range []string{
		"1", "9", "10", "9223372036854775807", "9223372036854775808", "9999999999999999999", "18446744073709551615", "18446744073709551616",
		"340282366920938463463374607431768211456", "1" + strings.Repeat("0", 3999), strings.Repeat("9", 4000),
	} {
		above, below := get(t, digits), get(t, "-"+digits)
		same(t, "above 0", above, digits)
		same(t, "below 0", below, "-"+digits)
		if above.Sign() != 1 || below.Sign() != -1 || above.Cmp(below.Neg()) != 0 || above.Cmp(below) != 1 {
			t.Errorf("%.30s and its opposite", digits)
		}
	}
}

func TestGetOfWrongTexts(t *testing.T) {
	for _, s := range []string{
		"", "-", "--", "--1", "-+1", "+", "+1", "+0", "-0", "-00", "-01", "00", "01", " 1", "- 1", " -1", "-1 ", "-1\n", "1-", "-1-", "-1_000",
		"0x1", "-0x1", "1e3", "1.0", "-1.0", "1/2", "a", "-a", "\x00", "-\x00", "\xff", "\u22121", "\u2013" + "1", "-\u0661", "\uff0d1",
		strings.Repeat("1", 4001), "-" + strings.Repeat("1", 4001), "-0" + strings.Repeat("1", 3999), "-" + strings.Repeat("1", 3999) + ":",
		strings.Repeat("-", 100000), "-" + strings.Repeat("1", 100000),
	} {
		if n, err := num.Get(s); n != nil || !errors.Is(err, fault.Of(api.ErrForm)) || fault.Code(err) != api.ErrForm {
			t.Errorf("Get(%.30q): %v, %v", s, n, err)
		}
	}
}

func TestOfAndSmall(t *testing.T) {
	for _, x := range edges() {
		n := num.Of(x)
		same(t, "Of", n, fmt.Sprint(x))
		if got, ok := n.Small(); got != x || !ok {
			t.Errorf("Small of %d: %d, %v", x, got, ok)
		}
		if got, ok := get(t, fmt.Sprint(x)).Small(); got != x || !ok {
			t.Errorf("Small of the text of %d: %d, %v", x, got, ok)
		}
		if got, want := n.Sign(), cmp.Compare(x, 0); got != want {
			t.Errorf("Sign of %d: %d", x, got)
		}
	}
	nought(t, "Of", num.Of(0))
	for _, s := range []string{
		"9223372036854775808", "-9223372036854775809", "18446744073709551615", "-18446744073709551615", "18446744073709551616",
		"-18446744073709551616", "18446744073709551617", "-18446744073709551617", "-340282366920938463463374607431768211456", strings.Repeat("9", 4000),
	} {
		if got, ok := get(t, s).Small(); got != 0 || ok {
			t.Errorf("Small of %.30s: %d, %v", s, got, ok)
		}
	}
}

func TestNew(t *testing.T) {
	same(t, "New", num.New(false, nat.Of(5)), "5")
	same(t, "New", num.New(true, nat.Of(5)), "-5")
	same(t, "New", num.New(true, nat.Of(math.MaxUint64)), "-18446744073709551615")
	same(t, "New", num.New(true, nat.Of(10).Pow(300)), "-1"+strings.Repeat("0", 300))
	for _, none := range []*nat.Nat{nat.Of(0), nil, {}} {
		nought(t, "New", num.New(false, none))
		nought(t, "New, neg", num.New(true, none))
	}
}

func TestNegAndAbs(t *testing.T) {
	for _, x := range []struct{ n, neg, abs string }{
		{"0", "0", "0"}, {"1", "-1", "1"}, {"-1", "1", "1"}, {"-9223372036854775808", "9223372036854775808", "9223372036854775808"},
		{"18446744073709551616", "-18446744073709551616", "18446744073709551616"}, {"-" + strings.Repeat("7", 4000), strings.Repeat("7", 4000), strings.Repeat("7", 4000)},
	} {
		n := get(t, x.n)
		same(t, "Neg", n.Neg(), x.neg)
		same(t, "Neg of Neg", n.Neg().Neg(), x.n)
		if got := n.Abs().Text(); got != x.abs {
			t.Errorf("Abs of %.30s: %.30s", x.n, got)
		}
		same(t, "the same number", n, x.n)
	}
	nought(t, "Neg of 0", num.Of(0).Neg())
}

func TestCmp(t *testing.T) {
	rising := []string{
		"-340282366920938463463374607431768211456", "-18446744073709551617", "-18446744073709551616", "-18446744073709551615", "-2", "-1",
		"0", "1", "2", "18446744073709551615", "18446744073709551616", "18446744073709551617", "340282366920938463463374607431768211456",
	}
	for i, a := range rising {
		for j, b := range rising {
			if got := get(t, a).Cmp(get(t, b)); got != cmp.Compare(i, j) {
				t.Errorf("Cmp of %s, %s: %d", a, b, got)
			}
		}
	}
}

func TestSumsAndProducts(t *testing.T) {
	for _, x := range []struct{ a, b, sum, difference, product string }{
		{"18446744073709551615", "1", "18446744073709551616", "18446744073709551614", "18446744073709551615"},
		{"18446744073709551616", "-1", "18446744073709551615", "18446744073709551617", "-18446744073709551616"},
		{"-18446744073709551615", "-1", "-18446744073709551616", "-18446744073709551614", "18446744073709551615"},
		{"-18446744073709551616", "1", "-18446744073709551615", "-18446744073709551617", "-18446744073709551616"},
		{"1", "-18446744073709551616", "-18446744073709551615", "18446744073709551617", "-18446744073709551616"},
		{"-1", "18446744073709551616", "18446744073709551615", "-18446744073709551617", "-18446744073709551616"},
		{"-9223372036854775808", "-9223372036854775808", "-18446744073709551616", "0", "85070591730234615865843651857942052864"},
		{"9223372036854775807", "-9223372036854775808", "-1", "18446744073709551615", "-85070591730234615856620279821087277056"},
		{"-340282366920938463463374607431768211455", "340282366920938463463374607431768211455", "0", "-680564733841876926926749214863536422910",
			"-115792089237316195423570985008687907852589419931798687112530834793049593217025"},
	} {
		a, b := get(t, x.a), get(t, x.b)
		same(t, "Add of "+x.a+", "+x.b, a.Add(b), x.sum)
		same(t, "Sub of "+x.a+", "+x.b, a.Sub(b), x.difference)
		same(t, "Mul of "+x.a+", "+x.b, a.Mul(b), x.product)
		same(t, "the same number", a, x.a)
		same(t, "the same number", b, x.b)
	}
}

func TestNoughtHasNoSign(t *testing.T) {
	for _, x := range edges() {
		n := num.Of(x)
		nought(t, "n - n", n.Sub(n))
		nought(t, "n + -n", n.Add(n.Neg()))
		nought(t, "n * 0", n.Mul(num.Of(0)))
		nought(t, "0 * n", num.Of(0).Mul(n))
		if x != 0 {
			q, r, _ := num.Of(0).Div(n)
			nought(t, "0 by n, q", q)
			nought(t, "0 by n, r", r)
			_, r, _ = n.Div(n)
			nought(t, "n by n, r", r)
			_, r, _ = n.Div(n.Neg())
			nought(t, "n by -n, r", r)
		}
	}
}

// floor gives the quotient downward and the rest.
func floor(a, b int64) (q, r int64) {
	q, r = a/b, a%b
	if r != 0 && (r < 0) != (b < 0) {
		q, r = q-1, r+b
	}
	return q, r
}

func TestSmallNumbers(t *testing.T) {
	for a := int64(-40); a <= 40; a++ {
		for b := int64(-40); b <= 40; b++ {
			x, y := num.Of(a), num.Of(b)
			same(t, fmt.Sprint(a, "+", b), x.Add(y), fmt.Sprint(a+b))
			same(t, fmt.Sprint(a, "-", b), x.Sub(y), fmt.Sprint(a-b))
			same(t, fmt.Sprint(a, "*", b), x.Mul(y), fmt.Sprint(a*b))
			if got := x.Cmp(y); got != cmp.Compare(a, b) {
				t.Errorf("Cmp of %d, %d: %d", a, b, got)
			}
			if b == 0 {
				continue
			}
			q, r, err := x.Div(y)
			if wantQ, wantR := floor(a, b); err != nil || q.Text() != fmt.Sprint(wantQ) || r.Text() != fmt.Sprint(wantR) {
				t.Errorf("%d by %d: %s, %s, %v", a, b, q.Text(), r.Text(), err)
			}
		}
	}
}

func TestDiv(t *testing.T) {
	for _, x := range []struct{ a, b, q, r string }{
		{"7", "2", "3", "1"}, {"-7", "2", "-4", "1"}, {"7", "-2", "-4", "-1"}, {"-7", "-2", "3", "-1"},
		{"6", "-2", "-3", "0"}, {"-6", "2", "-3", "0"}, {"-6", "-2", "3", "0"}, {"1", "-7", "-1", "-6"}, {"-1", "7", "-1", "6"}, {"-1", "-7", "0", "-1"},
		{"-9223372036854775808", "-1", "9223372036854775808", "0"}, {"-18446744073709551615", "1", "-18446744073709551615", "0"},
		{"-340282366920938463463374607431768211455", "18446744073709551616", "-18446744073709551616", "1"},
		{"340282366920938463463374607431768211455", "-18446744073709551616", "-18446744073709551616", "-1"},
		{"-340282366920938463463374607431768211456", "18446744073709551616", "-18446744073709551616", "0"},
		{"-1", "340282366920938463463374607431768211456", "-1", "340282366920938463463374607431768211455"},
	} {
		q, r, err := get(t, x.a).Div(get(t, x.b))
		if err != nil || q.Text() != x.q || r.Text() != x.r {
			t.Errorf("Div of %s by %s: %s, %s, %v", x.a, x.b, q.Text(), r.Text(), err)
		}
	}
	for _, n := range []*num.Int{num.Of(0), num.Of(1), num.Of(-1), get(t, "-"+strings.Repeat("8", 300)), nil} {
		for _, none := range []*num.Int{num.Of(0), nil, {}} {
			if q, r, err := n.Div(none); q != nil || r != nil || !errors.Is(err, fault.Of(api.ErrZero)) || fault.Code(err) != api.ErrZero {
				t.Errorf("Div of %s by 0: %v, %v, %v", n.Text(), q, r, err)
			}
		}
	}
}

func TestDivBackToMul(t *testing.T) {
	c := thrower(1)
	for range 20000 {
		a, b := c.number(6), c.number(4)
		q, r, err := a.Div(b)
		if b.Sign() == 0 {
			if q != nil || r != nil || err == nil {
				t.Fatalf("Div by 0: %v, %v, %v", q, r, err)
			}
			continue
		}
		if err != nil || q.Mul(b).Add(r).Cmp(a) != 0 || r.Abs().Cmp(b.Abs()) >= 0 || r.Sign() != 0 && r.Sign() != b.Sign() {
			t.Fatalf("Div of %s by %s: %s, %s, %v", a.Text(), b.Text(), q.Text(), r.Text(), err)
		}
	}
}

func TestLaws(t *testing.T) {
	c := thrower(2)
	for range 5000 {
		a, b, d := c.number(5), c.number(5), c.number(5)
		if get(t, a.Text()).Cmp(a) != 0 || num.New(a.Sign() < 0, a.Abs()).Cmp(a) != 0 {
			t.Fatalf("Text, New of %s", a.Text())
		}
		if a.Add(b).Sub(b).Cmp(a) != 0 || a.Sub(b).Cmp(b.Sub(a).Neg()) != 0 || a.Add(b).Cmp(b.Add(a)) != 0 || a.Add(b).Add(d).Cmp(a.Add(b.Add(d))) != 0 {
			t.Fatalf("Add, Sub of %s, %s, %s", a.Text(), b.Text(), d.Text())
		}
		if a.Add(b).Mul(d).Cmp(a.Mul(d).Add(b.Mul(d))) != 0 || a.Mul(b).Sign() != a.Sign()*b.Sign() {
			t.Fatalf("Mul of %s, %s, %s", a.Text(), b.Text(), d.Text())
		}
		if a.Cmp(b) != a.Sub(b).Sign() || a.Cmp(b) != -b.Cmp(a) || a.Cmp(a.Add(num.Of(1))) != -1 {
			t.Fatalf("Cmp of %s, %s", a.Text(), b.Text())
		}
	}
}

func TestNilIsNought(t *testing.T) {
	for _, none := range []*num.Int{nil, {}} {
		same(t, "Text", none, "0")
		same(t, "Add", none.Add(num.Of(-3)), "-3")
		same(t, "Add", num.Of(-3).Add(none), "-3")
		same(t, "Sub", none.Sub(num.Of(-3)), "3")
		same(t, "Sub", num.Of(-3).Sub(none), "-3")
		nought(t, "Add", none.Add(none))
		nought(t, "Sub", none.Sub(none))
		nought(t, "Mul", none.Mul(num.Of(-3)))
		nought(t, "Mul", num.Of(-3).Mul(none))
		nought(t, "Neg", none.Neg())
		if q, r, err := none.Div(num.Of(-3)); err != nil || q.Text() != "0" || r.Text() != "0" {
			t.Errorf("Div: %v, %v, %v", q, r, err)
		}
		if none.Cmp(num.Of(-1)) != 1 || num.Of(-1).Cmp(none) != -1 || none.Cmp(num.Of(1)) != -1 || none.Cmp(num.Of(0)) != 0 || none.Cmp(nil) != 0 || num.Of(0).Cmp(none) != 0 {
			t.Error("Cmp")
		}
		if none.Sign() != 0 || none.Abs() == nil || !none.Abs().Zero() {
			t.Error("Sign, Abs")
		}
		if got, ok := none.Small(); got != 0 || !ok {
			t.Errorf("Small: %d, %v", got, ok)
		}
	}
}

// Whoever writes over what he handed in or was answered changes no number.
func TestNumbersAreNotShared(t *testing.T) {
	size := nat.Of(5)
	n := num.New(true, size)
	*size = *nat.Of(7)
	same(t, "New", n, "-5")
	*n.Abs() = *nat.Of(7)
	same(t, "Abs", n, "-5")
	answers := []*num.Int{n.Add(nil), n.Add(num.Of(0)), n.Sub(nil), n.Mul(num.Of(1)), n.Neg().Neg(), n.Neg()}
	q, _, _ := n.Div(num.Of(1))
	_, r, _ := n.Div(num.Of(-9))
	for _, answer := range append(answers, q, r) {
		if answer == n {
			t.Error("an answer is the number itself")
		}
		*answer = *num.Of(7)
	}
	same(t, "the number", n, "-5")
	*num.Of(0) = *num.Of(7)
	*(*num.Int)(nil).Neg() = *num.Of(7)
	*(*num.Int)(nil).Abs() = *nat.Of(7)
	nought(t, "Of", num.Of(0))
	nought(t, "Neg of nil", (*num.Int)(nil).Neg())
	if !(*num.Int)(nil).Abs().Zero() {
		t.Error("Abs of nil")
	}
}
