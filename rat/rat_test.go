package rat_test

import (
	"cmp"
	"errors"
	"fmt"
	"math"
	"strings"
	"testing"

	"rentier/api"
	"rentier/fault"
	"rentier/nat"
	"rentier/num"
	"rentier/rat"
)

// thrower throws numbers, always the same ones.
type thrower uint64

func (c *thrower) word() uint64 {
	*c = *c*6364136223846793005 + 1442695040888963407
	x := uint64(*c)
	return (x ^ x>>29) * 0x9e3779b97f4a7c15
}

func (c *thrower) below(n int) int { return int(c.word() >> 33 % uint64(n)) }

// number throws a number of either sign: a product of small powers, of which
// two often have some in common, and of at most so many words.
func (c *thrower) number(most int) *num.Int {
	size := nat.Of([]uint64{1, 1, 2, 3, 12, 360, 1 << 40}[c.below(7)]).Pow(c.below(4))
	for range c.below(most + 1) {
		size = size.Mul(nat.Of(c.word() >> c.below(64))).Add(nat.Of(uint64(c.below(2))))
	}
	return num.New(c.below(2) == 0, size)
}

// fraction throws a fraction.
func (c *thrower) fraction(most int) *rat.Rat {
	for {
		if a, err := rat.New(c.number(most), c.number(most)); err == nil {
			return a
		}
	}
}

// of gives a fraction of small numbers.
func of(t *testing.T, n, d int64) *rat.Rat {
	t.Helper()
	a, err := rat.Of(n, d)
	return right(t, fmt.Sprint("Of ", n, ", ", d), a, err)
}

// get gives the fraction of a right text.
func get(t *testing.T, s string) *rat.Rat {
	t.Helper()
	a, err := rat.Get(s)
	return right(t, "Get", a, err)
}

// right gives a fraction that comes with no error.
func right(t *testing.T, what string, a *rat.Rat, err error) *rat.Rat {
	t.Helper()
	if err != nil || a == nil {
		t.Fatalf("%s: %v, %v", what, a, err)
	}
	return a
}

// refused fails unless there is no fraction but that error.
func refused(t *testing.T, what string, a *rat.Rat, err error, code api.Errno) {
	t.Helper()
	if a != nil || !errors.Is(err, fault.Of(code)) || fault.Code(err) != code {
		t.Errorf("%s: %v, %v", what, a, err)
	}
}

// same fails unless a is the fraction of the text, in lowest terms.
func same(t *testing.T, what string, a *rat.Rat, want string) {
	t.Helper()
	if got := a.Text(); a == nil || got != want {
		t.Fatalf("%s: %.60s, not %.60s", what, got, want)
	}
	n, d, cut := strings.Cut(want, "/")
	if !cut {
		d = "1"
	}
	if a.Num().Text() != n || a.Den().Text() != d {
		t.Fatalf("%s: Num, Den: %.60s, %.60s of %.60s", what, a.Num().Text(), a.Den().Text(), want)
	}
}

// lowest gives the text of n / d.
func lowest(n, d int64) string {
	if d < 0 {
		n, d = -n, -d
	}
	common := max(n, -n)
	for rest := d; rest != 0; {
		common, rest = rest, common%rest
	}
	if d == common {
		return fmt.Sprint(n / common)
	}
	return fmt.Sprint(n/common, "/", d/common)
}

func TestOf(t *testing.T) {
	for _, x := range []struct {
		n, d int64
		want string
	}{
		{0, 1, "0"}, {0, -7, "0"}, {0, math.MinInt64, "0"}, {5, 1, "5"}, {5, -1, "-5"}, {-5, 5, "-1"}, {-5, -5, "1"}, {10, 4, "5/2"}, {-10, 4, "-5/2"}, {10, -4, "-5/2"},
		{-10, -4, "5/2"}, {1, 7, "1/7"}, {7, 1, "7"}, {math.MaxInt64, math.MaxInt64, "1"}, {math.MinInt64, math.MinInt64, "1"}, {math.MinInt64, -1, "9223372036854775808"},
		{math.MinInt64, 1, "-9223372036854775808"}, {1, math.MinInt64, "-1/9223372036854775808"}, {-1, math.MinInt64, "1/9223372036854775808"},
		{math.MinInt64, math.MaxInt64, "-9223372036854775808/9223372036854775807"}, {math.MaxInt64, math.MinInt64, "-9223372036854775807/9223372036854775808"},
		{math.MinInt64, 6, "-4611686018427387904/3"}, {6, math.MinInt64, "-3/4611686018427387904"},
	} {
		same(t, fmt.Sprint("Of ", x.n, ", ", x.d), of(t, x.n, x.d), x.want)
	}
	for _, n := range []int64{0, 1, -1, math.MinInt64, math.MaxInt64} {
		a, err := rat.Of(n, 0)
		refused(t, fmt.Sprint("Of ", n, ", 0"), a, err, api.ErrZero)
	}
}

func TestNew(t *testing.T) {
	big, _ := num.Get("-" + strings.Repeat("6", 3000))
	for _, x := range []struct {
		n, d *num.Int
		want string
	}{
		{num.Of(6), num.Of(-4), "-3/2"}, {nil, num.Of(-4), "0"}, {&num.Int{}, num.Of(4), "0"}, {big, big, "1"}, {big, big.Neg(), "-1"}, {big, num.Of(-6), strings.Repeat("1", 3000)},
		{num.Of(6), big, "-1/" + strings.Repeat("1", 3000)}, {big.Mul(num.Of(35)), big.Mul(num.Of(-10)), "-7/2"},
	} {
		a, err := rat.New(x.n, x.d)
		same(t, "New", right(t, "New", a, err), x.want)
	}
	for _, none := range []*num.Int{nil, {}, num.Of(0)} {
		for _, n := range []*num.Int{nil, {}, num.Of(0), num.Of(-3), big} {
			a, err := rat.New(n, none)
			refused(t, "New by 0", a, err, api.ErrZero)
		}
	}
}

func TestGetAndText(t *testing.T) {
	long, ten := strings.Repeat("9", 4000), "1"+strings.Repeat("0", 3999)
	for _, s := range []string{
		"0", "1", "7", "10", "1/2", "2/3", "3/2", "100/7", "1/10", "10/9", "1/18446744073709551616", "18446744073709551617/18446744073709551616", long, ten, long + "/2", "2/" + long,
		long + "/" + ten, ten + "/" + long,
	} {
		same(t, "Get", get(t, s), s)
		if s != "0" {
			same(t, "Get", get(t, "-"+s), "-"+s)
			if get(t, "-"+s).Sign() != -1 || get(t, s).Sign() != 1 {
				t.Errorf("Sign of %.30s", s)
			}
		}
	}
	wide := get(t, ten).Mul(get(t, long))
	if text := wide.Text(); len(text) != 7999 || text != long+strings.Repeat("0", 3999) {
		t.Errorf("a text of %d digits", len(text))
	}
}

func TestGetOfWrongTexts(t *testing.T) {
	long, more, even := strings.Repeat("9", 4000), strings.Repeat("9", 4001), strings.Repeat("4", 4000)
	for _, s := range []string{
		"", "/", "//", "-", "-/", "/-", "1/", "/1", "/2", "-/2", "1//2", "1/2/", "/1/2", "1/2/3", "1 /2", "1/ 2", " 1/2", "1/2 ", "1/2\n", "\t1", "1\\2", "1:2", "1\u20442",
		"1/1", "0/1", "7/1", "-7/1", "0/2", "-0", "-0/2", "0/0", "1/0", "-1/0", "1/00", "2/2", "2/4", "-2/4", "4/2", "6/9", "360/720", "1/-2", "-1/-2", "1/+2", "+1/2", "+1", "--1/2",
		"01", "01/2", "1/02", "00", "-01/2", "1.5", "1/2.0", "1e2", "1/2e1", "0x1/2", "1/0x2", "1_0/3", "1/1_1", "a/2", "1/a", "\u0661/2", "1/\u0662", "\x00", "1/\xff", "1/2\x00",
		more, "-" + more, more + "/2", "-" + more + "/2", "2/" + more, "2/0" + long[1:], "0" + long[1:] + "/2", even + "/2", "-" + even + "/2", "2/" + even, long + "/" + long, "-" + long + "/" + long,
		strings.Repeat("/", 100000), strings.Repeat("-", 100000), strings.Repeat("1", 100000) + "/2", "2/" + strings.Repeat("1", 100000),
	} {
		a, err := rat.Get(s)
		refused(t, fmt.Sprintf("Get(%.30q)", s), a, err, api.ErrForm)
	}
}

func TestSmallFractions(t *testing.T) {
	var all [][2]int64
	for n := int64(-9); n <= 9; n++ {
		for _, d := range []int64{-12, -8, -3, -1, 1, 2, 4, 6, 9, 10} {
			all = append(all, [2]int64{n, d})
		}
	}
	for _, x := range all {
		for _, y := range all {
			a, b := of(t, x[0], x[1]), of(t, y[0], y[1])
			what := fmt.Sprint(x, y)
			same(t, "Add of "+what, a.Add(b), lowest(x[0]*y[1]+y[0]*x[1], x[1]*y[1]))
			same(t, "Sub of "+what, a.Sub(b), lowest(x[0]*y[1]-y[0]*x[1], x[1]*y[1]))
			same(t, "Mul of "+what, a.Mul(b), lowest(x[0]*y[0], x[1]*y[1]))
			over := cmp.Compare(x[0]*y[1], y[0]*x[1])
			if x[1]*y[1] < 0 {
				over = -over
			}
			if got := a.Cmp(b); got != over {
				t.Fatalf("Cmp of %s: %d", what, got)
			}
			quotient, err := a.Div(b)
			if y[0] == 0 {
				refused(t, "Div of "+what, quotient, err, api.ErrZero)
				continue
			}
			same(t, "Div of "+what, right(t, "Div of "+what, quotient, err), lowest(x[0]*y[1], x[1]*y[0]))
		}
	}
}

func TestSumsAndProducts(t *testing.T) {
	long := "1" + strings.Repeat("0", 50)
	for _, x := range []struct{ a, b, sum, difference, product, quotient string }{
		{"1/6", "-3/10", "-2/15", "7/15", "-1/20", "-5/9"},
		{"1/6", "1/3", "1/2", "-1/6", "1/18", "1/2"},
		{"-1/2", "-1/2", "-1", "0", "1/4", "1"},
		{"5/6", "-6/5", "-11/30", "61/30", "-1", "-25/36"},
		{"-7/360", "7/360", "0", "-7/180", "-49/129600", "-1"},
		{"1/18446744073709551616", "1/18446744073709551616", "1/9223372036854775808", "0", "1/340282366920938463463374607431768211456", "1"},
		{"9223372036854775807", "-1/9223372036854775807", "85070591730234615847396907784232501248/9223372036854775807", "85070591730234615847396907784232501250/9223372036854775807",
			"-1", "-85070591730234615847396907784232501249"},
		{"1/" + long, "-3/" + long, "-1/5" + strings.Repeat("0", 49), "1/25" + strings.Repeat("0", 48), "-3/1" + strings.Repeat("0", 100), "-1/3"},
	} {
		a, b := get(t, x.a), get(t, x.b)
		same(t, "Add of "+x.a+", "+x.b, a.Add(b), x.sum)
		same(t, "Sub of "+x.a+", "+x.b, a.Sub(b), x.difference)
		same(t, "Mul of "+x.a+", "+x.b, a.Mul(b), x.product)
		quotient, err := a.Div(b)
		same(t, "Div of "+x.a+", "+x.b, right(t, "Div", quotient, err), x.quotient)
		same(t, "the same fraction", a, x.a)
		same(t, "the same fraction", b, x.b)
	}
}

// plain gives n / d, worked out as it stands.
func plain(t *testing.T, n, d *num.Int) string {
	t.Helper()
	a, err := rat.New(n, d)
	return right(t, "New", a, err).Text()
}

func TestAgainstCrosswise(t *testing.T) {
	c := thrower(1)
	for range 5000 {
		a, b := c.fraction(5), c.fraction(5)
		what := a.Text() + ", " + b.Text()
		left, other, under := a.Num().Mul(b.Den()), b.Num().Mul(a.Den()), a.Den().Mul(b.Den())
		same(t, "Add of "+what, a.Add(b), plain(t, left.Add(other), under))
		same(t, "Sub of "+what, a.Sub(b), plain(t, left.Sub(other), under))
		same(t, "Mul of "+what, a.Mul(b), plain(t, a.Num().Mul(b.Num()), under))
		quotient, err := a.Div(b)
		if b.Sign() == 0 {
			refused(t, "Div of "+what, quotient, err, api.ErrZero)
			continue
		}
		same(t, "Div of "+what, right(t, "Div", quotient, err), plain(t, left, other))
	}
}

func TestLaws(t *testing.T) {
	c := thrower(2)
	for range 2000 {
		a, b, d := c.fraction(4), c.fraction(4), c.fraction(4)
		what := a.Text() + ", " + b.Text() + ", " + d.Text()
		if get(t, a.Text()).Cmp(a) != 0 || a.Den().Sign() != 1 || a.Num().Abs().Gcd(a.Den().Abs()).Text() != "1" {
			t.Fatalf("the text of %s", a.Text())
		}
		if a.Add(b).Sub(b).Text() != a.Text() || a.Add(b).Text() != b.Add(a).Text() || a.Add(b).Add(d).Text() != a.Add(b.Add(d)).Text() {
			t.Fatalf("Add, Sub of %s", what)
		}
		if a.Mul(b).Text() != b.Mul(a).Text() || a.Add(b).Mul(d).Text() != a.Mul(d).Add(b.Mul(d)).Text() {
			t.Fatalf("Mul of %s", what)
		}
		if a.Cmp(b) != a.Sub(b).Sign() || a.Cmp(b) != -b.Cmp(a) || a.Cmp(a) != 0 || a.Sign() != a.Num().Sign() {
			t.Fatalf("Cmp, Sign of %s", what)
		}
		if quotient, err := a.Div(b); err == nil && quotient.Mul(b).Text() != a.Text() || (err == nil) != (b.Sign() != 0) {
			t.Fatalf("Div of %s", what)
		}
	}
}

func TestCmpAndSign(t *testing.T) {
	rising := []string{
		"-18446744073709551617", "-18446744073709551616", "-2", "-3/2", "-1", "-18446744073709551616/18446744073709551617", "-1/2", "-1/3", "-1/18446744073709551616", "0",
		"1/18446744073709551617", "1/18446744073709551616", "1/3", "1/2", "18446744073709551615/18446744073709551616", "18446744073709551616/18446744073709551617", "1",
		"18446744073709551617/18446744073709551616", "3/2", "2", "18446744073709551615", "36893488147419103231/2", "18446744073709551616",
	}
	for i, a := range rising {
		if got := get(t, a).Sign(); got != cmp.Compare(i, 9) {
			t.Errorf("Sign of %s: %d", a, got)
		}
		for j, b := range rising {
			if got := get(t, a).Cmp(get(t, b)); got != cmp.Compare(i, j) {
				t.Errorf("Cmp of %s, %s: %d", a, b, got)
			}
		}
	}
}

func TestPow(t *testing.T) {
	for _, x := range []struct {
		a    string
		k    int
		want string
	}{
		{"2/3", 0, "1"}, {"2/3", 1, "2/3"}, {"2/3", 4, "16/81"}, {"2/3", -1, "3/2"}, {"2/3", -4, "81/16"}, {"-2/3", 0, "1"}, {"-2/3", 1, "-2/3"}, {"-2/3", 2, "4/9"}, {"-2/3", 3, "-8/27"},
		{"-2/3", -1, "-3/2"}, {"-2/3", -2, "9/4"}, {"-2/3", -3, "-27/8"}, {"5", -2, "1/25"}, {"-5", -3, "-1/125"}, {"1/5", -3, "125"}, {"-1/5", -1, "-5"}, {"0", 0, "1"}, {"0", 1, "0"}, {"0", 2, "0"},
		{"0", math.MaxInt, "0"}, {"10", 5000, "1" + strings.Repeat("0", 5000)}, {"-1/10", 4001, "-1/1" + strings.Repeat("0", 4001)}, {"1/10", -4001, "1" + strings.Repeat("0", 4001)},
		{"1", math.MaxInt, "1"}, {"1", math.MinInt, "1"}, {"-1", math.MaxInt, "-1"}, {"-1", math.MaxInt - 1, "1"}, {"-1", math.MinInt, "1"}, {"-1", math.MinInt + 1, "-1"},
	} {
		a, err := get(t, x.a).Pow(x.k)
		same(t, fmt.Sprint("Pow of ", x.a, ", ", x.k), right(t, "Pow", a, err), x.want)
	}
	for _, none := range []*rat.Rat{nil, {}, of(t, 0, 5)} {
		for _, k := range []int{-1, -2, -3, math.MinInt, math.MinInt + 1} {
			a, err := none.Pow(k)
			refused(t, fmt.Sprint("Pow of 0, ", k), a, err, api.ErrZero)
		}
	}
}

func TestPowByMul(t *testing.T) {
	c := thrower(3)
	for range 100 {
		a, all := c.fraction(3), of(t, 1, 1)
		for k := range 12 {
			up, err := a.Pow(k)
			same(t, "Pow of "+a.Text(), right(t, "Pow", up, err), all.Text())
			if down, err := a.Pow(-k); a.Sign() != 0 && (err != nil || down.Mul(all).Text() != "1") {
				t.Fatalf("Pow of %s, %d: %v, %v", a.Text(), -k, down, err)
			}
			all = all.Mul(a)
		}
	}
}

// A long sum of fractions with denominators of their own stays exact.
func TestLongSum(t *testing.T) {
	all := of(t, 0, 1)
	for k := range int64(1500) {
		all = all.Add(of(t, 1, (k+1)*(k+2)))
	}
	same(t, "the sum of 1 / (k (k + 1))", all, "1500/1501")
	harmonic := of(t, 0, 1)
	for k := range int64(1500) {
		harmonic = harmonic.Add(of(t, 1, k+1))
	}
	for k := range int64(1500) {
		harmonic = harmonic.Sub(of(t, -1, -k-1))
	}
	same(t, "the sum of 1 / k, less each", harmonic, "0")
}

func TestNilIsNought(t *testing.T) {
	for _, none := range []*rat.Rat{nil, {}} {
		a := of(t, -3, 2)
		if none.Text() != "0" || none.Num().Text() != "0" || none.Den().Text() != "1" {
			t.Errorf("%s, %s, %s", none.Text(), none.Num().Text(), none.Den().Text())
		}
		same(t, "Add", none.Add(a), "-3/2")
		same(t, "Add", a.Add(none), "-3/2")
		same(t, "Add", none.Add(none), "0")
		same(t, "Sub", none.Sub(a), "3/2")
		same(t, "Sub", a.Sub(none), "-3/2")
		same(t, "Sub", none.Sub(nil), "0")
		same(t, "Mul", none.Mul(a), "0")
		same(t, "Mul", a.Mul(none), "0")
		same(t, "Mul", none.Mul(none), "0")
		quotient, err := none.Div(a)
		same(t, "Div", right(t, "Div", quotient, err), "0")
		for _, top := range []*rat.Rat{a, of(t, 0, 1), nil, {}} {
			quotient, err = top.Div(none)
			refused(t, "Div by 0", quotient, err, api.ErrZero)
		}
		for k, want := range []string{"1", "0", "0"} {
			power, err := none.Pow(k)
			same(t, "Pow", right(t, "Pow", power, err), want)
		}
		if none.Cmp(a) != 1 || a.Cmp(none) != -1 || none.Cmp(of(t, 1, 9)) != -1 || none.Cmp(nil) != 0 || none.Cmp(of(t, 0, 3)) != 0 || of(t, 0, 3).Cmp(none) != 0 || none.Sign() != 0 {
			t.Error("Cmp, Sign")
		}
	}
}

// answers gives what a's methods answer of fractions.
func answers(t *testing.T, a *rat.Rat) []*rat.Rat {
	t.Helper()
	one := of(t, 1, 1)
	list := []*rat.Rat{a.Add(nil), nilRat().Add(a), a.Sub(nil), a.Mul(one), one.Mul(a)}
	quotient, err := a.Div(one)
	list = append(list, right(t, "Div", quotient, err))
	for k := range 2 {
		power, err := a.Pow(k)
		list = append(list, right(t, "Pow", power, err))
	}
	return list
}

// nilRat gives no fraction.
func nilRat() *rat.Rat { return nil }

// Whoever writes over what he handed in or was answered changes no fraction.
func TestFractionsAreNotShared(t *testing.T) {
	n, d := num.Of(-3), num.Of(7)
	a, err := rat.New(n, d)
	*n, *d = *num.Of(5), *num.Of(5)
	same(t, "New", right(t, "New", a, err), "-3/7")
	*a.Num(), *a.Den() = *num.Of(5), *num.Of(5)
	for _, answer := range answers(t, a) {
		if answer == a {
			t.Error("an answer is the fraction itself")
		}
		*answer = *of(t, 5, 9)
	}
	same(t, "the fraction", a, "-3/7")
	*nilRat().Num(), *nilRat().Den() = *num.Of(5), *num.Of(5)
	*nilRat().Add(nil), *of(t, 1, 1) = *of(t, 5, 9), *of(t, 5, 9)
	same(t, "nil", nilRat().Add(nil), "0")
	same(t, "1", of(t, 1, 1), "1")
	empty := &rat.Rat{}
	*empty.Num(), *empty.Den() = *num.Of(5), *num.Of(5)
	same(t, "an empty fraction", empty, "0")
}
