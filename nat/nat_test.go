package nat

import (
	"errors"
	"fmt"
	"math"
	"strings"
	"testing"

	"rentier/api"
	"rentier/fault"
)

// thrower throws numbers, always the same ones.
type thrower uint64

func (c *thrower) word() uint64 {
	*c = *c*6364136223846793005 + 1442695040888963407
	x := uint64(*c)
	return (x ^ x>>29) * 0x9e3779b97f4a7c15
}

func (c *thrower) below(n int) int { return int(c.word() >> 33 % uint64(n)) }

// number throws a number of at most so many words, often with odd ones.
func (c *thrower) number(most int) *Nat {
	words := make([]uint64, c.below(most+1))
	odd := c.below(3) == 0
	for i := range words {
		words[i] = c.word()
		if odd {
			words[i] = []uint64{0, 1, math.MaxUint64, 1 << 63, 1<<63 - 1, 2}[c.below(6)]
		}
	}
	return own(words)
}

// get gives the number of a right text.
func get(t *testing.T, s string) *Nat {
	t.Helper()
	n, err := Get(s)
	if err != nil || n == nil {
		t.Fatalf("Get(%.30q): %v", s, err)
	}
	return n
}

// same fails unless n is the number of the text.
func same(t *testing.T, what string, n *Nat, want string) {
	t.Helper()
	if got := n.Text(); got != want {
		t.Errorf("%s: %.60s, not %.60s", what, got, want)
	}
}

// slowSum adds two texts digit by digit.
func slowSum(a, b string) string {
	size := max(len(a), len(b)) + 1
	a = strings.Repeat("0", size-len(a)) + a
	b = strings.Repeat("0", size-len(b)) + b
	out := make([]byte, size)
	carry := 0
	for i := size - 1; i >= 0; i-- {
		digit := int(a[i]-'0') + int(b[i]-'0') + carry
		out[i], carry = byte('0'+digit%10), digit/10
	}
	return plain(string(out))
}

// slowProduct multiplies two texts digit by digit.
func slowProduct(a, b string) string {
	cells := make([]int, len(a)+len(b))
	for i := range len(a) {
		for j := range len(b) {
			cells[i+j+1] += int(a[i]-'0') * int(b[j]-'0')
		}
	}
	out := make([]byte, len(cells))
	carry := 0
	for i := len(cells) - 1; i >= 0; i-- {
		digit := cells[i] + carry
		out[i], carry = byte('0'+digit%10), digit/10
	}
	return plain(string(out))
}

// plain cuts off the noughts ahead.
func plain(s string) string {
	if s = strings.TrimLeft(s, "0"); s == "" {
		return "0"
	}
	return s
}

func TestGetAndText(t *testing.T) {
	for _, s := range []string{
		"0", "1", "9", "10", "1234567890123456789", "9999999999999999999", "10000000000000000000",
		"10000000000000000001", "18446744073709551615", "18446744073709551616", "99999999999999999999999999999999999999",
		"100000000000000000000000000000000000000", "340282366920938463463374607431768211456",
		strings.Repeat("123456789", 100), "1" + strings.Repeat("0", 303), "1" + strings.Repeat("0", 304), strings.Repeat("9", 304),
		"1" + strings.Repeat("0", 3998) + "7", strings.Repeat("9", 4000), "1" + strings.Repeat("0", 3999),
	} {
		same(t, "Get and Text", get(t, s), s)
	}
	n := get(t, "1")
	for i := range 400 {
		same(t, "a power of ten", n, "1"+strings.Repeat("0", i*5))
		n = n.Mul(Of(100000))
	}
}

func TestGetOfWrongTexts(t *testing.T) {
	for _, s := range []string{
		"", "00", "01", "000000000000000000000000", "-0", "-1", "+1", " 1", "1 ", "1\n", "1_000", "0x1", "1e3", "1.0", "a",
		"12345678901234567890a", "/", ":", "\x00", "\xff", "\u0661", "\uff11", strings.Repeat("1", 4001), "0" + strings.Repeat("1", 3999),
		strings.Repeat("1", 3999) + ":", strings.Repeat("1", 100000),
	} {
		if n, err := Get(s); n != nil || err != fault.Of(api.ErrForm) {
			t.Errorf("Get(%.30q): %v, %v", s, n, err)
		}
	}
}

func TestOfSmallAndZero(t *testing.T) {
	for _, x := range []uint64{0, 1, 9, 10, 1<<32 - 1, 1 << 32, 1<<63 - 1, 1 << 63, math.MaxUint64} {
		n := Of(x)
		same(t, "Of", n, fmt.Sprint(x))
		if got, ok := n.Small(); got != x || !ok {
			t.Errorf("Small of %d: %d, %v", x, got, ok)
		}
		if n.Zero() != (x == 0) {
			t.Errorf("Zero of %d", x)
		}
	}
	if Of(math.MaxUint64).Add(Of(1)).Zero() {
		t.Error("Zero of 2 to the 64")
	}
	for _, s := range []string{"18446744073709551616", "18446744073709551617", "340282366920938463463374607431768211456", strings.Repeat("9", 4000)} {
		if got, ok := get(t, s).Small(); got != 0 || ok {
			t.Errorf("Small of %.30s: %d, %v", s, got, ok)
		}
	}
	if got, ok := get(t, "18446744073709551616").Sub(Of(1)); ok != nil {
		t.Error(ok)
	} else if x, ok := got.Small(); x != math.MaxUint64 || !ok {
		t.Errorf("Small of 2 to the 64 less 1: %d, %v", x, ok)
	}
}

func TestSumsAndProductsDigitByDigit(t *testing.T) {
	c := thrower(1)
	for i := range 600 {
		most := 6
		if i%30 == 0 {
			most = 150
		}
		a, b := c.number(most), c.number(most)
		x, y := a.Text(), b.Text()
		same(t, "Add of "+x+", "+y, a.Add(b), slowSum(x, y))
		same(t, "Mul of "+x+", "+y, a.Mul(b), slowProduct(x, y))
		same(t, "the same number", a, x)
		same(t, "the same number", b, y)
	}
}

func TestLongProducts(t *testing.T) {
	c := thrower(2)
	for range 60 {
		a, b, d := c.number(200), c.number(90), c.number(90)
		if a.Mul(b.Add(d)).Cmp(a.Mul(b).Add(a.Mul(d))) != 0 {
			t.Fatalf("Mul of %s by the sum of %s, %s", a.Text(), b.Text(), d.Text())
		}
	}
	full := strings.Repeat("9", 2500)
	same(t, "the square", get(t, full).Mul(get(t, full)), strings.Repeat("9", 2499)+"8"+strings.Repeat("0", 2499)+"1")
	holes := own(append(make([]uint64, 100), 1))
	same(t, "the square of holes", holes.Mul(holes), Of(2).Pow(12800).Text())
}

func TestSub(t *testing.T) {
	c := thrower(3)
	for range 2000 {
		a, b := c.number(6), c.number(6)
		if got, err := a.Add(b).Sub(b); err != nil || got.Cmp(a) != 0 {
			t.Fatalf("Sub: %s, %v, not %s", got.Text(), err, a.Text())
		}
		more := a.Add(b).Add(Of(1))
		if got, err := a.Sub(more); got != nil || err != fault.Of(api.ErrRange) {
			t.Fatalf("Sub of a greater one: %v, %v", got, err)
		}
	}
	got, err := get(t, "340282366920938463463374607431768211456").Sub(Of(1))
	if err != nil {
		t.Fatal(err)
	}
	same(t, "Sub", got, "340282366920938463463374607431768211455")
	if got, err = got.Sub(got); err != nil || !got.Zero() || got.Text() != "0" || got.Cmp(Of(0)) != 0 {
		t.Errorf("Sub of itself: %s, %v", got.Text(), err)
	}
}

func TestCmp(t *testing.T) {
	rising := []string{"0", "1", "2", "18446744073709551615", "18446744073709551616", "18446744073709551617",
		"340282366920938463463374607431768211455", "340282366920938463463374607431768211456", "340282366920938463481821351505477763072"}
	for i, a := range rising {
		for j, b := range rising {
			want := 0
			if i < j {
				want = -1
			} else if i > j {
				want = 1
			}
			if got := get(t, a).Cmp(get(t, b)); got != want {
				t.Errorf("Cmp of %s, %s: %d", a, b, got)
			}
		}
	}
}

func TestDiv(t *testing.T) {
	for _, x := range []struct{ a, b, q, r string }{
		{"0", "7", "0", "0"}, {"7", "7", "1", "0"}, {"6", "7", "0", "6"}, {"100", "7", "14", "2"},
		{"18446744073709551616", "18446744073709551615", "1", "1"},
		{"340282366920938463463374607431768211456", "2", "170141183460469231731687303715884105728", "0"},
		{"340282366920938463463374607431768211455", "18446744073709551616", "18446744073709551615", "18446744073709551615"},
		{"5", "340282366920938463463374607431768211455", "0", "5"},
	} {
		q, r, err := get(t, x.a).Div(get(t, x.b))
		if err != nil || q.Text() != x.q || r.Text() != x.r {
			t.Errorf("Div of %s by %s: %s, %s, %v", x.a, x.b, q.Text(), r.Text(), err)
		}
	}
	for _, n := range []*Nat{Of(0), Of(1), Of(2).Pow(300), nil} {
		for _, nought := range []*Nat{Of(0), nil, {}} {
			if q, r, err := n.Div(nought); q != nil || r != nil || err != fault.Of(api.ErrZero) {
				t.Errorf("Div of %s by 0: %v, %v, %v", n.Text(), q, r, err)
			}
		}
	}
}

func TestDivBackToMul(t *testing.T) {
	c := thrower(4)
	for i := range 20000 {
		most := 7
		if i%500 == 0 {
			most = 150
		}
		a, b := c.number(most), c.number(most)
		q, r, err := a.Div(b)
		if b.Zero() {
			continue
		}
		if err != nil || r.Cmp(b) >= 0 || q.Mul(b).Add(r).Cmp(a) != 0 {
			t.Fatalf("Div of %s by %s: %s, %s, %v", a.Text(), b.Text(), q.Text(), r.Text(), err)
		}
		if q, s, _ := a.Mul(b).Add(r).Div(b); q.Cmp(a) != 0 || s.Cmp(r) != 0 {
			t.Fatalf("Div of %s times %s and %s: %s, %s", a.Text(), b.Text(), r.Text(), q.Text(), s.Text())
		}
	}
}

// A digit is guessed too high by two, by one, and with equal highest words.
func TestDivOfHardGuesses(t *testing.T) {
	high := uint64(1 << 63)
	full := uint64(math.MaxUint64)
	for _, x := range []struct{ a, b []uint64 }{
		{[]uint64{0, 0, high, high - 1}, []uint64{1, 0, high}},
		{[]uint64{3, 0, 0, high}, []uint64{1, 0, 0, high >> 2}},
		{[]uint64{0, full - 1, high}, []uint64{full, high}},
		{[]uint64{0, 0, 1, high}, []uint64{full, 1, high}},
		{[]uint64{0, 0, 0, 0, high, high - 1}, []uint64{full, 0, 0, high}},
		{[]uint64{full, full, full, full}, []uint64{full, full}},
		{[]uint64{0, full, full - 1, full}, []uint64{full, full, full}},
	} {
		a, b := own(x.a), own(x.b)
		q, r, err := a.Div(b)
		if err != nil || r.Cmp(b) >= 0 || q.Mul(b).Add(r).Cmp(a) != 0 {
			t.Errorf("Div of %x by %x: %x, %x, %v", x.a, x.b, q.words, r.words, err)
		}
	}
}

func TestGcd(t *testing.T) {
	for _, x := range []struct{ a, b, want string }{
		{"0", "0", "0"}, {"0", "5", "5"}, {"5", "0", "5"}, {"12", "18", "6"}, {"18", "12", "6"}, {"17", "5", "1"}, {"7", "7", "7"},
		{"0", "340282366920938463463374607431768211456", "340282366920938463463374607431768211456"},
		{"340282366920938463463374607431768211456", "36893488147419103232", "36893488147419103232"},
		{"340282366920938463463374607431768211456", "6", "2"},
		{"340282366920938463463374607431768211455", "18446744073709551617", "18446744073709551617"},
	} {
		same(t, "Gcd of "+x.a+", "+x.b, get(t, x.a).Gcd(get(t, x.b)), x.want)
	}
}

// slowGcd is Euclid's way, step by step.
func slowGcd(a, b *Nat) *Nat {
	for !b.Zero() {
		_, r, _ := a.Div(b)
		a, b = b, r
	}
	return a
}

func TestGcdStepByStep(t *testing.T) {
	c := thrower(5)
	for i := range 3000 {
		most := 5
		if i%300 == 0 {
			most = 60
		}
		g := c.number(most)
		a, b := c.number(most).Mul(g), c.number(most).Mul(g)
		if got, want := a.Gcd(b), slowGcd(a, b); got.Cmp(want) != 0 {
			t.Fatalf("Gcd of %s, %s: %s", a.Text(), b.Text(), got.Text())
		}
	}
	one, two := Of(1), Of(1)
	for range 2000 {
		one, two = two, one.Add(two)
	}
	same(t, "Gcd of neighbours of Fibonacci", one.Gcd(two), "1")
}

func TestPow(t *testing.T) {
	for _, x := range []struct {
		n    uint64
		k    int
		want string
	}{
		{0, 0, "1"}, {0, 1, "0"}, {0, math.MaxInt, "0"}, {0, -1, "1"}, {1, math.MaxInt, "1"}, {5, 0, "1"}, {5, -1, "1"}, {5, math.MinInt, "1"},
		{5, 1, "5"}, {5, 2, "25"}, {5, 3, "125"}, {2, 64, "18446744073709551616"}, {10, 1000, "1" + strings.Repeat("0", 1000)},
	} {
		same(t, fmt.Sprintf("Pow of %d, %d", x.n, x.k), Of(x.n).Pow(x.k), x.want)
	}
	n, want := get(t, "123456789012345678901234567890"), Of(1)
	for k := range 40 {
		if n.Pow(k).Cmp(want) != 0 {
			t.Errorf("Pow of %d", k)
		}
		want = want.Mul(n)
	}
}

func TestRoot(t *testing.T) {
	for _, x := range []struct {
		n    string
		k    int
		want string
	}{
		{"0", 2, "0"}, {"0", 1, "0"}, {"0", 0, "0"}, {"0", math.MaxInt, "0"}, {"1", 2, "1"}, {"1", math.MaxInt, "1"},
		{"3", 2, "1"}, {"4", 2, "2"}, {"8", 2, "2"}, {"9", 2, "3"}, {"26", 3, "2"}, {"27", 3, "3"}, {"123", 1, "123"}, {"123", 0, "123"},
		{"123", -1, "123"}, {"123", math.MinInt, "123"}, {"127", 7, "1"}, {"128", 7, "2"}, {"255", 8, "1"}, {"256", 8, "2"},
		{"18446744073709551615", 2, "4294967295"}, {"18446744073709551616", 2, "4294967296"}, {"18446744073709551615", 63, "2"},
		{"18446744073709551615", 64, "1"}, {"18446744073709551616", 64, "2"}, {"18446744073709551616", 65, "1"},
		{"340282366920938463463374607431768211455", math.MaxInt, "1"},
		{"340282366920938463463374607431768211455", -5, "340282366920938463463374607431768211455"},
	} {
		same(t, fmt.Sprintf("Root of %s, %d", x.n, x.k), get(t, x.n).Root(x.k), x.want)
	}
}

func TestRootBackToPow(t *testing.T) {
	c := thrower(6)
	one := Of(1)
	for i := range 2000 {
		k := 2 + c.below(6)
		if i%4 == 0 {
			k = 2 + c.below(400)
		}
		n := c.number(12)
		root := n.Root(k)
		if root.Pow(k).Cmp(n) > 0 || root.Add(one).Pow(k).Cmp(n) <= 0 {
			t.Fatalf("Root of %s, %d: %s", n.Text(), k, root.Text())
		}
		k = 2 + c.below(6)
		n = n.Add(one)
		power := n.Pow(k)
		below, _ := power.Sub(one)
		less, _ := n.Sub(one)
		if power.Root(k).Cmp(n) != 0 || below.Root(k).Cmp(less) != 0 {
			t.Fatalf("Root of the power %d of %s", k, n.Text())
		}
	}
}

func TestNilIsNought(t *testing.T) {
	for _, none := range []*Nat{nil, {}} {
		same(t, "Text", none, "0")
		same(t, "Add", none.Add(Of(3)), "3")
		same(t, "Add", Of(3).Add(none), "3")
		same(t, "Add", none.Add(none), "0")
		same(t, "Mul", none.Mul(Of(3)), "0")
		same(t, "Mul", Of(3).Mul(none), "0")
		same(t, "Gcd", none.Gcd(Of(3)), "3")
		same(t, "Gcd", Of(3).Gcd(none), "3")
		same(t, "Gcd", none.Gcd(none), "0")
		same(t, "Pow", none.Pow(0), "1")
		same(t, "Pow", none.Pow(3), "0")
		same(t, "Root", none.Root(3), "0")
		same(t, "Root", none.Root(0), "0")
		if got, err := Of(3).Sub(none); err != nil || got.Text() != "3" {
			t.Errorf("Sub: %v, %v", got, err)
		}
		if got, err := none.Sub(none); err != nil || got == nil || got.Text() != "0" {
			t.Errorf("Sub: %v, %v", got, err)
		}
		if got, err := none.Sub(Of(3)); got != nil || !errors.Is(err, fault.Of(api.ErrRange)) {
			t.Errorf("Sub: %v, %v", got, err)
		}
		if q, r, err := none.Div(Of(3)); err != nil || q.Text() != "0" || r.Text() != "0" {
			t.Errorf("Div: %v, %v, %v", q, r, err)
		}
		if none.Cmp(Of(1)) != -1 || Of(1).Cmp(none) != 1 || none.Cmp(Of(0)) != 0 || Of(0).Cmp(none) != 0 || !none.Zero() {
			t.Error("Cmp, Zero")
		}
		if got, ok := none.Small(); got != 0 || !ok {
			t.Errorf("Small: %d, %v", got, ok)
		}
	}
}

// Whoever writes over an answer changes no number that was there before.
func TestAnswersAreNew(t *testing.T) {
	big, small := get(t, strings.Repeat("7", 60)), Of(5)
	answers := []*Nat{big.Add(nil), big.Mul(Of(1)), big.Gcd(nil), big.Gcd(big), big.Pow(1), big.Root(1), big.Root(0), small.Root(-1), small.Gcd(small), Of(5)}
	q, _, _ := big.Div(Of(1))
	_, r, _ := small.Div(big)
	s, _ := big.Sub(nil)
	for _, n := range append(answers, q, r, s) {
		for i := range n.words[:cap(n.words)] {
			n.words[:cap(n.words)][i] = 1
		}
		*n = Nat{}
	}
	same(t, "the number", big, strings.Repeat("7", 60))
	same(t, "the number", small, "5")
}
