package fault_test

import (
	"errors"
	"fmt"
	"math"
	"slices"
	"testing"

	"rentier/api"
	"rentier/fault"
)

// codes are the document's, and some that it does not name.
func codes() []api.Errno {
	cs := []api.Errno{-1, 12, 999, math.MinInt64, math.MaxInt64}
	for c := api.ErrForm; c <= api.ErrLarge; c++ {
		cs = append(cs, c)
	}
	return cs
}

// list is an error that == cannot hold against another of its type.
type list []string

func (l list) Error() string { return "list" }

// wrapper is another's error around one.
type wrapper struct{ inner error }

func (w wrapper) Error() string { return "wrapper" }
func (w wrapper) Unwrap() error { return w.inner }

// broken panics whatever it is asked.
type broken struct{}

func (b *broken) Error() string { panic("Error") }
func (b *broken) Unwrap() error { panic("Unwrap") }
func (b *broken) As(any) bool   { panic("As") }
func (b *broken) Is(error) bool { panic("Is") }

// half hands out a Fault, but panics when it is unwrapped.
type half struct{ broken }

func (h *half) As(target any) bool {
	to, ok := target.(**fault.Fault)
	if ok {
		*to = &fault.Fault{Code: api.ErrTwice, At: "half"}
	}
	return ok
}

func TestOfIsOneValueOfACode(t *testing.T) {
	for _, c := range codes() {
		e := fault.Of(c)
		if e == nil {
			t.Fatalf("Of(%d) is nil", c)
		}
		for _, d := range codes() {
			if (e == fault.Of(d)) != (c == d) {
				t.Errorf("Of(%d) == Of(%d): %v", c, d, c != d)
			}
		}
		if fault.Code(e) != c || len(fault.Where(e)) != 0 {
			t.Errorf("Of(%d): code %d, places %q", c, fault.Code(e), fault.Where(e))
		}
		if want := fmt.Sprintf("error %d", c); e.Error() != want {
			t.Errorf("Of(%d): %q, not %q", c, e.Error(), want)
		}
		if _, is := e.(*fault.Fault); !is && errors.Unwrap(e) != nil {
			t.Errorf("Of(%d) wraps %v", c, errors.Unwrap(e))
		}
	}
}

func TestOfHasAFaultForErrorsAs(t *testing.T) {
	for _, c := range codes() {
		for _, e := range []error{fault.Of(c), wrapper{fault.Of(c)}, errors.Join(list{}, fault.Of(c))} {
			var f *fault.Fault
			if !errors.As(e, &f) || f == nil {
				t.Fatalf("no Fault in %v", e)
			}
			if *f != (fault.Fault{Code: c}) {
				t.Errorf("of %d: %+v", c, *f)
			}
		}
	}
	var other *broken
	if errors.As(fault.Of(api.ErrForm), &other) {
		t.Error("Of is a *broken")
	}
}

func TestOfIsNotChangedThroughItsFault(t *testing.T) {
	var f, g *fault.Fault
	errors.As(fault.Of(api.ErrDate), &f)
	f.Code, f.At, f.Err = api.ErrBond, "here", list{}
	errors.As(fault.Of(api.ErrDate), &g)
	if g == nil || *g != (fault.Fault{Code: api.ErrDate}) || fault.Code(fault.Of(api.ErrDate)) != api.ErrDate {
		t.Errorf("Of was changed: %+v", g)
	}
}

func TestOfTakesAnyTarget(t *testing.T) {
	as, ok := fault.Of(api.ErrDate).(interface{ As(any) bool })
	if !ok {
		return
	}
	var none **fault.Fault
	for _, target := range []any{nil, none, 7, new(string), &fault.Fault{}} {
		if as.As(target) {
			t.Errorf("As of %T", target)
		}
	}
}

func TestOfNothing(t *testing.T) {
	if e := fault.Of(api.OK); e != nil {
		t.Errorf("Of: %v", e)
	}
	if e := fault.New(api.OK, "x"); e != nil {
		t.Errorf("New: %v", e)
	}
	if e := fault.Wrap("x", nil); e != nil {
		t.Errorf("Wrap: %v", e)
	}
	if c := fault.Code(nil); c != api.OK {
		t.Errorf("Code: %d", c)
	}
	if ats := fault.Where(nil); len(ats) != 0 {
		t.Errorf("Where: %q", ats)
	}
}

func TestNew(t *testing.T) {
	for _, c := range codes() {
		for _, at := range []string{"", "issue", ": ", "\xff\x00", "näher"} {
			f, ok := fault.New(c, at).(*fault.Fault)
			if !ok || *f != (fault.Fault{Code: c, At: at}) {
				t.Errorf("New(%d, %q): %+v", c, at, f)
			}
		}
	}
	if fault.New(api.ErrDate, "a") == fault.New(api.ErrDate, "a") {
		t.Error("two News are one")
	}
}

func TestWrap(t *testing.T) {
	other := errors.New("other")
	for k, x := range []struct {
		err  error
		code api.Errno
	}{
		{fault.Of(api.ErrZero), api.ErrZero},
		{fault.New(api.ErrDate, "a"), api.ErrDate},
		{fault.Wrap("b", fault.New(api.ErrLarge, "a")), api.ErrLarge},
		{other, api.ErrForm},
		{wrapper{fault.New(api.ErrTime, "a")}, api.ErrTime},
		{errors.Join(other, fault.New(api.ErrTwice, "j"), fault.Of(api.ErrNone)), api.ErrTwice},
		{&fault.Fault{Code: api.ErrCurve, Err: fault.Of(api.ErrNone)}, api.ErrCurve},
	} {
		f, ok := fault.Wrap("at", x.err).(*fault.Fault)
		if !ok || f.Code != x.code || f.At != "at" || f.Err != x.err {
			t.Errorf("%d: %+v", k, f)
			continue
		}
		if fault.Code(x.err) != x.code || fault.Code(f) != x.code {
			t.Errorf("%d: Code %d, %d", k, fault.Code(x.err), fault.Code(f))
		}
		if errors.Unwrap(f) != x.err || f.Unwrap() != x.err || !errors.Is(f, x.err) {
			t.Errorf("%d: Unwrap %v", k, errors.Unwrap(f))
		}
	}
}

func TestIsOfItsOwnCodeAlone(t *testing.T) {
	for _, c := range codes() {
		made := []error{
			fault.New(c, ""), fault.New(c, "x"),
			fault.Wrap("x", fault.Of(c)), fault.Wrap("", fault.New(c, "y")), fault.Wrap("x", wrapper{fault.New(c, "y")}),
		}
		for _, e := range made {
			for _, d := range codes() {
				if errors.Is(e, fault.Of(d)) != (c == d) {
					t.Errorf("%v is Of(%d): %v", e, d, c != d)
				}
			}
		}
		f := &fault.Fault{Code: c, At: "x"}
		if !f.Is(fault.Of(c)) || f.Is(fault.New(c, "x")) || f.Is(nil) || f.Is(list{}) || f.Is(f) {
			t.Errorf("Is of a Fault of %d", c)
		}
	}
	if !errors.Is(fault.Wrap("x", list{}), fault.Of(api.ErrForm)) {
		t.Error("another's error, wrapped, is none of ErrForm")
	}
	mixed := &fault.Fault{Code: api.ErrNone, Err: fault.New(api.ErrDate, "a")}
	if !errors.Is(mixed, fault.Of(api.ErrNone)) || !errors.Is(mixed, fault.Of(api.ErrDate)) || mixed.Is(fault.Of(api.ErrDate)) {
		t.Error("a Fault around one of another code")
	}
}

func TestWhereAndError(t *testing.T) {
	a := fault.New(api.ErrDate, "a")
	for k, x := range []struct {
		err  error
		ats  []string
		text string
	}{
		{a, []string{"a"}, "a: error 4"},
		{fault.New(api.ErrDate, ""), nil, "error 4"},
		{fault.Wrap("b", a), []string{"b", "a"}, "b: a: error 4"},
		{fault.Wrap("", a), []string{"a"}, "a: error 4"},
		{fault.Wrap("b", fault.New(api.ErrDate, "")), []string{"b"}, "b: error 4"},
		{fault.Wrap("c", fault.Wrap("", fault.Wrap("b", a))), []string{"c", "b", "a"}, "c: b: a: error 4"},
		{fault.Wrap("b", fault.Wrap("b", a)), []string{"b", "b", "a"}, "b: b: a: error 4"},
		{fault.Wrap("b", fault.Of(api.ErrLarge)), []string{"b"}, "b: error 11"},
		{fault.Wrap("b", list{"x"}), []string{"b"}, "b: error 1"},
		{fault.Wrap("c", wrapper{fault.Wrap("b", wrapper{a})}), []string{"c", "b", "a"}, "c: b: a: error 4"},
		{wrapper{a}, []string{"a"}, "wrapper"},
		{list{"x"}, nil, "list"},
		{errors.Join(list{}, a), nil, "list\na: error 4"},
		{fault.Wrap("b", errors.Join(list{}, a)), []string{"b"}, "b: error 4"},
		{&fault.Fault{Code: -7, At: "x", Err: a}, []string{"x", "a"}, "x: a: error -7"},
		{&fault.Fault{}, nil, "error 0"},
		{fault.New(math.MinInt64, ": "), []string{": "}, ": : error -9223372036854775808"},
	} {
		if got := fault.Where(x.err); !slices.Equal(got, x.ats) {
			t.Errorf("%d: places %q, not %q", k, got, x.ats)
		}
		if got := x.err.Error(); got != x.text {
			t.Errorf("%d: %q, not %q", k, got, x.text)
		}
	}
}

func TestWhereIsNewMemory(t *testing.T) {
	e := fault.Wrap("b", fault.New(api.ErrDate, "a"))
	ats := fault.Where(e)
	ats = ats[:cap(ats)]
	for i := range ats {
		ats[i] = "changed"
	}
	if got := fault.Where(e); !slices.Equal(got, []string{"b", "a"}) || e.Error() != "b: a: error 4" {
		t.Errorf("changed to %q, %q", got, e.Error())
	}
}

func TestNilFault(t *testing.T) {
	var none *fault.Fault
	if none.Error() != "" || none.Unwrap() != nil {
		t.Errorf("%q, %v", none.Error(), none.Unwrap())
	}
	for _, target := range []error{nil, none, list{}, fault.Of(api.ErrForm)} {
		if none.Is(target) {
			t.Errorf("a nil *Fault is %v", target)
		}
	}
	if c := fault.Code(none); c != api.ErrForm {
		t.Errorf("Code: %d", c)
	}
	if ats := fault.Where(none); len(ats) != 0 {
		t.Errorf("Where: %q", ats)
	}
	e := fault.Wrap("x", none)
	if fault.Code(e) != api.ErrForm || e.Error() != "x: error 1" || !slices.Equal(fault.Where(e), []string{"x"}) {
		t.Errorf("wrapped: %v", e)
	}
}

func TestOthersErrorsThatPanic(t *testing.T) {
	for _, bad := range []error{&broken{}, (*broken)(nil), (*wrapper)(nil)} {
		if c := fault.Code(bad); c != api.ErrForm {
			t.Errorf("%T: Code %d", bad, c)
		}
		if ats := fault.Where(bad); len(ats) != 0 {
			t.Errorf("%T: Where %q", bad, ats)
		}
		e := fault.Wrap("x", bad)
		if fault.Code(e) != api.ErrForm || e.Error() != "x: error 1" || !slices.Equal(fault.Where(e), []string{"x"}) {
			t.Errorf("%T wrapped: %v", bad, e)
		}
		if (&fault.Fault{Code: api.ErrForm}).Is(bad) {
			t.Errorf("a Fault is %T", bad)
		}
	}
}

func TestAFaultOfAnothersAs(t *testing.T) {
	e := fault.Wrap("x", &half{})
	if fault.Code(&half{}) != api.ErrTwice || fault.Code(e) != api.ErrTwice || !slices.Equal(fault.Where(e), []string{"x"}) {
		t.Errorf("%d, %q", fault.Code(e), fault.Where(e))
	}
}

func TestFaultsInACircle(t *testing.T) {
	one := &fault.Fault{Code: api.ErrDate, At: "one"}
	one.Err = one
	if one.Error() != "one: error 4" || fault.Code(one) != api.ErrDate || !slices.Equal(fault.Where(one), []string{"one"}) {
		t.Errorf("one: %q, %q", one.Error(), fault.Where(one))
	}
	a := &fault.Fault{Code: api.ErrBond, At: "a"}
	a.Err = fault.Wrap("b", wrapper{a})
	e := fault.Wrap("c", a)
	if e.Error() != "c: a: b: error 5" || !slices.Equal(fault.Where(e), []string{"c", "a", "b"}) {
		t.Errorf("two: %q, %q", e.Error(), fault.Where(e))
	}
}

func TestLongChain(t *testing.T) {
	const long = 100000
	e := fault.New(api.ErrYield, "end")
	for range long {
		e = fault.Wrap("x", e)
	}
	if fault.Code(e) != api.ErrYield || len(fault.Where(e)) != long+1 || len(e.Error()) != 3*long+len("end: error 7") {
		t.Error("a long chain")
	}
}
