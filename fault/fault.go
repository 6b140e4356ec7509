// Package fault: errors that are wrapped: see doc/01-fault.md.
package fault

import (
	"errors"
	"strconv"
	"strings"

	"rentier/api"
)

// Fault is an error with a number, a place, and the error that it wraps.
type Fault struct {
	Code api.Errno
	At   string
	Err  error
}

// plain is a code alone. It is a value, not a shared *Fault: so it is == to
// another of its code, and nobody can write into what Of answers.
type plain api.Errno

// Error tells a code as a Fault without a place does.
func (p plain) Error() string { return text(api.Errno(p)) }

// As hands out a Fault made anew, so that writing into it changes no other.
func (p plain) As(target any) bool {
	to, ok := target.(**Fault)
	if !ok || to == nil {
		return false
	}
	*to = &Fault{Code: api.Errno(p)}
	return true
}

// Error tells the places, from the outermost inward, and the code.
func (f *Fault) Error() string {
	if f == nil {
		return ""
	}
	var b strings.Builder
	for _, at := range Where(f) {
		b.WriteString(at)
		b.WriteString(": ")
	}
	b.WriteString(text(f.Code))
	return b.String()
}

// Unwrap is the error that f wraps.
func (f *Fault) Unwrap() error {
	if f == nil {
		return nil
	}
	return f.Err
}

// Is tells whether target is Of of the code of f.
func (f *Fault) Is(target error) bool {
	return f != nil && errors.Is(Of(f.Code), target)
}

// Of is the error of a code, without a place.
func Of(code api.Errno) error {
	if code == api.OK {
		return nil
	}
	return plain(code)
}

// New is an error of a code at a place.
func New(code api.Errno, at string) error {
	if code == api.OK {
		return nil
	}
	return &Fault{Code: code, At: at}
}

// Wrap lays a place around an error and keeps its code.
func Wrap(at string, err error) error {
	if err == nil {
		return nil
	}
	return &Fault{Code: Code(err), At: at, Err: err}
}

// Code is the number of an error.
func Code(err error) api.Errno {
	if err == nil {
		return api.OK
	}
	if f := first(err); f != nil {
		return f.Code
	}
	return api.ErrForm
}

// Where tells the places of an error, from the outermost inward.
func Where(err error) []string {
	var ats []string
	met := map[*Fault]struct{}{}
	for f := first(err); f != nil; f = first(err) {
		// errors.As looks further in than err itself, and into joined errors.
		if err == error(f) {
			// A Fault that was put together by hand may wrap itself.
			if _, again := met[f]; again {
				break
			}
			met[f] = struct{}{}
			if f.At != "" {
				ats = append(ats, f.At)
			}
		}
		err = next(err)
	}
	return ats
}

// first is the first Fault that errors.As finds; nil: there is none. The
// methods of others' errors are asked on the way: a panic of theirs ends here.
func first(err error) (f *Fault) {
	defer func() {
		if recover() != nil {
			f = nil
		}
	}()
	if !errors.As(err, &f) {
		return nil
	}
	return f
}

// next is the error that err wraps; nil: none, or err panics when it is asked.
func next(err error) (inner error) {
	defer func() {
		if recover() != nil {
			inner = nil
		}
	}()
	return errors.Unwrap(err)
}

// text is what an error without a place tells.
func text(code api.Errno) string {
	return "error " + strconv.Itoa(int(code))
}
