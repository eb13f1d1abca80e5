package record

import "strings"

const (
	bits = 7         // of a number, in one byte
	more = 1 << bits // set in a byte behind which a number goes on
	top  = 63        // bits of the greatest number
)

// Source: bytes that are still to be read, and whether something was asked for that they do not have.
type Source struct {
	rest string
	bad  bool
}

// From gives a source of these bytes.
func From(bytes string) *Source { return &Source{rest: bytes} }

// Left tells how many bytes are still to be read.
func (s *Source) Left() int { return len(s.rest) }

// Spoil says that what was read has no sense.
func (s *Source) Spoil() { s.rest, s.bad = "", true }

// take gives the next n bytes.
func (s *Source) take(n int) string {
	if n < 0 || n > len(s.rest) {
		s.Spoil()
		return ""
	}
	out := s.rest[:n]
	s.rest = s.rest[n:]
	return out
}

// Next reads a whole record by what reads its body. Where there is none, it answers false and leaves the source as it was.
func Next[T any](s *Source, one func(*Source) T) (T, bool) {
	var none T
	ahead := *s
	body := Source{rest: ahead.take(ReadNumber[int](&ahead))}
	if ahead.bad {
		return none, false
	}
	out := one(&body)
	if body.bad || body.Left() > 0 {
		return none, false
	}
	*s = ahead
	return out, true
}

// ReadNumber reads what Number wrote.
func ReadNumber[N ~int](s *Source) N {
	out := uint64(0)
	for shift := 0; shift < top; shift += bits {
		b := s.take(1)
		if s.bad {
			return 0
		}
		out |= uint64(b[0]&(more-1)) << shift
		if b[0] < more {
			return N(out)
		}
	}
	s.Spoil()
	return 0
}

// ReadText reads what Text wrote, into memory of its own: the source's may be a whole file's.
func ReadText[S ~string](s *Source) S {
	return S(strings.Clone(s.take(ReadNumber[int](s))))
}

// ReadList reads what List wrote by what reads one element.
func ReadList[T any](s *Source, one func(*Source) T) []T {
	var out []T
	for range ReadNumber[int](s) {
		x := one(s)
		if s.bad {
			return nil
		}
		out = append(out, x)
	}
	return out
}
