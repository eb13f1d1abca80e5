// Package record makes the records of the log out of parts, and reads them.
//
// A record is the number of its body's bytes, and its body: its parts, one behind the other. Of a record that was cut short its number asks for more bytes than there are, so that it is never taken for a whole one.
package record

// Part adds its bytes at the end of others.
type Part func(to []byte) []byte

// Make gives the record that has these parts.
func Make(parts ...Part) string {
	body := Group(parts...)(nil)
	return string(append(Number(len(body))(nil), body...))
}

// Group is one part out of several.
func Group(parts ...Part) Part {
	return func(to []byte) []byte {
		for _, p := range parts {
			to = p(to)
		}
		return to
	}
}

// Number is a number that is not below 0: seven bits a byte, the lowest first, and in each byte but the last the eighth bit is set.
func Number[N ~int](n N) Part {
	return func(to []byte) []byte {
		rest := uint64(n)
		for rest >= more {
			to = append(to, byte(rest)|more)
			rest >>= bits
		}
		return append(to, byte(rest))
	}
}

// Text is a text: the number of its bytes, and they.
func Text(s string) Part {
	return func(to []byte) []byte {
		return append(Number(len(s))(to), s...)
	}
}

// List is a list: the number of its elements, and of each the part that one makes of it.
func List[T any](l []T, one func(T) Part) Part {
	return func(to []byte) []byte {
		to = Number(len(l))(to)
		for _, x := range l {
			to = one(x)(to)
		}
		return to
	}
}
