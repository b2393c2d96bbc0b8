package inflate

import "valise/codes"

// reader goes through packed bytes bit by bit.
type reader struct {
	packed string
	at     int // how many bits were read
}

// bit is the next one; false: there is none.
func (r *reader) bit() (int, bool) {
	if r.at/8 >= len(r.packed) {
		return 0, false
	}
	value := int(r.packed[r.at/8]) >> (r.at % 8) & 1
	r.at++
	return value, true
}

// number reads one of so many bits, the lowest first.
func (r *reader) number(bits int) (int, bool) {
	value := 0
	for place := range bits {
		bit, ok := r.bit()
		if !ok {
			return 0, false
		}
		value |= bit << place
	}
	return value, true
}

// symbol reads a code, the highest bit first, and tells its symbol; false: it is none.
func (r *reader) symbol(set *codes.Set) (int, bool) {
	var code codes.Code
	for code.Bits < codes.MaxBits {
		bit, ok := r.bit()
		if !ok {
			return 0, false
		}
		code.Value = 2*code.Value + bit
		code.Bits++
		if symbol, ok := set.Symbol(code); ok {
			return symbol, true
		}
	}
	return 0, false
}

// skipRest leaves the rest of a byte that was begun.
func (r *reader) skipRest() {
	r.at = 8 * r.used()
}

// used is how many bytes were begun.
func (r *reader) used() int {
	return (r.at + 7) / 8
}

// bytes reads some as they are, from the beginning of a byte on; false: there are too few.
func (r *reader) bytes(count int) (string, bool) {
	from := r.at / 8
	if count > len(r.packed)-from {
		return "", false
	}
	r.at += 8 * count
	return r.packed[from : from+count], true
}
