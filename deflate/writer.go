package deflate

import "valise/codes"

// writer lays bits into bytes, each from its lowest bit on.
type writer struct {
	packed []byte
	free   int // bits of the last byte that are not laid yet
}

func (w *writer) bit(value int) {
	if w.free == 0 {
		w.packed = append(w.packed, 0)
		w.free = 8
	}
	w.packed[len(w.packed)-1] |= byte(value << (8 - w.free))
	w.free--
}

// number lays one of so many bits, the lowest first.
func (w *writer) number(value, bits int) {
	for place := range bits {
		w.bit(value >> place & 1)
	}
}

// code lays a code, the highest bit first.
func (w *writer) code(code codes.Code) {
	for place := code.Bits - 1; place >= 0; place-- {
		w.bit(code.Value >> place & 1)
	}
}

// skipRest leaves the rest of a byte that was begun.
func (w *writer) skipRest() {
	w.free = 0
}
