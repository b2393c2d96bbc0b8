// Package inflate unpacks packed bytes: those of DEFLATE.
package inflate

import (
	"valise/api"
	"valise/codes"
)

// The kinds of blocks.
const (
	kindPlain = 0
	kindFixed = 1
	kindTold  = 2
)

// unpacker has what is left to read, and what is unpacked so far.
type unpacker struct {
	reader
	data []byte
}

// Bytes unpacks packed bytes, and tells how many of them were used.
func Bytes(packed string) (string, int, api.Errno) {
	u := &unpacker{reader: reader{packed: packed}}
	fixed := fixedSets()
	for last := false; !last; {
		var fault api.Errno
		last, fault = u.block(fixed)
		if fault != api.OK {
			return "", 0, fault
		}
	}
	return string(u.data), u.used(), api.OK
}

// block unpacks one, and tells whether it was the last. The sets of kind 1 are handed in, as there
// may be very many short blocks.
func (u *unpacker) block(fixed sets) (bool, api.Errno) {
	head, ok := u.number(3)
	if !ok {
		return false, api.ErrData
	}
	last := head&1 == 1
	switch head >> 1 {
	case kindPlain:
		return last, u.unpackPlain()
	case kindFixed:
		return last, u.unpackSymbols(fixed)
	case kindTold:
		told, ok := u.toldSets()
		if !ok {
			return false, api.ErrData
		}
		return last, u.unpackSymbols(told)
	}
	return false, api.ErrData
}

// unpackPlain unpacks bytes that lie there as they are. That they are too many is told ahead of whether
// they are there.
func (u *unpacker) unpackPlain() api.Errno {
	u.skipRest()
	count, ok := u.number(16)
	if !ok {
		return api.ErrData
	}
	turned, ok := u.number(16)
	if !ok || turned != 65535-count {
		return api.ErrData
	}
	if !u.room(count) {
		return api.ErrLarge
	}
	row, ok := u.bytes(count)
	if !ok {
		return api.ErrData
	}
	u.data = append(u.data, row...)
	return api.OK
}

// unpackSymbols unpacks bytes and copies up to the end of a block.
func (u *unpacker) unpackSymbols(by sets) api.Errno {
	var symbol, length, distance int
	var ok bool
	for {
		symbol, ok = u.symbol(by.symbols)
		if !ok {
			goto wrong
		}
		if symbol == codes.End {
			return api.OK
		}
		if symbol < codes.End {
			if !u.room(1) {
				return api.ErrLarge
			}
			u.data = append(u.data, byte(symbol))
			continue
		}
		length, ok = u.length(symbol)
		if !ok {
			goto wrong
		}
		distance, ok = u.distance(by.distances)
		if !ok || distance > len(u.data) {
			goto wrong
		}
		if !u.room(length) {
			return api.ErrLarge
		}
		u.copy(length, distance)
	}
wrong:
	return api.ErrData
}

// length reads what a copy's symbol leaves open of its length.
func (u *unpacker) length(symbol int) (int, bool) {
	least, bits, ok := codes.Length(symbol)
	if !ok {
		return 0, false
	}
	more, ok := u.number(bits)
	return least + more, ok
}

// distance reads a copy's distance.
func (u *unpacker) distance(set *codes.Set) (int, bool) {
	symbol, ok := u.symbol(set)
	if !ok {
		return 0, false
	}
	least, bits, ok := codes.Distance(symbol)
	if !ok {
		return 0, false
	}
	more, ok := u.number(bits)
	return least + more, ok
}

// room tells whether so many bytes more may be unpacked.
func (u *unpacker) room(more int) bool {
	return more <= api.MaxData-len(u.data)
}

// copy goes byte by byte, as a copy may run into what it has just copied.
func (u *unpacker) copy(length, distance int) {
	for range length {
		u.data = append(u.data, u.data[len(u.data)-distance])
	}
}
