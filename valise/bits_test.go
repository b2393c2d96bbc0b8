package valise

import "strings"

// bitText is packed bytes as they grow, bit by bit: a text of 0 and 1 (blanks say nothing).
type bitText string

// bytes lays the bits into bytes, each from its lowest bit on.
func (b bitText) bytes() string {
	bits := strings.ReplaceAll(string(b), " ", "")
	packed := make([]byte, (len(bits)+7)/8)
	for i := range len(bits) {
		packed[i/8] |= (bits[i] - '0') << (i % 8)
	}
	return string(packed)
}

// low is a number of so many bits, the lowest first.
func low(value, bits int) bitText {
	var b strings.Builder
	for place := range bits {
		b.WriteByte("01"[value>>place&1])
	}
	return bitText(b.String())
}

// high is a code of so many bits, the highest first.
func high(value, bits int) bitText {
	var b strings.Builder
	for place := bits - 1; place >= 0; place-- {
		b.WriteByte("01"[value>>place&1])
	}
	return bitText(b.String())
}

// fixed is the code of a symbol in kind 1.
func fixed(symbol int) bitText {
	switch {
	case symbol < 144:
		return high(0b00110000+symbol, 8)
	case symbol < 256:
		return high(0b110010000+symbol-144, 9)
	case symbol < 280:
		return high(symbol-256, 7)
	}
	return high(0b11000000+symbol-280, 8)
}

// fixedText is bytes by the codes of kind 1.
func fixedText(data string) bitText {
	var b strings.Builder
	for i := range len(data) {
		b.WriteString(string(fixed(int(data[i]))))
	}
	return bitText(b.String())
}

// codesOf makes codes as the document says it, one length behind the other.
func codesOf(lengths []int) []bitText {
	list := make([]bitText, len(lengths))
	next := 0
	for length := 1; length <= 15; length++ {
		next *= 2
		for symbol := range lengths {
			if lengths[symbol] == length {
				list[symbol] = high(next, length)
				next++
			}
		}
	}
	return list
}

// rowOrder is the one in which the lengths of the row's codes are told.
var rowOrder = []int{16, 17, 18, 0, 8, 7, 9, 6, 10, 5, 11, 4, 12, 3, 13, 2, 14, 1, 15}

// rowItem is one symbol of a row of lengths, and the number behind it.
type rowItem struct{ symbol, more int }

// toldHead is the head of a last block of kind 2: its three numbers, the lengths of the row's codes
// (of those that are told), and the row.
func toldHead(symbols, distances, told int, rowLengths map[int]int, row []rowItem) bitText {
	lengths := make([]int, 19)
	b := "1 01" + low(symbols-257, 5) + low(distances-1, 5) + low(told-4, 4)
	for i := range told {
		lengths[rowOrder[i]] = rowLengths[rowOrder[i]]
		b += low(rowLengths[rowOrder[i]], 3)
	}
	list := codesOf(lengths)
	for _, item := range row {
		b += list[item.symbol]
		switch item.symbol {
		case 16:
			b += low(item.more, 2)
		case 17:
			b += low(item.more, 3)
		case 18:
			b += low(item.more, 7)
		}
	}
	return b
}

// evenRow are lengths of the row's codes by which each symbol but some of 19 has a code, and they fit.
func evenRow() map[int]int {
	lengths := map[int]int{}
	for symbol := range 19 {
		lengths[symbol] = 4
		if symbol >= 13 {
			lengths[symbol] = 5
		}
	}
	return lengths // 13 of 4 bits, 6 of 5: all there can be
}

// spelled is a block of kind 2 that tells each length by itself: of symbols, and of distances.
func spelled(symbols, distances int, lengths map[int]int, body bitText) string {
	var row []rowItem
	for i := range symbols + distances {
		row = append(row, rowItem{symbol: lengths[i]})
	}
	return (toldHead(symbols, distances, 19, evenRow(), row) + body).bytes()
}
