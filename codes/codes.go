// Package codes makes the codes by which packed bytes tell their symbols, and says what the symbols
// of copies mean.
package codes

// MaxBits is how many bits a code has at most.
const MaxBits = 15

// Set is a set of codes. Those of one length rise by 1 with the symbols, so that the first one of
// each length and the symbols in their order are all there is to know.
type Set struct {
	firsts [MaxBits + 1]int
	runs   [MaxBits + 1][]int
}

// Code is one code: its bits as a number, and how many they are.
type Code struct {
	Value, Bits int
}

// Make makes the codes of how many bits each symbol's has: 1 to MaxBits, or 0, if it has none.
func Make(lengths []int) *Set {
	set := new(Set)
	for symbol, length := range lengths {
		if length > 0 {
			set.runs[length] = append(set.runs[length], symbol)
		}
	}
	for length := 1; length <= MaxBits; length++ {
		set.firsts[length] = 2 * (set.firsts[length-1] + len(set.runs[length-1]))
	}
	return set
}

// Symbol tells which symbol has a code; false: none has.
func (s *Set) Symbol(code Code) (int, bool) {
	nth := code.Value - s.firsts[code.Bits]
	if nth < 0 || nth >= len(s.runs[code.Bits]) {
		return 0, false
	}
	return s.runs[code.Bits][nth], true
}

// Codes lists the codes of the symbols 0 to count - 1, which are all that the set has.
func (s *Set) Codes(count int) []Code {
	list := make([]Code, count)
	for length, run := range s.runs {
		for nth, symbol := range run {
			list[symbol] = Code{Value: s.firsts[length] + nth, Bits: length}
		}
	}
	return list
}

// Fit tells whether codes of these lengths are all that there can be, and no more.
func Fit(lengths []int) bool {
	total := 0
	for _, length := range lengths {
		if length > 0 {
			total += 1 << (MaxBits - length)
		}
	}
	return total == 1<<MaxBits
}

// FitDistances is Fit for distances, of which there may be none, or one alone that has one bit.
func FitDistances(lengths []int) bool {
	count, bits := 0, 0
	for _, length := range lengths {
		if length > 0 {
			count++
			bits += length
		}
	}
	return count == 0 || count == 1 && bits == 1 || Fit(lengths)
}
