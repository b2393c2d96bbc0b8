package codes

// End is the symbol that ends a block; those below it are bytes.
const End = 256

// MinLength and MaxLength are the lengths that a copy may have.
const (
	MinLength = 3
	MaxLength = 258
)

// How many symbols may stand in a block, and how many symbols of distances.
const (
	Symbols   = 286
	Distances = 30
)

// In kind 1 there are codes for symbols that may not stand there, too.
const (
	fixedSymbols   = 288
	fixedDistances = 32
)

// The first symbols whose lengths are told by a rule; those ahead of them are single lengths.
const (
	firstLength = End + 1
	ruledLength = 261
	lastLength  = Symbols - 1
)

// FixedSymbols tells how many bits the codes of symbols have in kind 1.
func FixedSymbols() []int {
	lengths := make([]int, fixedSymbols)
	for symbol := range lengths {
		lengths[symbol] = fixedBits(symbol)
	}
	return lengths
}

func fixedBits(symbol int) int {
	switch {
	case symbol < 144:
		return 8
	case symbol < 256:
		return 9
	case symbol < 280:
		return 7
	}
	return 8
}

// FixedDistances tells how many bits the codes of distances have in kind 1.
func FixedDistances() []int {
	lengths := make([]int, fixedDistances)
	for symbol := range lengths {
		lengths[symbol] = 5
	}
	return lengths
}

// Length tells the least length of a copy that a symbol stands for, and by how many bits more the
// length is told; false: it is no symbol of a copy.
func Length(symbol int) (least, bits int, ok bool) {
	switch {
	case symbol < firstLength || symbol > lastLength:
		return 0, 0, false
	case symbol < ruledLength:
		return symbol - firstLength + MinLength, 0, true
	case symbol == lastLength:
		return MaxLength, 0, true
	}
	bits = (symbol - ruledLength) / 4
	return 3 + (4+(symbol-ruledLength)%4)<<bits, bits, true
}

// Distance tells the same of a symbol of distances.
func Distance(symbol int) (least, bits int, ok bool) {
	switch {
	case symbol < 0 || symbol >= Distances:
		return 0, 0, false
	case symbol < 4:
		return symbol + 1, 0, true
	}
	bits = symbol/2 - 1
	return 1 + (2+symbol%2)<<bits, bits, true
}

// OfLength is the symbol for a length. From the last on, so that MaxLength has the symbol that
// needs no bits more.
func OfLength(length int) int {
	symbol := lastLength
	for symbol > firstLength && leastLength(symbol) > length {
		symbol--
	}
	return symbol
}

// OfDistance is the symbol for a distance.
func OfDistance(distance int) int {
	symbol := Distances - 1
	for symbol > 0 && leastDistance(symbol) > distance {
		symbol--
	}
	return symbol
}

func leastLength(symbol int) int {
	least, _, _ := Length(symbol)
	return least
}

func leastDistance(symbol int) int {
	least, _, _ := Distance(symbol)
	return least
}
