package codes

import "testing"

func TestLengthOfEverySymbol(t *testing.T) {
	want := []struct{ least, bits int }{
		{3, 0}, {4, 0}, {5, 0}, {6, 0}, {7, 0}, {8, 0}, {9, 0}, {10, 0}, {11, 1}, {13, 1}, {15, 1}, {17, 1},
		{19, 2}, {23, 2}, {27, 2}, {31, 2}, {35, 3}, {43, 3}, {51, 3}, {59, 3}, {67, 4}, {83, 4}, {99, 4}, {115, 4},
		{131, 5}, {163, 5}, {195, 5}, {227, 5}, {258, 0},
	}
	for i, w := range want {
		if least, bits, ok := Length(257 + i); least != w.least || bits != w.bits || !ok {
			t.Errorf("the symbol %d: %d, %d, %v, want %d, %d", 257+i, least, bits, ok, w.least, w.bits)
		}
	}
	for _, symbol := range []int{-1, 0, 255, 256, 286, 287} {
		if least, bits, ok := Length(symbol); least != 0 || bits != 0 || ok {
			t.Errorf("the symbol %d: %d, %d, %v, want none", symbol, least, bits, ok)
		}
	}
}

func TestDistanceOfEverySymbol(t *testing.T) {
	want := []struct{ least, bits int }{
		{1, 0}, {2, 0}, {3, 0}, {4, 0}, {5, 1}, {7, 1}, {9, 2}, {13, 2}, {17, 3}, {25, 3}, {33, 4}, {49, 4},
		{65, 5}, {97, 5}, {129, 6}, {193, 6}, {257, 7}, {385, 7}, {513, 8}, {769, 8}, {1025, 9}, {1537, 9},
		{2049, 10}, {3073, 10}, {4097, 11}, {6145, 11}, {8193, 12}, {12289, 12}, {16385, 13}, {24577, 13},
	}
	for symbol, w := range want {
		if least, bits, ok := Distance(symbol); least != w.least || bits != w.bits || !ok {
			t.Errorf("the symbol %d: %d, %d, %v, want %d, %d", symbol, least, bits, ok, w.least, w.bits)
		}
	}
	for _, symbol := range []int{-1, 30, 31} {
		if least, bits, ok := Distance(symbol); least != 0 || bits != 0 || ok {
			t.Errorf("the symbol %d: %d, %d, %v, want none", symbol, least, bits, ok)
		}
	}
}

// within tells whether a value can be told by a symbol of that least value and bits.
func within(value, least, bits int) bool {
	return value >= least && value < least+1<<bits
}

func TestSymbolOfEveryLength(t *testing.T) {
	for length := MinLength; length <= MaxLength; length++ {
		least, bits, ok := Length(OfLength(length))
		if !ok || !within(length, least, bits) {
			t.Errorf("the length %d has the symbol %d", length, OfLength(length))
		}
	}
	if OfLength(258) != 285 || OfLength(257) != 284 {
		t.Errorf("258 has the symbol %d, 257 %d", OfLength(258), OfLength(257))
	}
}

func TestSymbolOfEveryDistance(t *testing.T) {
	for distance := 1; distance <= 32768; distance++ {
		least, bits, ok := Distance(OfDistance(distance))
		if !ok || !within(distance, least, bits) {
			t.Errorf("the distance %d has the symbol %d", distance, OfDistance(distance))
		}
	}
}
