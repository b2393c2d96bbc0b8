package codes

import (
	"math/rand"
	"slices"
	"testing"
)

// drawnFit draws lengths that fit: of one code of no bits a code is split in two, again and again.
func drawnFit(r *rand.Rand) []int {
	lengths := []int{1, 1}
	for range r.Intn(200) {
		i := r.Intn(len(lengths))
		if lengths[i] < MaxBits {
			lengths[i]++
			lengths = append(lengths, lengths[i])
		}
	}
	for range r.Intn(20) {
		lengths = slices.Insert(lengths, r.Intn(len(lengths)+1), 0)
	}
	return lengths
}

func TestMakeOfAKnownSet(t *testing.T) {
	got := Make([]int{3, 3, 3, 3, 3, 2, 4, 4}).Codes(8)
	want := []Code{{0b010, 3}, {0b011, 3}, {0b100, 3}, {0b101, 3}, {0b110, 3}, {0b00, 2}, {0b1110, 4}, {0b1111, 4}}
	if !slices.Equal(got, want) {
		t.Errorf("the codes are %v, want %v", got, want)
	}
}

func TestMakeOfKind1(t *testing.T) {
	list := Make(FixedSymbols()).Codes(288)
	for symbol, want := range map[int]Code{
		0: {0b00110000, 8}, 143: {0b10111111, 8}, 144: {0b110010000, 9}, 255: {0b111111111, 9},
		256: {0, 7}, 279: {0b0010111, 7}, 280: {0b11000000, 8}, 287: {0b11000111, 8},
	} {
		if list[symbol] != want {
			t.Errorf("the code of %d is %v, want %v", symbol, list[symbol], want)
		}
	}
	for symbol, code := range Make(FixedDistances()).Codes(32) {
		if want := (Code{symbol, 5}); code != want {
			t.Errorf("the code of distance %d is %v, want %v", symbol, code, want)
		}
	}
}

func TestSymbolOfEveryCode(t *testing.T) {
	r := rand.New(rand.NewSource(3))
	for range 200 {
		lengths := drawnFit(r)
		set := Make(lengths)
		for symbol, code := range set.Codes(len(lengths)) {
			if code.Bits != lengths[symbol] {
				t.Fatalf("a code has %d bits, want %d", code.Bits, lengths[symbol])
			}
			if got, ok := set.Symbol(code); code.Bits > 0 && (!ok || got != symbol) {
				t.Fatalf("the symbol of %v is %d, %v, want %d", code, got, ok, symbol)
			}
		}
	}
}

func TestNoCodeBeginsAnother(t *testing.T) {
	r := rand.New(rand.NewSource(4))
	for range 50 {
		lengths := drawnFit(r)
		set := Make(lengths)
		for _, code := range set.Codes(len(lengths)) {
			for cut := 1; cut < code.Bits; cut++ {
				ahead := Code{Value: code.Value >> cut, Bits: code.Bits - cut}
				if symbol, ok := set.Symbol(ahead); ok {
					t.Fatalf("%v begins with %v, which is the code of %d", code, ahead, symbol)
				}
			}
		}
	}
}

func TestSymbolOfWhatIsNoCode(t *testing.T) {
	one := Make([]int{0, 1})
	if symbol, ok := one.Symbol(Code{0, 1}); !ok || symbol != 1 {
		t.Errorf("the code of the bit 0 is %d, %v", symbol, ok)
	}
	for bits := 1; bits <= MaxBits; bits++ {
		if symbol, ok := one.Symbol(Code{1<<bits - 1, bits}); ok {
			t.Errorf("%d bits 1 are the code of %d", bits, symbol)
		}
		if symbol, ok := Make(nil).Symbol(Code{0, bits}); ok {
			t.Errorf("in a set of nothing %d bits are the code of %d", bits, symbol)
		}
	}
}

func TestFit(t *testing.T) {
	deep := []int{1, 2, 3, 4, 5, 6, 7, 8, 9, 10, 11, 12, 13, 14, 15, 15}
	for _, c := range []struct {
		lengths          []int
		fit, ofDistances bool
	}{
		{nil, false, true},
		{[]int{0, 0, 0}, false, true},
		{[]int{1}, false, true},
		{[]int{0, 1, 0}, false, true},
		{[]int{0, 2, 0}, false, false},
		{[]int{15}, false, false},
		{[]int{1, 1}, true, true},
		{[]int{2, 2}, false, false},
		{[]int{1, 2}, false, false},
		{[]int{0, 2, 0, 1, 2}, true, true},
		{[]int{1, 1, 1}, false, false},
		{[]int{1, 1, 15}, false, false},
		{deep, true, true},
		{deep[:15], false, false},
		{FixedSymbols(), true, true},
		{FixedDistances(), true, true},
	} {
		if Fit(c.lengths) != c.fit || FitDistances(c.lengths) != c.ofDistances {
			t.Errorf("%v: fits %v, of distances %v, want %v, %v", c.lengths, Fit(c.lengths), FitDistances(c.lengths), c.fit, c.ofDistances)
		}
	}
	r := rand.New(rand.NewSource(5))
	for range 200 {
		if lengths := drawnFit(r); !Fit(lengths) || !FitDistances(lengths) || Fit(append(lengths, MaxBits)) {
			t.Fatalf("%v", lengths)
		}
	}
}
