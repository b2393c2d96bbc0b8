package inflate

import "valise/codes"

// sets are those of a block: of its symbols, and of its distances.
type sets struct {
	symbols, distances *codes.Set
}

// The symbols by which a row of lengths is told: up to maxPlain a length, then repetitions.
const (
	maxPlain   = 15
	again      = 16
	zeros      = 17
	manyZeros  = 18
	rowSymbols = 19
)

// order is the one in which the lengths of the row's own codes are told.
var order = [rowSymbols]int{16, 17, 18, 0, 8, 7, 9, 6, 10, 5, 11, 4, 12, 3, 13, 2, 14, 1, 15}

func fixedSets() sets {
	return sets{
		symbols:   codes.Make(codes.FixedSymbols()),
		distances: codes.Make(codes.FixedDistances()),
	}
}

// toldSets reads the codes that a block tells; false: they are not right.
func (r *reader) toldSets() (sets, bool) {
	head, ok := r.number(14)
	if !ok {
		return sets{}, false
	}
	symbols := 257 + (head & 31)
	distances := 1 + (head >> 5 & 31)
	told := 4 + (head >> 10)
	if symbols > codes.Symbols || distances > codes.Distances {
		return sets{}, false
	}
	by, ok := r.rowSet(told)
	if !ok {
		return sets{}, false
	}
	row, ok := r.row(by, symbols+distances)
	if !ok || !rightRow(row[:symbols], row[symbols:]) {
		return sets{}, false
	}
	return sets{symbols: codes.Make(row[:symbols]), distances: codes.Make(row[symbols:])}, true
}

// rightRow: without a code for its end a block would have none.
func rightRow(symbols, distances []int) bool {
	return symbols[codes.End] > 0 && codes.Fit(symbols) && codes.FitDistances(distances)
}

// rowSet reads the codes by which the row is told; of so many symbols a length is told.
func (r *reader) rowSet(told int) (*codes.Set, bool) {
	lengths := make([]int, rowSymbols)
	for i := range told {
		length, ok := r.number(3)
		if !ok {
			return nil, false
		}
		lengths[order[i]] = length
	}
	if !codes.Fit(lengths) {
		return nil, false
	}
	return codes.Make(lengths), true
}

// row reads just so many lengths.
func (r *reader) row(by *codes.Set, count int) ([]int, bool) {
	row := make([]int, 0, count)
	var symbol, length, times int
	var ok bool
	for len(row) < count {
		symbol, ok = r.symbol(by)
		if !ok || symbol == again && len(row) == 0 {
			goto wrong
		}
		length = symbol
		if symbol == again {
			length = row[len(row)-1]
		} else if symbol > maxPlain {
			length = 0
		}
		times, ok = r.times(symbol)
		if !ok || times > count-len(row) {
			goto wrong
		}
		for range times {
			row = append(row, length)
		}
	}
	return row, true
wrong:
	return nil, false
}

// times reads how often a length stands there, which a repetition tells by some bits more.
func (r *reader) times(symbol int) (int, bool) {
	least, bits := 1, 0
	switch symbol {
	case again:
		least, bits = 3, 2
	case zeros:
		least, bits = 3, 3
	case manyZeros:
		least, bits = 11, 7
	}
	more, ok := r.number(bits)
	return least + more, ok
}
