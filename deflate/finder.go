package deflate

import "valise/codes"

// maxTries is how many places are tried for one copy, the nearest first. Where up to 100 bytes come
// again and again, at most 100 places are as near as the bytes' last time, so it is always tried.
const maxTries = 128

// finder finds copies: by the first bytes of one, where they stood before.
type finder struct {
	data    string
	latest  map[string]int // of each row of MinLength bytes: the last place where it stands
	earlier []int          // of each place: the one ahead of it with the same row, or below 0
}

func newFinder(data string) *finder {
	return &finder{data: data, latest: map[string]int{}, earlier: make([]int, len(data))}
}

// longest looks for a copy for what stands at a place: its real part is how long it is, its
// imaginary part how far. Of the longest it is the nearest, which needs the fewest bits; 0, if
// there is none.
func (f *finder) longest(at int) complex128 {
	var best complex128
	from := f.last(at)
	for tries := 0; from >= 0 && tries < maxTries; tries++ {
		found := complex(float64(f.same(from, at)), float64(at-from))
		if real(found) > real(best) {
			best = found
		}
		from = f.earlier[from]
	}
	return best
}

// last is the last place that was learned with the row that stands at a place, or below 0.
func (f *finder) last(at int) int {
	if len(f.data)-at < codes.MinLength {
		return -1
	}
	if from, met := f.latest[f.data[at:at+codes.MinLength]]; met {
		return from
	}
	return -1
}

// same tells how many bytes are the same from two places on, as far as a copy may go.
func (f *finder) same(from, at int) int {
	most := min(codes.MaxLength, len(f.data)-at)
	count := 0
	for count < most && f.data[from+count] == f.data[at+count] {
		count++
	}
	return count
}

// learn makes some places ones that copies may come from.
func (f *finder) learn(from, count int) {
	for at := from; at < from+count && at+codes.MinLength <= len(f.data); at++ {
		f.earlier[at] = f.last(at)
		f.latest[f.data[at:at+codes.MinLength]] = at
	}
}
