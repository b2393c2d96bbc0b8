// Package deflate packs bytes: into those of DEFLATE.
package deflate

import "valise/codes"

// The kinds of blocks that are made here.
const (
	kindPlain = 0
	kindFixed = 1
)

// MaxBytes is how many bytes one block has at most, if they are as they are.
const MaxBytes = 65535

// Bytes packs at most MaxBytes bytes into one block of the kind that is shorter.
func Bytes(data string) string {
	plain, packed := plainBlock(data), fixedBlock(data)
	if len(plain) < len(packed) {
		return plain
	}
	return packed
}

// plainBlock has the data as it is.
func plainBlock(data string) string {
	var w writer
	w.head(kindPlain)
	w.skipRest()
	w.number(len(data), 16)
	w.number(MaxBytes-len(data), 16)
	return string(w.packed) + data
}

// fixedBlock has copies for what came before, as long ones as there are.
func fixedBlock(data string) string {
	p := newPacker()
	p.head(kindFixed)
	f := newFinder(data)
	for at := 0; at < len(data); {
		count := 1
		if found := f.longest(at); found != 0 {
			count = int(real(found))
			p.copy(count, int(imag(found)))
		} else {
			p.symbol(int(data[at]))
		}
		f.learn(at, count)
		at += count
	}
	p.symbol(codes.End)
	return string(p.packed)
}

// head begins the one block, which is the last.
func (w *writer) head(kind int) {
	w.number(1, 1)
	w.number(kind, 2)
}

// packer lays symbols by the codes of kind 1.
type packer struct {
	writer
	symbols, distances []codes.Code
}

func newPacker() *packer {
	return &packer{symbols: listed(codes.FixedSymbols()), distances: listed(codes.FixedDistances())}
}

func listed(lengths []int) []codes.Code {
	return codes.Make(lengths).Codes(len(lengths))
}

func (p *packer) symbol(symbol int) {
	p.code(p.symbols[symbol])
}

// copy lays a copy: each of its two numbers as a symbol, and how much more than its least it is.
func (p *packer) copy(length, distance int) {
	symbol := codes.OfLength(length)
	least, bits, _ := codes.Length(symbol)
	p.symbol(symbol)
	p.number(length-least, bits)

	symbol = codes.OfDistance(distance)
	least, bits, _ = codes.Distance(symbol)
	p.code(p.distances[symbol])
	p.number(distance-least, bits)
}
