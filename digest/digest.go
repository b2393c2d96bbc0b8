// Package digest tells the digest of bytes: that of SHA-256.
package digest

import "math/bits"

const blockSize = 64

const hexDigits = "0123456789abcdef"

// startWords: the first 32 bits behind the point of the square roots of the first eight primes.
var startWords = [8]uint32{
	0x6a09e667, 0xbb67ae85, 0x3c6ef372, 0xa54ff53a,
	0x510e527f, 0x9b05688c, 0x1f83d9ab, 0x5be0cd19,
}

// Of tells the digest of data as 64 digits of base 16.
func Of(data string) string {
	return inHex(words(data))
}

// Bytes tells the digest of data as 32 bytes.
func Bytes(data string) [32]byte {
	var sum [32]byte
	for i, word := range words(data) {
		for place := range 4 {
			sum[4*i+place] = byte(word >> (24 - 8*place))
		}
	}
	return sum
}

// words takes whole blocks where they stand, so that only the last piece of long data is copied.
// The numbers K are worked out for each digest, so that it hangs on nothing that is kept.
func words(data string) [8]uint32 {
	k := workedOut()
	whole := len(data) - len(data)%blockSize
	h := absorb(startWords, k, data[:whole])
	return absorb(h, k, data[whole:]+padding(uint64(len(data))))
}

// padding is what follows data of so many bytes, up to the end of a block.
func padding(length uint64) string {
	zeros := (2*blockSize - 9 - length%blockSize) % blockSize
	tail := make([]byte, 1+zeros, 1+zeros+8)
	tail[0] = 128
	bitCount := length * 8
	for shift := 56; shift >= 0; shift -= 8 {
		tail = append(tail, byte(bitCount>>shift))
	}
	return string(tail)
}

// absorb takes data of whole blocks into h.
func absorb(h [8]uint32, k [64]uint32, data string) [8]uint32 {
	for at := 0; at < len(data); at += blockSize {
		h = compress(h, k, spread(data[at:at+blockSize]))
	}
	return h
}

// spread makes the words W of one block.
func spread(block string) [64]uint32 {
	var w [64]uint32
	for t := range 16 {
		w[t] = wordAt(block, 4*t)
	}
	for t := 16; t < 64; t++ {
		w[t] = smallS1(w[t-2]) + w[t-7] + smallS0(w[t-15]) + w[t-16]
	}
	return w
}

// wordAt is the word of the four bytes from at on, the highest first.
func wordAt(block string, at int) uint32 {
	return uint32(block[at])<<24 | uint32(block[at+1])<<16 | uint32(block[at+2])<<8 | uint32(block[at+3])
}

// compress goes through the 64 rounds of one block.
func compress(start [8]uint32, k, w [64]uint32) [8]uint32 {
	a, b, c, d := start[0], start[1], start[2], start[3]
	e, f, g, h := start[4], start[5], start[6], start[7]
	for t := range 64 {
		x := h + bigS1(e) + choice(e, f, g) + k[t] + w[t]
		y := bigS0(a) + majority(a, b, c)
		h, g, f, e, d, c, b, a = g, f, e, d+x, c, b, a, x+y
	}
	return [8]uint32{
		start[0] + a, start[1] + b, start[2] + c, start[3] + d,
		start[4] + e, start[5] + f, start[6] + g, start[7] + h,
	}
}

// turnRight turns a word round: what falls out below comes in above.
func turnRight(word uint32, by int) uint32 {
	return bits.RotateLeft32(word, -by)
}

func smallS0(word uint32) uint32 {
	return turnRight(word, 7) ^ turnRight(word, 18) ^ word>>3
}

func smallS1(word uint32) uint32 {
	return turnRight(word, 17) ^ turnRight(word, 19) ^ word>>10
}

func bigS0(word uint32) uint32 {
	return turnRight(word, 2) ^ turnRight(word, 13) ^ turnRight(word, 22)
}

func bigS1(word uint32) uint32 {
	return turnRight(word, 6) ^ turnRight(word, 11) ^ turnRight(word, 25)
}

// choice is f where e has a bit 1, else g.
func choice(e, f, g uint32) uint32 {
	return e&f | ^e&g
}

// majority is, bit by bit, what at least two of the three have.
func majority(a, b, c uint32) uint32 {
	return a&b | a&c | b&c
}

// inHex writes each word as 8 digits, the highest first.
func inHex(h [8]uint32) string {
	text := make([]byte, 0, 64)
	for _, word := range h {
		for shift := 28; shift >= 0; shift -= 4 {
			text = append(text, hexDigits[word>>shift&15])
		}
	}
	return string(text)
}
