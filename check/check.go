// Package check tells the check of bytes: that of CRC-32.
package check

// polynomial is what a bit 1 that is shifted out is answered with.
const polynomial = 3988292384

// Of tells the check of data.
func Of(data string) uint32 {
	sum := ^uint32(0)
	for i := range len(data) {
		sum = shiftByte(sum ^ uint32(data[i]))
	}
	return ^sum
}

// shiftByte shifts the eight lowest bits out.
func shiftByte(sum uint32) uint32 {
	for range 8 {
		if sum&1 == 1 {
			sum = sum>>1 ^ polynomial
		} else {
			sum >>= 1
		}
	}
	return sum
}
