package check

import (
	"hash/crc32"
	"strings"
	"testing"
)

func TestOfNothingAndOfText(t *testing.T) {
	for data, want := range map[string]uint32{"": 0, "123456789": 3421780262} {
		if got := Of(data); got != want {
			t.Errorf("Of(%q) = %d, want %d", data, got, want)
		}
	}
}

func TestOfEveryByte(t *testing.T) {
	for value := range 256 {
		for _, n := range []int{1, 2, 5, 64} {
			data := strings.Repeat(string([]byte{byte(value)}), n)
			if got, want := Of(data), crc32.ChecksumIEEE([]byte(data)); got != want {
				t.Errorf("Of %d bytes %d = %d, want %d", n, value, got, want)
			}
		}
	}
}

// Bits that are turned within 32 side by side are always told: what archives lean on (P11).
func TestTurnedBitsAreTold(t *testing.T) {
	data := []byte("a few bytes that somebody turns bits of")
	want := Of(string(data))
	for _, pattern := range []uint32{1, 3, 0x80000001, 0xffffffff, 0xedb88320, 0xa5a5a5a5} {
		for at := 0; at+32 <= 8*len(data); at++ {
			if Of(turn(data, at, pattern)) == want {
				t.Errorf("bits %08x turned at %d are not told", pattern, at)
			}
		}
	}
}

// turn is data with the bits of a pattern turned, from the bit at on, each byte's lowest first.
func turn(data []byte, at int, pattern uint32) string {
	turned := []byte(string(data))
	for i := range 32 {
		if pattern>>i&1 == 1 {
			turned[(at+i)/8] ^= 1 << ((at + i) % 8)
		}
	}
	return string(turned)
}
