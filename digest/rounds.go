package digest

import (
	"math/bits"
	"sync"
)

// The numbers K are the same for every digest, so they are worked out once and kept, to be told.
// These two stand beside workedOut, which meets neither, and by which Of and Bytes answer: so no
// digest hangs on what is kept.
var (
	once   sync.Once
	rounds [64]uint32
)

// RoundNumbers tells the numbers K that are kept, as a copy: what is kept can't be changed through it.
func RoundNumbers() [64]uint32 {
	once.Do(keepRounds)
	return rounds
}

func keepRounds() {
	rounds = workedOut()
}

// workedOut is the numbers K, of the cube roots of the first primes.
func workedOut() [64]uint32 {
	var k [64]uint32
	for t, prime := range firstPrimes(len(k)) {
		k[t] = cubeRootFraction(prime)
	}
	return k
}

// cubeRootFraction is the first 32 bits behind the point of the cube root of n, which is below 512.
//
// The root is sought as a whole number of 2^-32, bit by bit; whole numbers, unlike floats, leave
// no doubt about the last bit. Below 512 a root has 3 bits ahead of the point.
func cubeRootFraction(n uint64) uint32 {
	var root uint64
	for bit := uint64(1) << 34; bit > 0; bit >>= 1 {
		if cubeTop(root|bit) < n<<32 {
			root |= bit
		}
	}
	return uint32(root)
}

// cubeTop is the cube of n, which is below 2^35, without its lowest 64 bits. The cube of a number
// of 2^-32 is one of 2^-96; without these bits it is one of 2^-32 again.
func cubeTop(n uint64) uint64 {
	high, low := bits.Mul64(n, n)
	carry, _ := bits.Mul64(low, n)
	return high*n + carry
}

func firstPrimes(count int) []uint64 {
	primes := make([]uint64, 0, count)
	for n := uint64(2); len(primes) < count; n++ {
		if !dividedByAny(n, primes) {
			primes = append(primes, n)
		}
	}
	return primes
}

func dividedByAny(n uint64, divisors []uint64) bool {
	for _, d := range divisors {
		if n%d == 0 {
			return true
		}
	}
	return false
}
