package digest

import (
	"encoding/hex"
	"math/big"
	"strings"
	"sync"
	"testing"
)

// squareFraction is the first 32 bits behind the point of the square root of n, by whole numbers of the library.
func squareFraction(n int64) uint32 {
	root := new(big.Int).Sqrt(new(big.Int).Lsh(big.NewInt(n), 64))
	return uint32(root.Uint64())
}

// isCubeFraction tells whether fraction is the first 32 bits behind the point of the cube root of n.
func isCubeFraction(n int64, fraction uint32) bool {
	whole := int64(0)
	for (whole+1)*(whole+1)*(whole+1) <= n {
		whole++
	}
	root := big.NewInt(whole<<32 | int64(fraction))
	above := new(big.Int).Add(root, big.NewInt(1))
	target := new(big.Int).Lsh(big.NewInt(n), 96)
	three := big.NewInt(3)
	return root.Exp(root, three, nil).Cmp(target) <= 0 && above.Exp(above, three, nil).Cmp(target) > 0
}

func somePrimes(count int) []int64 {
	var primes []int64
	for n := int64(2); len(primes) < count; n++ {
		if big.NewInt(n).ProbablyPrime(0) {
			primes = append(primes, n)
		}
	}
	return primes
}

func TestStartWordsAreSquareRoots(t *testing.T) {
	for i, prime := range somePrimes(8) {
		if want := squareFraction(prime); startWords[i] != want {
			t.Errorf("H%d = %08x, want %08x", i, startWords[i], want)
		}
	}
}

func TestRoundNumbersAreCubeRoots(t *testing.T) {
	k := RoundNumbers()
	for i, prime := range somePrimes(64) {
		if !isCubeFraction(prime, k[i]) {
			t.Errorf("K(%d) = %08x, which is not of the cube root of %d", i, k[i], prime)
		}
	}
	if k[0] != 0x428a2f98 || k[63] != 0xc67178f2 {
		t.Errorf("K(0) = %08x, K(63) = %08x", k[0], k[63])
	}
}

func TestRoundNumbersAreKept(t *testing.T) {
	k := RoundNumbers()
	want := k
	k[0]++
	if RoundNumbers() != want {
		t.Errorf("what was handed out is what is kept")
	}
	rounds[0]++ // were they worked out again, this would be gone
	if RoundNumbers() != k {
		t.Errorf("the numbers are worked out again")
	}
	rounds[0]--
}

// What is kept is what the function works out, and it works it out of nothing that is kept.
func TestRoundNumbersAreWhatIsWorkedOut(t *testing.T) {
	want := workedOut()
	if RoundNumbers() != want {
		t.Errorf("what is kept is not what is worked out")
	}
	rounds[63]++
	if workedOut() != want {
		t.Errorf("what is worked out hangs on what is kept")
	}
	rounds[63]--
}

// Of and Bytes meet nothing that is kept, neither what it is nor whether it is there; RoundNumbers
// reads it.
func TestWhoReadsWhatIsKept(t *testing.T) {
	for _, data := range []string{"", "abc", strings.Repeat("valise", 100)} {
		text, bytes, kept := Of(data), Bytes(data), RoundNumbers()
		rounds[5]++
		if Of(data) != text || Bytes(data) != bytes {
			t.Errorf("of %d bytes: the digest hangs on what is kept", len(data))
		}
		if RoundNumbers() == kept {
			t.Errorf("RoundNumbers does not read what is kept")
		}
		rounds[5]--
	}
	once, rounds = sync.Once{}, [64]uint32{}
	Of("abc")
	Bytes("abc")
	if rounds != ([64]uint32{}) {
		t.Errorf("a digest makes the numbers be kept")
	}
	RoundNumbers()
	if rounds != workedOut() {
		t.Errorf("RoundNumbers does not make the numbers be kept")
	}
}

func TestRoundNumbersSideBySide(t *testing.T) {
	once, rounds = sync.Once{}, [64]uint32{}
	var all sync.WaitGroup
	got := make([][64]uint32, 16)
	for i := range got {
		all.Add(1)
		go func() {
			defer all.Done()
			got[i] = RoundNumbers()
		}()
	}
	all.Wait()
	for i := range got {
		if got[i] != got[0] || got[i][63] != 0xc67178f2 {
			t.Fatalf("asked at the same time, the numbers differ")
		}
	}
}

func TestPaddingFillsBlocks(t *testing.T) {
	for n := range uint64(300) {
		tail := padding(n)
		if (n+uint64(len(tail)))%64 != 0 || len(tail) < 9 || len(tail) > 72 {
			t.Errorf("of %d bytes the padding has %d", n, len(tail))
		}
		if tail[0] != 128 || strings.Trim(tail[1:len(tail)-8], "\x00") != "" {
			t.Errorf("of %d bytes the padding is %q", n, tail)
		}
	}
}

// So long that the number of bits needs all of its bytes: no test can digest that many.
func TestPaddingTellsManyBits(t *testing.T) {
	tail := padding(0x0102030405060708)
	if want := "\x08\x10\x18\x20\x28\x30\x38\x40"; tail[len(tail)-8:] != want {
		t.Errorf("the number of bits is %q, want %q", tail[len(tail)-8:], want)
	}
}

func TestOfNothingAndOfText(t *testing.T) {
	for data, want := range map[string]string{
		"":    "e3b0c44298fc1c149afbf4c8996fb92427ae41e4649b934ca495991b7852b855",
		"abc": "ba7816bf8f01cfea414140de5dae2223b00361a396177a9cb410ff61f20015ad",
	} {
		if got := Of(data); got != want {
			t.Errorf("Of(%q) = %s, want %s", data, got, want)
		}
	}
}

func TestBytesAreTheSameDigest(t *testing.T) {
	for _, data := range []string{"", "abc", strings.Repeat("valise", 100)} {
		sum := Bytes(data)
		if got := hex.EncodeToString(sum[:]); got != Of(data) {
			t.Errorf("of %d bytes: %s, want %s", len(data), got, Of(data))
		}
	}
}
