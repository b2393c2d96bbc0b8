package valise

import (
	"math/big"
	"sync"
	"testing"
)

// The numbers K are the first 32 bits behind the point of cube roots: as whole numbers of 2^-32,
// these cubed are not above the prime, and one more is.
func TestRoundNumbersAreOfCubeRoots(t *testing.T) {
	numbers := RoundNumbers()
	prime := int64(1)
	for i, k := range numbers {
		for prime++; !big.NewInt(prime).ProbablyPrime(0); prime++ {
		}
		whole := int64(1)
		for (whole+1)*(whole+1)*(whole+1) < prime {
			whole++
		}
		cube := func(root int64) *big.Int { return new(big.Int).Exp(big.NewInt(root), big.NewInt(3), nil) }
		root, target := whole<<32|int64(k), new(big.Int).Lsh(big.NewInt(prime), 96)
		if cube(root).Cmp(target) > 0 || cube(root+1).Cmp(target) <= 0 {
			t.Errorf("K(%d) = %08x, which is not of the cube root of %d", i, k, prime)
		}
	}
}

func TestRoundNumbersAreACopy(t *testing.T) {
	numbers := RoundNumbers()
	want := numbers
	clear(numbers[:])
	if RoundNumbers() != want {
		t.Errorf("what is handed out is what is kept")
	}
}

func TestRoundNumbersSideBySide(t *testing.T) {
	want := RoundNumbers()
	var all sync.WaitGroup
	for range 16 {
		all.Add(1)
		go func() {
			defer all.Done()
			if RoundNumbers() != want {
				t.Errorf("side by side the numbers are others")
			}
		}()
	}
	all.Wait()
}
