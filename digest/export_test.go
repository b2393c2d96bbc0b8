package digest

import "sync"

// Forget makes the numbers K be as if none had asked for them yet.
func Forget() { once, rounds = sync.Once{}, [64]uint32{} }

// Spoil makes what is kept be other numbers.
func Spoil() {
	once.Do(keepRounds)
	for t := range rounds {
		rounds[t] ^= 0x5a5a5a5a
	}
}

// Kept is what is kept now, without asking for it.
func Kept() [64]uint32 { return rounds }
