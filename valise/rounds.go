package valise

import "valise/digest"

// RoundNumbers tells the numbers K of a digest, which are worked out once, and kept. It stands beside
// the document's calls, none of which asks for what is kept: each works its answers out by itself.
func RoundNumbers() [64]uint32 { return digest.RoundNumbers() }
