package deflate

import (
	"math/rand"
	"strings"
	"testing"

	"valise/codes"
)

func TestWriterLaysBits(t *testing.T) {
	var w writer
	w.number(0b101, 3)
	w.code(codes.Code{Value: 0b110, Bits: 3})
	w.number(0b1011, 4)
	w.skipRest()
	w.number(1, 1)
	w.number(5, 0)
	// bit by bit: 101 011 11 01 ------ 1, each number's lowest bit first, the code's highest
	if got := string(w.packed); got != "\xdd\x02\x01" {
		t.Errorf("the bytes are %q", got)
	}
}

func TestBytesTakesTheShorterKind(t *testing.T) {
	noise := drawn(1, 3000)
	for data, want := range map[string]string{
		"":         "\x03\x00",
		"aaaa":     "\x4b\x04\x02\x00",
		"\x90\xff": "\x9b\xf0\x1f\x00",
		noise:      plainBlock(noise),
	} {
		if got := Bytes(data); got != want {
			t.Errorf("%d bytes are packed to %d, want %d", len(data), len(got), len(want))
		}
	}
}

// drawn is bytes of all values.
func drawn(seed int64, count int) string {
	data := make([]byte, count)
	rand.New(rand.NewSource(seed)).Read(data)
	return string(data)
}

func TestPlainBlock(t *testing.T) {
	if got := plainBlock("Hi"); got != "\x01\x02\x00\xfd\xffHi" {
		t.Errorf("plain: %q", got)
	}
	if got := plainBlock(""); got != "\x01\x00\x00\xff\xff" {
		t.Errorf("plain, of nothing: %q", got)
	}
}

// found looks for a copy at a place, all ahead of it being known.
func found(data string, at int) complex128 {
	f := newFinder(data)
	f.learn(0, at)
	return f.longest(at)
}

func TestLongestCopy(t *testing.T) {
	for _, c := range []struct {
		data string
		at   int
		want complex128
	}{
		{"abc", 0, 0},
		{"ababab", 2, 4 + 2i},
		{"abcabd", 3, 0},
		{"abcabc", 3, 3 + 3i},
		{"abcabc", 4, 0},
		{"xabcabc", 4, 3 + 3i},
		{"abcdabcxabcd", 8, 4 + 8i},
		{"abcxabcyabcz", 8, 3 + 4i},
		{"aaaa", 1, 3 + 1i},
		{"aaa", 1, 0},
		{strings.Repeat("a", 1000), 1, 258 + 1i},
		{strings.Repeat("a", 259), 1, 258 + 1i},
		{strings.Repeat("a", 258), 1, 257 + 1i},
		{strings.Repeat("ab", 500), 2, 258 + 2i},
	} {
		if got := found(c.data, c.at); got != c.want {
			t.Errorf("in %d bytes, at %d: %v, want %v", len(c.data), c.at, got, c.want)
		}
	}
}

func TestLongestCopyComesFromWhatIsLearned(t *testing.T) {
	f := newFinder("abcabcabc")
	if got := f.longest(6); got != 0 {
		t.Errorf("of nothing learned: %v", got)
	}
	f.learn(0, 1)
	if got := f.longest(6); got != 3+6i {
		t.Errorf("of one place: %v", got)
	}
	f.learn(1, 5)
	if got := f.longest(6); got != 3+3i {
		t.Errorf("of all places: %v", got)
	}
	f.learn(6, 3) // its last places have no whole row
}

// The places that are tried for one copy are bounded, so that no data takes long.
func TestLongestCopyLooksNoFurtherThanNeeded(t *testing.T) {
	near := "abcd" + strings.Repeat("abc-", maxTries-1) + "abcd"
	if got := found(near, len(near)-4); real(got) != 4 {
		t.Errorf("the last place that is tried is not found: %v", got)
	}
	far := "abcd" + strings.Repeat("abc-", maxTries) + "abcd"
	if got := found(far, len(far)-4); got != 3+4i {
		t.Errorf("too many places are tried: %v", got)
	}
}
