package valise

import (
	"crypto/sha256"
	"encoding/hex"
	"hash/crc32"
	"math/rand"
	"strings"
	"sync"
	"testing"
)

// everyByte has each value of a byte once, rising.
func everyByte() string {
	row := make([]byte, 256)
	for i := range row {
		row[i] = byte(i)
	}
	return string(row)
}

// wantMarks holds Digest and Check of data against the library's.
func wantMarks(t *testing.T, data string) {
	t.Helper()
	sum := sha256.Sum256([]byte(data))
	if got, want := Digest(data), hex.EncodeToString(sum[:]); got != want {
		t.Errorf("P2: Digest of %d bytes = %q, want %q", len(data), got, want)
	}
	if got, want := Check(data), int(crc32.ChecksumIEEE([]byte(data))); got != want {
		t.Errorf("P2: Check of %d bytes = %d, want %d", len(data), got, want)
	}
}

func TestP2DigestOfKnownTexts(t *testing.T) {
	for _, c := range []struct{ data, want string }{
		{"", "e3b0c44298fc1c149afbf4c8996fb92427ae41e4649b934ca495991b7852b855"},
		{"abc", "ba7816bf8f01cfea414140de5dae2223b00361a396177a9cb410ff61f20015ad"},
		{"abcdbcdecdefdefgefghfghighijhijkijkljklmklmnlmnomnopnopq", "248d6a61d20638b8e5c026930c3e6039a33ce45964ff2167f6ecedd419db06c1"},
		{strings.Repeat("a", 1000000), "cdc76e5c9914fb9281a1c7e284d73e67f1809a48a497200e046d39ccc7112cd0"},
	} {
		if got := Digest(c.data); got != c.want {
			t.Errorf("P2: Digest of %d bytes = %q, want %q", len(c.data), got, c.want)
		}
	}
}

func TestP2CheckOfKnownTexts(t *testing.T) {
	for _, c := range []struct {
		data string
		want int
	}{
		{"", 0},
		{"a", 0xe8b7be43},
		{"123456789", 3421780262},
		{"The quick brown fox jumps over the lazy dog", 0x414fa339},
		{"\x00\x00\x00\x00", 0x2144df1c},
		{"\xff\xff\xff\xff", 0xffffffff},
	} {
		if got := Check(c.data); got != c.want {
			t.Errorf("P2: Check(%q) = %d, want %d", c.data, got, c.want)
		}
	}
}

// The padding goes over into one more block from 56 bytes on, and again at each 64 more.
func TestP2AtEveryLengthAroundBlocks(t *testing.T) {
	long := strings.Repeat(everyByte(), 2)
	for n := range 330 {
		wantMarks(t, long[:n])
		wantMarks(t, strings.Repeat("\x00", n))
		wantMarks(t, strings.Repeat("\x80", n))
		wantMarks(t, strings.Repeat("\xff", n))
	}
}

func TestP2OfEveryByte(t *testing.T) {
	all := everyByte()
	wantMarks(t, all)
	for i := range len(all) {
		wantMarks(t, all[i:i+1])
		wantMarks(t, strings.Repeat(all[i:i+1], 65))
	}
}

func TestP2OfManyBytes(t *testing.T) {
	r := rand.New(rand.NewSource(7))
	for range 200 {
		data := make([]byte, r.Intn(5000))
		r.Read(data)
		wantMarks(t, string(data))
	}
	wantMarks(t, strings.Repeat("valise\n", 100003))
}

func TestP2OfTextThatIsNoUTF8(t *testing.T) {
	wantMarks(t, "\xc3\x28\xa0\xff\xfe")
	wantMarks(t, "größer, 大きい, 🧳")
}

func TestP1MarksHangOnTheirArgumentsAlone(t *testing.T) {
	data := everyByte()
	wantDigest, wantCheck := Digest(data), Check(data)
	for n := range 100 {
		Digest(data[:n])
		Check(data[:n])
		if Digest(data) != wantDigest || Check(data) != wantCheck {
			t.Fatalf("P1: behind other calls the answers are others")
		}
	}
}

func TestP1MarksSideBySide(t *testing.T) {
	var all sync.WaitGroup
	for n := range 32 {
		all.Add(1)
		go func() {
			defer all.Done()
			wantMarks(t, strings.Repeat("x", n*7))
		}()
	}
	all.Wait()
}
