package archives

import (
	"slices"
	"strings"
	"testing"

	"valise/api"
)

func TestNumbers(t *testing.T) {
	text := string(appendNumbers([]byte("x"), 2, 1, 0x1234, 65535)) + string(appendNumbers(nil, 4, 0x12345678, 4294967295))
	if want := "x\x01\x00\x34\x12\xff\xff\x78\x56\x34\x12\xff\xff\xff\xff"; text != want {
		t.Fatalf("the bytes are %q, want %q", text, want)
	}
	if number(text, 3, 2) != 0x1234 || number(text, 7, 4) != 0x12345678 || number(text, 11, 4) != 4294967295 {
		t.Errorf("numbers are read as others")
	}
}

// What is laid is read again, and nothing else is.
func TestReadIsTheOtherWayOfLaid(t *testing.T) {
	items := []item{
		{name: "", way: wayPlain, check: 4294967295, size: 4294967295, packed: ""},
		{name: "a", way: wayPacked, check: 1, size: 2, packed: "packed"},
		{name: "b:", way: wayPlain, packed: localMark + centralMark + endMark},
	}
	for count := range len(items) + 1 {
		archive := laid("p/", items[:count])
		if got, ok := read("p/", archive); !ok || !slices.Equal(got, items[:count]) {
			t.Errorf("of %d: %v, %v", count, got, ok)
		}
		if _, ok := read("q/", archive); ok && count > 0 {
			t.Errorf("of %d: taken with another prefix", count)
		}
		for at := range len(archive) {
			if _, ok := read("p/", archive[:at]); ok {
				t.Errorf("of %d: taken when it is cut off at %d", count, at)
			}
		}
	}
	slices.Reverse(items)
	if _, ok := read("p/", laid("p/", items)); ok {
		t.Errorf("names that fall are taken")
	}
}

func TestPackAndUnpack(t *testing.T) {
	files := []api.File{{Name: "a", Data: "short"}, {Name: "b", Data: strings.Repeat("long ", 100)}, {Name: "c"}}
	archive, fault := Pack("p/", files)
	if fault != api.OK || len(archive) > 500 {
		t.Errorf("%d bytes, %d", len(archive), fault)
	}
	if back, fault := Unpack("p/", archive); fault != api.OK || !slices.Equal(back, files) {
		t.Errorf("%v, %d", back, fault)
	}
}
