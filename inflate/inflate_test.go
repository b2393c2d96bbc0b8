package inflate

import (
	"testing"

	"valise/api"
	"valise/codes"
)

func TestNumbersHaveTheirLowestBitFirst(t *testing.T) {
	r := reader{packed: "\x35\x80"}
	for i, c := range []struct{ bits, want int }{{0, 0}, {1, 1}, {3, 2}, {4, 3}, {7, 0}, {1, 1}} {
		if got, ok := r.number(c.bits); got != c.want || !ok {
			t.Errorf("number %d of %d bits = %d, %v, want %d", i, c.bits, got, ok, c.want)
		}
	}
	if got, ok := r.number(1); got != 0 || ok {
		t.Errorf("behind the end there is %d", got)
	}
}

func TestCodesHaveTheirHighestBitFirst(t *testing.T) {
	set := codes.Make([]int{2, 2, 2, 3, 3})
	r := reader{packed: "\x32\x07"} // 01 00 110 0, 111 00 ..
	for i, want := range []int{1, 0, 3} {
		if got, ok := r.symbol(set); got != want || !ok {
			t.Errorf("symbol %d = %d, %v, want %d", i, got, ok, want)
		}
	}
	r.skipRest()
	if got, ok := r.symbol(set); got != 4 || !ok || r.at != 11 {
		t.Errorf("the symbol is %d, %v, at %d, want 4", got, ok, r.at)
	}
}

func TestSymbolThatIsNone(t *testing.T) {
	for _, packed := range []string{"", "\xff", "\xff\xff", "\xff\xff\xff"} {
		r := reader{packed: packed}
		if got, ok := r.symbol(codes.Make([]int{1})); got != 0 || ok {
			t.Errorf("%q: the symbol %d", packed, got)
		}
	}
}

func TestRestOfAByteIsSkipped(t *testing.T) {
	r := reader{packed: "abc"}
	r.skipRest()
	if r.at != 0 || r.used() != 0 {
		t.Errorf("at the beginning: %d bits, %d bytes", r.at, r.used())
	}
	r.number(1)
	if r.used() != 1 {
		t.Errorf("of 1 bit: %d bytes", r.used())
	}
	r.skipRest()
	if got, ok := r.bytes(2); got != "bc" || !ok || r.used() != 3 {
		t.Errorf("behind it: %q, %v", got, ok)
	}
	if got, ok := r.bytes(1); got != "" || ok {
		t.Errorf("behind the end: %q, %v", got, ok)
	}
	if got, ok := r.bytes(0); got != "" || !ok {
		t.Errorf("nothing behind the end: %q, %v", got, ok)
	}
}

func TestRoomEndsAtMaxData(t *testing.T) {
	u := unpacker{data: make([]byte, api.MaxData-3)}
	for more, want := range map[int]bool{0: true, 3: true, 4: false, 65535: false} {
		if u.room(more) != want {
			t.Errorf("room for %d: %v", more, !want)
		}
	}
}

func TestCopyRunsIntoItself(t *testing.T) {
	u := unpacker{data: []byte("xab")}
	u.copy(5, 2)
	if got := string(u.data); got != "xabababa" {
		t.Errorf("the copy makes %q", got)
	}
	u.copy(3, 8)
	if got := string(u.data); got != "xabababaxab" {
		t.Errorf("the copy from the beginning makes %q", got)
	}
}
