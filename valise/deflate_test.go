package valise

import (
	"io"
	"math/rand"
	"strings"
	"sync"
	"testing"

	"compress/flate"
	"valise/api"
)

// wantPacked packs data, holds it against the bounds, and unpacks it here and by the library.
func wantPacked(t *testing.T, data string) string {
	t.Helper()
	packed, fault := Deflate(data)
	if fault != api.OK {
		t.Fatalf("P4: Deflate of %d bytes: %d", len(data), fault)
	}
	if most := len(data) + len(data)/16000*5 + 6; len(packed) > most {
		t.Errorf("P4: %d bytes are packed to %d, which are more than %d", len(data), len(packed), most)
	}
	if back, used, fault := Inflate(packed); back != data || used != len(packed) || fault != api.OK {
		t.Fatalf("P4: of %d bytes Inflate makes %d, of %d it uses %d, %d", len(data), len(back), len(packed), used, fault)
	}
	if back, err := io.ReadAll(flate.NewReader(strings.NewReader(packed))); err != nil || string(back) != data {
		t.Fatalf("P4: of %d bytes others make %d, %v", len(data), len(back), err)
	}
	return packed
}

// wantHalf packs some bytes that come so many times.
func wantHalf(t *testing.T, some string, times int) {
	t.Helper()
	data := strings.Repeat(some, times)
	if packed := wantPacked(t, data); 2*len(packed) > len(data) {
		t.Errorf("P4: %d bytes, %d times, are packed to %d of %d: %q", len(some), times, len(packed), len(data), some)
	}
}

// noise is bytes of so many values.
func noise(r *rand.Rand, count, values int) string {
	data := make([]byte, count)
	for i := range data {
		data[i] = byte(255 - r.Intn(values))
	}
	return string(data)
}

func TestP4ShortData(t *testing.T) {
	wantPacked(t, "")
	all := everyByte()
	for i := range len(all) {
		wantPacked(t, all[i:i+1])
		wantPacked(t, all[i:])
		wantPacked(t, strings.Repeat(all[i:i+1], 2))
		wantPacked(t, strings.Repeat(all[i:i+1], 3))
		wantPacked(t, strings.Repeat(all[i:i+1], 4))
	}
}

func TestP4NeverMuchLonger(t *testing.T) {
	r := rand.New(rand.NewSource(21))
	for n := range 400 {
		wantPacked(t, noise(r, n, 256))
	}
	for _, n := range []int{4000, 15999, 16000, 16001, 19999, api.MaxData} {
		wantPacked(t, noise(r, n, 256))
		wantPacked(t, noise(r, n, 100))
	}
}

func TestP4TextOfAllKinds(t *testing.T) {
	r := rand.New(rand.NewSource(22))
	for n := range 300 {
		wantPacked(t, drawnText(r, r.Intn(2000)))
		wantPacked(t, noise(r, r.Intn(2000), 1+n%9))
	}
	wantPacked(t, drawnText(r, api.MaxData))
	wantPacked(t, noise(r, api.MaxData, 2))
}

func TestP4CopiesOfEveryLength(t *testing.T) {
	r := rand.New(rand.NewSource(23))
	row := noise(r, 600, 256)
	for length := range 530 {
		data := row + "-" + row[7:7+length] + "+"
		if packed := wantPacked(t, data); length > 200 && len(packed) > len(row)+100 {
			t.Errorf("P4: a copy of %d bytes was not taken: %d bytes", length, len(packed))
		}
	}
}

func TestP4CopiesFromFar(t *testing.T) {
	r := rand.New(rand.NewSource(24))
	row := noise(r, 300, 256)
	for distance := 400; distance < 19000; distance += 613 {
		wantPacked(t, row+noise(r, distance-300, 256)+row)
	}
	wantPacked(t, row+strings.Repeat("\x00", api.MaxData-600)+row)
}

func TestP4BytesThatComeAgainAreHalved(t *testing.T) {
	r := rand.New(rand.NewSource(25))
	for count := 1; count <= 100; count++ {
		for _, values := range []int{1, 2, 3, 4, 7, 16, 256} {
			for _, times := range []int{20, 21, 25, 50, 199, api.MaxData / count} {
				if count*times <= api.MaxData && times >= 20 {
					wantHalf(t, noise(r, count, values), times)
				}
			}
		}
	}
}

// Here each short row comes many times in what comes again, and goes on in another way each time.
func TestP4BytesThatComeAgainWithShortRowsAlike(t *testing.T) {
	for length := 3; length <= 20; length++ {
		var b strings.Builder
		for i := 0; b.Len()+length+1 <= 100; i++ {
			b.WriteString(strings.Repeat("\xf0", length))
			b.WriteByte(byte(i))
		}
		wantHalf(t, b.String(), 20)
	}
	var b strings.Builder
	for i := range 25 {
		b.WriteString("\xf0\xf1\xf2")
		b.WriteByte(byte(200 + i))
	}
	wantHalf(t, b.String(), 20)
	wantHalf(t, b.String(), 200)
}

func TestP4Large(t *testing.T) {
	for n, want := range map[int]api.Errno{
		api.MaxData: api.OK, api.MaxData + 1: api.ErrLarge, 65535: api.ErrLarge, 65536: api.ErrLarge, 1000000: api.ErrLarge,
	} {
		packed, fault := Deflate(strings.Repeat("x", n))
		if fault != want || (packed == "") != (want != api.OK) {
			t.Errorf("P4: Deflate of %d bytes: %d bytes, %d, want %d", n, len(packed), fault, want)
		}
	}
}

func TestP1DeflateHangsOnItsArgumentAlone(t *testing.T) {
	r := rand.New(rand.NewSource(26))
	data := noise(r, 5000, 3)
	want, _ := Deflate(data)
	var all sync.WaitGroup
	for range 16 {
		all.Add(1)
		go func() {
			defer all.Done()
			if packed, _ := Deflate(data); packed != want {
				t.Errorf("P1: the same data is packed in two ways")
			}
		}()
	}
	all.Wait()
}
