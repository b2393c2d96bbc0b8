package valise

import (
	"bytes"
	"compress/flate"
	"io"
	"math/rand"
	"strings"
	"sync"
	"testing"

	"valise/api"
)

// wantData holds Inflate against what packed bytes make, all of them used, whatever stands behind.
func wantData(t *testing.T, name, packed, want string) {
	t.Helper()
	for _, behind := range []string{"", "\x00", "\xff\xff\xff\xff", packed} {
		if data, used, fault := Inflate(packed + behind); data != want || used != len(packed) || fault != api.OK {
			t.Errorf("P3: %s: %.40q (%d bytes), %d of %d used, %d, want %.40q (%d bytes)", name, data, len(data), used, len(packed), fault, want, len(want))
		}
	}
}

// wantFault holds Inflate against an error, beside which all is empty.
func wantFault(t *testing.T, name, packed string, want api.Errno) {
	t.Helper()
	if data, used, fault := Inflate(packed); data != "" || used != 0 || fault != want {
		t.Errorf("P3: %s: %.40q (%d bytes), %d used, %d, want %d", name, data, len(data), used, fault, want)
	}
}

// plain is a block of kind 0, of which the head's other bits are as they are told.
func plain(last bool, data string) string {
	head := "\x00"
	if last {
		head = "\x01"
	}
	n := len(data)
	return head + string([]byte{byte(n), byte(n >> 8), ^byte(n), ^byte(n >> 8)}) + data
}

func TestP3Examples(t *testing.T) {
	wantData(t, "3, 0", "\x03\x00", "")
	wantData(t, "Hi", "\x01\x02\x00\xfd\xffHi", "Hi")
	wantFault(t, "kind 3", "\x07", api.ErrData)
}

func TestP3Kind0(t *testing.T) {
	long := strings.Repeat(everyByte(), 40)
	wantData(t, "nothing", plain(true, ""), "")
	wantData(t, "every byte", plain(true, everyByte()), everyByte())
	wantData(t, "many", plain(true, long), long)
	wantData(t, "several blocks", plain(false, "ab")+plain(false, "")+plain(true, "c"), "abc")
	wantData(t, "the rest of the byte is left", "\xf9"+plain(true, "xy")[1:], "xy")
	wantData(t, "behind other kinds", (bitText("0 10")+fixedText("ab")+fixed(256)+"1 00").bytes()+plain(true, "cd")[1:], "abcd")
	for bit := range 16 {
		packed := []byte(plain(true, "Hi"))
		packed[3+bit/8] ^= 1 << (bit % 8)
		wantFault(t, "the second number is another", string(packed), api.ErrData)
	}
	wantFault(t, "a byte too few", plain(true, "Hi")[:6], api.ErrData)
	wantFault(t, "none is the last", plain(false, "Hi"), api.ErrData)
}

func TestP3Kind3(t *testing.T) {
	wantFault(t, "not the last", "\x06", api.ErrData)
	wantFault(t, "with more behind", "\x07\x00\x00\x00\x00\x00", api.ErrData)
	wantFault(t, "the second block", plain(false, "Hi")+"\x07", api.ErrData)
}

func TestP3Kind1(t *testing.T) {
	wantData(t, "every byte", ("1 10" + fixedText(everyByte()) + fixed(256)).bytes(), everyByte())
	wantData(t, "two blocks", ("0 10" + fixedText("ab") + fixed(256) + "1 10" + fixed(257) + "00001" + fixed(256)).bytes(), "ababa")
	for _, symbol := range []int{286, 287} {
		wantFault(t, "no symbol", ("1 10" + fixed('a') + fixed(symbol) + low(0, 40)).bytes(), api.ErrData)
	}
	for distance := 30; distance <= 31; distance++ {
		packed := "1 10" + fixedText(everyByte()) + fixed(257) + high(distance, 5) + low(0, 40)
		wantFault(t, "no distance symbol", packed.bytes(), api.ErrData)
	}
}

// lengthTold: each length, as its symbol and the number behind it.
func lengthTold(length int) bitText {
	least, bits, symbol := 3, 0, 257
	for symbol < 285 && length >= least+1<<bits {
		least += 1 << bits
		symbol++
		if symbol >= 265 {
			bits = (symbol - 261) / 4
		}
	}
	if length == 258 {
		return fixed(285)
	}
	return fixed(symbol) + low(length-least, bits)
}

// distanceTold: each distance, as its symbol and the number behind it.
func distanceTold(distance int) bitText {
	least, bits, symbol := 1, 0, 0
	for distance >= least+1<<bits {
		least += 1 << bits
		symbol++
		if symbol >= 4 {
			bits = symbol/2 - 1
		}
	}
	return high(symbol, 5) + low(distance-least, bits)
}

// copied is data with a copy behind it.
func copied(data string, length, distance int) string {
	row := []byte(data)
	for range length {
		row = append(row, row[len(row)-distance])
	}
	return string(row)
}

func TestP3EveryLength(t *testing.T) {
	for length := 3; length <= 258; length++ {
		for _, distance := range []int{1, 2, 5} {
			packed := "1 10" + fixedText("vwxyz") + lengthTold(length) + distanceTold(distance) + fixed(256)
			wantData(t, "a copy", packed.bytes(), copied("vwxyz", length, distance))
		}
	}
	long := "1 10" + fixed('a') + fixed(284) + low(31, 5) + "00000" + fixed(256)
	wantData(t, "258 by the symbol 284", long.bytes(), strings.Repeat("a", 259))
}

func TestP3Distances(t *testing.T) {
	r := rand.New(rand.NewSource(11))
	raw := make([]byte, 19000)
	r.Read(raw)
	data := string(raw)
	for _, distance := range []int{1, 2, 3, 4, 5, 6, 7, 8, 9, 12, 13, 16, 17, 24, 25, 32, 33, 48, 49, 64, 65, 96, 97, 128, 129, 192, 193, 256, 257, 384, 385, 512, 513, 768, 769, 1024, 1025, 1536, 1537, 2048, 2049, 3072, 3073, 4096, 4097, 6144, 6145, 8192, 8193, 12288, 12289, 16384, 16385, 18999, 19000} {
		body := "1 10" + lengthTold(20) + distanceTold(distance) + fixed(256)
		wantData(t, "a distance", plain(false, data)+body.bytes(), copied(data, 20, distance))
		short := data[:distance-1]
		wantFault(t, "a distance beyond what is unpacked", plain(false, short)+body.bytes(), api.ErrData)
	}
	for _, distance := range []int{20000, 24576, 24577, 32768} {
		body := "1 10" + lengthTold(20) + distanceTold(distance) + fixed(256)
		wantFault(t, "a distance that is never right", plain(false, data)+body.bytes(), api.ErrData)
	}
}

// The symbols here: 97 is 0, 256 is 10, 257 is 11.
var someLengths = map[int]int{97: 1, 256: 2, 257: 2}

// withDistances are someLengths, and the lengths of distances behind 258 of symbols.
func withDistances(lengths ...int) map[int]int {
	all := map[int]int{}
	for symbol, length := range someLengths {
		all[symbol] = length
	}
	for i, length := range lengths {
		all[258+i] = length
	}
	return all
}

func TestP3Kind2Distances(t *testing.T) {
	wantData(t, "none, and none is read", spelled(258, 1, withDistances(0), "0 10"), "a")
	wantFault(t, "none, and one is read", spelled(258, 1, withDistances(0), "0 11 0 10 0000000000000000000"), api.ErrData)
	wantData(t, "one", spelled(258, 1, withDistances(1), "0 11 0 10"), "aaaa")
	wantData(t, "one, behind others", spelled(258, 3, withDistances(0, 0, 1), "0 0 0 11 0 10"), "aaaaaa")
	wantFault(t, "one, and its other bit", spelled(258, 1, withDistances(1), "0 11 1 10 0000000000000000000"), api.ErrData)
	wantFault(t, "one, of two bits", spelled(258, 1, withDistances(2), "0 10"), api.ErrData)
	wantFault(t, "too few", spelled(258, 2, withDistances(1, 2), "0 10"), api.ErrData)
	wantFault(t, "two of two bits", spelled(258, 2, withDistances(2, 2), "0 10"), api.ErrData)
	wantFault(t, "too many", spelled(258, 3, withDistances(1, 1, 1), "0 10"), api.ErrData)
	wantData(t, "two", spelled(258, 2, withDistances(1, 1), "0 0 11 1 10"), "aaaaa")
	wantData(t, "three", spelled(258, 3, withDistances(1, 2, 2), "0 0 0 11 11 10"), "aaaaaa")
}

func TestP3Kind2Symbols(t *testing.T) {
	wantData(t, "two", spelled(257, 1, map[int]int{97: 1, 256: 1}, "0 0 1"), "aa")
	wantFault(t, "the end alone", spelled(257, 1, map[int]int{256: 1}, "0"), api.ErrData)
	wantFault(t, "no end", spelled(257, 1, map[int]int{97: 1, 98: 1}, "0 1"), api.ErrData)
	wantFault(t, "no end, but a copy", spelled(258, 1, map[int]int{97: 1, 257: 1, 258: 1}, "0 1 0"), api.ErrData)
	endless := bitText(strings.Repeat("0", api.MaxData+1))
	wantFault(t, "no end, and very many bytes", spelled(257, 1, map[int]int{97: 1, 98: 1}, endless), api.ErrData)
	wantFault(t, "an end that is not met", spelled(257, 1, map[int]int{97: 1, 256: 1}, endless), api.ErrLarge)
	wantFault(t, "none", spelled(257, 1, nil, "0"), api.ErrData)
	wantFault(t, "too few", spelled(257, 1, map[int]int{97: 1, 256: 2}, "10"), api.ErrData)
	wantFault(t, "too many", spelled(257, 1, map[int]int{97: 1, 98: 1, 256: 1}, "0"), api.ErrData)
	deep := map[int]int{256: 15}
	for length := 1; length <= 15; length++ {
		deep[96+length] = length
	}
	wantData(t, "codes of up to 15 bits", spelled(257, 1, deep, "111111111111110 110 111111111111111"), "oc")
}

func TestP3Kind2HowMany(t *testing.T) {
	two := map[int]int{97: 1, 256: 1}
	for _, c := range []struct {
		symbols, distances int
		right              bool
	}{{257, 1, true}, {286, 30, true}, {287, 1, false}, {288, 1, false}, {257, 31, false}, {257, 32, false}} {
		packed := spelled(c.symbols, c.distances, two, "0 1")
		if c.right {
			wantData(t, "as many as may be", packed, "a")
		} else {
			wantFault(t, "more than may be", packed, api.ErrData)
		}
	}
	last := spelled(286, 30, map[int]int{97: 2, 256: 2, 285: 2, 98: 2, 286: 1, 286 + 29: 1}, "00 11 0 10")
	wantData(t, "the last symbol", last, strings.Repeat("a", 259))
}

// lastOnes: 97 has the code 0, 256 the code 1, and one distance, none: 258 lengths in all.
func lastOnes(behind ...rowItem) []rowItem {
	row := []rowItem{{18, 97 - 11}, {1, 0}, {18, 138 - 11}, {18, 20 - 11}}
	return append(row, behind...)
}

func TestP3Kind2Rows(t *testing.T) {
	head := func(symbols, distances int, row []rowItem) bitText {
		return toldHead(symbols, distances, 19, evenRow(), row)
	}
	wantData(t, "many zeros", (head(257, 1, lastOnes(rowItem{1, 0}, rowItem{0, 0})) + "0 1").bytes(), "a")
	wantData(t, "zeros over into distances", (head(258, 9, lastOnes(rowItem{1, 0}, rowItem{17, 7})) + "0 1").bytes(), "a")
	wantFault(t, "zeros beyond", (head(258, 8, lastOnes(rowItem{1, 0}, rowItem{17, 7})) + "0 1").bytes(), api.ErrData)
	wantData(t, "many zeros over into distances", (head(260, 30, lastOnes(rowItem{1, 0}, rowItem{18, 22})) + "0 1").bytes(), "a")
	wantFault(t, "many zeros beyond", (head(260, 29, lastOnes(rowItem{1, 0}, rowItem{18, 22})) + "0 1").bytes(), api.ErrData)
	wantData(t, "a zero again", (head(257, 5, lastOnes(rowItem{1, 0}, rowItem{0, 0}, rowItem{16, 1})) + "0 1").bytes(), "a")
	wantFault(t, "again, beyond", (head(257, 5, lastOnes(rowItem{1, 0}, rowItem{0, 0}, rowItem{16, 2})) + "0 1").bytes(), api.ErrData)
	// 256 and 257 to 259 have two bits each, told by one length and a repetition
	again := []rowItem{{18, 127}, {18, 118 - 11}, {2, 0}, {16, 0}, {0, 0}}
	wantData(t, "again", (head(260, 1, again) + "00").bytes(), "")
	wantFault(t, "again, at the beginning", (head(257, 1, append([]rowItem{{16, 0}}, lastOnes(rowItem{1, 0})[1:]...)) + low(0, 99)).bytes(), api.ErrData)
	// the symbols' last length again, as the distances': 256 has one bit, so have three distances, which are too many, or two
	border := func(times, distances int) string {
		return (head(257, distances, lastOnes(rowItem{1, 0}, rowItem{16, times - 3})) + "0 1").bytes()
	}
	wantFault(t, "three distances of one bit", border(3, 3), api.ErrData)
	four := []rowItem{{18, 127}, {18, 115 - 11}, {2, 0}, {2, 0}, {2, 0}, {2, 0}, {16, 1}}
	wantData(t, "again, over the border", (head(257, 4, four) + "00 11").bytes(), "\xfd")
}

func TestP3Kind2CodesOfRows(t *testing.T) {
	// 1 and 18 alone have codes, of one bit each, so that no length but 1 and rows of 0 are told
	two := map[int]int{1: 1, 18: 1}
	row := []rowItem{{18, 97 - 11}, {1, 0}, {18, 127}, {18, 20 - 11}, {1, 0}, {1, 0}}
	wantData(t, "two", (toldHead(257, 1, 18, two, row) + "0 1").bytes(), "a")
	wantFault(t, "too few", (toldHead(257, 1, 18, map[int]int{1: 2, 18: 1}, row) + "0 1").bytes(), api.ErrData)
	wantFault(t, "one alone", (toldHead(257, 1, 18, map[int]int{1: 1}, nil) + low(0, 300)).bytes(), api.ErrData)
	wantFault(t, "none", (toldHead(257, 1, 4, nil, nil) + low(0, 300)).bytes(), api.ErrData)
	wantFault(t, "too many", (toldHead(257, 1, 18, map[int]int{1: 1, 18: 1, 0: 1}, row) + "0 1").bytes(), api.ErrData)
	wantFault(t, "four are told, which make no right row", (toldHead(257, 1, 4, map[int]int{0: 1, 18: 1}, []rowItem{{18, 127}, {18, 120 - 11}}) + low(0, 99)).bytes(), api.ErrData)
}

// rightOnes are packed bytes of all kinds that end with their last byte.
func rightOnes(t *testing.T) []string {
	list := []string{
		"\x03\x00",
		plain(true, "Hi"),
		plain(false, "Hi") + plain(true, "!"),
		("1 10" + fixedText(everyByte()) + lengthTold(99) + distanceTold(200) + fixed(256)).bytes(),
		spelled(258, 2, withDistances(1, 1), "0 0 11 1 10"),
	}
	r := rand.New(rand.NewSource(12))
	for level := -2; level <= 9; level++ {
		list = append(list, packedByOthers(t, drawnText(r, 600), level))
	}
	return list
}

// drawnText is text with words that come again, and some noise.
func drawnText(r *rand.Rand, count int) string {
	words := strings.Fields("module valise go func return string the of a bytes \x00\x01\x02 \xff\xfe package import")
	var b strings.Builder
	for b.Len() < count {
		b.WriteString(words[r.Intn(len(words))])
		b.WriteByte(byte(r.Intn(256)))
	}
	return b.String()[:count]
}

func packedByOthers(t *testing.T, data string, level int) string {
	t.Helper()
	var packed bytes.Buffer
	w, err := flate.NewWriter(&packed, level)
	if err != nil {
		t.Fatal(err)
	}
	io.WriteString(w, data)
	w.Close()
	return packed.String()
}

func TestP3EndsTooEarly(t *testing.T) {
	for _, packed := range rightOnes(t) {
		want, used, fault := Inflate(packed)
		if used != len(packed) || fault != api.OK {
			t.Fatalf("P3: %d of %d used, %d", used, len(packed), fault)
		}
		wantData(t, "whole", packed, want)
		for cut := range len(packed) {
			wantFault(t, "cut", packed[:cut], api.ErrData)
		}
	}
}

func TestP3OtherBitsOfTheLastByteSayNothing(t *testing.T) {
	for extra := range 8 {
		body := "1 10" + fixedText(strings.Repeat("\xc0", extra)) + fixed(256) // 9 bits each
		bits := 10 + 9*extra
		packed := body.bytes()
		for bit := bits; bit < 8*len(packed); bit++ {
			other := []byte(packed)
			other[bit/8] ^= 1 << (bit % 8)
			wantData(t, "another bit", string(other), strings.Repeat("\xc0", extra))
		}
	}
}

func TestP3Large(t *testing.T) {
	full := plain(false, strings.Repeat("x", api.MaxData))
	almost := plain(false, strings.Repeat("x", api.MaxData-3))
	all := strings.Repeat("x", api.MaxData)
	end := (bitText("1 10") + fixed(256)).bytes()
	wantData(t, "full", full+end, all)
	wantData(t, "full, and a block of nothing", full+plain(true, ""), all)
	wantData(t, "full by a block", almost+plain(true, "xxx"), all)
	wantData(t, "full by a copy", almost+("1 10"+lengthTold(3)+"00000"+fixed(256)).bytes(), all)
	wantData(t, "full by bytes", almost+("1 10"+fixedText("xxx")+fixed(256)).bytes(), all)
	wantFault(t, "a byte", full+("1 10"+fixed('a')).bytes(), api.ErrLarge)
	wantFault(t, "a byte, told by 9 bits", full+("1 10"+fixed(200)).bytes(), api.ErrLarge)
	wantFault(t, "a copy", almost+("1 10"+lengthTold(4)+"00000").bytes(), api.ErrLarge)
	wantFault(t, "a long copy", almost+("1 10"+lengthTold(258)+"00000").bytes(), api.ErrLarge)
	wantFault(t, "a block", almost+plain(true, "xxxx"), api.ErrLarge)
	wantFault(t, "a block that is not there", almost+plain(true, "xxxx")[:5], api.ErrLarge)
	wantFault(t, "a first block that is not there", "\x01\xff\xff\x00\x00", api.ErrLarge)
	wantFault(t, "a block of one more", plain(true, all+"x"), api.ErrLarge)
}

func TestP3LargeOrNotRight(t *testing.T) {
	full := plain(false, strings.Repeat("x", api.MaxData))
	wantFault(t, "kind 3", full+"\x07", api.ErrData)
	wantFault(t, "no more", full, api.ErrData)
	wantFault(t, "a copy whose distance is cut", full+("1 10"+lengthTold(230)).bytes(), api.ErrData) // 16 bits
	wantFault(t, "a copy from too far", full+("1 10"+lengthTold(3)+distanceTold(20001)).bytes(), api.ErrData)
	wantFault(t, "a copy of no distance symbol", full+("1 10"+lengthTold(3)+high(30, 5)+low(0, 40)).bytes(), api.ErrData)
	wantFault(t, "a copy from as far as may be", full+("1 10"+lengthTold(3)+distanceTold(20000)).bytes(), api.ErrLarge)
	wantFault(t, "no symbol", full+("1 10"+fixed(286)).bytes(), api.ErrData)
	wantFault(t, "a block's second number is another", full+"\x01\x01\x00\xff\xffx", api.ErrData)
	wantFault(t, "a block's second number is cut", full+"\x01\x01\x00\xfe", api.ErrData)
	wantFault(t, "large ahead of what is not right", full+("1 10"+fixed('a')+fixed(287)).bytes(), api.ErrLarge)
	wantFault(t, "not right ahead of large", plain(false, "x")+"\x06"+full, api.ErrData)
}

func TestP3OfOthers(t *testing.T) {
	r := rand.New(rand.NewSource(13))
	for n := range 240 {
		data := drawnText(r, r.Intn(3000))
		if n%4 == 0 {
			data = strings.Repeat(data, 6)
		}
		wantData(t, "packed by others", packedByOthers(t, data, n%12-2), data)
	}
}

// Where bytes are turned at random, the library is no more strict: what it refuses, is refused here.
func TestP3OfWrongBytes(t *testing.T) {
	r := rand.New(rand.NewSource(14))
	ones := rightOnes(t)
	for range 20000 {
		packed := []byte(ones[r.Intn(len(ones))])
		for range 1 + r.Intn(3) {
			packed[r.Intn(len(packed))] ^= 1 << r.Intn(8)
		}
		data, used, fault := Inflate(string(packed))
		source := bytes.NewReader(packed)
		want, err := io.ReadAll(flate.NewReader(source))
		if fault == api.OK && (err != nil || string(want) != data || used != len(packed)-source.Len()) {
			t.Fatalf("P3: %q: %d bytes, %d used; by others %d, %d, %v", packed, len(data), used, len(want), len(packed)-source.Len(), err)
		}
		if fault != api.OK && (data != "" || used != 0) {
			t.Fatalf("P1: beside the error %d: %d bytes, %d used", fault, len(data), used)
		}
		if fault == api.ErrLarge && err == nil && len(want) <= api.MaxData {
			t.Fatalf("P3: %q: ErrLarge, by others %d bytes", packed, len(want))
		}
	}
}

func TestP3ManyBlocks(t *testing.T) {
	var b strings.Builder
	for range 40000 { // four short blocks in five bytes
		b.WriteString("0 10 0000000")
	}
	wantData(t, "of kind 1", (bitText(b.String()) + "1 10 0000000").bytes(), "")
	wantData(t, "of kind 0", strings.Repeat(plain(false, ""), 40000)+plain(true, "z"), "z")
}

func TestP1InflateSideBySide(t *testing.T) {
	var all sync.WaitGroup
	for _, packed := range rightOnes(t) {
		want, _, _ := Inflate(packed)
		all.Add(1)
		go func() {
			defer all.Done()
			wantData(t, "side by side", packed, want)
		}()
	}
	all.Wait()
}
