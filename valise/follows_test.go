package valise

import (
	"math/rand"
	"slices"
	"strings"
	"testing"

	"valise/api"
	"valise/disk"
)

// P11: what was packed is unpacked, with one sum, in whatever order the tree is told.
func TestP11WhatWasPackedIsUnpacked(t *testing.T) {
	r := rand.New(rand.NewSource(11))
	for range 100 {
		tree := drawnTree(r)
		files, _, _ := Choose(tree)
		sum, _ := Sum(module, version, files)
		for range 3 {
			archive := packOf(t, tree)
			back, fault := Unpack(module, version, archive)
			if fault != api.OK || !slices.Equal(back, files) {
				t.Fatalf("P11: %d files, %d, want %d", len(back), fault, len(files))
			}
			if told, fault := Sum(module, version, back); told != sum || fault != api.OK {
				t.Fatalf("P11: the sum %q, %d, want %q", told, fault, sum)
			}
			if fault := Verify(module, version, archive, sum); fault != api.OK {
				t.Fatalf("P11: Verify: %d", fault)
			}
			r.Shuffle(len(tree), func(i, j int) { tree[i], tree[j] = tree[j], tree[i] })
		}
		wantLaid(t, packOf(t, tree), files)
	}
}

// wantLaid holds Extract to a new disk against files.
func wantLaid(t *testing.T, archive string, files []api.File) {
	t.Helper()
	d := disk.New()
	if fault := Extract(d, "p", module, version, archive); fault != api.OK {
		t.Fatalf("P11: Extract: %d", fault)
	}
	wantStanding(t, "P11: what was packed", d, stands{}.with("p", files))
}

// The most, and the largest, that a tree may have.
func TestP11OfTheLargest(t *testing.T) {
	r := rand.New(rand.NewSource(111))
	for what, tree := range map[string][]api.Entry{
		"no entries":          nil,
		"nothing but links":   treeOf("a@", "b@"),
		"60 files":            numbered(60, 266),
		"60 files of nothing": numbered(60, 0),
		"4 large ones":        {{Name: "a", Data: noise(r, 4000, 256)}, {Name: "b", Data: strings.Repeat("b", 4000)}, {Name: "c", Data: noise(r, 4000, 2)}, {Name: "d", Data: noise(r, 4000, 60)}},
		"small ones":          {{Name: "go.mod", Data: noise(r, 500, 256)}, {Name: "LICENSE", Data: noise(r, 500, 9)}},
	} {
		files, _, fault := Choose(tree)
		if fault != api.OK {
			t.Fatalf("P5: %s: %d", what, fault)
		}
		wantLaid(t, packOf(t, tree), files)
	}
}

// lyingAsTheyAre are right archives whose files lie as they are.
func lyingAsTheyAre(t *testing.T, r *rand.Rand) []string {
	t.Helper()
	inner := archiveOf(asIs("b", "c"))
	list := []string{
		archiveOf(),
		archiveOf(asIs("a", "")),
		archiveOf(asIs("a", "x"), asIs("b", "y")),
		archiveOf(asIs("a", noise(r, 90, 256)), asIs("b/c", noise(r, 5, 256)), asIs("d", ""), asIs("go.mod", "module m.x/y\n")),
		archiveOf(asIs("a", strings.Repeat("\x00", 50)), asIs("b", strings.Repeat("\xff", 50))),
		archiveOf(asIs("a", inner), asIs("b", endOf(0, 0, 0)), asIs("c", asIs("d", "").local())),
	}
	packed := packOf(t, []api.Entry{{Name: "z", Data: "short"}, {Name: "y", Data: noise(r, 60, 256)}, {Name: "x", Data: noise(r, 7, 256)}, {Name: "go.mod", Data: "m"}})
	if files, _ := Unpack(module, version, packed); len(files) != 4 || packed != archiveOf(asIs("go.mod", "m"), asIs("x", files[1].Data), asIs("y", files[2].Data), asIs("z", "short")) {
		t.Fatalf("P6: files do not lie as they are")
	}
	return append(list, packed)
}

// turnedBits turns bits of a text, from the first on as a pattern has them; false: they would be
// beyond its end.
func turnedBits(text string, first int, pattern uint32) (string, bool) {
	changed := []byte(text)
	for i := range 32 {
		if pattern>>i&1 == 0 {
			continue
		}
		at := first + i
		if at >= 8*len(text) {
			return "", false
		}
		changed[at/8] ^= 1 << (at % 8)
	}
	return string(changed), true
}

// P11: bits within 32 side by side are turned. Among the patterns are those that make one head's
// mark another one's, one way the other, and what is nearest to what a check would not see.
func TestP11TurnedBitsAreTold(t *testing.T) {
	r := rand.New(rand.NewSource(32))
	onDisk := stands{"m.tmp": "=old", "x": aFolder}
	for _, right := range lyingAsTheyAre(t, r) {
		files, fault := Unpack(module, version, right)
		if fault != api.OK {
			t.Fatalf("P7: %d", fault)
		}
		sum, _ := Sum(module, version, files)
		for first := range 8 * len(right) {
			for _, pattern := range []uint32{1, 3, 8, 0xff, 0x0602, 0x0206, 0x0404, 0xffffffff, 0x80000001, 0xedb88320, 0xdb710641, 0x82608edb, r.Uint32() | 1, r.Uint32()&r.Uint32() | 1} {
				changed, ok := turnedBits(right, first, pattern)
				if !ok {
					continue
				}
				got, fault := Unpack(module, version, changed)
				if len(got) != 0 || fault == api.OK || Verify(module, version, changed, sum) != fault {
					t.Fatalf("P11: bits from %d on, %x: %d files, %d", first, pattern, len(got), fault)
				}
				if first%61 == 0 {
					d := onDisk.made(t)
					if told := Extract(d, "m", module, version, changed); told != fault {
						t.Fatalf("P11: Extract: bits from %d on, %x: %d, want %d", first, pattern, told, fault)
					}
					wantStanding(t, "P11: turned bits", d, onDisk)
				}
			}
		}
	}
}

// All that can be done to few bits, wherever they are.
func TestP11EachPatternOfFewBits(t *testing.T) {
	right := archiveOf(asIs("a", "xy"), asIs("b", ""))
	for first := range 8 * len(right) {
		for pattern := uint32(1); pattern < 256; pattern += 2 {
			if changed, ok := turnedBits(right, first, pattern); ok {
				if files, fault := Unpack(module, version, changed); len(files) != 0 || fault == api.OK {
					t.Fatalf("P11: bits from %d on, %x: %d files, %d", first, pattern, len(files), fault)
				}
			}
		}
	}
}
