package valise

import (
	"archive/zip"
	"hash/crc32"
	"io"
	"math/rand"
	"slices"
	"strconv"
	"strings"
	"sync"
	"testing"

	"valise/api"
)

// The module that most tests speak of, and its prefix.
const (
	module  = "m.x/y"
	version = "v1.2.3"
	prefix  = "m.x/y@v1.2.3/"
)

// noModules are no module's names and versions.
func noModules() [][2]string {
	return [][2]string{{"", ""}, {"m", "v1.0.0"}, {"M.x", "v1.0.0"}, {"m.x/", "v1.0.0"}, {"m.x", "v1.0"}, {"m.x", "1.0.0"}, {"m.x", "v1.0.0-"}, {"m.x", "v2.0.0"}, {"m.x/v2", "v1.0.0"}, {"m.x/v2", "v3.0.0"}, {"m.x\x00", "v1.0.0"}, {strings.Repeat("m.", 40) + "x", "v1.0.0"}, {"m.x", "v1.0.0-" + strings.Repeat("a", 21)}, {strings.Repeat("/", 100000), strings.Repeat(".", 100000)}}
}

// lowBytes is numbers of so many bytes each, the lowest first.
func lowBytes(width int, numbers ...int) string {
	var text []byte
	for _, number := range numbers {
		for range width {
			text = append(text, byte(number))
			number >>= 8
		}
	}
	return string(text)
}

// lying is a file as it lies in an archive, and what its heads tell.
type lying struct {
	name             string // with its prefix
	way, check, size int
	packed           string
}

// asIs is a file that lies as it is.
func asIs(name, data string) lying {
	return lying{name: prefix + name, check: int(crc32.ChecksumIEEE([]byte(data))), size: len(data), packed: data}
}

// packedAs is a file that lies as some packed bytes.
func packedAs(name, data, packed string) lying {
	l := asIs(name, data)
	l.way, l.packed = 8, packed
	return l
}

func (l lying) told() string {
	return lowBytes(2, 20, 0, l.way, 0, 33) + lowBytes(4, l.check, len(l.packed), l.size) + lowBytes(2, len(l.name), 0)
}

func (l lying) local() string { return "PK\x03\x04" + l.told() + l.name + l.packed }

func (l lying) central(at int) string {
	return "PK\x01\x02" + lowBytes(2, 20) + l.told() + lowBytes(2, 0, 0, 0) + lowBytes(4, 0, at) + l.name
}

func endOf(count, size, at int) string {
	return "PK\x05\x06" + lowBytes(2, 0, 0, count, count) + lowBytes(4, size, at) + lowBytes(2, 0)
}

// archiveOf puts an archive together.
func archiveOf(files ...lying) string {
	locals, centrals := "", ""
	for _, l := range files {
		centrals += l.central(len(locals))
		locals += l.local()
	}
	return locals + centrals + endOf(len(files), len(centrals), len(locals))
}

// packOf packs what must be right.
func packOf(t *testing.T, tree []api.Entry) string {
	t.Helper()
	archive, fault := Pack(module, version, tree)
	if fault != api.OK {
		t.Fatalf("P6: Pack: %d", fault)
	}
	return archive
}

func TestP6ByteByByte(t *testing.T) {
	if got, want := packOf(t, nil), "PK\x05\x06"+strings.Repeat("\x00", 18); got != want {
		t.Errorf("P6: of nothing: %q", got)
	}
	archive, fault := Pack("m.x", "v1.0.0", []api.Entry{{Name: "b", Data: strings.Repeat("a", 20)}, {Name: "a", Data: "hi"}})
	want := "PK\x03\x04" + "\x14\x00\x00\x00\x00\x00\x00\x00\x21\x00" + "\xac\x2a\x93\xd8" + "\x02\x00\x00\x00" + "\x02\x00\x00\x00" + "\x0c\x00\x00\x00" + "m.x@v1.0.0/a" + "hi" +
		"PK\x03\x04" + "\x14\x00\x00\x00\x08\x00\x00\x00\x21\x00" + "\xce\x8b\x6f\x26" + "\x04\x00\x00\x00" + "\x14\x00\x00\x00" + "\x0c\x00\x00\x00" + "m.x@v1.0.0/b" + "\x4b\xc4\x02\x00" +
		"PK\x01\x02" + "\x14\x00\x14\x00\x00\x00\x00\x00\x00\x00\x21\x00" + "\xac\x2a\x93\xd8" + "\x02\x00\x00\x00" + "\x02\x00\x00\x00" + "\x0c\x00\x00\x00\x00\x00\x00\x00\x00\x00" + "\x00\x00\x00\x00" + "\x00\x00\x00\x00" + "m.x@v1.0.0/a" +
		"PK\x01\x02" + "\x14\x00\x14\x00\x00\x00\x08\x00\x00\x00\x21\x00" + "\xce\x8b\x6f\x26" + "\x04\x00\x00\x00" + "\x14\x00\x00\x00" + "\x0c\x00\x00\x00\x00\x00\x00\x00\x00\x00" + "\x00\x00\x00\x00" + "\x2c\x00\x00\x00" + "m.x@v1.0.0/b" +
		"PK\x05\x06" + "\x00\x00\x00\x00\x02\x00\x02\x00" + "\x74\x00\x00\x00" + "\x5a\x00\x00\x00" + "\x00\x00"
	if archive != want || fault != api.OK {
		t.Errorf("P6: %q, %d, want %q", archive, fault, want)
	}
}

// The way of each file is the shorter one; as it is, if both are as long.
func TestP6TheShorterWay(t *testing.T) {
	r := rand.New(rand.NewSource(6))
	longer, same, shorter := 0, 0, 0
	for size := range 60 {
		for _, values := range []int{1, 2, 3, 5, 256} {
			data := noise(r, size, values)
			packed, _ := Deflate(data)
			want := asIs("a", data)
			switch {
			case len(packed) < len(data):
				want = packedAs("a", data, packed)
				shorter++
			case len(packed) == len(data):
				same++
			default:
				longer++
			}
			if got := packOf(t, []api.Entry{{Name: "a", Data: data}}); got != archiveOf(want) {
				t.Errorf("P6: of %q: %q", data, got)
			}
		}
	}
	if longer < 5 || same < 5 || shorter < 5 {
		t.Errorf("longer %d, same %d, shorter %d times", longer, same, shorter)
	}
}

// drawnTree is files of several sizes, with names of several folders, and what is left out.
func drawnTree(r *rand.Rand) []api.Entry {
	tree := []api.Entry{{Name: "go.mod", Data: "module m.x/y\n"}, {Name: "link", Link: true, Data: "?"}, {Name: "bad:", Data: "?"}}
	for i := range r.Intn(12) {
		name := strings.Repeat("folder/", r.Intn(4)) + "f" + strconv.Itoa(i)
		tree = append(tree, api.Entry{Name: name, Data: noise(r, r.Intn(1200), 1+r.Intn(200))})
	}
	return tree
}

func TestP6ReadByOthers(t *testing.T) {
	r := rand.New(rand.NewSource(66))
	for range 200 {
		tree := drawnTree(r)
		files, _, _ := Choose(tree)
		archive := packOf(t, tree)
		others, err := zip.NewReader(strings.NewReader(archive), int64(len(archive)))
		if err != nil || len(others.File) != len(files) {
			t.Fatalf("P6: %v, want %d files", err, len(files))
		}
		for i, other := range others.File {
			in, err := other.Open()
			if err != nil {
				t.Fatalf("P6: %v", err)
			}
			data, err := io.ReadAll(in)
			if err != nil || other.Name != prefix+files[i].Name || string(data) != files[i].Data {
				t.Errorf("P6: %q, %v, want %q", other.Name, err, files[i].Name)
			}
		}
	}
}

func TestP6InAnyOrder(t *testing.T) {
	r := rand.New(rand.NewSource(666))
	tree := append(drawnTree(r), numbered(30, 10)...)
	want := packOf(t, tree)
	for range 50 {
		r.Shuffle(len(tree), func(i, j int) { tree[i], tree[j] = tree[j], tree[i] })
		if packOf(t, tree) != want {
			t.Fatalf("P6: in another order it is another archive")
		}
	}
}

// largest is a module with the longest prefix, and a tree whose archive has so many bytes.
func largest(t *testing.T, size int) (string, string, []api.Entry) {
	t.Helper()
	longModule, longVersion := strings.Repeat("m.", 39)+"xy", "v1.99999.99999-"+strings.Repeat("a", 20)
	r := rand.New(rand.NewSource(40000))
	var tree []api.Entry
	left := size - 22
	for i := range 60 {
		entry := api.Entry{Name: strings.Repeat("n", 78) + strconv.Itoa(10+i)}
		left -= 30 + 46 + 2*(len(longModule)+1+len(longVersion)+1+len(entry.Name))
		tree = append(tree, entry)
	}
	for i := range tree {
		share := left / (len(tree) - i)
		tree[i].Data = noise(r, share, 256)
		left -= share
	}
	return longModule, longVersion, tree
}

func TestP6LargeArchives(t *testing.T) {
	longModule, longVersion, tree := largest(t, 40000)
	archive, fault := Pack(longModule, longVersion, tree)
	if len(archive) != 40000 || fault != api.OK {
		t.Fatalf("P6: of 40000 bytes: %d, %d", len(archive), fault)
	}
	if files, fault := Unpack(longModule, longVersion, archive); len(files) != 60 || fault != api.OK {
		t.Errorf("P7: of 40000 bytes: %d files, %d", len(files), fault)
	}
	_, _, tree = largest(t, 40001)
	if archive, fault := Pack(longModule, longVersion, tree); archive != "" || fault != api.ErrLarge {
		t.Errorf("P6: of 40001 bytes: %d, %d", len(archive), fault)
	}
}

func TestP6Errors(t *testing.T) {
	for what, c := range map[string]struct {
		tree []api.Entry
		want api.Errno
	}{
		"too many entries": {make([]api.Entry, 201), api.ErrMany},
		"a clash":          {treeOf("a", "A"), api.ErrTwice},
		"like go.mod":      {treeOf("GO.mod"), api.ErrName},
		"too large":        {sized("a", 4001), api.ErrLarge},
		"too many files":   {numbered(61, 0), api.ErrMany},
		"all too large":    {numbered(5, 3999), api.ErrLarge},
	} {
		if archive, fault := Pack(module, version, c.tree); archive != "" || fault != c.want {
			t.Errorf("P6: %s: %d bytes, %d, want %d", what, len(archive), fault, c.want)
		}
		for _, no := range noModules() {
			if archive, fault := Pack(no[0], no[1], c.tree); archive != "" || fault != api.ErrModule {
				t.Errorf("P6: %s, and %.40q, %.40q: %d bytes, %d", what, no[0], no[1], len(archive), fault)
			}
		}
	}
	for _, no := range noModules() {
		if archive, fault := Pack(no[0], no[1], nil); archive != "" || fault != api.ErrModule {
			t.Errorf("P6: %.40q, %.40q: %d bytes, %d", no[0], no[1], len(archive), fault)
		}
	}
}

func TestP1PackChangesNothing(t *testing.T) {
	room := append(numbered(20, 50), treeOf("x@", "b", "a", "behind")...)
	before := slices.Clone(room)
	packOf(t, room[:23])
	if !slices.Equal(room, before) {
		t.Errorf("P1: what was handed in is changed")
	}
}

func TestP1PackSideBySide(t *testing.T) {
	tree := drawnTree(rand.New(rand.NewSource(1)))
	want := packOf(t, tree)
	sum, _ := Sum(module, version, nil)
	var all sync.WaitGroup
	for range 8 {
		all.Add(1)
		go func() {
			defer all.Done()
			for range 20 {
				if got, fault := Pack(module, version, tree); got != want || fault != api.OK {
					t.Errorf("P1: side by side: %d", fault)
				}
				if fault := Verify(module, version, want, sum); fault != api.ErrSum {
					t.Errorf("P1: side by side: %d", fault)
				}
			}
		}()
	}
	all.Wait()
}
