package valise

import (
	"bytes"
	"compress/flate"
	"math/rand"
	"slices"
	"strconv"
	"strings"
	"testing"

	"valise/api"
)

// wantFiles holds Unpack against names and data, by turns.
func wantFiles(t *testing.T, what, archive string, want ...string) {
	t.Helper()
	files, fault := Unpack(module, version, archive)
	var got []string
	for _, file := range files {
		got = append(got, file.Name, file.Data)
	}
	if fault != api.OK || !slices.Equal(got, want) {
		t.Errorf("P7: %s: %.80q, %d, want %.80q", what, got, fault, want)
	}
}

// wantRefused holds Unpack, and Verify, against an error, beside which all is empty.
func wantRefused(t *testing.T, what, archive string, want api.Errno) {
	t.Helper()
	if files, fault := Unpack(module, version, archive); len(files) != 0 || fault != want {
		t.Errorf("P7: %s: %d files, %d, want %d", what, len(files), fault, want)
	}
	if fault := Verify(module, version, archive, ""); fault != want {
		t.Errorf("P8: Verify: %s: %d, want %d", what, fault, want)
	}
}

// byOthers packs as others do, by codes that are told.
func byOthers(t *testing.T, data string) string {
	t.Helper()
	var packed bytes.Buffer
	w, err := flate.NewWriter(&packed, flate.BestCompression)
	if err != nil {
		t.Fatal(err)
	}
	w.Write([]byte(data))
	w.Close()
	return packed.String()
}

func TestP7RightArchives(t *testing.T) {
	text := strings.Repeat("some text, and more of it; ", 20)
	wantFiles(t, "nothing", archiveOf())
	wantFiles(t, "one", archiveOf(asIs("a", "xyz")), "a", "xyz")
	wantFiles(t, "one of no bytes", archiveOf(asIs("a", "")), "a", "")
	wantFiles(t, "packed", archiveOf(asIs("a", "xyz"), packedAs("b", "Hi", "\x01\x02\x00\xfd\xffHi")), "a", "xyz", "b", "Hi")
	wantFiles(t, "packed, of no bytes", archiveOf(packedAs("b", "", "\x03\x00")), "b", "")
	wantFiles(t, "packed by others", archiveOf(packedAs("b", text, byOthers(t, text))), "b", text)
	wantFiles(t, "a file has what looks like heads", archiveOf(asIs("a", archiveOf(asIs("b", "c"))), asIs("b", endOf(0, 0, 0))), "a", archiveOf(asIs("b", "c")), "b", endOf(0, 0, 0))
	wantFiles(t, "what a tree's would be left out", archiveOf(asIs(".git/a", ""), asIs("a/b", ""), asIs("a/go.mod", ""), asIs("vendor/x/y", "")), ".git/a", "", "a/b", "", "a/go.mod", "", "vendor/x/y", "")
	wantFiles(t, "names that rise by bytes", archiveOf(asIs("B", ""), asIs("a-b", ""), asIs("a.b", ""), asIs("a/b", ""), asIs("ab", "")), "B", "", "a-b", "", "a.b", "", "a/b", "", "ab", "")
	wantFiles(t, "the largest", archiveOf(asIs("LICENSE", strings.Repeat("x", 500)), asIs("a", strings.Repeat("x", 4000)), asIs("go.mod", strings.Repeat("x", 500))), "LICENSE", strings.Repeat("x", 500), "a", strings.Repeat("x", 4000), "go.mod", strings.Repeat("x", 500))
	if files, fault := Unpack(module, version, archiveOf(lyingNumbered(60)...)); len(files) != 60 || fault != api.OK {
		t.Errorf("P7: 60 files: %d, %d", len(files), fault)
	}
}

// lyingNumbered is so many files of no bytes.
func lyingNumbered(count int) []lying {
	var list []lying
	for i := range count {
		list = append(list, asIs("f"+strconv.Itoa(1000+i), ""))
	}
	return list
}

func TestP7Sizes(t *testing.T) {
	for _, no := range noModules() {
		if files, fault := Unpack(no[0], no[1], strings.Repeat("x", 50000)); len(files) != 0 || fault != api.ErrModule {
			t.Errorf("P7: %.40q, %.40q: %d", no[0], no[1], fault)
		}
		if fault := Verify(no[0], no[1], archiveOf(), ""); fault != api.ErrModule {
			t.Errorf("P8: Verify: %.40q, %.40q: %d", no[0], no[1], fault)
		}
	}
	wantRefused(t, "40001 bytes", strings.Repeat("x", 40001), api.ErrLarge)
	wantRefused(t, "40000 bytes", strings.Repeat("x", 40000), api.ErrArchive)
	wantRefused(t, "far too many bytes behind", archiveOf()+strings.Repeat("\x00", 40000), api.ErrLarge)
	wantRefused(t, "no bytes", "", api.ErrArchive)
}

// pieces of an archive of two files, each of which a test may leave out or take another one for.
func pieces() (a, b lying, locals string, centrals string) {
	a, b = asIs("a", "xyz"), packedAs("b", "Hi", "\x01\x02\x00\xfd\xffHi")
	return a, b, a.local() + b.local(), a.central(0) + b.central(len(a.local()))
}

func TestP7NotOfTheForm(t *testing.T) {
	a, b, locals, centrals := pieces()
	end := endOf(2, len(centrals), len(locals))
	right := locals + centrals + end
	wantFiles(t, "right", right, "a", "xyz", "b", "Hi")
	other := func(l lying, change func(*lying)) lying {
		change(&l)
		return l
	}
	renamed := func(name string) lying { return other(a, func(l *lying) { l.name = name }) }
	for what, archive := range map[string]string{
		"a byte ahead":                  "x" + right,
		"a byte behind":                 right + "\x00",
		"a byte behind the local heads": locals + "\x00" + centrals + endOf(2, len(centrals), len(locals)+1),
		"a byte behind the others":      locals + centrals + "\x00" + end,
		"a byte between files":          a.local() + "\x00" + b.local() + a.central(0) + b.central(len(a.local())+1) + endOf(2, len(centrals), len(locals)+1),
		"twice":                         right + right,
		"no end":                        locals + centrals,
		"two ends":                      right + end,
		"the end alone":                 end,
		"the end first":                 end + locals + centrals,
		"a remark":                      right[:len(right)-2] + "\x01\x00x",
		"no central heads":              locals + endOf(2, 0, len(locals)),
		"no local heads":                centrals + endOf(2, len(centrals), 0),
		"a central head too few":        locals + a.central(0) + endOf(2, len(a.central(0)), len(locals)),
		"a central head too few, told":  locals + a.central(0) + endOf(1, len(a.central(0)), len(locals)),
		"a central head too many":       a.local() + centrals + endOf(2, len(centrals), len(a.local())),
		"central heads turned round":    locals + b.central(len(a.local())) + a.central(0) + end,
		"central heads first":           centrals + locals + end,
		"a central head twice":          locals + a.central(0) + a.central(0) + end,
		"files turned round":            archiveOf(b, a),
		"a file twice":                  archiveOf(a, a),
		"names that fall":               archiveOf(asIs("b", ""), asIs("B", "")),
		"a file too many":               archiveOf(lyingNumbered(61)...),
		"many files too many":           archiveOf(lyingNumbered(300)...),
		"the local head begins elsewhere": locals + a.central(1) + b.central(len(a.local())) +
			end,
		"the count is another":           locals + centrals + endOf(3, len(centrals), len(locals)),
		"the central heads' size":        locals + centrals + endOf(2, len(centrals)+1, len(locals)),
		"the central heads' place":       locals + centrals + endOf(2, len(centrals), len(locals)-1),
		"the names differ":               a.local() + renamed(prefix+"b").central(0) + endOf(1, len(a.central(0)), len(a.local())),
		"the checks differ":              a.local() + other(a, func(l *lying) { l.check++ }).central(0) + endOf(1, len(a.central(0)), len(a.local())),
		"the sizes differ":               a.local() + other(a, func(l *lying) { l.size++ }).central(0) + endOf(1, len(a.central(0)), len(a.local())),
		"the packed sizes differ":        a.local() + other(a, func(l *lying) { l.packed += "x" }).central(0) + endOf(1, len(a.central(0)), len(a.local())),
		"the ways differ":                a.local() + other(a, func(l *lying) { l.way = 8 }).central(0) + endOf(1, len(a.central(0)), len(a.local())),
		"the way 1":                      archiveOf(other(a, func(l *lying) { l.way = 1 })),
		"the way 9":                      archiveOf(other(a, func(l *lying) { l.way = 9 })),
		"the way 264":                    archiveOf(other(a, func(l *lying) { l.way = 264 })),
		"no prefix":                      archiveOf(renamed("a")),
		"no name at all":                 archiveOf(renamed("")),
		"half a prefix":                  archiveOf(renamed(prefix[:len(prefix)-1])),
		"another version's prefix":       archiveOf(renamed("m.x/y@v1.2.4/a")),
		"another module's prefix":        archiveOf(renamed("m.x/z@v1.2.3/a")),
		"a prefix in capital letters":    archiveOf(renamed("M.x/y@v1.2.3/a")),
		"the second one has no prefix":   archiveOf(a, renamed("n")),
		"a name longer than the archive": "PK\x03\x04" + lowBytes(2, 20, 0, 0, 0, 33) + lowBytes(4, 0, 0, 0) + lowBytes(2, 65535, 0) + prefix,
		"more bytes than there are":      "PK\x03\x04" + lowBytes(2, 20, 0, 0, 0, 33) + lowBytes(4, 0, 4294967295, 4294967295) + lowBytes(2, len(prefix)+1, 0) + prefix + "a" + right,
		"a mark alone":                   "PK\x03\x04",
		"a head that is cut off":         a.local()[:29],
	} {
		wantRefused(t, what, archive, api.ErrArchive)
	}
	for i := range len(right) {
		wantRefused(t, "cut off at "+strconv.Itoa(i), right[:i], api.ErrArchive)
		wantRefused(t, "cut off ahead of "+strconv.Itoa(i+1), right[i+1:], api.ErrArchive)
		wantRefused(t, "a byte more at "+strconv.Itoa(i), right[:i]+"\x00"+right[i:], api.ErrArchive)
		wantRefused(t, "a byte less at "+strconv.Itoa(i), right[:i]+right[i+1:], api.ErrArchive)
	}
}

// turned is a text with one bit of a byte turned.
func turned(text string, at, bit int) string {
	changed := []byte(text)
	changed[at] ^= 1 << bit
	return string(changed)
}

// Of files as they are each bit says something: within a file's data it is told by the check.
func TestP7EachBitSaysSomething(t *testing.T) {
	a, b := asIs("a", "some data"), asIs("b/c", "more")
	right := archiveOf(a, b)
	inData := func(at int) bool {
		endA, endB := len(a.local()), len(a.local()+b.local())
		return at >= endA-len(a.packed) && at < endA || at >= endB-len(b.packed) && at < endB
	}
	for at := range len(right) {
		want := api.ErrArchive
		if inData(at) {
			want = api.ErrCheck
		}
		for bit := range 8 {
			wantRefused(t, "byte "+strconv.Itoa(at)+", bit "+strconv.Itoa(bit), turned(right, at, bit), want)
		}
	}
}

// The same bit is turned in both heads of a file, so that they don't differ.
func TestP7BothHeadsChanged(t *testing.T) {
	a := asIs("a", "xyz")
	right := archiveOf(a)
	central := len(a.local())
	for at := range len(a.told()) {
		for bit := range 8 {
			want := api.ErrArchive
			switch {
			case at == 4 && bit == 3: // the way is 8: bytes that are packed
				want = api.ErrData
			case at >= 10 && at < 14:
				want = api.ErrCheck
			case at >= 19 && at < 22 && 1<<bit<<(8*(at-18)) > 4000:
				want = api.ErrLarge
			}
			what := "byte " + strconv.Itoa(at) + " of both heads, bit " + strconv.Itoa(bit)
			wantRefused(t, what, turned(turned(right, 4+at, bit), central+6+at, bit), want)
		}
	}
	for at := range len(a.name) {
		want := api.ErrArchive
		if at == len(a.name)-1 {
			want = api.ErrName
		}
		wantRefused(t, "the name", turned(turned(right, 30+at, 7), central+46+at, 7), want)
	}
}

func TestP7NamesAndSizes(t *testing.T) {
	large := func(name string, size int) lying {
		l := asIs(name, "")
		l.size = size
		return l
	}
	wrong := asIs("a", "xyz")
	wrong.check++
	for what, c := range map[string]struct {
		files []lying
		want  api.Errno
	}{
		"no name":                           {[]lying{asIs("", "")}, api.ErrName},
		"up":                                {[]lying{asIs("../a", "")}, api.ErrName},
		"a device":                          {[]lying{asIs("a/nul.x", "")}, api.ErrName},
		"a folder's":                        {[]lying{asIs("a/", "")}, api.ErrName},
		"81 bytes":                          {[]lying{asIs(strings.Repeat("n", 81), "")}, api.ErrName},
		"thousands of bytes":                {[]lying{asIs(strings.Repeat("n/", 4000), "")}, api.ErrName},
		"like go.mod":                       {[]lying{asIs("GO.MOD", "")}, api.ErrName},
		"like go.mod, ahead of it":          {[]lying{asIs("Go.mod", ""), asIs("go.mod", "")}, api.ErrName},
		"alike":                             {[]lying{asIs("A", ""), asIs("a", "")}, api.ErrTwice},
		"one in the other":                  {[]lying{asIs("a", ""), asIs("a/b", "")}, api.ErrTwice},
		"one in the other, later":           {[]lying{asIs("a", ""), asIs("a-b", ""), asIs("a/b", "")}, api.ErrTwice},
		"folders alike":                     {[]lying{asIs("A/b", ""), asIs("a/c", "")}, api.ErrTwice},
		"too large":                         {[]lying{large("a", 4001)}, api.ErrLarge},
		"as large as can be":                {[]lying{large("a", 4294967295)}, api.ErrLarge},
		"go.mod too large":                  {[]lying{large("go.mod", 501)}, api.ErrLarge},
		"LICENSE too large":                 {[]lying{large("LICENSE", 501)}, api.ErrLarge},
		"all too large":                     {[]lying{large("a", 4000), large("b", 4000), large("c", 4000), large("d", 4000), large("e", 1)}, api.ErrLarge},
		"all just not too large":            {[]lying{large("a", 4000), large("b", 4000), large("c", 4000), large("d", 4000), large("e", 0)}, api.ErrArchive},
		"all together as large as can be":   {[]lying{large("a", 4000), large("b", 4294967295), large("c", 4000)}, api.ErrLarge},
		"no name, and too large":            {[]lying{large("a:", 5000)}, api.ErrName},
		"no name, and a clash":              {[]lying{asIs("a", ""), asIs("a/", "")}, api.ErrName},
		"a clash, and too large":            {[]lying{asIs("A", ""), large("a", 5000)}, api.ErrTwice},
		"too large, then no name":           {[]lying{large("a", 5000), asIs("b:", "")}, api.ErrLarge},
		"a clash, then no name":             {[]lying{asIs("A", ""), asIs("a", ""), asIs("b:", "")}, api.ErrTwice},
		"no name, then a clash":             {[]lying{asIs("A", ""), asIs("A:", ""), asIs("a", "")}, api.ErrName},
		"all too large, then no name":       {[]lying{large("a", 4000), large("b", 4000), large("c", 4000), large("d", 4000), large("e", 1), asIs("f:", "")}, api.ErrLarge},
		"another check, then no name":       {[]lying{wrong, asIs("b:", "")}, api.ErrName},
		"another check, then too large":     {[]lying{wrong, large("b", 4001)}, api.ErrLarge},
		"no name, then not of the form":     {[]lying{asIs("b:", ""), asIs("a", "")}, api.ErrArchive},
		"two numbers differ, then a clash":  {[]lying{large("A", 1), asIs("a", "")}, api.ErrTwice},
		"the files are small, and too many": {lyingNumbered(61), api.ErrArchive},
	} {
		wantRefused(t, what, archiveOf(c.files...), c.want)
	}
}

func TestP7Data(t *testing.T) {
	changed := func(l lying, size, check int) lying {
		l.size += size
		l.check += check
		return l
	}
	plainA, hi := asIs("a", "xyz"), "\x01\x02\x00\xfd\xffHi"
	packedB := packedAs("b", "Hi", hi)
	most, more := strings.Repeat("x", 20000), strings.Repeat("x", 20001)
	for what, c := range map[string]struct {
		files []lying
		want  api.Errno
	}{
		"more bytes told":                         {[]lying{changed(plainA, 1, 0)}, api.ErrArchive},
		"fewer bytes told":                        {[]lying{changed(plainA, -1, 0)}, api.ErrArchive},
		"more bytes told, and another check":      {[]lying{changed(plainA, 1, 1)}, api.ErrArchive},
		"another check":                           {[]lying{changed(plainA, 0, 1)}, api.ErrCheck},
		"packed, more bytes told":                 {[]lying{changed(packedB, 1, 0)}, api.ErrData},
		"packed, fewer bytes told":                {[]lying{changed(packedB, -1, 0)}, api.ErrData},
		"packed, as many as packed ones told":     {[]lying{changed(packedB, len(hi)-2, 0)}, api.ErrData},
		"packed, more bytes told, another check":  {[]lying{changed(packedB, 1, 1)}, api.ErrData},
		"packed, another check":                   {[]lying{changed(packedB, 0, 1)}, api.ErrCheck},
		"packed, not all used":                    {[]lying{packedAs("b", "Hi", hi+"x")}, api.ErrData},
		"packed, not right":                       {[]lying{packedAs("b", "", "\x07")}, api.ErrData},
		"packed, too short":                       {[]lying{packedAs("b", "Hi", hi[:6])}, api.ErrData},
		"packed, no bytes":                        {[]lying{packedAs("b", "", "")}, api.ErrData},
		"packed, to as many as are unpacked":      {[]lying{changed(packedAs("b", most, byOthers(t, most)), 4000-20000, 0)}, api.ErrData},
		"packed, to more than are unpacked":       {[]lying{changed(packedAs("b", more, byOthers(t, more)), 4000-20001, 0)}, api.ErrData},
		"another check, then two numbers differ":  {[]lying{changed(plainA, 0, 1), changed(asIs("b", ""), 1, 0)}, api.ErrCheck},
		"two numbers differ, then another check":  {[]lying{changed(plainA, 1, 0), changed(asIs("b", ""), 0, 1)}, api.ErrArchive},
		"packed, not right, then another check":   {[]lying{packedAs("a", "", "\x07"), changed(packedB, 0, 1)}, api.ErrData},
		"packed, another check, then not right":   {[]lying{changed(packedAs("a", "Hi", hi), 0, 1), packedAs("b", "", "\x07")}, api.ErrCheck},
		"packed, not right, two numbers differ":   {[]lying{packedAs("a", "", "\x07"), changed(asIs("b", ""), 1, 0)}, api.ErrData},
		"right, then two numbers differ":          {[]lying{plainA, changed(asIs("b", ""), 1, 0)}, api.ErrArchive},
		"right, then packed and another check":    {[]lying{plainA, changed(packedB, 0, -1)}, api.ErrCheck},
		"the check is that of the packed bytes":   {[]lying{{name: prefix + "b", way: 8, check: Check(hi), size: 2, packed: hi}}, api.ErrCheck},
		"no bytes, and a check":                   {[]lying{changed(asIs("a", ""), 0, 1)}, api.ErrCheck},
		"one number is that of another way round": {[]lying{{name: prefix + "b", way: 0, check: Check("Hi"), size: 2, packed: hi}}, api.ErrArchive},
	} {
		wantRefused(t, what, archiveOf(c.files...), c.want)
	}
}

// P1: whatever is handed in, Unpack ends; what it takes is what Pack's form says.
func TestP1UnpackOfSpoiltArchives(t *testing.T) {
	r := rand.New(rand.NewSource(77))
	for range 600 {
		archive := []byte(packOf(t, drawnTree(r)))
		for range 1 + r.Intn(4) {
			from := r.Intn(len(archive))
			switch r.Intn(4) {
			case 0:
				archive[from] = byte(r.Intn(256))
			case 1:
				archive = append(archive[:from], archive[min(len(archive), from+r.Intn(50)):]...)
			case 2:
				archive = slices.Insert(archive, from, archive[from:min(len(archive), from+r.Intn(50))]...)
			case 3:
				copy(archive[from:], archive[r.Intn(len(archive)):])
			}
			if len(archive) == 0 {
				break
			}
		}
		if files, fault := Unpack(module, version, string(archive)); fault != api.OK && len(files) != 0 {
			t.Errorf("P1: %d files beside %d", len(files), fault)
		}
	}
}

func TestP1UnpackSharesNothing(t *testing.T) {
	archive := archiveOf(asIs("a", "of a"), asIs("b", "of b"), asIs("c", "of c"))
	files, _ := Unpack(module, version, archive)
	for i := range files[:cap(files)] {
		files[:cap(files)][i] = api.File{Name: "?", Data: "?"}
	}
	wantFiles(t, "behind a change of the answer", archive, "a", "of a", "b", "of b", "c", "of c")
	again, _ := Unpack(module, version, archive)
	for _, file := range again[len(again):cap(again)] {
		if file != (api.File{}) {
			t.Errorf("P1: in the spare room stands %v", file)
		}
	}
}
