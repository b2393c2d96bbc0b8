package valise

import (
	"math/rand"
	"reflect"
	"slices"
	"strconv"
	"strings"
	"sync"
	"testing"

	"valise/api"
)

// treeOf is entries without data; a name that ends with '@' is that of a link.
func treeOf(names ...string) []api.Entry {
	var tree []api.Entry
	for _, name := range names {
		name, link := strings.CutSuffix(name, "@")
		tree = append(tree, api.Entry{Name: name, Link: link})
	}
	return tree
}

// sized is one entry of so many bytes.
func sized(name string, size int) []api.Entry {
	return []api.Entry{{Name: name, Data: strings.Repeat("x", size)}}
}

// numbered is so many entries, each of so many bytes, by rising names.
func numbered(count, size int) []api.Entry {
	var tree []api.Entry
	for i := range count {
		tree = append(tree, sized("f"+strconv.Itoa(1000+i), size)...)
	}
	return tree
}

// wantChosen holds Choose against names of files, and against names and reasons of what is left out.
func wantChosen(t *testing.T, tree []api.Entry, files []string, left []api.Left) {
	t.Helper()
	gotFiles, gotLeft, fault := Choose(tree)
	var names []string
	for _, file := range gotFiles {
		names = append(names, file.Name)
	}
	if fault != api.OK || !slices.Equal(names, files) || !slices.Equal(gotLeft, left) {
		t.Errorf("P5: Choose(%v) = %q, %v, %d, want %q, %v", tree, names, gotLeft, fault, files, left)
	}
}

// wantNoChoice holds Choose against an error, beside which all is empty.
func wantNoChoice(t *testing.T, what string, tree []api.Entry, want api.Errno) {
	t.Helper()
	if files, left, fault := Choose(tree); len(files) != 0 || len(left) != 0 || fault != want {
		t.Errorf("P5: %s: %d files, %d left, %d, want %d", what, len(files), len(left), fault, want)
	}
}

func TestP5Example(t *testing.T) {
	wantChosen(t, treeOf("go.mod", "a/b.go", "a/go.mod", "vendor/x/y.go", "vendor/modules.txt", ".git/c", "aux.go"),
		[]string{"go.mod", "vendor/modules.txt"},
		[]api.Left{{Name: "a/b.go", Reason: api.Nested}, {Name: "a/go.mod", Reason: api.Nested}, {Name: "vendor/x/y.go", Reason: api.Vendored}, {Name: ".git/c", Reason: api.Hidden}, {Name: "aux.go", Reason: api.BadName}})
	wantChosen(t, nil, nil, nil)
	wantChosen(t, []api.Entry{}, nil, nil)
}

func TestP5FilesRise(t *testing.T) {
	wantChosen(t, treeOf("b", "a/c", "B2", "a.b", "a-b", "a/b", "c", "~", "!", "ab"), []string{"!", "B2", "a-b", "a.b", "a/b", "a/c", "ab", "b", "c", "~"}, nil)
	tree := []api.Entry{{Name: "b", Data: "of b"}, {Name: "a", Data: "of a"}, {Name: "c"}}
	files, _, _ := Choose(tree)
	if want := []api.File{{Name: "a", Data: "of a"}, {Name: "b", Data: "of b"}, {Name: "c"}}; !slices.Equal(files, want) {
		t.Errorf("P5: %v, want %v", files, want)
	}
}

// Of each entry alone, or with others that make it so.
func TestP5Reasons(t *testing.T) {
	for _, c := range []struct {
		name   string
		others string
		want   api.Reason
	}{
		{"a@", "", api.Link}, {".git/a@", "", api.Link}, {"a:@", "", api.Link}, {"@", "", api.Link}, {"vendor/a/b@", "", api.Link}, {"a/b@", "a/go.mod", api.Link},
		{".git/a", "", api.Hidden}, {".bzr/a", "", api.Hidden}, {".hg/a", "", api.Hidden}, {".svn/a", "", api.Hidden}, {"x/.git/a", "", api.Hidden}, {"x/.git/y/z", "", api.Hidden}, {".git/", "", api.Hidden}, {"/.git/", "", api.Hidden}, {".git//:", "", api.Hidden},
		{".git", "", 0}, {"x/.git", "", 0}, {".GIT/a", "", 0}, {".gitx/a", "", 0}, {"x.git/a", "", 0}, {"git/a", "", 0}, {".svn", "", 0},
		{".git/a", ".git/go.mod", api.Hidden}, {"vendor/.git/x", "", api.Hidden}, {"a/.hg/b", "a/go.mod", api.Hidden},
		{"a/b", "a/go.mod", api.Nested}, {"a/go.mod", "", api.Nested}, {"a/b/c/d", "a/go.mod", api.Nested}, {"a/b/c/d", "a/b/go.mod", api.Nested}, {"a/b/c/d", "a/b/c/go.mod", api.Nested}, {"vendor/a/b", "vendor/a/go.mod", api.Nested}, {"vendor/a/b", "vendor/go.mod", api.Nested}, {"a/x:", "a/go.mod", api.Nested}, {"a/", "a/go.mod", api.Nested},
		{"a/b", "go.mod", 0}, {"go.mod", "", 0}, {"a/b", "a/go.mod@", 0}, {"a/b", "a/GO.MOD", 0}, {"a/b", "A/go.mod@", 0}, {"ab/c", "a/go.mod", 0}, {"b", "a/go.mod", 0}, {"a/b", "b/go.mod", 0}, {"a/b", "a/b.x/go.mod", 0}, {"x/a/b", "a/go.mod", 0}, {"a/b", "a/xgo.mod", 0}, {"a.x", "a/go.mod", 0}, {"b/a", "b/a/go.mod@", 0},
		{"/b", "/go.mod", api.Nested}, {"/go.mod", "", api.Nested}, {"/b", "go.mod", api.BadName}, {"a//b", "a//go.mod", api.Nested}, {"a//b", "a/go.mod", api.Nested}, {"a/b", "a//go.mod", 0},
		{"vendor/a/b", "", api.Vendored}, {"vendor/a/b/c", "", api.Vendored}, {"x/vendor/a/b", "", api.Vendored}, {"vendor/vendor/a", "", api.Vendored}, {"x/vendor/vendor/a", "", api.Vendored}, {"vendor/a/vendor/b", "", api.Vendored}, {"x/vendor/y/vendor/b", "", api.Vendored}, {"vendor//", "", api.Vendored}, {"vendor/a:/b", "", api.Vendored}, {"/vendor/a/b", "", api.Vendored},
		{"vendor", "", 0}, {"vendor/a", "", 0}, {"x/vendor", "", 0}, {"x/vendor/a", "", 0}, {"xvendor/a/b", "", 0}, {"vendorx/a/b", "", 0}, {"Vendor/a/b", "", 0}, {"a/b/vendor/c", "", 0}, {"x/vendorx/a/b", "", 0},
		{"vendor/", "", api.BadName}, {"/vendor/a", "", api.BadName}, {"", "", api.BadName}, {"a:", "", api.BadName}, {"é", "", api.BadName}, {"a/../b", "", api.BadName}, {"nul", "", api.BadName}, {"\x00", "", api.BadName}, {strings.Repeat("n", 81), "", api.BadName}, {strings.Repeat("n", 80), "", 0},
	} {
		tree := treeOf(c.name)
		if c.others != "" {
			tree = append(tree, treeOf(c.others)...)
		}
		for range 2 {
			files, left, fault := Choose(tree)
			found := slices.IndexFunc(left, func(l api.Left) bool { return l.Name == strings.TrimSuffix(c.name, "@") })
			var got api.Reason
			if found >= 0 {
				got = left[found].Reason
			}
			if fault != api.OK || got != c.want || len(files)+len(left) != len(tree) {
				t.Errorf("P5: %q beside %q: %d, %d, want %d", c.name, c.others, got, fault, c.want)
			}
			slices.Reverse(tree)
		}
	}
}

// reasonSaid is why the document says that an entry is left out, by a look at each beginning of its name.
func reasonSaid(tree []api.Entry, entry api.Entry) api.Reason {
	elements := strings.Split(entry.Name, "/")
	folders := elements[:len(elements)-1]
	if entry.Link {
		return api.Link
	}
	for _, folder := range folders {
		if slices.Contains([]string{".bzr", ".git", ".hg", ".svn"}, folder) {
			return api.Hidden
		}
	}
	for i := range folders {
		goMod := strings.Join(elements[:i+1], "/") + "/go.mod"
		if slices.ContainsFunc(tree, func(e api.Entry) bool { return !e.Link && e.Name == goMod }) {
			return api.Nested
		}
	}
	if first := slices.Index(folders, "vendor"); first >= 0 && first < len(folders)-1 {
		return api.Vendored
	}
	for _, element := range elements {
		if element == "" || element == ".." || strings.Contains(element, ":") {
			return api.BadName
		}
	}
	return 0
}

func TestP5ReasonsOfManyTrees(t *testing.T) {
	r := rand.New(rand.NewSource(5))
	words := []string{"a", "b", "vendor", ".git", "go.mod", "x", "", "..", "a:", "vendor", "go.mod"}
	seen := map[api.Reason]int{}
	for range 20000 {
		var tree []api.Entry
		for i := range 1 + r.Intn(5) {
			var elements []string
			for range r.Intn(4) {
				elements = append(elements, words[r.Intn(len(words))])
			}
			if elements = append(elements, words[r.Intn(len(words))]); r.Intn(3) > 0 {
				elements[len(elements)-1] += strconv.Itoa(i) // so that few clash
			}
			tree = append(tree, api.Entry{Name: strings.Join(elements, "/"), Link: r.Intn(6) == 0})
		}
		_, left, fault := Choose(tree)
		if fault != api.OK {
			continue
		}
		var want []api.Left
		for _, entry := range tree {
			reason := reasonSaid(tree, entry)
			seen[reason]++
			if reason != 0 {
				want = append(want, api.Left{Name: entry.Name, Reason: reason})
			}
		}
		if !slices.Equal(left, want) {
			t.Fatalf("P5: of %v are left out %v, want %v", tree, left, want)
		}
	}
	for reason := range api.Reason(6) {
		if seen[reason] < 1000 {
			t.Errorf("the reason %d was met only %d times", reason, seen[reason])
		}
	}
}

func TestP5Clashes(t *testing.T) {
	for _, names := range []string{"a|a", "a|A", "a|a/b", "a/b|a", "a/b|A/c", "a/b|A", "A|a/b", "a/b/c|a/B/d", "go.mod|go.mod", "go.mod|GO.MOD", "LICENSE|License", "a|b|c|B", "x/y/z|x/y", "a/go.mod@|a/b|a/b"} {
		wantNoChoice(t, names, treeOf(strings.Split(names, "|")...), api.ErrTwice)
	}
	wantChosen(t, treeOf("x/a/b", "y/A/c", "ab", "a.b", "a~", "b"), []string{"a.b", "ab", "a~", "b", "x/a/b", "y/A/c"}, nil)
	wantChosen(t, treeOf("a@", "a", "A@", "a/b@"), []string{"a"}, []api.Left{{Name: "a", Reason: api.Link}, {Name: "A", Reason: api.Link}, {Name: "a/b", Reason: api.Link}})
	wantChosen(t, treeOf("con", "CON", "con"), nil, []api.Left{{Name: "con", Reason: api.BadName}, {Name: "CON", Reason: api.BadName}, {Name: "con", Reason: api.BadName}})
}

func TestP5NamesLikeGoMod(t *testing.T) {
	for _, name := range []string{"Go.mod", "GO.MOD", "go.Mod", "gO.mOD"} {
		wantNoChoice(t, name, treeOf(name), api.ErrName)
		wantNoChoice(t, name+" behind go.mod", treeOf("go.mod", name), api.ErrTwice)
		wantNoChoice(t, name+" ahead of go.mod", treeOf(name, "go.mod"), api.ErrName)
		wantChosen(t, treeOf("a/"+name), []string{"a/" + name}, nil)
		wantChosen(t, treeOf(name+"@"), nil, []api.Left{{Name: name, Reason: api.Link}})
	}
}

func TestP5Sizes(t *testing.T) {
	for _, c := range []struct {
		name string
		most int
	}{{"a", 4000}, {"go.mod", 500}, {"LICENSE", 500}, {"License", 4000}, {"license", 4000}, {"a/LICENSE", 4000}, {"go.sum", 4000}} {
		wantChosen(t, sized(c.name, c.most), []string{c.name}, nil)
		wantNoChoice(t, c.name+" with one byte too many", sized(c.name, c.most+1), api.ErrLarge)
	}
	wantNoChoice(t, "far too many bytes", sized("a", 1000000), api.ErrLarge)
	for _, name := range []string{"a:", "vendor/a/b", ".git/x", "a/go.mod"} {
		if _, left, fault := Choose(sized(name, 100000)); len(left) != 1 || fault != api.OK {
			t.Errorf("P5: what is left out has a size: %q, %d", name, fault)
		}
	}
}

func TestP5Totals(t *testing.T) {
	if files, _, fault := Choose(numbered(4, 4000)); len(files) != 4 || fault != api.OK {
		t.Errorf("P5: of 16000 bytes in all: %d", fault)
	}
	if files, _, fault := Choose(append(numbered(4, 4000), sized("z", 0)...)); len(files) != 5 || fault != api.OK {
		t.Errorf("P5: of 16000 bytes in all, and a file of none: %d", fault)
	}
	wantNoChoice(t, "16001 bytes in all", append(numbered(4, 4000), sized("z", 1)...), api.ErrLarge)
	links := append(numbered(4, 4000), api.Entry{Name: "z", Link: true, Data: "x"}, api.Entry{Name: "a:", Data: "x"})
	if files, left, fault := Choose(links); len(files) != 4 || len(left) != 2 || fault != api.OK {
		t.Errorf("P5: what is left out counts among the bytes: %d", fault)
	}
}

func TestP5Counts(t *testing.T) {
	if files, _, fault := Choose(numbered(60, 0)); len(files) != 60 || fault != api.OK {
		t.Errorf("P5: of 60 files: %d, %d", len(files), fault)
	}
	wantNoChoice(t, "61 files", numbered(61, 0), api.ErrMany)
	links := numbered(201, 0)
	for i := range links {
		links[i].Link = true
	}
	if files, left, fault := Choose(links[:200]); len(files) != 0 || len(left) != 200 || fault != api.OK {
		t.Errorf("P5: of 200 links: %d, %d", len(left), fault)
	}
	wantNoChoice(t, "201 links", links, api.ErrMany)
	if files, left, fault := Choose(append(links[:140:140], numbered(60, 0)...)); len(files) != 60 || len(left) != 140 || fault != api.OK {
		t.Errorf("P5: of 60 files and 140 links: %d, %d, %d", len(files), len(left), fault)
	}
}

// Where several apply: to one entry, the one named first; to several, that of the first of them.
func TestP5WhichErrorIsTold(t *testing.T) {
	join := func(parts ...[]api.Entry) []api.Entry { return slices.Concat(parts...) }
	for what, c := range map[string]struct {
		tree []api.Entry
		want api.Errno
	}{
		"too many entries, and all else":        {join(treeOf("a", "a", "GO.MOD"), numbered(198, 5000)), api.ErrMany},
		"a clash, and like go.mod":              {join(treeOf("go.mod"), sized("Go.mod", 5000)), api.ErrTwice},
		"a clash, and too large":                {join(treeOf("a"), sized("a", 5000)), api.ErrTwice},
		"a clash, and one too many":             {join(numbered(60, 0), treeOf("F1000")), api.ErrTwice},
		"like go.mod, and too large":            {sized("GO.mod", 5000), api.ErrName},
		"like go.mod, and one too many":         {join(numbered(60, 0), treeOf("Go.mod")), api.ErrName},
		"too large, and one too many":           {join(numbered(60, 0), sized("z", 4001)), api.ErrLarge},
		"go.mod too large, and one too many":    {join(numbered(60, 0), sized("go.mod", 501)), api.ErrLarge},
		"one too many, and all too large":       {join(numbered(60, 266), sized("z", 41)), api.ErrMany},
		"all too large, and then one too many":  {join(numbered(59, 270), sized("y", 71), treeOf("z")), api.ErrLarge},
		"a clash ahead of a name like go.mod":   {treeOf("a", "a", "GO.MOD"), api.ErrTwice},
		"a name like go.mod ahead of a clash":   {treeOf("GO.MOD", "a", "a"), api.ErrName},
		"too large ahead of a clash":            {join(sized("b", 4001), treeOf("a", "a")), api.ErrLarge},
		"one too many ahead of a clash":         {join(numbered(61, 0), treeOf("f1000")), api.ErrMany},
		"all too large ahead of like go.mod":    {join(numbered(4, 4000), sized("y", 1), treeOf("GO.MOD")), api.ErrLarge},
		"what is left out has no error":         {join(numbered(60, 0), treeOf("GO.MOD@", "a:", "vendor/x/y", "f1000")), api.ErrTwice},
		"the names are by bytes, not by order":  {join(treeOf("z"), numbered(60, 0), treeOf("Z")), api.ErrMany},
		"the 61st is too large by all":          {join(numbered(60, 266), sized("z", 4000)), api.ErrMany},
		"the last one within, all of them over": {join(numbered(3, 4000), sized("a", 3999), sized("b", 2)), api.ErrLarge},
	} {
		wantNoChoice(t, what, c.tree, c.want)
	}
}

func TestP5EndsWithLongNames(t *testing.T) {
	var tree []api.Entry
	for i := range 200 {
		tree = append(tree, api.Entry{Name: strings.Repeat("a/", 100000) + strconv.Itoa(i) + "/go.mod"})
	}
	if _, left, fault := Choose(tree); len(left) != 200 || left[0].Reason != api.Nested || fault != api.OK {
		t.Errorf("P5: of long names: %d left, %d", len(left), fault)
	}
}

// P1: nothing that is handed in is changed, nor what stands behind it; nothing that comes out is shared.
func TestP1ChooseSharesNothing(t *testing.T) {
	room := append(numbered(50, 3), treeOf("x@", "a:", "y", "b", "behind", "behind it")...)
	tree := room[:54]
	before := slices.Clone(room)
	files, left, fault := Choose(tree)
	if fault != api.OK {
		t.Fatalf("P1: %d", fault)
	}
	again, leftAgain, _ := Choose(tree)
	for i := range files[:cap(files)] {
		files[:cap(files)][i] = api.File{Name: "?", Data: "?"}
	}
	for i := range left[:cap(left)] {
		left[:cap(left)][i] = api.Left{Name: "?"}
	}
	if !slices.Equal(room, before) {
		t.Errorf("P1: what was handed in is changed")
	}
	third, leftThird, _ := Choose(tree)
	if !reflect.DeepEqual(again, third) || !reflect.DeepEqual(leftAgain, leftThird) {
		t.Errorf("P1: an answer is shared")
	}
	for _, file := range third[len(third):cap(third)] {
		if file != (api.File{}) {
			t.Errorf("P1: in the spare room stands %v", file)
		}
	}
	for _, one := range leftThird[len(leftThird):cap(leftThird)] {
		if one != (api.Left{}) {
			t.Errorf("P1: in the spare room stands %v", one)
		}
	}
}

func TestP1ChooseSideBySide(t *testing.T) {
	tree := append(numbered(50, 100), treeOf("a/go.mod", "a/b", "vendor/x/y", "b@")...)
	wantFiles, wantLeft, _ := Choose(tree)
	var all sync.WaitGroup
	for range 8 {
		all.Add(1)
		go func() {
			defer all.Done()
			for range 20 {
				if files, left, fault := Choose(tree); fault != api.OK || !slices.Equal(files, wantFiles) || !slices.Equal(left, wantLeft) {
					t.Errorf("P1: side by side: %d", fault)
				}
			}
		}()
	}
	all.Wait()
}
