package valise

import (
	"crypto/sha256"
	"encoding/base64"
	"encoding/hex"
	"math/rand"
	"slices"
	"strings"
	"testing"

	"valise/api"
)

// sumSaid is the sum as the document says it, by the library; the names rise.
func sumSaid(prefix string, files []api.File) string {
	lines := ""
	for _, file := range files {
		one := sha256.Sum256([]byte(file.Data))
		lines += hex.EncodeToString(one[:]) + "  " + prefix + file.Name + "\n"
	}
	all := sha256.Sum256([]byte(lines))
	return "h1:" + base64.StdEncoding.EncodeToString(all[:])
}

func TestP8KnownSums(t *testing.T) {
	if sum, fault := Sum(module, version, nil); sum != "h1:47DEQpj8HBSa+/TImW+5JCeuQeRkm5NMpJWZG3hSuFU=" || fault != api.OK {
		t.Errorf("P8: of nothing: %q, %d", sum, fault)
	}
	files := []api.File{{Name: "go.mod", Data: "module m.x/y\n"}, {Name: "a.go", Data: "package a\n"}}
	if sum, fault := Sum(module, version, files); sum != "h1:K4fmBnkfgvHxr6Y25yQxhHB8I+n+vx2iv6T2UuVpLbI=" || fault != api.OK {
		t.Errorf("P8: %q, %d", sum, fault)
	}
}

// So many sums that each letter is met.
func TestP8SumsInAnyOrder(t *testing.T) {
	r := rand.New(rand.NewSource(8))
	letters := map[rune]int{}
	for range 300 {
		files, _, _ := Choose(drawnTree(r))
		want := sumSaid(prefix, files)
		for _, letter := range want {
			letters[letter]++
		}
		for range 4 {
			if sum, fault := Sum(module, version, files); sum != want || fault != api.OK {
				t.Fatalf("P8: %q, %d, want %q", sum, fault, want)
			}
			r.Shuffle(len(files), func(i, j int) { files[i], files[j] = files[j], files[i] })
		}
	}
	if len(letters) != 66 { // 64, and `:` and `=`
		t.Errorf("%d letters are met", len(letters))
	}
}

func TestP8SumsDiffer(t *testing.T) {
	sums := map[string]string{}
	for what, c := range map[string]struct {
		module, version string
		files           []api.File
	}{
		"nothing":         {module, version, nil},
		"one":             {module, version, []api.File{{Name: "a", Data: "b"}}},
		"of another name": {module, version, []api.File{{Name: "b", Data: "b"}}},
		"of other data":   {module, version, []api.File{{Name: "a", Data: "c"}}},
		"of two":          {module, version, []api.File{{Name: "a", Data: "b"}, {Name: "b", Data: "b"}}},
		"other module":    {"m.x/z", version, []api.File{{Name: "a", Data: "b"}}},
		"other version":   {module, "v1.2.4", []api.File{{Name: "a", Data: "b"}}},
	} {
		sum, fault := Sum(c.module, c.version, c.files)
		if fault != api.OK || sums[sum] != "" {
			t.Errorf("P8: %s: %q, %d, as %s", what, sum, fault, sums[sum])
		}
		sums[sum] = what
	}
}

// What a tree may not have, a sum may: it asks for names alone.
func TestP8SumsOfOtherFiles(t *testing.T) {
	for what, names := range map[string]string{"alike": "A|a", "one in the other": "a|a/b", "like go.mod": "GO.MOD|go.mod", "left out": ".git/a|a/go.mod|vendor/x/y"} {
		var files []api.File
		for _, name := range strings.Split(names, "|") {
			files = append(files, api.File{Name: name, Data: strings.Repeat("x", 5000)})
		}
		if sum, fault := Sum(module, version, files); sum != sumSaid(prefix, files) || fault != api.OK {
			t.Errorf("P8: %s: %q, %d", what, sum, fault)
		}
	}
	var many []api.File
	for _, entry := range numbered(3000, 1) {
		many = append(many, api.File{Name: entry.Name, Data: entry.Data})
	}
	want := sumSaid(prefix, many)
	slices.Reverse(many)
	if sum, fault := Sum(module, version, many); sum != want || fault != api.OK {
		t.Errorf("P8: of many: %q, %d", sum, fault)
	}
}

func TestP8SumErrors(t *testing.T) {
	for names, want := range map[string]api.Errno{
		"": api.ErrName, "a:": api.ErrName, "a|b/": api.ErrName, "a|nul": api.ErrName, strings.Repeat("n", 81): api.ErrName,
		"a|a": api.ErrTwice, "b|a|b": api.ErrTwice, "a/b|a/b": api.ErrTwice,
		"a|a|b:": api.ErrTwice, "b:|a|a": api.ErrName, "a|b:|a": api.ErrName, "a:|a:": api.ErrName,
	} {
		var files []api.File
		for _, name := range strings.Split(names, "|") {
			files = append(files, api.File{Name: name})
		}
		if sum, fault := Sum(module, version, files); sum != "" || fault != want {
			t.Errorf("P8: %q: %q, %d, want %d", names, sum, fault, want)
		}
		for _, no := range noModules() {
			if sum, fault := Sum(no[0], no[1], files); sum != "" || fault != api.ErrModule {
				t.Errorf("P8: %.40q, %.40q: %q, %d", no[0], no[1], sum, fault)
			}
		}
	}
}

func TestP8Verify(t *testing.T) {
	archive := archiveOf(asIs("a.go", "package a\n"), asIs("go.mod", "module m.x/y\n"))
	sum, _ := Sum(module, version, []api.File{{Name: "a.go", Data: "package a\n"}, {Name: "go.mod", Data: "module m.x/y\n"}})
	if fault := Verify(module, version, archive, sum); fault != api.OK {
		t.Errorf("P8: Verify: %d", fault)
	}
	others := []string{"", "h1:", sum[3:], "h2:" + sum[3:], sum + "=", sum + " ", " " + sum, sum[:46], strings.ToLower(sum), "h1:47DEQpj8HBSa+/TImW+5JCeuQeRkm5NMpJWZG3hSuFU="}
	for i := range len(sum) {
		others = append(others, turned(sum, i, 0))
	}
	for _, other := range others {
		if fault := Verify(module, version, archive, other); fault != api.ErrSum {
			t.Errorf("P8: Verify with %q: %d", other, fault)
		}
	}
	spoilt := archiveOf(asIs("a.go", "package a\n"), asIs("go.mod", "module m.x/z\n"))
	if fault := Verify(module, version, spoilt, sum); fault != api.ErrSum {
		t.Errorf("P8: Verify of other data: %d", fault)
	}
	if fault := Verify(module, version, archive+"x", sum); fault != api.ErrArchive {
		t.Errorf("P8: Verify of no archive: %d", fault)
	}
}

func TestP1SumChangesNothing(t *testing.T) {
	room := []api.File{{Name: "c", Data: "1"}, {Name: "a", Data: "2"}, {Name: "b", Data: "3"}, {Name: "behind"}}
	before := slices.Clone(room)
	if _, fault := Sum(module, version, room[:3]); fault != api.OK || !slices.Equal(room, before) {
		t.Errorf("P1: what was handed in is changed: %v, %d", room, fault)
	}
}
