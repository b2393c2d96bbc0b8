package names

import (
	"math/rand"
	"strings"
	"testing"
)

func TestIsFile(t *testing.T) {
	long := strings.Repeat("n", 80)
	for _, name := range []string{
		"a", "Z", "0", "a/b", "A/b/C.go", ".x", "..x", "x.y.z", "a b", " a", "-", "~", "a/.git", "go.mod",
		"!#$%&()+,-.=@[]^_{}~", "con1", "xcon", "co", "com", "com0", "com10", "comx", "lpt", "lpt0", "lpt00", "au", "auxx", "nul1", ".con", "..con", "x/.nul",
		"com 1", "co.m1", "x.con", "x.aux.y", "con x", long, strings.Repeat("n/", 39) + "nn",
	} {
		if !IsFile(name) {
			t.Errorf("%q is not taken for a file's name", name)
		}
	}
	for _, name := range []string{
		"", "/", "/a", "a/", "a//b", ".", "..", "...", "a/.", "a/..", "./a", "../a", "a/../b", "a.", "a./b", "a ", "a /b", " ", "a/ /b",
		"con", "CON", "Con", "con.x", "con.", "a/con", "con/a", "coN.x.y", "prn", "aux", "nul", "PRN.x", "Aux.go", "nUl",
		"com1", "COM9", "com1.x", "lpt1", "Lpt9.x.y", "a/lpt5/b", long + "n", strings.Repeat("n/", 40) + "n",
	} {
		if IsFile(name) {
			t.Errorf("%q is taken for a file's name", name)
		}
	}
	for digit := byte('1'); digit <= '9'; digit++ {
		if IsFile("com"+string(digit)) || IsFile("LPT"+string(digit)+".x") {
			t.Errorf("a device %c is taken for a file's name", digit)
		}
	}
}

// Each value of a byte, at the beginning, between others and at the end.
func TestBytesOfNames(t *testing.T) {
	const letters = "abcdefghijklmnopqrstuvwxyzABCDEFGHIJKLMNOPQRSTUVWXYZ0123456789"
	for value := range 256 {
		c := string([]byte{byte(value)})
		want := strings.Contains(letters+"!#$%&()+,-.=@[]^_{}~ ", c)
		if got := IsFile("x" + c + "y"); got != (want || c == "/") {
			t.Errorf("%q within a file's name: %v", c, got)
		}
		if got := IsFile(c + "y"); got != want {
			t.Errorf("%q ahead in a file's name: %v", c, got)
		}
		if got := IsFile("x" + c); got != (want && c != "." && c != " ") {
			t.Errorf("%q behind in a file's name: %v", c, got)
		}
		inModule := strings.Contains("abcdefghijklmnopqrstuvwxyz0123456789.-_~", c)
		if got := isModule("m.x/x" + c + "y"); got != (inModule || c == "/") {
			t.Errorf("%q within a module's name: %v", c, got)
		}
		if got := isModule("m.x/" + c + "y"); got != (inModule && c != ".") {
			t.Errorf("%q ahead in a module's element: %v", c, got)
		}
		if got := isModule("m.x/x" + c); got != (inModule && c != ".") {
			t.Errorf("%q behind in a module's element: %v", c, got)
		}
		if _, got := majorOf("v1.2.3-x" + c + "y"); got != strings.Contains(letters+".-", c) {
			t.Errorf("%q in a version's mark: %v", c, got)
		}
		if _, got := majorOf("v1.2" + c + ".3"); got != strings.Contains("0123456789", c) {
			t.Errorf("%q in a version's number: %v", c, got)
		}
	}
}

func TestPrefix(t *testing.T) {
	longest := strings.Repeat("m.", 39) + "xy"
	for _, c := range [][2]string{
		{"m.x", "v0.0.0"}, {"m.x", "v1.0.0"}, {"m.x", "v0.2.2"}, {"m.x", "v1.99999.99999"}, {"m.x", "v1.10.100"},
		{"m.x/v2", "v2.0.0"}, {"m.x/v9", "v9.0.0"}, {"m.x/v10", "v10.0.0"}, {"m.x/v99999", "v99999.0.0"}, {"m.x/v1/v2", "v2.0.0"}, {"m.x/v3/v2", "v2.0.0"},
		{"m.x/v2/x", "v1.0.0"}, {"m.x/v", "v0.0.0"}, {"m.x/v2x", "v1.0.0"}, {"m.x/vv2", "v0.0.0"}, {"m.x/xv2", "v1.0.0"}, {"m.x/v.2", "v1.0.0"}, {"m.x/v-2", "v1.0.0"}, {"m.x/2", "v1.0.0"},
		{"m..x", "v1.0.0"}, {"0.1", "v1.0.0"}, {"m.x/~-_", "v1.0.0"}, {"-.-", "v1.0.0"}, {"m.x/y.z", "v1.0.0"},
		{"m.x", "v1.0.0-a"}, {"m.x", "v1.0.0--"}, {"m.x", "v1.0.0-."}, {"m.x", "v1.0.0-0.0-A.Z-z"}, {"m.x", "v1.0.0-" + strings.Repeat("a", 20)}, {longest, "v1.0.0"},
	} {
		if got, ok := Prefix(c[0], c[1]); !ok || got != c[0]+"@"+c[1]+"/" {
			t.Errorf("of %q and %q the prefix is %q, %v", c[0], c[1], got, ok)
		}
	}
	for _, c := range [][2]string{
		{"", "v1.0.0"}, {"m", "v1.0.0"}, {"m/x.y", "v1.0.0"}, {"/m.x", "v1.0.0"}, {"m.x/", "v1.0.0"}, {"m.x//y", "v1.0.0"}, {"/", "v1.0.0"},
		{".m", "v1.0.0"}, {"m.", "v1.0.0"}, {".", "v1.0.0"}, {"m.x/.y", "v1.0.0"}, {"m.x/y.", "v1.0.0"}, {"m.x/..", "v1.0.0"}, {"M.x", "v1.0.0"}, {"m.x/Y", "v1.0.0"}, {longest + "z", "v1.0.0"},
		{"m.x", ""}, {"m.x", "v"}, {"m.x", "1.0.0"}, {"m.x", "V1.0.0"}, {"m.x", "vv1.0.0"}, {"m.x", " v1.0.0"}, {"m.x", "v1"}, {"m.x", "v1.0"}, {"m.x", "v1.0.0.0"}, {"m.x", "v1.0."}, {"m.x", "v.0.0"}, {"m.x", "v1..0"},
		{"m.x", "v00.0.0"}, {"m.x", "v01.0.0"}, {"m.x", "v1.00.0"}, {"m.x", "v1.0.01"}, {"m.x", "v1.0.100000"}, {"m.x", "v1.100000.0"}, {"m.x/v100000", "v100000.0.0"}, {"m.x", "v1.0.x"}, {"m.x", "v1.-0.0"},
		{"m.x", "v1.0.0-"}, {"m.x", "v1.0.0+x"}, {"m.x", "v1.0.0-x+y"}, {"m.x", "v1.0.0-x_y"}, {"m.x", "v1.0.0-é"}, {"m.x", "v1.0-x.0"}, {"m.x", "v1.0.0-" + strings.Repeat("a", 21)},
		{"m.x", "v2.0.0"}, {"m.x/v2", "v0.0.0"}, {"m.x/v2", "v1.0.0"}, {"m.x/v0", "v0.0.0"}, {"m.x/v1", "v1.0.0"}, {"m.x/v02", "v1.0.0"}, {"m.x/v02", "v2.0.0"}, {"m.x/v2", "v3.0.0"}, {"m.x/v2", "v22.0.0"}, {"m.x/v22", "v2.0.0"},
		{"m.x/v2/x", "v2.0.0"}, {"m.x/2", "v2.0.0"}, {"m.xv2", "v2.0.0"}, {"v2", "v2.0.0"}, {"m.x/v123456789", "v1.0.0"},
		{"m.x/v", ""}, {"m.x/v", "1.0.0"}, {"m.x/v", "v"}, {"m.x/v", "v.0.0"}, {"m.x/v", "v1.0"}, {"m.x/v", "v1.0.0-"},
	} {
		if got, ok := Prefix(c[0], c[1]); ok || got != "" {
			t.Errorf("%q and %q are taken for a module's: %q", c[0], c[1], got)
		}
	}
}

func TestIsOtherGoMod(t *testing.T) {
	for name, want := range map[string]bool{"go.mod": false, "GO.MOD": true, "Go.mod": true, "go.moD": true, "a/GO.MOD": false, "go.mo": false, "": false, "GO.MODx": false} {
		if got := IsOtherGoMod(name); got != want {
			t.Errorf("%q: %v", name, got)
		}
	}
}

func TestMostBytes(t *testing.T) {
	for name, want := range map[string]int{"go.mod": 500, "LICENSE": 500, "license": 4000, "a/go.mod": 4000, "a/LICENSE": 4000, "LICENSE.md": 4000, "a": 4000} {
		if got := MostBytes(name); got != want {
			t.Errorf("%q: %d, want %d", name, got, want)
		}
	}
}

// clash is what the document says, of two names alone.
func clash(a, b string) bool {
	as, bs := strings.Split(a, "/"), strings.Split(b, "/")
	for i := range min(len(as), len(bs)) {
		if as[i] != bs[i] {
			return strings.EqualFold(as[i], bs[i])
		}
	}
	return true
}

func TestMet(t *testing.T) {
	for _, c := range []struct {
		a, b string
		want bool
	}{
		{"a", "a", true}, {"a", "A", true}, {"a", "b", false}, {"a", "a/b", true}, {"a", "A/b", true}, {"a/b", "A/c", true}, {"a/b", "A", true}, {"a/b", "a/B", true}, {"a/b", "a/c", false},
		{"x/a/b", "y/A/c", false}, {"x/a", "y/A", false}, {"a/b", "ab", false}, {"a", "ab", false}, {"a.b", "a/b", false}, {"a/b/c", "a/b", true}, {"a/b/c", "a/B/d", true}, {"a/b/c", "a/x/C", false}, {"a/b/c", "A/x/y", true}, {"a^", "a~", false}, {"a@", "a`", false}, {"[", "{", false},
	} {
		for _, pair := range [][2]string{{c.a, c.b}, {c.b, c.a}} {
			met := Met{}
			if met.Clashes(pair[0]) {
				t.Errorf("%q clashes with nothing", pair[0])
			}
			met.Add(pair[0])
			if got := met.Clashes(pair[1]); got != c.want || clash(pair[0], pair[1]) != c.want {
				t.Errorf("%q and %q: %v, want %v", pair[0], pair[1], got, c.want)
			}
		}
	}
}

func TestFolders(t *testing.T) {
	for name, want := range map[string]string{"": "", "a": "", "a/b": "a", "aa/b/c.d": "aa|aa/b", "a/b/c/d": "a|a/b|a/b/c"} {
		if got := strings.Join(Folders(name), "|"); got != want {
			t.Errorf("%q stands in %q, want %q", name, got, want)
		}
	}
}

// Names of few letters, one behind the other, held against what is said of each two.
func TestMetOfMany(t *testing.T) {
	r := rand.New(rand.NewSource(7))
	for range 3000 {
		met, list := Met{}, []string(nil)
		for range 8 {
			name := drawnName(r)
			want := false
			for _, old := range list {
				want = want || clash(old, name)
			}
			if got := met.Clashes(name); got != want {
				t.Fatalf("%q behind %q: %v, want %v", name, list, got, want)
			}
			if !want {
				met.Add(name)
				list = append(list, name)
			}
		}
	}
}

func drawnName(r *rand.Rand) string {
	name := ""
	for i := range 1 + r.Intn(3) {
		if i > 0 {
			name += "/"
		}
		for range 1 + r.Intn(2) {
			name += string("abAB"[r.Intn(4)])
		}
	}
	return name
}
