package places

import (
	"slices"
	"strings"
	"testing"

	"valise/api"
	"valise/disk"
)

func TestIs(t *testing.T) {
	for path, want := range map[string]bool{
		"a": true, "a/b": true, "tmp": true, "a/tmp": true, "a.tmp/b": true, ".tmp/b": true, "a.tmp.b": true, "a.TMP": true, "..": true, "\x00\xff": true, strings.Repeat("p", 80): true,
		"": false, "/": false, "/a": false, "a/": false, "a//b": false, ".tmp": false, "a.tmp": false, "a/.tmp": false, "a/b.tmp": false, strings.Repeat("p", 81): false,
	} {
		if got := Is(path); got != want {
			t.Errorf("%q: %v", path, got)
		}
	}
}

func TestStandsInFolder(t *testing.T) {
	d := disk.New()
	d.Mkdir("folder")
	d.Write("folder/file", "x")
	for place, want := range map[string]bool{"new": true, "folder": true, "folder/new": true, "folder/file/new": false, "none/new": false, "folder/none/new": false} {
		if got := standsInFolder(d, place); got != want {
			t.Errorf("%q: %v", place, got)
		}
	}
}

// Each folder is made once, so that no step is answered by anything but OK.
func TestStepsOfLay(t *testing.T) {
	d := disk.New()
	files := []api.File{{Name: "a/b/c"}, {Name: "a/b/d"}, {Name: "a/e"}, {Name: "ab/e"}}
	if fault := Lay(d, "p", files); fault != api.OK {
		t.Errorf("Lay: %d", fault)
	}
	if want := 1 + 3 + 4 + 1; d.Steps() != want {
		t.Errorf("%d steps, want %d", d.Steps(), want)
	}
}

// A folder goes behind all that stands in it; what stands beside stays.
func TestRemoveAll(t *testing.T) {
	d := disk.New()
	for _, path := range []string{"a", "a/b", "a/b/c", "ab"} {
		d.Mkdir(path)
	}
	for _, path := range []string{"a/b/c/d", "a/e", "a.", "a-", "a0"} {
		d.Write(path, "x")
	}
	steps := d.Steps()
	if !removeAll(d, "none") || d.Steps() != steps {
		t.Errorf("of nothing: %d steps", d.Steps()-steps)
	}
	if !removeAll(d, "a") || d.Steps() != steps+5 {
		t.Errorf("of a folder: %d steps", d.Steps()-steps)
	}
	if !removeAll(d, "a.") || d.Steps() != steps+6 {
		t.Errorf("of a file: %d steps", d.Steps()-steps)
	}
	if names, _ := d.Names(""); !slices.Equal(names, []string{"a-", "a0", "ab"}) {
		t.Errorf("there stands %q", names)
	}
	d.Stop(0)
	if removeAll(d, "a0") || d.Is("a0") == nothing {
		t.Errorf("a disk that has stopped removes")
	}
}

func TestClear(t *testing.T) {
	d := disk.New()
	d.Mkdir("p.tmp")
	d.Write("p.tmp/x", "x")
	d.Write("p", "kept")
	if fault := Clear(d, "p"); fault != api.OK || d.Is("p.tmp") != nothing || d.Is("p") == nothing {
		t.Errorf("Clear: %d", fault)
	}
	if fault := Clear(nil, "p"); fault != api.ErrDisk {
		t.Errorf("without a disk: %d", fault)
	}
}
