package choose

import (
	"testing"

	"valise/api"
)

func TestFilesTellsBoth(t *testing.T) {
	files, left, fault := Files([]api.Entry{{Name: "b", Data: "1"}, {Name: "x/go.mod"}, {Name: "a", Data: "2"}, {Name: "c", Link: true}})
	if len(files) != 2 || files[0] != (api.File{Name: "a", Data: "2"}) || files[1] != (api.File{Name: "b", Data: "1"}) {
		t.Errorf("the files are %v", files)
	}
	if len(left) != 2 || left[0] != (api.Left{Name: "x/go.mod", Reason: api.Nested}) || left[1] != (api.Left{Name: "c", Reason: api.Link}) || fault != api.OK {
		t.Errorf("left out are %v, %d", left, fault)
	}
}

func TestNestedFolders(t *testing.T) {
	nested := nestedFolders([]api.Entry{{Name: "go.mod"}, {Name: "a/go.mod"}, {Name: "b/go.mod", Link: true}, {Name: "c/d/go.mod"}, {Name: "e/xgo.mod"}})
	for name, want := range map[string]bool{"x": false, "go.mod": false, "a": false, "a/x": true, "a/x/y": true, "ab/x": false, "b/x": false, "c/x": false, "c/d": false, "c/d/x": true, "e/x": false} {
		if got := nested.have(name); got != want {
			t.Errorf("%q: %v", name, got)
		}
	}
}

func TestIsVendored(t *testing.T) {
	for name, want := range map[string]bool{"vendor/a": false, "vendor/a/b": true, "x/vendor/a": false, "x/vendor/a/b": true, "xvendor/a/b": false, "vendor/vendor/a": true, "x/vendor/vendor/a": true, "vendor": false, "": false} {
		if got := isVendored(name); got != want {
			t.Errorf("%q: %v", name, got)
		}
	}
}

func TestIsHidden(t *testing.T) {
	for name, want := range map[string]bool{".git": false, ".git/a": true, "a/.svn/b": true, "a/.hg": false, ".bzr/": true, ".gitx/a": false, "": false} {
		if got := isHidden(name); got != want {
			t.Errorf("%q: %v", name, got)
		}
	}
}
