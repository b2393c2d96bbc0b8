package valise

import (
	"maps"
	"math/rand"
	"slices"
	"strings"
	"testing"

	"valise/api"
	"valise/disk"
)

// stands is what stands on a disk, by paths: aFolder, or `=` and a file's bytes.
type stands map[string]string

const aFolder = "/"

// standing tells what stands on a disk.
func standing(d *disk.Disk) stands {
	s := stands{}
	s.take(d, "")
	return s
}

func (s stands) take(d *disk.Disk, in string) {
	names, _ := d.Names(in)
	for _, name := range names {
		path := strings.TrimPrefix(in+"/"+name, "/")
		if data, ok := d.Read(path); ok {
			s[path] = "=" + data
			continue
		}
		s[path] = aFolder
		s.take(d, path)
	}
}

// made makes a disk on which that stands.
func (s stands) made(t *testing.T) *disk.Disk {
	t.Helper()
	d := disk.New()
	for _, path := range slices.Sorted(maps.Keys(s)) {
		data, ok := strings.CutPrefix(s[path], "=")
		if ok && d.Write(path, data) != disk.OK || !ok && d.Mkdir(path) != disk.OK {
			t.Fatalf("%q can't stand on a disk", path)
		}
	}
	return d
}

// hasFolderOf tells whether what a path stands in is a folder.
func (s stands) hasFolderOf(path string) bool {
	end := strings.LastIndex(path, "/")
	return end < 0 || s[path[:end]] == aFolder
}

// isWithin tells whether a path is another one, or stands in it.
func isWithin(path, up string) bool {
	return path == up || strings.HasPrefix(path, up+"/")
}

// within is what stands at a path, without is all else.
func (s stands) within(up string) stands {
	part := maps.Clone(s)
	maps.DeleteFunc(part, func(path, _ string) bool { return !isWithin(path, up) })
	return part
}

func (s stands) without(up string) stands {
	part := maps.Clone(s)
	maps.DeleteFunc(part, func(path, _ string) bool { return isWithin(path, up) })
	return part
}

// with is that, and files in a folder at a path.
func (s stands) with(path string, files []api.File) stands {
	all := maps.Clone(s)
	all[path] = aFolder
	for _, file := range files {
		for end, c := range file.Name {
			if c == '/' {
				all[path+"/"+file.Name[:end]] = aFolder
			}
		}
		all[path+"/"+file.Name] = "=" + file.Data
	}
	return all
}

// bytes is how many bytes its files have.
func (s stands) bytes() int {
	count := 0
	for _, what := range s {
		count += len(strings.TrimPrefix(strings.TrimPrefix(what, "="), aFolder))
	}
	return count
}

// isPartOf tells whether all that stands there is the same in another.
func (s stands) isPartOf(other stands) bool {
	for path, what := range s {
		if other[path] != what {
			return false
		}
	}
	return true
}

// aroundPaths are paths at some places, at their sides and beside them, what they stand in first.
func aroundPaths() []string {
	return []string{
		"cache", "m", "m.tmp", "n.tmp", "cache.tmp", "tmp", ".tmp", "m.tmp.tmp", "M.tmp",
		"m/a", "m.tmp/go.mod", "m.tmp/a", "m.tmp/a/b", "m.tmp/m", "m.tmp/m.tmp",
		"cache/m", "cache/m.tmp", "cache/m.tm", "cache/m.tmpx", "cache/m.tmp.tmp", "cache/M.tmp", "cache/ m.tmp", "cache/.tmp", "cache/m-", "cache/m0", "cache/x",
		"cache/m/a", "cache/m.tmp/go.mod", "cache/m.tmp/a", "cache/m.tmp/a/b", "cache/m.tmp/a/b/c", "cache/m.tmp/a/d", "cache/m.tmp/a-", "cache/m.tmp/a0", "cache/m.tmp/a.tmp", "cache/m.tmp/a.tmp/go.mod", "cache/m.tmp/a.tmp/a", "cache/m.tmp/m.tmp", "cache/m.tmp/cache", "cache/m.tmp/\x00\xff", "cache/m.tmp.tmp/a", "cache/m.tmpx/a",
	}
}

// drawnStands is some of these, and of each place and side often nothing.
func drawnStands(r *rand.Rand) stands {
	s := stands{}
	for _, path := range aroundPaths() {
		switch draw := r.Intn(6); {
		case !s.hasFolderOf(path):
		case draw < 3:
			s[path] = aFolder
		case draw < 5:
			s[path] = "=" + noise(r, r.Intn(12), 256)
		}
	}
	if r.Intn(3) > 0 {
		s = s.without("cache/m")
	}
	if r.Intn(3) > 0 {
		s = s.without("m")
	}
	return s
}
