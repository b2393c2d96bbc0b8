package valise

import (
	"maps"
	"math/rand"
	"slices"
	"strings"
	"testing"
	"unsafe"

	"valise/api"
	"valise/disk"
)

// extracted is the files that most of these tests write, and their archive.
func extracted() ([]api.File, string) {
	long := strings.Repeat("long ", 30)
	files := []api.File{{Name: "a/b/c", Data: "1"}, {Name: "a/b/long", Data: long}, {Name: "a/d.tmp", Data: "2"}, {Name: "b", Data: ""}, {Name: "go.mod", Data: "module"}}
	packed, _ := Deflate(long)
	return files, archiveOf(asIs("a/b/c", "1"), packedAs("a/b/long", long, packed), asIs("a/d.tmp", "2"), asIs("b", ""), asIs("go.mod", "module"))
}

// wantStanding holds a disk against what should stand there.
func wantStanding(t *testing.T, what string, d *disk.Disk, want stands) {
	t.Helper()
	if got := standing(d); !maps.Equal(got, want) {
		t.Fatalf("%s: there stands %.300q, want %.300q", what, got, want)
	}
}

// wantExtracted holds Extract of these files against an answer and what stands there then.
func wantExtracted(t *testing.T, d *disk.Disk, place string, fault api.Errno, want stands) {
	t.Helper()
	_, archive := extracted()
	if got := Extract(d, place, module, version, archive); got != fault {
		t.Fatalf("P9: Extract to %.100q: %d, want %d", place, got, fault)
	}
	wantStanding(t, "P9: Extract to "+place, d, want)
}

// extractSaid is what the document says of an Extract of right files to a disk that goes.
func extractSaid(before stands, place string, files []api.File) (api.Errno, stands) {
	switch _, taken := before[place]; {
	case taken:
		return api.ErrTaken, before
	case !before.hasFolderOf(place):
		return api.ErrDisk, before
	}
	return api.OK, before.without(place+".tmp").with(place, files)
}

// somePlaces are places of which drawnStands tells something.
func somePlaces() []string {
	return []string{"m", "n", "cache/m", "cache/x", "cache/m/a", "cache/m.tmp/a", "cache/m.tmp/a/b", "cache/m.tmp/m", "cache/m.tmpx/a/b", "cache/m.tm", "none/m", "cache"}
}

func TestP9OnAnyDisk(t *testing.T) {
	r := rand.New(rand.NewSource(9))
	files, _ := extracted()
	answers := map[api.Errno]int{}
	for range 300 {
		before := drawnStands(r)
		for _, place := range somePlaces() {
			fault, after := extractSaid(before, place, files)
			wantExtracted(t, before.made(t), place, fault, after)
			answers[fault]++
		}
	}
	if answers[api.OK] < 100 || answers[api.ErrTaken] < 100 || answers[api.ErrDisk] < 100 {
		t.Errorf("the answers are %v", answers)
	}
}

func TestP9JustTheFiles(t *testing.T) {
	d := disk.New()
	for _, c := range []struct {
		place string
		files []lying
		want  []api.File
	}{
		{"none", nil, nil},
		{"one", []lying{asIs("a", "x")}, []api.File{{Name: "a", Data: "x"}}},
		{"empty", []lying{asIs("a", "")}, []api.File{{Name: "a"}}},
		{"deep", []lying{asIs(strings.Repeat("a/", 39)+"aa", "x")}, []api.File{{Name: strings.Repeat("a/", 39) + "aa", Data: "x"}}},
		{"mixed", []lying{asIs("a-b", "1"), asIs("a.b", "2"), asIs("a/b", "3"), asIs("a/c/d", "4"), asIs("ab/c/d", "5")}, []api.File{{Name: "a-b", Data: "1"}, {Name: "a.b", Data: "2"}, {Name: "a/b", Data: "3"}, {Name: "a/c/d", Data: "4"}, {Name: "ab/c/d", Data: "5"}}},
		{"left out of a tree", []lying{asIs(".git/a", "1"), asIs("a/go.mod", "2"), asIs("vendor/x/y", "3")}, []api.File{{Name: ".git/a", Data: "1"}, {Name: "a/go.mod", Data: "2"}, {Name: "vendor/x/y", Data: "3"}}},
		{"as the place", []lying{asIs("as the place", "1"), asIs("as the place.tmp", "2")}, []api.File{{Name: "as the place", Data: "1"}, {Name: "as the place.tmp", Data: "2"}}},
	} {
		want := standing(d).with(c.place, c.want)
		if fault := Extract(d, c.place, module, version, archiveOf(c.files...)); fault != api.OK {
			t.Errorf("P9: %s: %d", c.place, fault)
		}
		wantStanding(t, "P9: "+c.place, d, want)
	}
}

// As many, and as large ones, as an archive may have.
func TestP9TheLargest(t *testing.T) {
	longModule, longVersion, tree := largest(t, 40000)
	for i := range tree {
		name := []byte(tree[i].Name)
		for at := 1; at < 60; at += 2 {
			name[at] = '/'
		}
		name[0] = byte('a' + i%20)
		tree[i].Name = string(name)
	}
	files, _, _ := Choose(tree)
	archive, _ := Pack(longModule, longVersion, tree)
	d := disk.New()
	if fault := Extract(d, "p", longModule, longVersion, archive); fault != api.OK || len(files) != 60 {
		t.Errorf("P9: of %d files: %d", len(files), fault)
	}
	wantStanding(t, "P9: the largest", d, stands{}.with("p", files))
}

func rightPlaces() []string {
	return []string{"a", "a/b", "a/b/c", "tmp", "a/tmp", ".tm", "a.tmpx", "a.tmp.x", "x.tmp/y", ".tmp/a", "a.TMP", "a.tmp ", ".", "..", "a/..", " ", "\x00", "\xff/\xc3\x28", "größer", "go.mod", "con", "a:\\*?", "a\n", strings.Repeat("p", 80), strings.Repeat("p/", 39) + "pp", strings.Repeat("ö", 40)}
}

func wrongPlaces() []string {
	return []string{"", "/", "//", "/a", "a/", "a//b", "//a", "a//", "a/b/", ".tmp", "a.tmp", "a/.tmp", "a/b.tmp", ".tmp.tmp", "a.tmp/b.tmp", "\xff.tmp", strings.Repeat("p", 81), strings.Repeat("p/", 40) + "p", strings.Repeat("p", 77) + ".tmp", strings.Repeat("p", 76) + ".tmp", strings.Repeat("ö", 41), strings.Repeat("/", 1000000), strings.Repeat("p", 1000000)}
}

func TestP9Places(t *testing.T) {
	files, archive := extracted()
	for _, place := range rightPlaces() {
		before := stands{"beside": "=kept"}
		for end := range len(place) {
			if place[end] == '/' {
				before[place[:end]] = aFolder
			}
		}
		side := stands{place + ".tmp": aFolder, place + ".tmp/old": "=old"}
		d := before.made(t)
		d.Mkdir(place + ".tmp")
		d.Write(place+".tmp/old", "old")
		wantStanding(t, "P10: the side", d, union(before, side))
		if fault := Recover(d, place); fault != api.OK {
			t.Errorf("P10: Recover of %q: %d", place, fault)
		}
		wantStanding(t, "P10: Recover of "+place, d, before)
		wantExtracted(t, d, place, api.OK, before.with(place, files))
	}
	for _, place := range wrongPlaces() {
		d := stands{"a": aFolder, "a.tmp": aFolder, ".tmp": "=x", "a.tmp/b.tmp": aFolder}.made(t)
		before, steps := standing(d), d.Steps()
		wantExtracted(t, d, place, api.ErrPlace, before)
		if fault := Recover(d, place); fault != api.ErrPlace || d.Steps() != steps {
			t.Errorf("P10: Recover of %.100q: %d, %d steps", place, fault, d.Steps()-steps)
		}
		wantStanding(t, "P10: Recover", d, before)
		if fault := Extract(nil, place, "", "", archive); fault != api.ErrPlace {
			t.Errorf("P9: Extract of nothing right to %.100q: %d", place, fault)
		}
	}
}

func union(a, b stands) stands {
	all := maps.Clone(a)
	maps.Copy(all, b)
	return all
}

// stoppedDisk is one that has stopped, with that on it.
func stoppedDisk(t *testing.T, s stands) *disk.Disk {
	t.Helper()
	d := s.made(t)
	d.Stop(0)
	if d.Remove("?"); !d.Down() {
		t.Fatalf("the disk goes on")
	}
	return d
}

// badArchives is an archive for each of Unpack's errors, in their order.
func badArchives() []struct {
	module, archive string
	want            api.Errno
} {
	spoilt := asIs("a", "xyz")
	spoilt.check++
	long := asIs("a", "xyz")
	long.size = 4001
	uneven := asIs("a", "xyz")
	uneven.size = 4
	return []struct {
		module, archive string
		want            api.Errno
	}{
		{"m", strings.Repeat("x", 40001), api.ErrModule},
		{"m.x/v2", archiveOf(), api.ErrModule},
		{module, strings.Repeat("x", 40001), api.ErrLarge},
		{module, "junk", api.ErrArchive},
		{module, "", api.ErrArchive},
		{module, archiveOf(asIs("b", ""), asIs("a", "")), api.ErrArchive},
		{module, archiveOf(asIs("../a", "")), api.ErrName},
		{module, archiveOf(asIs("/a", "")), api.ErrName},
		{module, archiveOf(asIs("GO.mod", "")), api.ErrName},
		{module, archiveOf(asIs("A", ""), asIs("a/b", "")), api.ErrTwice},
		{module, archiveOf(long), api.ErrLarge},
		{module, archiveOf(uneven), api.ErrArchive},
		{module, archiveOf(packedAs("a", "", "\x07")), api.ErrData},
		{module, archiveOf(spoilt), api.ErrCheck},
	}
}

// An archive's error is told ahead of what is wrong with the disk, and nothing on it is changed.
func TestP9ArchivesErrorsFirst(t *testing.T) {
	onDisk := stands{"cache": aFolder, "cache/m": aFolder, "cache/m.tmp": "=old", "cache/x.tmp": aFolder, "file": "=x"}
	for _, c := range badArchives() {
		for _, place := range []string{"cache/m", "cache/x", "file", "file/m", "none/m", "new"} {
			for _, d := range []*disk.Disk{onDisk.made(t), stoppedDisk(t, onDisk)} {
				steps := d.Steps()
				if fault := Extract(d, place, c.module, version, c.archive); fault != c.want || d.Steps() != steps {
					t.Errorf("P9: %.60q to %s: %d, want %d", c.archive, place, fault, c.want)
				}
				wantStanding(t, "P9: of no archive", d, onDisk)
			}
			if fault := Extract(nil, place, c.module, version, c.archive); fault != c.want {
				t.Errorf("P9: %.60q to %s without a disk: %d, want %d", c.archive, place, fault, c.want)
			}
		}
		if fault := Extract(onDisk.made(t), "m.tmp", c.module, version, c.archive); fault != api.ErrPlace {
			t.Errorf("P9: %.60q to no place: %d", c.archive, fault)
		}
	}
}

// A disk that isn't there, or has stopped, is told ahead of what is on it; that, ahead of any step.
func TestP9DisksErrors(t *testing.T) {
	onDisk := stands{"cache": aFolder, "cache/m": aFolder, "cache/m.tmp": "=old", "cache/x.tmp": aFolder, "file": "=x", "file.tmp": "=y"}
	_, archive := extracted()
	for place, want := range map[string]api.Errno{
		"cache": api.ErrTaken, "cache/m": api.ErrTaken, "file": api.ErrTaken, "file/m": api.ErrDisk, "file/m/n": api.ErrDisk, "none/m": api.ErrDisk, "cache/none/m": api.ErrDisk, "cache/x.tmp/a/b": api.ErrDisk, "cache/m.tmp/a": api.ErrDisk,
	} {
		d := onDisk.made(t)
		d.Stop(0)
		d.Room(0)
		wantExtracted(t, d, place, want, onDisk)
		if d.Down() {
			t.Errorf("P9: to %s: a step is asked for", place)
		}
		wantExtracted(t, stoppedDisk(t, onDisk), place, api.ErrDisk, onDisk)
		if fault := Extract(nil, place, module, version, archive); fault != api.ErrDisk {
			t.Errorf("P9: without a disk: %d", fault)
		}
	}
	wantExtracted(t, stoppedDisk(t, onDisk), "new", api.ErrDisk, onDisk)
	wantExtracted(t, &disk.Disk{}, "new", api.ErrDisk, stands{})
}

// besideIsKept holds a disk on which an Extract failed against what stood there.
func besideIsKept(t *testing.T, what string, d *disk.Disk, place string, before stands) {
	t.Helper()
	files, _ := extracted()
	side := place + ".tmp"
	after := standing(d)
	if !maps.Equal(after.without(side), before.without(side)) || len(after.within(place)) != 0 {
		t.Fatalf("P9: %s: there stands %.300q, stood %.300q", what, after, before)
	}
	left := after.within(side)
	if !left.isPartOf(before) && !left.isPartOf(stands{}.with(side, files)) {
		t.Fatalf("P9: %s: at the side is %.300q", what, left)
	}
}

// laidBehind holds that Recover, and an Extract behind it or without it, do what they should.
func laidBehind(t *testing.T, d *disk.Disk, place string, before stands) {
	t.Helper()
	files, _ := extracted()
	clean := before.without(place + ".tmp")
	wantExtracted(t, d.Copy(), place, api.OK, clean.with(place, files))
	again := d.Copy()
	if fault := Recover(again, place); fault != api.OK {
		t.Fatalf("P10: Recover behind a stop: %d", fault)
	}
	wantStanding(t, "P10: Recover behind a stop", again, clean)
	wantExtracted(t, again, place, api.OK, clean.with(place, files))
}

// freeStands are drawn ones on which a place is free, with at least so much at its side.
func freeStands(r *rand.Rand, place string, atSide int) stands {
	for {
		s := drawnStands(r).without(place)
		if s.hasFolderOf(place) && len(s.within(place+".tmp")) >= atSide {
			return s
		}
	}
}

func TestP9StoppedAtEveryStep(t *testing.T) {
	r := rand.New(rand.NewSource(99))
	files, archive := extracted()
	for i := range 60 {
		place := []string{"cache/m", "m", "cache/m.tmp/a"}[i%3]
		before := freeStands(r, place, i%4)
		whole := before.made(t)
		from := whole.Steps()
		wantExtracted(t, whole, place, api.OK, before.without(place+".tmp").with(place, files))
		steps := whole.Steps() - from
		for stop := range steps + 3 {
			d := before.made(t)
			d.Stop(stop)
			fault := Extract(d, place, module, version, archive)
			if stop >= steps {
				wantStanding(t, "P9: stopped behind all steps", d, standing(whole))
			} else {
				besideIsKept(t, "stopped", d, place, before)
				laidBehind(t, d, place, before)
			}
			if (fault == api.OK) != (stop >= steps) || fault != api.OK && fault != api.ErrDisk {
				t.Fatalf("P9: stopped behind %d steps of %d: %d", stop, steps, fault)
			}
		}
	}
}

func TestP9NoRoom(t *testing.T) {
	r := rand.New(rand.NewSource(999))
	files, archive := extracted()
	need := stands{}.with("p", files).bytes()
	for i := range 20 {
		place := []string{"cache/m", "m"}[i%2]
		before := freeStands(r, place, i%4)
		clean := before.without(place + ".tmp")
		gained := before.bytes() - clean.bytes()
		for room := range need + 2 {
			d := before.made(t)
			d.Room(room)
			if room+gained >= need {
				wantExtracted(t, d, place, api.OK, clean.with(place, files))
				continue
			}
			wantExtracted(t, d, place, api.ErrDisk, clean)
			d.Room(need)
			wantExtracted(t, d, place, api.OK, clean.with(place, files))
		}
		for stop := range 40 {
			d := before.made(t)
			d.Room(r.Intn(need - gained))
			d.Stop(stop)
			if fault := Extract(d, place, module, version, archive); fault != api.ErrDisk {
				t.Fatalf("P9: with no room, and stopped behind %d steps: %d", stop, fault)
			}
			besideIsKept(t, "no room, and stopped", d, place, before)
			laidBehind(t, d, place, before)
		}
	}
}

// What was refused for want of room is gone, so that the room is there again.
func TestP9RoomIsGivenBack(t *testing.T) {
	files, _ := extracted()
	need := stands{}.with("p", files).bytes()
	d := stands{"m.tmp": aFolder, "m.tmp/old": "=older"}.made(t)
	d.Room(need - len("older"))
	for range 3 {
		wantExtracted(t, d, "n", api.ErrDisk, stands{"m.tmp": aFolder, "m.tmp/old": "=older"})
	}
	wantExtracted(t, d, "m", api.OK, stands{}.with("m", files))
}

func TestP9AgainAndAgain(t *testing.T) {
	files, _ := extracted()
	d, want := disk.New(), stands{}
	for _, place := range []string{"m", "m.x", "m/a/n", "m/new", "m/new/new"} {
		want = want.with(place, files)
		wantExtracted(t, d, place, api.OK, want)
		wantExtracted(t, d, place, api.ErrTaken, want)
	}
	wantExtracted(t, d, "m/go.mod/n", api.ErrDisk, want)
	wantExtracted(t, d, "m/a/d.tmp/n", api.ErrDisk, want)
	wantExtracted(t, d, "m/a/d", api.OK, want.without("m/a/d.tmp").with("m/a/d", files))
}

// sharesMemory tells whether two texts lie, wholly or in part, at one place.
func sharesMemory(a, b string) bool {
	startA, startB := uintptr(unsafe.Pointer(unsafe.StringData(a))), uintptr(unsafe.Pointer(unsafe.StringData(b)))
	return a != "" && b != "" && startA < startB+uintptr(len(b)) && startB < startA+uintptr(len(a))
}

func TestP1ExtractKeepsNothing(t *testing.T) {
	_, archive := extracted()
	place := strings.Clone("some place")
	d := disk.New()
	if fault := Extract(d, place, module, version, archive); fault != api.OK {
		t.Fatalf("P9: %d", fault)
	}
	for _, folder := range []string{"", "some place", "some place/a", "some place/a/b"} {
		names, _ := d.Names(folder)
		for _, name := range names {
			data, _ := d.Read(strings.TrimPrefix(folder+"/"+name, "/"))
			for _, kept := range []string{name, data} {
				if sharesMemory(kept, archive) || sharesMemory(kept, place) {
					t.Errorf("P1: %q on the disk is what was handed in", kept)
				}
			}
		}
	}
}

func TestP1ExtractHangsOnItsArgumentsAlone(t *testing.T) {
	r := rand.New(rand.NewSource(1))
	_, archive := extracted()
	for range 30 {
		before := drawnStands(r)
		var told []api.Errno
		for range 3 {
			d := before.made(t)
			d.Stop(5)
			told = append(told, Extract(d, "cache/m", module, version, archive))
			first := before.made(t)
			first.Stop(5)
			Extract(first, "cache/m", module, version, archive)
			wantStanding(t, "P1: the same again", d, standing(first))
		}
		if slices.Min(told) != slices.Max(told) {
			t.Errorf("P1: the same again: %v", told)
		}
	}
}
