// Package places lays files at a place on a disk that may stop at any step: all of them, or none.
package places

import (
	"slices"
	"strings"

	"valise/api"
	"valise/disk"
	"valise/names"
)

// sideMark makes a place its side. No place ends with it, so no side is a place of its own.
const sideMark = ".tmp"

// What a disk tells to be at a path.
const (
	nothing = 0
	folder  = 2
)

// Is tells whether a path is a place.
func Is(path string) bool {
	if len(path) > api.MaxName || strings.HasSuffix(path, sideMark) {
		return false
	}
	return !slices.Contains(strings.Split(path, "/"), "")
}

// Lay writes files, none of whose names clash, to a place. They are written to its side, so that
// the place has nothing until one step gives it all.
func Lay(d *disk.Disk, place string, files []api.File) api.Errno {
	switch {
	case isStopped(d):
		return api.ErrDisk
	case d.Is(place) != nothing:
		return api.ErrTaken
	case !standsInFolder(d, place):
		return api.ErrDisk
	}
	if !layByTheSide(d, place, files) {
		removeAll(d, place+sideMark)
		return api.ErrDisk
	}
	return api.OK
}

// Clear removes what is at the side of a place.
func Clear(d *disk.Disk, place string) api.Errno {
	if isStopped(d) || !removeAll(d, place+sideMark) {
		return api.ErrDisk
	}
	return api.OK
}

func isStopped(d *disk.Disk) bool { return d == nil || d.Down() }

func standsInFolder(d *disk.Disk, place string) bool {
	end := strings.LastIndexByte(place, '/')
	return end < 0 || d.Is(place[:end]) == folder
}

// layByTheSide goes through all steps; false: the disk did not do one. The place is cloned, as the
// disk keeps the path that it is given, and what was handed in is not to be kept.
func layByTheSide(d *disk.Disk, place string, files []api.File) bool {
	side := place + sideMark
	return removeAll(d, side) && writeAll(d, side, files) && d.Rename(side, strings.Clone(place)) == disk.OK
}

// removeAll removes what is at a path, if anything is, and first what stands in it; false: the disk
// did not do a step, and so is asked for no other.
func removeAll(d *disk.Disk, path string) bool {
	if d.Is(path) == nothing {
		return true
	}
	inside, _ := d.Names(path)
	for _, name := range inside {
		if !removeAll(d, path+"/"+name) {
			return false
		}
	}
	return d.Remove(path) == disk.OK
}

// writeAll makes a folder with just the files.
func writeAll(d *disk.Disk, path string, files []api.File) bool {
	if d.Mkdir(path) != disk.OK {
		return false
	}
	made := folders{}
	for _, file := range files {
		if !made.makeFor(d, path, file.Name) || d.Write(path+"/"+file.Name, file.Data) != disk.OK {
			return false
		}
	}
	return true
}

// folders are those that were made.
type folders map[string]struct{}

// makeFor makes the folders that a name stands in, if they were not made yet.
func (f folders) makeFor(d *disk.Disk, path, name string) bool {
	for _, up := range names.Folders(name) {
		if _, made := f[up]; made {
			continue
		}
		if d.Mkdir(path+"/"+up) != disk.OK {
			return false
		}
		f[up] = struct{}{}
	}
	return true
}
