// Package archives packs a module's files into an archive, and takes archives apart, strictly.
package archives

import (
	"strings"

	"valise/api"
	"valise/names"
)

// Pack makes the archive of files that have rising names.
func Pack(prefix string, files []api.File) (string, api.Errno) {
	var items []item
	for _, file := range files {
		items = append(items, itemOf(file))
	}
	archive := laid(prefix, items)
	if len(archive) > api.MaxArchive {
		return "", api.ErrLarge
	}
	return archive, api.OK
}

// Unpack tells the files of an archive. Nothing is unpacked ahead of a look at all heads.
func Unpack(prefix, archive string) ([]api.File, api.Errno) {
	if len(archive) > api.MaxArchive {
		return nil, api.ErrLarge
	}
	items, ok := read(prefix, archive)
	if !ok {
		return nil, api.ErrArchive
	}
	if fault := headsFault(items); fault != api.OK {
		return nil, fault
	}
	return unpackAll(items)
}

// headsFault is what is wrong with names and numbers of bytes, file by file.
func headsFault(items []item) api.Errno {
	met := names.Met{}
	var all uint32
	for _, it := range items {
		switch {
		case !names.IsFile(it.name) || names.IsOtherGoMod(it.name):
			return api.ErrName
		case met.Clashes(it.name):
			return api.ErrTwice
		case it.size > uint32(names.MostBytes(it.name)) || it.size > api.MaxAll-all:
			return api.ErrLarge
		}
		met.Add(it.name)
		all += it.size
	}
	return api.OK
}

// unpackAll copies names and data, so that the files share no memory with the archive.
func unpackAll(items []item) ([]api.File, api.Errno) {
	var files []api.File
	for _, it := range items {
		data, fault := it.data()
		if fault != api.OK {
			return nil, fault
		}
		files = append(files, api.File{Name: strings.Clone(it.name), Data: strings.Clone(data)})
	}
	return files, api.OK
}
