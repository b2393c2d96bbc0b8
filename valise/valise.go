// Package valise: a module's files in one archive, the same for everyone: see DOC.md.
package valise

import (
	"valise/api"
	"valise/archives"
	"valise/check"
	"valise/choose"
	"valise/deflate"
	"valise/digest"
	"valise/disk"
	"valise/inflate"
	"valise/names"
	"valise/places"
	"valise/sums"
)

// Digest tells a digest (P2).
func Digest(data string) string { return digest.Of(data) }

// Check tells a check (P2).
func Check(data string) int { return int(check.Of(data)) }

// Inflate unpacks bytes (P3).
func Inflate(packed string) (string, int, api.Errno) { return inflate.Bytes(packed) }

// Deflate packs bytes (P4).
func Deflate(data string) (string, api.Errno) {
	if len(data) > api.MaxData {
		return "", api.ErrLarge
	}
	return deflate.Bytes(data), api.OK
}

// Choose chooses a module's files (P5).
func Choose(tree []api.Entry) ([]api.File, []api.Left, api.Errno) { return choose.Files(tree) }

// Pack packs a module (P6).
func Pack(module string, version string, tree []api.Entry) (string, api.Errno) {
	prefix, ok := names.Prefix(module, version)
	if !ok {
		return "", api.ErrModule
	}
	files, _, fault := choose.Files(tree)
	if fault != api.OK {
		return "", fault
	}
	return archives.Pack(prefix, files)
}

// Unpack unpacks an archive (P7).
func Unpack(module string, version string, archive string) ([]api.File, api.Errno) {
	prefix, ok := names.Prefix(module, version)
	if !ok {
		return nil, api.ErrModule
	}
	return archives.Unpack(prefix, archive)
}

// Sum tells the sum of files (P8).
func Sum(module string, version string, files []api.File) (string, api.Errno) {
	prefix, ok := names.Prefix(module, version)
	if !ok {
		return "", api.ErrModule
	}
	return sums.Of(prefix, files)
}

// Verify holds an archive against a sum (P8).
func Verify(module string, version string, archive string, sum string) api.Errno {
	files, fault := Unpack(module, version, archive)
	if fault != api.OK {
		return fault
	}
	if told, fault := Sum(module, version, files); fault != api.OK || told != sum {
		return api.ErrSum
	}
	return api.OK
}

// Extract writes an archive's files to a disk (P9).
func Extract(d *disk.Disk, place string, module string, version string, archive string) api.Errno {
	if !places.Is(place) {
		return api.ErrPlace
	}
	files, fault := Unpack(module, version, archive)
	if fault != api.OK {
		return fault
	}
	return places.Lay(d, place, files)
}

// Recover cleans a disk behind an Extract that was stopped (P10).
func Recover(d *disk.Disk, place string) api.Errno {
	if !places.Is(place) {
		return api.ErrPlace
	}
	return places.Clear(d, place)
}
