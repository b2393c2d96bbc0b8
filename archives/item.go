package archives

import (
	"valise/api"
	"valise/check"
	"valise/deflate"
	"valise/inflate"
)

// The ways in which a file's bytes lie in an archive.
const (
	wayPlain  = 0
	wayPacked = 8
)

// item is a file as it lies in an archive, and what its heads tell.
type item struct {
	name   string // without its prefix
	way    uint32
	check  uint32
	size   uint32 // how many bytes it has when it is unpacked
	packed string
}

// itemOf lays a file the shorter way.
func itemOf(file api.File) item {
	it := item{name: file.Name, way: wayPlain, check: check.Of(file.Data), size: uint32(len(file.Data)), packed: file.Data}
	if packed := deflate.Bytes(file.Data); len(packed) < len(file.Data) {
		it.way, it.packed = wayPacked, packed
	}
	return it
}

// data unpacks an item, and holds it against what its heads tell.
func (it item) data() (string, api.Errno) {
	data, fault := it.unpacked()
	if fault != api.OK {
		return "", fault
	}
	if check.Of(data) != it.check {
		return "", api.ErrCheck
	}
	return data, api.OK
}

func (it item) unpacked() (string, api.Errno) {
	if it.way == wayPlain {
		if len(it.packed) != int(it.size) {
			return "", api.ErrArchive
		}
		return it.packed, api.OK
	}
	data, used, fault := inflate.Bytes(it.packed)
	if fault != api.OK || used != len(it.packed) || len(data) != int(it.size) {
		return "", api.ErrData
	}
	return data, api.OK
}
