package archives

import (
	"strings"

	"valise/api"
)

// Where numbers stand in a local head, and where it ends and the name begins.
const (
	wayAt        = 8
	checkAt      = 14
	packedSizeAt = 18
	sizeAt       = 22
	nameSizeAt   = 26
	nameAt       = 30
)

// read tells the items of an archive; false: it has not the form of one. Only what differs from
// file to file is read, of the local heads alone: an archive of that form is what these items make.
func read(prefix, archive string) ([]item, bool) {
	var items []item
	for rest := archive; strings.HasPrefix(rest, localMark); {
		it, behind, ok := readItem(prefix, rest)
		if !ok || len(items) == api.MaxFiles || len(items) > 0 && it.name <= items[len(items)-1].name {
			return nil, false
		}
		items = append(items, it)
		rest = behind
	}
	if laid(prefix, items) != archive {
		return nil, false
	}
	return items, true
}

// readItem reads the item at the beginning of a text, and tells what is behind it.
func readItem(prefix, text string) (item, string, bool) {
	if len(text) < nameAt {
		return item{}, "", false
	}
	packedAt := nameAt + uint64(number(text, nameSizeAt, 2))
	end := packedAt + uint64(number(text, packedSizeAt, 4))
	if end > uint64(len(text)) {
		return item{}, "", false
	}
	name, ok := strings.CutPrefix(text[nameAt:packedAt], prefix)
	way := number(text, wayAt, 2)
	if !ok || way != wayPlain && way != wayPacked {
		return item{}, "", false
	}
	return item{
		name:   name,
		way:    way,
		check:  number(text, checkAt, 4),
		size:   number(text, sizeAt, 4),
		packed: text[packedAt:end],
	}, text[end:], true
}

// number reads one of so many bytes, the lowest first.
func number(text string, at, width int) uint32 {
	var value uint32
	for place := range width {
		value |= uint32(text[at+place]) << (8 * place)
	}
	return value
}
