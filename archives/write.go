package archives

// The marks with which heads and the end begin.
const (
	localMark   = "PK\x03\x04"
	centralMark = "PK\x01\x02"
	endMark     = "PK\x05\x06"
)

// What stands in all heads: which readers are asked for, and one day for all files, so that an
// archive doesn't hang on when it was made.
const (
	reader = 20
	day    = 33
)

// laid is the archive of items.
func laid(prefix string, items []item) string {
	var locals, centrals []byte
	for _, it := range items {
		centrals = appendCentral(centrals, prefix, it, len(locals))
		locals = appendLocal(locals, prefix, it)
	}
	size, at := len(centrals), len(locals)
	return string(appendEnd(append(locals, centrals...), len(items), size, at))
}

func appendLocal(text []byte, prefix string, it item) []byte {
	text = append(text, localMark...)
	text = appendTold(text, prefix, it)
	text = append(text, prefix+it.name...)
	return append(text, it.packed...)
}

func appendCentral(text []byte, prefix string, it item, at int) []byte {
	text = append(text, centralMark...)
	text = appendNumbers(text, 2, reader)
	text = appendTold(text, prefix, it)
	text = appendNumbers(text, 2, 0, 0, 0)
	text = appendNumbers(text, 4, 0, uint32(at))
	return append(text, prefix+it.name...)
}

// appendTold lays what both heads of a file tell.
func appendTold(text []byte, prefix string, it item) []byte {
	text = appendNumbers(text, 2, reader, 0, it.way, 0, day)
	text = appendNumbers(text, 4, it.check, uint32(len(it.packed)), it.size)
	return appendNumbers(text, 2, uint32(len(prefix)+len(it.name)), 0)
}

func appendEnd(text []byte, count, size, at int) []byte {
	text = append(text, endMark...)
	text = appendNumbers(text, 2, 0, 0, uint32(count), uint32(count))
	text = appendNumbers(text, 4, uint32(size), uint32(at))
	return appendNumbers(text, 2, 0)
}

// appendNumbers lays numbers of so many bytes, the lowest first.
func appendNumbers(text []byte, width int, numbers ...uint32) []byte {
	for _, number := range numbers {
		for place := range width {
			text = append(text, byte(number>>(8*place)))
		}
	}
	return text
}
