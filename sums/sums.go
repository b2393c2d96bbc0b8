// Package sums tells the sum of a module's files, which doesn't hang on their order.
package sums

import (
	"maps"
	"slices"
	"strings"

	"valise/api"
	"valise/digest"
	"valise/names"
)

// letters are what six bits are told by.
const letters = "ABCDEFGHIJKLMNOPQRSTUVWXYZabcdefghijklmnopqrstuvwxyz0123456789+/"

// Of tells the sum of files.
func Of(prefix string, files []api.File) (string, api.Errno) {
	places := make(map[string]int, len(files))
	for place, file := range files {
		if !names.IsFile(file.Name) {
			return "", api.ErrName
		}
		if _, met := places[file.Name]; met {
			return "", api.ErrTwice
		}
		places[file.Name] = place
	}
	var lines strings.Builder
	for _, name := range slices.Sorted(maps.Keys(places)) {
		lines.WriteString(digest.Of(files[places[name]].Data) + "  " + prefix + name + "\n")
	}
	return "h1:" + inLetters(digest.Bytes(lines.String())), api.OK
}

// inLetters tells bytes, each three by four letters, and the last two by three and a `=`.
func inLetters(sum [32]byte) string {
	var text []byte
	for at := 0; at < 30; at += 3 {
		text = appendLetters(text, uint32(sum[at])<<16|uint32(sum[at+1])<<8|uint32(sum[at+2]), 4)
	}
	text = appendLetters(text, uint32(sum[30])<<16|uint32(sum[31])<<8, 3)
	return string(append(text, '='))
}

// appendLetters adds the first letters of 24 bits.
func appendLetters(text []byte, value uint32, count int) []byte {
	for place := range count {
		text = append(text, letters[value>>(18-6*place)&63])
	}
	return text
}
