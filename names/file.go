// Package names tells which names are right, of files and of modules, and which of files clash.
package names

import (
	"strings"

	"valise/api"
)

// GoMod is the name of the file that makes a module.
const GoMod = "go.mod"

// license is the other name of a file that must be small.
const license = "LICENSE"

// marks are what a file's name may have beside letters and digits.
const marks = "!#$%&()+,-.=@[]^_{}~ "

// IsFile tells whether a name is one of a file.
func IsFile(name string) bool {
	if len(name) > api.MaxName {
		return false
	}
	for _, element := range strings.Split(name, "/") {
		if !isElement(element) {
			return false
		}
	}
	return true
}

// isElement needs no look at `.` and `..`: they end with a `.`.
func isElement(element string) bool {
	return hasOnly(element, isOfFile) && !strings.HasSuffix(element, ".") &&
		!strings.HasSuffix(element, " ") && !isReserved(element)
}

func isOfFile(c byte) bool {
	return isLetter(c) || isDigit(c) || strings.IndexByte(marks, c) >= 0
}

// isReserved tells whether an element is what some systems take for a device.
func isReserved(element string) bool {
	stem, _, _ := strings.Cut(small(element), ".")
	switch stem {
	case "con", "prn", "aux", "nul":
		return true
	}
	return len(stem) == 4 && (stem[:3] == "com" || stem[:3] == "lpt") && isDigit(stem[3]) && stem[3] != '0'
}

// IsOtherGoMod tells whether a name is alike to that of GoMod, and is another.
func IsOtherGoMod(name string) bool {
	return name != GoMod && small(name) == GoMod
}

// MostBytes tells how many bytes a file of this name may have.
func MostBytes(name string) int {
	if name == GoMod || name == license {
		return api.MaxSmall
	}
	return api.MaxFile
}
