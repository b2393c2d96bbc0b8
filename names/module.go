package names

import (
	"strings"

	"valise/api"
)

// What the parts of a version have at most.
const (
	maxDigits = 5
	maxMark   = 20
)

// Prefix is what stands ahead of all names in the archive of a module; false: these are no
// module's name and version.
func Prefix(module, version string) (string, bool) {
	major, ok := majorOf(version)
	if !ok || !isModule(module) || !endsForMajor(module, major) {
		return "", false
	}
	return module + "@" + version + "/", true
}

func isModule(module string) bool {
	if len(module) > api.MaxName {
		return false
	}
	elements := strings.Split(module, "/")
	for _, element := range elements {
		if !isModuleElement(element) {
			return false
		}
	}
	return strings.Contains(elements[0], ".")
}

func isModuleElement(element string) bool {
	return hasOnly(element, isOfModule) && !strings.HasPrefix(element, ".") && !strings.HasSuffix(element, ".")
}

func isOfModule(c byte) bool {
	return isSmallLetter(c) || isDigit(c) || strings.IndexByte(".-_~", c) >= 0
}

// majorOf is the first number of a version; false: it is no version.
func majorOf(version string) (string, bool) {
	rest, ok := strings.CutPrefix(version, "v")
	if !ok {
		return "", false
	}
	rest, mark, marked := strings.Cut(rest, "-")
	if marked && !isMark(mark) {
		return "", false
	}
	numbers := strings.Split(rest, ".")
	if len(numbers) != 3 {
		return "", false
	}
	for _, number := range numbers {
		if !isNumber(number) {
			return "", false
		}
	}
	return numbers[0], true
}

func isNumber(text string) bool {
	return hasOnly(text, isDigit) && len(text) <= maxDigits && (text == "0" || text[0] != '0')
}

func isMark(mark string) bool {
	return hasOnly(mark, isOfMark) && len(mark) <= maxMark
}

func isOfMark(c byte) bool {
	return isLetter(c) || isDigit(c) || c == '.' || c == '-'
}

// endsForMajor tells whether a module's name ends as one of this first number must.
func endsForMajor(module, major string) bool {
	last := module[strings.LastIndexByte(module, '/')+1:]
	if major == "0" || major == "1" {
		return !endsWithMajor(last)
	}
	return last == "v"+major
}

func endsWithMajor(last string) bool {
	digits, ok := strings.CutPrefix(last, "v")
	return ok && hasOnly(digits, isDigit)
}
