package names

func isSmallLetter(c byte) bool { return 'a' <= c && c <= 'z' }

func isCapital(c byte) bool { return 'A' <= c && c <= 'Z' }

func isLetter(c byte) bool { return isSmallLetter(c) || isCapital(c) }

func isDigit(c byte) bool { return '0' <= c && c <= '9' }

// hasOnly tells whether a text has at least one byte, and each is as asked.
func hasOnly(text string, fits func(c byte) bool) bool {
	for i := range len(text) {
		if !fits(text[i]) {
			return false
		}
	}
	return text != ""
}

// small makes capital letters small: those of a to z alone, whatever other letters there are.
func small(text string) string {
	letters := []byte(text)
	for i, c := range letters {
		if isCapital(c) {
			letters[i] = c - 'A' + 'a'
		}
	}
	return string(letters)
}
