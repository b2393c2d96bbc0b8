package names

// Met is the names of files that were met, none of which clashes with another: by each of their
// beginnings, made small.
type Met map[string]spelling

// spelling is how a beginning is written, and whether a name ends with it.
type spelling struct {
	written string
	ends    bool
}

// Clashes tells whether a name clashes with one that was met.
func (m Met) Clashes(name string) bool {
	for _, beginning := range beginnings(name) {
		old, met := m[small(beginning)]
		if met && (old.written != beginning || old.ends || beginning == name) {
			return true
		}
	}
	return false
}

// Add takes in a name that clashes with none: so each beginning, made small, has one spelling.
func (m Met) Add(name string) {
	for _, beginning := range beginnings(name) {
		m[small(beginning)] = spelling{written: beginning, ends: beginning == name}
	}
}

// beginnings are the folders a name stands in, from the first on, and the name.
func beginnings(name string) []string {
	return append(Folders(name), name)
}

// Folders are those that a name stands in, from the first on.
func Folders(name string) []string {
	var list []string
	for end := range len(name) {
		if name[end] == '/' {
			list = append(list, name[:end])
		}
	}
	return list
}
