package choose

import (
	"slices"
	"strings"

	"valise/api"
	"valise/names"
)

// stays is the reason of what is not left out.
const stays api.Reason = 0

// folders are those in which a module of its own stands, each with the `/` behind it.
type folders map[string]struct{}

func nestedFolders(tree []api.Entry) folders {
	nested := folders{}
	for _, entry := range tree {
		if !entry.Link && strings.HasSuffix(entry.Name, "/"+names.GoMod) {
			nested[strings.TrimSuffix(entry.Name, names.GoMod)] = struct{}{}
		}
	}
	return nested
}

// have tells whether a name stands in one of the folders. These are gone through, and not the
// folders of the name, because there are at most as many as entries, however long a name is.
func (f folders) have(name string) bool {
	for folder := range f {
		if strings.HasPrefix(name, folder) {
			return true
		}
	}
	return false
}

// whyLeft is the first reason to leave an entry out.
func whyLeft(entry api.Entry, nested folders) api.Reason {
	switch {
	case entry.Link:
		return api.Link
	case isHidden(entry.Name):
		return api.Hidden
	case nested.have(entry.Name):
		return api.Nested
	case isVendored(entry.Name):
		return api.Vendored
	case !names.IsFile(entry.Name):
		return api.BadName
	}
	return stays
}

func isHidden(name string) bool {
	elements := strings.Split(name, "/")
	return slices.ContainsFunc(elements[:len(elements)-1], keepsVersions)
}

// keepsVersions tells whether a folder is one in which a program keeps what it knows of versions.
func keepsVersions(folder string) bool {
	switch folder {
	case ".bzr", ".git", ".hg", ".svn":
		return true
	}
	return false
}

// isVendored tells whether a name stands in a folder of the first folder `vendor`. What stands in
// that one itself is no module's that was brought along.
func isVendored(name string) bool {
	rest, ok := strings.CutPrefix(name, "vendor/")
	if !ok {
		_, rest, ok = strings.Cut(name, "/vendor/")
	}
	return ok && strings.Contains(rest, "/")
}
