// Package choose chooses, of a tree of files, those that belong to a module.
package choose

import (
	"cmp"
	"slices"
	"strings"

	"valise/api"
	"valise/names"
)

// Files tells the module's files by rising names, and what was left out, in the order of the tree.
func Files(tree []api.Entry) ([]api.File, []api.Left, api.Errno) {
	if len(tree) > api.MaxEntries {
		return nil, nil, api.ErrMany
	}
	nested := nestedFolders(tree)
	taken := chosen{met: names.Met{}}
	var left []api.Left
	for _, entry := range tree {
		if reason := whyLeft(entry, nested); reason != stays {
			left = append(left, api.Left{Name: strings.Clone(entry.Name), Reason: reason})
			continue
		}
		if fault := taken.take(entry); fault != api.OK {
			return nil, nil, fault
		}
	}
	slices.SortFunc(taken.files, func(a, b api.File) int { return cmp.Compare(a.Name, b.Name) })
	return taken.files, left, api.OK
}

// chosen is what was chosen so far.
type chosen struct {
	files []api.File
	met   names.Met
	bytes int
}

// take takes a file in, unless it may not stand beside those ahead of it.
func (c *chosen) take(entry api.Entry) api.Errno {
	switch size := len(entry.Data); {
	case c.met.Clashes(entry.Name):
		return api.ErrTwice
	case names.IsOtherGoMod(entry.Name):
		return api.ErrName
	case size > names.MostBytes(entry.Name):
		return api.ErrLarge
	case len(c.files) == api.MaxFiles:
		return api.ErrMany
	case size > api.MaxAll-c.bytes:
		return api.ErrLarge
	}
	c.met.Add(entry.Name)
	c.bytes += len(entry.Data)
	c.files = append(c.files, api.File{Name: strings.Clone(entry.Name), Data: strings.Clone(entry.Data)})
	return api.OK
}
