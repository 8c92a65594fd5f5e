// Package tree: trees: see doc/02-tree.md.
package tree

import (
	"veilwork/api"
	"veilwork/token"
)

// Check a tree.
func Check(t api.Tree) api.Errno {
	// Limits first: what is within them is small enough to be gone through whole.
	if tooMany(t) {
		return api.ErrMany
	}
	if !all(t.Decls, declFine) || !all(t.Main, stmtFine) {
		return api.ErrForm
	}
	return api.OK
}

// Parse a text.
func Parse(s string) (api.Tree, int, api.Errno) {
	l, at, e := token.Scan(s)
	if e != api.OK {
		return api.Tree{}, at, e
	}
	t, at, e := read(l, len(s))
	if e != api.OK {
		return api.Tree{}, at, e
	}
	if e := Check(t); e != api.OK {
		return api.Tree{}, 0, e
	}
	return t, 0, api.OK
}

// isWord: is it one of the words that are no names here?
func isWord(s string) bool {
	switch s {
	case "actor", "grant", "speak", "in", "out", "var", "func", "main",
		"get", "put", "reveal", "trust", "if", "else", "while", "return":
		return true
	}
	return false
}
