package model

import (
	"reason/api"
	"reason/stack"
	"reason/whole"
)

// isValue tells whether a text is a value of a sort.
func isValue(text string, sort int) bool {
	switch sort {
	case api.Bool:
		return text == "0" || text == "1"
	case api.Int:
		return whole.Canonical(text)
	case api.U:
		return len(text) > 0 && text[0] != '-' && whole.Canonical(text)
	}
	return false
}

// fits tells whether an entry is one of the stack's symbols, with values of its sorts.
func fits(st *stack.Stack, entry api.Entry) bool {
	if entry.Sym < 0 || entry.Sym >= len(st.Symbols) {
		return false
	}
	sym := st.Symbols[entry.Sym]
	if !isValue(entry.Val, sym.Sort) {
		return false
	}
	if entry.Other {
		return len(entry.Args) == 0
	}
	if len(entry.Args) != len(sym.Takes) {
		return false
	}
	for i, arg := range entry.Args {
		if !isValue(arg, sym.Takes[i]) {
			return false
		}
	}
	return true
}

// valueText is the value of a symbol for arguments: of its first entry with just these, else of its first with Other, else `0`.
func valueText(m []api.Entry, sym int, args []string) string {
	other := -1
	for i, entry := range m {
		if entry.Sym != sym {
			continue
		}
		if entry.Other {
			if other < 0 {
				other = i
			}
			continue
		}
		if same(entry.Args, args) {
			return entry.Val
		}
	}
	if other >= 0 {
		return m[other].Val
	}
	return "0"
}

// same tells whether two lists of values are alike. Values are canonical: so two are equal just if their texts are.
func same(a []string, b []string) bool {
	if len(a) != len(b) {
		return false
	}
	for i := range a {
		if a[i] != b[i] {
			return false
		}
	}
	return true
}
