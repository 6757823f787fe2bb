// Package stack keeps what is declared and asserted: symbols, terms, assertions and levels. Others read its lists; only its methods change them.
package stack

import "reason/api"

// Symbol is a declared name, the sorts that it takes and its own.
type Symbol struct {
	Name  string
	Takes []int
	Sort  int
}

// Term is a listed term. Args are numbers of terms that stand ahead of it in the list, so none lies within itself.
type Term struct {
	Op   int
	Sym  int // of Apply: the symbol's place
	Num  int // of Numeral: its number
	Args []int
	Sort int
}

// Arg is the number of an argument, from 0 on; -1 where there is none.
func (t Term) Arg(i int) int {
	if i < 0 || i >= len(t.Args) {
		return -1
	}
	return t.Args[i]
}

// mark tells how much of each there was when a level was pushed.
type mark struct {
	symbols int
	terms   int
	held    int
}

// Stack is empty at its zero value. Held has the numbers of the terms that are asserted.
type Stack struct {
	Symbols []Symbol
	Terms   []Term
	Held    []int
	levels  []mark
}

// Depth counts the levels that are pushed.
func (st *Stack) Depth() int { return len(st.levels) }

// Reset empties the stack.
func (st *Stack) Reset() {
	st.Symbols = nil
	st.Terms = nil
	st.Held = nil
	st.levels = nil
}

// Find tells the place of the symbol of that name; -1 if there is none.
func (st *Stack) Find(name string) int {
	for i, sym := range st.Symbols {
		if sym.Name == name {
			return i
		}
	}
	return -1
}

// Symbol tells the symbol at a place; where there is none, an empty one.
func (st *Stack) Symbol(place int) Symbol {
	if place < 0 || place >= len(st.Symbols) {
		return Symbol{}
	}
	return st.Symbols[place]
}

// Term tells the term of a number; where there is none, an empty one.
func (st *Stack) Term(number int) Term {
	if number < 0 || number >= len(st.Terms) {
		return Term{}
	}
	return st.Terms[number]
}

// Declare takes a symbol in, and tells whether there was room.
func (st *Stack) Declare(sym Symbol) bool {
	if len(st.Symbols) >= api.MaxSyms {
		return false
	}
	// A name is a piece of a command's text: a copy keeps the rest of the text from being held with it.
	sym.Name = string([]byte(sym.Name))
	sym.Takes = copyOf(sym.Takes)
	st.Symbols = append(st.Symbols, sym)
	return true
}

// Join lists a term, unless it is there, and tells its number; -1 if there is no room.
func (st *Stack) Join(t Term) int {
	n := st.number(t)
	if n >= 0 || len(st.Terms) >= api.MaxTerms {
		return n
	}
	t.Args = copyOf(t.Args)
	st.Terms = append(st.Terms, t)
	return len(st.Terms) - 1
}

// Assert holds a listed term, and tells whether there was room.
func (st *Stack) Assert(number int) bool {
	if len(st.Held) >= api.MaxHeld {
		return false
	}
	st.Held = append(st.Held, number)
	return true
}

// Push opens n levels, and tells whether there was room.
func (st *Stack) Push(n int) bool {
	if n > api.MaxLevels-len(st.levels) {
		return false
	}
	now := st.now()
	for i := 0; i < n; i++ {
		st.levels = append(st.levels, now)
	}
	return true
}

// Pop takes the last n levels away with all that joined since, and tells whether there were as many.
func (st *Stack) Pop(n int) bool {
	left := len(st.levels) - n
	if left < 0 {
		return false
	}
	if left >= len(st.levels) {
		return true
	}
	then := st.levels[left]
	st.levels = firstMarks(st.levels, left)
	st.Symbols = firstSymbols(st.Symbols, then.symbols)
	st.KeepTerms(then.terms)
	st.Held = firstInts(st.Held, then.held)
	return true
}

// KeepTerms takes all terms but the first n out of the list.
func (st *Stack) KeepTerms(n int) {
	st.Terms = firstTerms(st.Terms, n)
}

// now marks how much there is.
func (st *Stack) now() mark {
	return mark{symbols: len(st.Symbols), terms: len(st.Terms), held: len(st.Held)}
}

// number tells where a term is listed; -1 if it is not. Terms that are printed alike are made alike, for no symbol is named like an operator or begins with a digit.
func (st *Stack) number(t Term) int {
	for i, other := range st.Terms {
		if alike(t, other) {
			return i
		}
	}
	return -1
}

// alike tells whether two terms are the same.
func alike(t Term, other Term) bool {
	if t.Op != other.Op || t.Sym != other.Sym || t.Num != other.Num {
		return false
	}
	if len(t.Args) != len(other.Args) {
		return false
	}
	for i := range t.Args {
		if t.Args[i] != other.Args[i] {
			return false
		}
	}
	return true
}
