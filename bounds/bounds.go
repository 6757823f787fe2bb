// Package bounds tells whether a stack is bounded (P11).
package bounds

import (
	"reason/api"
	"reason/stack"
)

// asserted marks the terms that are asserted, and the arguments of asserted `and`s.
type asserted struct {
	st   *stack.Stack
	held []bool // by term
}

// Bounded tells whether a stack is bounded: its Ints are few, and each lies between two numerals that are not far apart.
func Bounded(st *stack.Stack) bool {
	a := asserted{st: st, held: make([]bool, len(st.Terms))}
	a.mark()
	ints := 0
	for place, sym := range st.Symbols {
		if takesInt(sym) {
			return false
		}
		if sym.Sort != api.Int {
			continue
		}
		ints++
		if len(sym.Takes) > 0 || ints > api.MaxWhole || !a.isNarrow(place) {
			return false
		}
	}
	return true
}

// takesInt tells whether a symbol takes an Int.
func takesInt(sym stack.Symbol) bool {
	for _, sort := range sym.Takes {
		if sort == api.Int {
			return true
		}
	}
	return false
}

// mark goes through the terms from the last on: so an `and` comes ahead of its arguments.
func (a *asserted) mark() {
	for _, number := range a.st.Held {
		a.hold(number)
	}
	for number := len(a.held) - 1; number >= 0; number-- {
		t := a.st.Term(number)
		if !a.held[number] || t.Op != stack.And {
			continue
		}
		for _, arg := range t.Args {
			a.hold(arg)
		}
	}
}

// hold marks a term.
func (a *asserted) hold(number int) {
	if number >= 0 && number < len(a.held) {
		a.held[number] = true
	}
}

// isNarrow tells whether a symbol of Int is asserted to lie between two numerals at most MaxWide apart. The greatest below it and the least above it are the nearest.
func (a *asserted) isNarrow(sym int) bool {
	least := 0
	most := 0
	isAbove := false
	isBelow := false
	for number, t := range a.st.Terms {
		if !a.held[number] || t.Op != stack.AtMost {
			continue
		}
		low, fromBelow := a.numeral(t.Arg(0))
		if fromBelow && a.isSymbol(t.Arg(1), sym) && (!isAbove || low > least) {
			least = low
			isAbove = true
		}
		high, fromAbove := a.numeral(t.Arg(1))
		if fromAbove && a.isSymbol(t.Arg(0), sym) && (!isBelow || high < most) {
			most = high
			isBelow = true
		}
	}
	return isAbove && isBelow && most-least <= api.MaxWide
}

// isSymbol tells whether a term is a symbol without arguments.
func (a *asserted) isSymbol(number int, sym int) bool {
	t := a.st.Term(number)
	return t.Op == stack.Apply && t.Sym == sym && len(t.Args) == 0
}

// numeral tells the number of a numeral or `(- numeral)`, and whether a term is one.
func (a *asserted) numeral(number int) (int, bool) {
	t := a.st.Term(number)
	if t.Op == stack.Numeral {
		return t.Num, true
	}
	inner := a.st.Term(t.Arg(0))
	if t.Op == stack.Minus && len(t.Args) == 1 && inner.Op == stack.Numeral {
		return -inner.Num, true
	}
	return 0, false
}
