package sums

import (
	"reason/stack"
	"reason/whole"
)

// OfTerms tells each of a stack's terms as a sum: terms of Int are taken apart by `+`, `-`, `*` and numerals, every other stands for itself.
func OfTerms(st *stack.Stack) []Sum {
	var list []Sum
	for number, t := range st.Terms {
		// A term's arguments stand ahead of it: so their sums are there.
		s := ofTerm(number, t, list, len(st.Terms))
		list = append(list, s)
	}
	return list
}

// ofTerm tells a term as a sum, where the sums of the terms ahead are there.
func ofTerm(number int, t stack.Term, ahead []Sum, terms int) Sum {
	first := At(ahead, t.Arg(0))
	second := At(ahead, t.Arg(1))
	total := NewTotal(terms)
	switch t.Op {
	case stack.Numeral:
		return Constant(whole.From(t.Num))
	case stack.Plus:
		for _, a := range t.Args {
			total.Add(At(ahead, a), whole.From(1))
		}
		return total.Sum()
	case stack.Minus:
		if len(t.Args) == 1 {
			return Minus(Sum{}, first, terms)
		}
		return Minus(first, second, terms)
	case stack.Times:
		// The first of the two is a numeral, or one below 0.
		total.Add(second, first.Number)
		return total.Sum()
	}
	return Single(number)
}

// At is the sum at a place; an empty one where there is none.
func At(list []Sum, i int) Sum {
	if i < 0 || i >= len(list) {
		return Sum{}
	}
	return list[i]
}
