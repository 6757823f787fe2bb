// Package proofs tells whether a text is a proof that not all that is asserted can be true (P9).
package proofs

import (
	"reason/atoms"
	"reason/stack"
	"reason/sums"
)

// checker goes through the lines of a proof. Each line that is right adds its clause to those that are known.
type checker struct {
	st    *stack.Stack
	terms []sums.Sum // the stack's terms, taken apart
	known clauses
}

// Accepts tells whether a text is a proof of a stack.
func Accepts(st *stack.Stack, text string) bool {
	codes := 2 * atoms.Places(len(st.Terms))
	c := checker{st: st, terms: sums.OfTerms(st), known: newClauses(codes)}
	closed := false
	for from := 0; from < len(text); {
		words, next := wordsOfLine(text, from)
		if next <= from {
			return false
		}
		clause, right := c.line(words)
		if !right {
			return false
		}
		c.known.add(c.coded(clause))
		closed = wordAt(words, 0) == "R" && len(clause) == 0
		from = next
	}
	return closed
}

// line tells the clause of a line, and whether the line is right.
func (c *checker) line(words []string) ([]atoms.Literal, bool) {
	if len(words) == 0 {
		return nil, false
	}
	rest := words[1:]
	switch words[0] {
	case "F":
		return c.asserted(rest)
	case "D":
		return c.defined(rest)
	case "Q":
		return c.ordered(rest)
	case "U":
		return c.congruent(rest)
	case "A":
		return c.summed(rest)
	case "R":
		return c.resolved(rest)
	}
	return nil, false
}

// asserted reads a line F.
func (c *checker) asserted(words []string) ([]atoms.Literal, bool) {
	number, ok := c.number(wordAt(words, 0))
	if !ok || len(words) != 1 {
		return nil, false
	}
	for _, held := range c.st.Held {
		if held == number {
			return []atoms.Literal{{Atom: atoms.Truth(number)}}, true
		}
	}
	return nil, false
}

// resolved reads a line R.
func (c *checker) resolved(words []string) ([]atoms.Literal, bool) {
	list, ok := c.literals(words)
	if !ok {
		return nil, false
	}
	return judged(list, c.known.refute(c.coded(list)))
}

// judged is a line's clause, if the line is right.
func judged(list []atoms.Literal, right bool) ([]atoms.Literal, bool) {
	if !right {
		return nil, false
	}
	return list, true
}

// coded tells the codes of literals.
func (c *checker) coded(list []atoms.Literal) []int {
	var coded []int
	for _, l := range list {
		place := l.Atom.Place(len(c.st.Terms))
		coded = append(coded, atoms.Code(place, l.Not))
	}
	return coded
}
