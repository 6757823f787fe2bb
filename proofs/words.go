package proofs

import (
	"reason/api"
	"reason/atoms"
	"reason/lists"
)

// wordsOfLine cuts the line that begins at a byte at its blanks, and tells where the next begins; 0, if no line end ends it. Where a blank is too much there is an empty word, which stands for nothing.
func wordsOfLine(text string, from int) ([]string, int) {
	var words []string
	begin := from
	for i := from; i >= 0 && i < len(text); i++ {
		c := text[i]
		if c != ' ' && c != '\n' {
			continue
		}
		words = append(words, text[begin:i])
		begin = i + 1
		if c == '\n' {
			return words, i + 1
		}
	}
	return nil, 0
}

// wordAt is the word at a place; "" where there is none.
func wordAt(words []string, i int) string {
	if i < 0 || i >= len(words) {
		return ""
	}
	return words[i]
}

// wordsFrom are the words from a place on.
func wordsFrom(words []string, i int) []string {
	if i < 0 || i >= len(words) {
		return nil
	}
	return words[i:]
}

// number reads the number of a term that is there.
func (c *checker) number(word string) (int, bool) {
	n, ok := lists.Numeral(word)
	if !ok || len(word) > 3 || n >= len(c.st.Terms) {
		return 0, false
	}
	return n, true
}

// sortOf is the sort of a term.
func (c *checker) sortOf(number int) int { return c.st.Term(number).Sort }

// literals reads words that are literals, all of them.
func (c *checker) literals(words []string) ([]atoms.Literal, bool) {
	var list []atoms.Literal
	for _, word := range words {
		l, ok := c.literal(word)
		if !ok {
			return nil, false
		}
		list = append(list, l)
	}
	return list, true
}

// literal reads a literal.
func (c *checker) literal(word string) (atoms.Literal, bool) {
	if len(word) < 2 || word[0] != '+' && word[0] != '-' {
		return atoms.Literal{}, false
	}
	a, ok := c.atom(word[1], word[2:])
	if !ok {
		return atoms.Literal{}, false
	}
	return atoms.Literal{Atom: a, Not: word[0] == '-'}, true
}

// atom reads an atom of a kind, from the text behind its letter.
func (c *checker) atom(kind byte, text string) (atoms.Atom, bool) {
	first, second, pair := aroundComma(text)
	a, ok := c.number(first)
	made := atoms.Atom{Kind: kind, A: a}
	if pair {
		b, okToo := c.number(second)
		ok = ok && okToo
		made.B = b
	}
	if !ok || !c.fits(made, pair) {
		return atoms.Atom{}, false
	}
	return made, true
}

// aroundComma tells what is ahead of a text's first comma and what is behind it, and whether there is one.
func aroundComma(text string) (string, string, bool) {
	for i := 0; i < len(text); i++ {
		if text[i] == ',' {
			return text[:i], text[i+1:], true
		}
	}
	return text, "", false
}

// fits tells whether an atom is one, by the sorts and the order of its term or pair of terms.
func (c *checker) fits(a atoms.Atom, pair bool) bool {
	sort := c.sortOf(a.A)
	if a.Kind == atoms.IsTrue {
		return !pair && sort == api.Bool
	}
	if !pair || c.sortOf(a.B) != sort {
		return false
	}
	switch a.Kind {
	case atoms.AreEqual:
		return a.A < a.B && (sort == api.Int || sort == api.U)
	case atoms.IsAtMost:
		return sort == api.Int
	}
	return false
}
