// Package lists reads a command's text as one list of words and lists (P3).
package lists

import "reason/api"

// Fault is an error and the byte of the text at which it is.
type Fault struct {
	E   api.Errno
	Pos int
}

// Item is a word or a list. A text's items stand in the order in which they begin, so the items of a list follow it, and End is the place behind the last of them (of a word: behind itself).
type Item struct {
	Pos  int
	Word string // "" of a list: a word has a byte at the least
	End  int
}

// IsList tells a list from a word.
func (it Item) IsList() bool { return it.Word == "" }

// scanner is a text on its way to being items; open holds the places of the lists that are not closed yet, the innermost last.
type scanner struct {
	text  string
	items []Item
	open  []int
}

// Read tells the items of a text that is one list; that list is the first of them.
func Read(text string) ([]Item, Fault) {
	sc := scanner{text: text}
	for i := 0; i < len(text); {
		n, e := sc.step(i)
		if e != api.OK {
			return nil, Fault{E: e, Pos: i}
		}
		i += n
	}
	if len(sc.open) > 0 || len(sc.items) == 0 {
		return nil, Fault{E: api.ErrSyntax, Pos: len(text)}
	}
	return sc.items, Fault{}
}

// step reads what begins at byte i, and tells how many bytes it has: one or more, unless it tells an error.
func (sc *scanner) step(i int) (int, api.Errno) {
	if i < 0 || i >= len(sc.text) {
		return 0, api.ErrSyntax
	}
	c := sc.text[i]
	if c == ' ' || c == '\n' {
		return 1, api.OK
	}
	if c == '(' {
		e := sc.begin(i)
		return 1, e
	}
	if len(sc.open) == 0 {
		return 0, api.ErrSyntax
	}
	if c == ')' {
		sc.close()
		return 1, api.OK
	}
	n := wordLength(sc.text, i)
	if n == 0 {
		return 0, api.ErrSyntax
	}
	sc.add(Item{Pos: i, Word: sc.text[i : i+n]})
	return n, api.OK
}

// begin opens a list, unless the text's one list is there already or it would lie too deep.
func (sc *scanner) begin(i int) api.Errno {
	if len(sc.open) == 0 && len(sc.items) > 0 {
		return api.ErrSyntax
	}
	if len(sc.open) >= api.MaxDepth {
		return api.ErrDepth
	}
	sc.open = append(sc.open, len(sc.items))
	sc.add(Item{Pos: i})
	return api.OK
}

// close ends the innermost open list.
func (sc *scanner) close() {
	last := len(sc.open) - 1
	if last < 0 {
		return
	}
	at := sc.open[last]
	if at >= 0 && at < len(sc.items) {
		sc.items[at].End = len(sc.items)
	}
	sc.open = sc.open[:last]
}

// add takes an item in; a list's End is put right when it closes.
func (sc *scanner) add(it Item) {
	it.End = len(sc.items) + 1
	sc.items = append(sc.items, it)
}

// wordLength counts the bytes of the word that begins at byte i; 0 if none does.
func wordLength(text string, i int) int {
	n := 0
	for i >= 0 && i+n < len(text) && inWord(text[i+n]) {
		n++
	}
	return n
}

// IsLetter tells the letters, small and great, of ASCII.
func IsLetter(c byte) bool { return c >= 'a' && c <= 'z' || c >= 'A' && c <= 'Z' }

// IsDigit tells the ten digits.
func IsDigit(c byte) bool { return c >= '0' && c <= '9' }

// inWord tells the bytes that words are made of.
func inWord(c byte) bool {
	switch c {
	case '-', '+', '*', '<', '>', '=':
		return true
	}
	if IsLetter(c) {
		return true
	}
	return IsDigit(c)
}

// Inside tells the places of a list's own items, from the left.
func Inside(items []Item, at int) []int {
	var inside []int
	if at < 0 || at >= len(items) {
		return nil
	}
	end := items[at].End
	next := at + 1
	for next < end && next < len(items) {
		inside = append(inside, next)
		behind := items[next].End
		if behind <= next {
			return inside
		}
		next = behind
	}
	return inside
}

// At tells the item at a place; where there is none, an empty one.
func At(items []Item, at int) Item {
	if at < 0 || at >= len(items) {
		return Item{}
	}
	return items[at]
}
