package proofs

import (
	"reason/api"
	"reason/sums"
	"reason/whole"
)

// branch is the second tree of an `s`, on its way through the first: it is over the first so many sums and one more, by which the term is above the bound.
type branch struct {
	sums  int
	term  sums.Sum
	bound whole.Number
}

// tree reads a TREE over a list of sums. What is still to come stands in waiting, and not in calls within calls: so a tree may be as deep as it likes.
type tree struct {
	c       *checker
	words   []string
	at      int // the word at hand
	list    []sums.Sum
	waiting []branch
	ended   bool
}

// closes tells whether the words are a tree that is right, with nothing behind.
func (t *tree) closes() bool {
	for !t.ended {
		// Each step takes a word at the least, and behind the last there is none that is right.
		right := t.step()
		if !right {
			return false
		}
	}
	return t.at == len(t.words)
}

// next tells the word at hand, and goes on to the one behind it.
func (t *tree) next() string {
	word := wordAt(t.words, t.at)
	t.at++
	return word
}

// step reads what stands at hand, up to the next tree, and tells whether it is right.
func (t *tree) step() bool {
	word := t.next()
	switch word {
	case "f", "f;":
		return t.finish(word)
	case "s":
		return t.split()
	case "c", "c;":
		return t.cut(word)
	}
	return false
}

// finish reads an `f`, and turns to the second tree of the last `s` that waits for it.
func (t *tree) finish(head string) bool {
	s, ok := t.combined(head)
	if !ok || len(s.Parts) > 0 || whole.Sign(s.Number) <= 0 {
		return false
	}
	last := len(t.waiting) - 1
	if last < 0 {
		t.ended = true
		return true
	}
	b := t.waiting[last]
	t.waiting = t.waiting[:last]
	if b.sums <= len(t.list) {
		t.list = t.list[:b.sums]
	}
	above := whole.Add(b.bound, whole.From(1))
	t.list = append(t.list, t.c.minus(sums.Constant(above), b.term))
	return true
}

// split reads an `s`, up to its first tree.
func (t *tree) split() bool {
	word := t.next()
	number, ok := t.c.number(word)
	word = t.next()
	bound, okToo := whole.Parse(word)
	if !ok || !okToo || t.c.sortOf(number) != api.Int {
		return false
	}
	term := sums.At(t.c.terms, number)
	t.waiting = append(t.waiting, branch{sums: len(t.list), term: term, bound: bound})
	t.list = append(t.list, t.c.minus(term, sums.Constant(bound)))
	return true
}

// cut reads a `c`, up to its tree.
func (t *tree) cut(head string) bool {
	s, ok := t.combined(head)
	if !ok || len(s.Parts) == 0 {
		return false
	}
	t.list = append(t.list, sums.Rounded(s))
	return true
}

// combined reads as many multiples as there are sums, behind their head, and adds each sum so often.
func (t *tree) combined(head string) (sums.Sum, bool) {
	total := sums.NewTotal(len(t.c.terms))
	if (len(t.list) == 0) != endsHere(head) {
		return sums.Sum{}, false
	}
	for i, s := range t.list {
		word := t.next()
		if (i == len(t.list)-1) != endsHere(word) {
			return sums.Sum{}, false
		}
		times, ok := whole.Parse(withoutEnd(word))
		if !ok || whole.Sign(times) < 0 {
			return sums.Sum{}, false
		}
		total.Add(s, times)
	}
	return total.Sum(), true
}

// endsHere tells whether a word ends with `;`.
func endsHere(word string) bool { return len(word) > 0 && word[len(word)-1] == ';' }

// withoutEnd takes the `;` away that ends a word.
func withoutEnd(word string) string {
	if endsHere(word) {
		return word[:len(word)-1]
	}
	return word
}
