package proofs

import (
	"reason/atoms"
	"reason/sums"
	"reason/whole"
)

// summed reads a line A.
func (c *checker) summed(words []string) ([]atoms.Literal, bool) {
	bar := 0
	for bar < len(words) && words[bar] != "|" {
		bar++
	}
	if bar == len(words) {
		return nil, false
	}
	list, ok := c.literals(words[:bar])
	if !ok {
		return nil, false
	}
	t := tree{c: c, words: words[bar+1:], list: c.sumsOf(list)}
	return judged(list, t.closes())
}

// sumsOf tells the sums that are at most 0, if all the literals are false.
func (c *checker) sumsOf(list []atoms.Literal) []sums.Sum {
	var made []sums.Sum
	one := sums.Constant(whole.From(1))
	for _, l := range list {
		if l.Atom.Kind == atoms.IsTrue || l.Atom.Kind == atoms.AreEqual && !l.Not {
			continue
		}
		a := sums.At(c.terms, l.Atom.A)
		b := sums.At(c.terms, l.Atom.B)
		if l.Not {
			made = append(made, c.minus(a, b))
		}
		if l.Not && l.Atom.Kind == atoms.AreEqual {
			made = append(made, c.minus(b, a))
		}
		if !l.Not {
			// b - a + 1
			less := c.minus(a, one)
			made = append(made, c.minus(b, less))
		}
	}
	return made
}

// minus is the first sum less the second.
func (c *checker) minus(a sums.Sum, b sums.Sum) sums.Sum { return sums.Minus(a, b, len(c.terms)) }
