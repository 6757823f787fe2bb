package proofs

// The kinds of atoms, by their letters.
const (
	isTrue   = 'T'
	areEqual = 'E'
	isAtMost = 'L'
)

// atom is something that can be so of one term or of two. Of areEqual a is below b; of isTrue b is 0.
type atom struct {
	kind byte
	a    int
	b    int
}

// literal says that its atom is so, or that it is not.
type literal struct {
	atom atom
	not  bool
}

// truth is the atom that a term is true.
func truth(a int) atom { return atom{kind: isTrue, a: a} }

// atMost is the atom that a term is at most another.
func atMost(a int, b int) atom { return atom{kind: isAtMost, a: a, b: b} }

// equality is the atom that two different terms are equal.
func equality(a int, b int) atom {
	if a > b {
		return atom{kind: areEqual, a: b, b: a}
	}
	return atom{kind: areEqual, a: a, b: b}
}

// codes counts the codes of literals of so many terms.
func codes(terms int) int { return 2 * (terms + 2*terms*terms) }

// code is a literal's place among all of so many terms; that of its opposite is next to it, the two an even one and the odd one behind.
func (l literal) code(terms int) int {
	place := l.atom.a
	if l.atom.kind != isTrue {
		place = terms + l.atom.a*terms + l.atom.b
	}
	if l.atom.kind == isAtMost {
		place += terms * terms
	}
	if l.not {
		return 2*place + 1
	}
	return 2 * place
}

// coded tells the codes of literals.
func (c *checker) coded(list []literal) []int {
	var coded []int
	for _, l := range list {
		coded = append(coded, l.code(len(c.st.Terms)))
	}
	return coded
}

// opposite is the code of a literal's opposite.
func opposite(code int) int { return code ^ 1 }
