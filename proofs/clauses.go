package proofs

import "reason/atoms"

// clauses has the clauses of the lines so far, as codes of literals, and what follows from them alone by letting, of a clause of which but one literal can still be so, that one be so.
//
// A clause waits at two of its literals, its first two, and is looked at again when one of these is no more: as long as neither is, more than one of its literals can be so. A literal that was let be so for the sake of one line is taken back behind it; that leaves the waiting as it is.
type clauses struct {
	so      []bool  // by code: the literal is so
	seen    []bool  // by code: for telling the same literal twice
	list    [][]int // clauses of which two literals could be so when they joined
	waiting [][]int // by code: the clauses that wait at the literal
	trail   []int   // the literals that are so, in the order in which they became so
	done    int     // of so many of these it was looked at what follows
	broken  bool    // a clause has only literals that are not so, by the clauses alone
}

// newClauses has no clause yet, for so many codes.
func newClauses(codes int) clauses {
	if codes < 0 {
		return clauses{}
	}
	return clauses{so: make([]bool, codes), seen: make([]bool, codes), waiting: make([][]int, codes)}
}

// isSo tells whether a literal is so.
func (k *clauses) isSo(code int) bool { return code >= 0 && code < len(k.so) && k.so[code] }

// let lets a literal be so, and tells whether its opposite is so too.
func (k *clauses) let(code int) bool {
	if code < 0 || code >= len(k.so) || k.so[code] {
		return false
	}
	k.so[code] = true
	k.trail = append(k.trail, code)
	return k.isSo(atoms.Opposite(code))
}

// refute tells whether letting all these literals be false comes to a contradiction.
func (k *clauses) refute(literals []int) bool {
	if k.broken {
		return true
	}
	before := len(k.trail)
	contrary := false
	for _, code := range literals {
		now := k.let(atoms.Opposite(code))
		contrary = contrary || now
	}
	if !contrary {
		contrary = k.follow()
	}
	k.takeBack(before)
	return contrary
}

// takeBack leaves but the first n literals so.
func (k *clauses) takeBack(n int) {
	if n < 0 || n > len(k.trail) {
		return
	}
	for _, code := range k.trail[n:] {
		if code >= 0 && code < len(k.so) {
			k.so[code] = false
		}
	}
	k.trail = k.trail[:n]
	k.done = n
}

// add takes a clause in, and looks at what follows.
func (k *clauses) add(literals []int) {
	var left []int
	for _, code := range literals {
		if !k.marked(code) && !k.isSo(atoms.Opposite(code)) {
			left = append(left, code)
		}
		k.mark(code, true)
	}
	for _, code := range literals {
		k.mark(code, false)
	}
	k.join(left)
}

// join takes in the literals of a clause that can still be so.
func (k *clauses) join(left []int) {
	if k.broken {
		return
	}
	if len(left) == 0 {
		k.broken = true
		return
	}
	if len(left) > 1 {
		place := len(k.list)
		k.list = append(k.list, left)
		k.waitAt(left[0], place)
		k.waitAt(left[1], place)
		return
	}
	k.let(left[0])
	k.broken = k.follow()
}

// waitAt lets a clause wait at a literal.
func (k *clauses) waitAt(code int, place int) {
	if code >= 0 && code < len(k.waiting) {
		k.waiting[code] = append(k.waiting[code], place)
	}
}

// marked tells whether a literal is marked.
func (k *clauses) marked(code int) bool { return code >= 0 && code < len(k.seen) && k.seen[code] }

// mark marks a literal, or takes the mark away.
func (k *clauses) mark(code int, seen bool) {
	if code >= 0 && code < len(k.seen) {
		k.seen[code] = seen
	}
}
