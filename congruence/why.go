package congruence

// reasons goes from pairs of congruent terms to the marks that make them so.
type reasons struct {
	c     *Classes
	told  []bool // by term: the step from it is told
	from  []int  // pairs that are still to be gone between
	to    []int
	marks []int
}

// Why tells the marks of equalities because of which two terms are congruent, each once; none, if they are not.
func (c *Classes) Why(a int, b int) []int {
	r := reasons{c: c, told: make([]bool, len(c.of))}
	r.ask(a, b)
	for len(r.from) > 0 {
		// Each step is told once, and asks for no more than two pairs: so this comes to an end.
		last := len(r.from) - 1
		a = r.from[last]
		b = r.to[last]
		r.from = r.from[:last]
		r.to = r.to[:last]
		r.between(a, b)
	}
	return r.marks
}

// ask takes a pair in.
func (r *reasons) ask(a int, b int) {
	if a != b && r.c.Same(a, b) {
		r.from = append(r.from, a)
		r.to = append(r.to, b)
	}
}

// between tells the steps on the way between two terms.
func (r *reasons) between(a int, b int) {
	meet := r.c.meeting(a, b)
	r.climb(a, meet)
	r.climb(b, meet)
}

// climb tells the steps on the way from a term to one above it.
func (r *reasons) climb(number int, top int) {
	for number != top && number >= 0 && number < len(r.told) {
		next := r.c.up[number]
		if !r.told[number] {
			r.told[number] = true
			r.step(number, next)
		}
		number = next
	}
}

// step tells one step: its mark, or why the arguments are congruent.
func (r *reasons) step(number int, next int) {
	mark := r.c.mark[number]
	if mark != byArguments {
		r.marks = append(r.marks, mark)
		return
	}
	s := r.c.st.Term(number)
	t := r.c.st.Term(next)
	for i := range s.Args {
		r.ask(s.Arg(i), t.Arg(i))
	}
}

// meeting is the first term at which the ways from two congruent ones to the last of their class meet.
func (c *Classes) meeting(a int, b int) int {
	passed := make([]bool, len(c.up))
	for a >= 0 && a < len(c.up) {
		passed[a] = true
		a = c.up[a]
	}
	for b >= 0 && b < len(c.up) && !passed[b] {
		b = c.up[b]
	}
	return b
}
