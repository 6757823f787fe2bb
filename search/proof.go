package search

// proof tells the lines because of which there is a contradiction without a guess.
func (s *search) proof() string {
	l := lesson{seen: make([]bool, len(s.things))}
	s.look(&l, s.wrong)
	s.ground(&l)
	needed := make([]bool, len(s.lines))
	mark(needed, l.from)
	for i := len(s.lines) - 1; i >= 0; i-- {
		if needed[i] {
			mark(needed, s.lines[i].from)
		}
	}
	var text []byte
	for i := range s.lines {
		if needed[i] {
			text = append(text, s.lineText(s.lines[i])...)
		}
	}
	text = append(text, "R\n"...)
	return string(text)
}

// mark marks places.
func mark(marked []bool, places []int) {
	for _, i := range places {
		if i >= 0 && i < len(marked) {
			marked[i] = true
		}
	}
}

// lineText is a line as it is told.
func (s *search) lineText(l line) string {
	if l.ready != "" {
		return l.ready + "\n"
	}
	text := l.head
	for _, code := range l.literals {
		text += " " + s.literal(code).Text()
	}
	return text + "\n"
}
