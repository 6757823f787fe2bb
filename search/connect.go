package search

import "reason/atoms"

// all takes in that one literal is so just if all parts are.
func (s *search) all(head string, one int, parts []int) {
	both := []int{one}
	for _, part := range parts {
		s.say(line{head: head, literals: []int{atoms.Opposite(one), part}})
		both = append(both, atoms.Opposite(part))
	}
	s.say(line{head: head, literals: both})
}

// differ takes in that one literal is so just if of two others one is so and one is not.
func (s *search) differ(head string, one int, two []int) {
	if len(two) != 2 {
		return
	}
	a := two[0]
	b := two[1]
	notA := atoms.Opposite(a)
	notB := atoms.Opposite(b)
	s.say(line{head: head, literals: []int{atoms.Opposite(one), a, b}})
	s.say(line{head: head, literals: []int{atoms.Opposite(one), notA, notB}})
	s.say(line{head: head, literals: []int{one, notA, b}})
	s.say(line{head: head, literals: []int{one, a, notB}})
}

// choose takes in that one literal is so just if the second of three is, where the first is so, and else the third.
func (s *search) choose(head string, one int, three []int) {
	if len(three) != 3 {
		return
	}
	notOne := atoms.Opposite(one)
	yes := three[1]
	no := three[2]
	s.say(line{head: head, literals: []int{atoms.Opposite(three[0]), notOne, yes}})
	s.say(line{head: head, literals: []int{atoms.Opposite(three[0]), one, atoms.Opposite(yes)}})
	s.say(line{head: head, literals: []int{three[0], notOne, no}})
	s.say(line{head: head, literals: []int{three[0], one, atoms.Opposite(no)}})
	// What follows from these, so that it follows at once.
	s.say(line{head: head, literals: []int{notOne, yes, no}})
	s.say(line{head: head, literals: []int{one, atoms.Opposite(yes), atoms.Opposite(no)}})
}
