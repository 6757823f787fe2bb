package whole

import (
	"reason/lists"
	"strconv"
)

// Canonical tells whether a text is a numeral as it is written: digits with no nought ahead but of `0` itself, `-` ahead of one below 0, and no `-0`.
func Canonical(text string) bool {
	from := firstDigit(text)
	if from >= len(text) {
		return false
	}
	if text[from] == '0' {
		return len(text) == 1
	}
	for i := from; i < len(text); i++ {
		if !lists.IsDigit(text[i]) {
			return false
		}
	}
	return true
}

// firstDigit is the place behind the sign, if there is one.
func firstDigit(text string) int {
	if len(text) > 0 && text[0] == '-' {
		return 1
	}
	return 0
}

// Parse tells the number that a canonical numeral stands for; of any other text 0 and false.
func Parse(text string) (Number, bool) {
	if !Canonical(text) {
		return Number{}, false
	}
	from := firstDigit(text)
	var limbs []int64
	for end := len(text); end > from; end -= width {
		limbs = append(limbs, limbOf(text, from, end))
	}
	return made(from > 0, limbs), true
}

// limbOf is the number that the last digits ahead of end are, as many as a limb holds, none of them ahead of from.
func limbOf(text string, from int, end int) int64 {
	start := end - width
	if start < from {
		start = from
	}
	var n int64
	for i := start; i >= 0 && i < end && i < len(text); i++ {
		n = n*10 + int64(text[i]-'0')
	}
	return n
}

// Text is a number's canonical numeral.
func (a Number) Text() string {
	if isNear(a) {
		return strconv.FormatInt(a.value, 10)
	}
	// The digits are laid down from the last to the first, with noughts ahead up to a whole limb, and then turned round.
	var turned []byte
	for _, limb := range a.limbs {
		for i := 0; i < width; i++ {
			turned = append(turned, byte('0'+limb%10))
			limb /= 10
		}
	}
	last := len(turned)
	for last > 1 && turned[last-1] == '0' {
		last--
	}
	var text []byte
	if a.value < 0 {
		text = append(text, '-')
	}
	for i := last - 1; i >= 0; i-- {
		text = append(text, turned[i])
	}
	return string(text)
}
