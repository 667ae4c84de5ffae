package bench

import (
	"strconv"
	"strings"
)

// A checksum is less than sumModulus, so that it has sumDigits digits.
const (
	sumFactor  = 271
	sumModulus = 9999937
	sumDigits  = 7
)

// maxDigits is the number of digits of the greatest integer that a text may have.
const maxDigits = 9

// checksum returns the checksum of a string.
func checksum(s string) string {
	x := uint64(1)
	for _, b := range []byte(s) {
		x = (sumFactor*x + uint64(b)) % sumModulus
	}
	digits := strconv.FormatUint(x, 10)
	return strings.Repeat("0", sumDigits-len(digits)) + digits
}

// wordsOf returns the words of a text, which has one space between two of them, if there are as many words as forms, and each
// word has its form. The last word extends to the end of the text, so that its form decides whether it may contain spaces.
func wordsOf(text string, forms ...func(string) bool) ([]string, bool) {
	words := strings.SplitN(text, " ", len(forms))
	if !haveForms(words, forms) {
		return nil, false
	}
	return words, true
}

// haveForms reports whether there are as many words as forms, and each word has its form.
func haveForms(words []string, forms []func(string) bool) bool {
	if len(words) != len(forms) {
		return false
	}
	for i, hasForm := range forms {
		if !hasForm(words[i]) {
			return false
		}
	}
	return true
}

// exactly returns the form of one certain word.
func exactly(wanted string) func(string) bool {
	return func(word string) bool { return word == wanted }
}

// isAnything is the form of any string, with or without spaces.
func isAnything(string) bool {
	return true
}

// isWord is the form of any word.
func isWord(s string) bool {
	return s != "" && !strings.Contains(s, " ")
}

// isInteger is the form of a decimal integer of at most nine digits without leading zeros.
func isInteger(word string) bool {
	return areDigits(word) && len(word) <= maxDigits && (word == "0" || word[0] != '0')
}

// isSum is the form of a checksum.
func isSum(word string) bool {
	return areDigits(word) && len(word) == sumDigits
}

// areDigits reports whether a word consists of decimal digits.
func areDigits(word string) bool {
	return word != "" && strings.Trim(word, "0123456789") == ""
}

// integer returns the integer that a word of its form denotes, and 0 for any other word.
func integer(word string) int {
	if !isInteger(word) {
		return 0
	}
	n, _ := strconv.Atoi(word)
	return n
}
