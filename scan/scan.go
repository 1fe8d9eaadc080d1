// Package scan reads the bytes of a line: its words, and which of them are numbers or names.
package scan

import (
	"strings"

	"anvil/api"
)

// maxDigits is small enough that every number as it is written fits into an int.
const maxDigits = 18

// Words gives what stands between the blanks of a line.
func Words(line string) []string {
	return strings.FieldsFunc(line, isBlank)
}

func isBlank(r rune) bool {
	return r == ' ' || r == '\t' || r == '\n' || r == '\r'
}

// Number gives the number that a word is, if it is one as it is written.
func Number(word string) (int, bool) {
	digits, below := strings.CutPrefix(word, "-")
	if digits == "" || len(digits) > maxDigits {
		return 0, false
	}
	n := 0
	for i := range len(digits) {
		d := digits[i]
		if d < '0' || d > '9' {
			return 0, false
		}
		n = n*10 + int(d-'0')
	}
	if below {
		n = -n
	}
	return n, true
}

// IsName says whether a word may be the name of a word of one's own, as far as its bytes tell.
func IsName(word string) bool {
	if word == "" || len(word) > api.MaxName {
		return false
	}
	for i := range len(word) {
		if word[i] < 33 || word[i] > 126 {
			return false
		}
	}
	_, isNumber := Number(word)
	return !isNumber
}
