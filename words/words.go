// Package words has what texts of several layers consist of: names, digits, numbers, and lines of words.
package words

import (
	"slices"
	"strconv"
	"strings"

	"linkboy/api"
)

const maxDigits = 9

// IsName reports whether s is a name: a lower-case letter, and then lower-case letters, digits and hyphens.
func IsName(s string) bool {
	for i := range len(s) {
		if !isLetter(s[i]) && (i == 0 || !isDigit(s[i]) && s[i] != '-') {
			return false
		}
	}
	return len(s) >= 1 && len(s) <= api.MaxName
}

// IsDigits reports whether s is from 1 to most decimal digits.
func IsDigits(s string, most int) bool {
	for i := range len(s) {
		if !isDigit(s[i]) {
			return false
		}
	}
	return len(s) >= 1 && len(s) <= most
}

// Number reads a number of at most nine digits, as a text has it: it has no leading zeros, and only a number below 0 has a hyphen.
func Number(s string) (n int, isNumber bool) {
	digits := strings.TrimPrefix(s, "-")
	if !IsDigits(digits, maxDigits) || digits[0] == '0' && s != "0" {
		return 0, false
	}
	n, err := strconv.Atoi(s)
	return n, err == nil
}

// Split returns the words of a line, or reports that they are not separated by single spaces.
func Split(line string) (words []string, isLine bool) {
	words = strings.Split(line, " ")
	if slices.Contains(words, "") {
		return nil, false
	}
	return words, true
}

func isLetter(b byte) bool { return 'a' <= b && b <= 'z' }

func isDigit(b byte) bool { return '0' <= b && b <= '9' }
