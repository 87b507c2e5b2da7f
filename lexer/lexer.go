// Package lexer: words of a question.
package lexer

import (
	"strings"

	"penstock/api"
)

const (
	blank      = ' '
	shortSigns = "(),*+-<>="
)

// Words of a text: letters that stand together, digits that do, and signs; blanks stand between.
func Words(s string) ([]string, error) {
	if len(s) > api.MaxText {
		return nil, api.ErrMany
	}
	var words []string
	for at := 0; at < len(s); {
		if s[at] == blank {
			at++
			continue
		}
		n := wordLength(s[at:])
		if n == 0 {
			return nil, api.ErrText
		}
		if len(words) == api.MaxTokens {
			return nil, api.ErrMany
		}
		words = append(words, s[at:at+n])
		at += n
	}
	return words, nil
}

// wordLength of the word that a text, which is not empty, begins with; 0: it begins with none.
func wordLength(s string) int {
	switch {
	case isLetter(s[0]):
		return runLength(s, isLetter)
	case isDigit(s[0]):
		return runLength(s, isDigit)
	}
	return signLength(s)
}

// signLength: the longer signs come first, since each of them begins with a shorter one.
func signLength(s string) int {
	if len(s) >= 2 {
		switch s[:2] {
		case "<=", ">=", "<>":
			return 2
		}
	}
	if strings.IndexByte(shortSigns, s[0]) >= 0 {
		return 1
	}
	return 0
}

// runLength: how many bytes at the beginning of a text belong together.
func runLength(s string, belongs func(byte) bool) int {
	n := 0
	for n < len(s) && belongs(s[n]) {
		n++
	}
	return n
}

func isLetter(c byte) bool { return 'a' <= c && c <= 'z' }

func isDigit(c byte) bool { return '0' <= c && c <= '9' }
