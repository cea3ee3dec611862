package lex

import "manorboy/api"

// What decides where comments are.
const (
	wordBegin   = "begin"
	wordEnd     = "end"
	wordElse    = "else"
	wordComment = "comment"
	semicolon   = ";"
)

var words = [...]string{
	"begin", "end", "if", "then", "else", "for", "do", "step", "until", "while", "goto", "own", "integer", "real", "boolean",
	"array", "switch", "procedure", "value", "label", "string", "true", "false", "comment", "not", "and", "or", "imp", "eqv",
}

var signs = [...]string{
	"+", "-", "*", "/", "//", "^", "<", "<=", "=", "/=", ">=", ">", ":=", ":", ";", ",", "(", ")", "[", "]",
}

// Words returns the reserved words: L1.
func Words() []string {
	// The caller gets a copy.
	list := words
	return list[:]
}

// Signs returns the signs: L1.
func Signs() []string {
	list := signs
	return list[:]
}

// IsWord reports whether s is a reserved word: L2.
func IsWord(s string) bool {
	for _, word := range words {
		if word == s {
			return true
		}
	}
	return false
}

func isSign(s string) bool {
	for _, sign := range signs {
		if sign == s {
			return true
		}
	}
	return false
}

// IsName reports whether s is an identifier: L2.
func IsName(s string) bool {
	if s == "" || len(s) > api.MaxName || !isLetter(s[0]) {
		return false
	}
	return len(lead(s, isPart)) == len(s) && !IsWord(s)
}

// kind says what a byte can be in a text.
type kind struct {
	blank  bool // it may separate tokens
	letter bool // words and identifiers begin with it
	part   bool // it is in a run: a letter or a digit
	plain  bool // it may stand in a string
}

func kindOf(c byte) (k kind) {
	switch {
	case 'a' <= c && c <= 'z':
		k.letter = true
		fallthrough
	case '0' <= c && c <= '9':
		k.part = true
		fallthrough
	case ' ' < c && c <= '~' && c != quote:
		k.plain = true
	case c == ' ':
		k.plain = true
		fallthrough
	case c == '\t', c == '\n', c == '\r':
		k.blank = true
	}
	return k
}

func isBlank(c byte) bool  { return kindOf(c).blank }
func isLetter(c byte) bool { return kindOf(c).letter }
func isPart(c byte) bool   { return kindOf(c).part }
func isPlain(c byte) bool  { return kindOf(c).plain }
func isDigit(c byte) bool  { return isPart(c) && !isLetter(c) }

// lead returns the longest beginning of s that has only bytes of a kind.
func lead(s string, is func(c byte) bool) string {
	for i := range len(s) {
		if !is(s[i]) {
			return s[:i]
		}
	}
	return s
}
