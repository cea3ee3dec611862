package parse

import (
	"manorboy/api"
	"manorboy/lex"
)

// source is a list of tokens that is read from the left to the right.
type source struct {
	tokens []api.Token
	at     int // the index of the next token
	open   int // how many more of the tokens ahead of it open than close
}

// failure is an error, and the index of the token that has it. Where the end is wrong, it knows a token that would be right instead.
type failure struct {
	e     api.Errno
	at    int
	right api.Token
}

// hasText reports whether a token is the sign or the word with a text.
func hasText(t api.Token, text string) bool {
	return (t.Kind == api.TkSign || t.Kind == api.TkWord) && t.Text == text
}

// symbol returns the sign or the word with a text.
func symbol(text string) api.Token {
	if lex.IsWord(text) {
		return api.Token{Kind: api.TkWord, Text: text}
	}
	return api.Token{Kind: api.TkSign, Text: text}
}

// someName returns an identifier to put where any will do.
func someName() api.Token { return api.Token{Kind: api.TkName, Text: "x"} }

func opens(t api.Token) bool { return hasText(t, "(") || hasText(t, "[") || hasText(t, "begin") }

func closes(t api.Token) bool { return hasText(t, ")") || hasText(t, "]") || hasText(t, "end") }

// ahead returns the token that follows the next n ones. Behind the end there are tokens of no kind.
func (s *source) ahead(n int) api.Token {
	if s.at+n < len(s.tokens) {
		return s.tokens[s.at+n]
	}
	return api.Token{}
}

func (s *source) is(text string) bool { return hasText(s.ahead(0), text) }

func (s *source) isName() bool { return s.ahead(0).Kind == api.TkName }

// isLabel reports whether an identifier is next that is a label.
func (s *source) isLabel() bool { return s.isName() && hasText(s.ahead(1), ":") }

// fail says that the next token, or the end, is wrong, and which token would be right.
func (s *source) fail(right api.Token) { panic(failure{api.ErrForm, s.at, right}) }

// pass goes on behind the next token, which the syntax allows.
func (s *source) pass() {
	switch t := s.ahead(0); {
	case opens(t):
		if s.open == api.MaxOpen {
			panic(failure{e: api.ErrLimit, at: s.at})
		}
		s.open++
	case closes(t):
		s.open--
	}
	s.at++
}

// take goes on behind the sign or the word with a text, if it is next.
func (s *source) take(text string) bool {
	if !s.is(text) {
		return false
	}
	s.pass()
	return true
}

// need goes on behind the sign or the word with a text.
func (s *source) need(text string) {
	if !s.take(text) {
		s.fail(symbol(text))
	}
}

// name reads an identifier.
func (s *source) name() string {
	t := s.ahead(0)
	if t.Kind != api.TkName {
		s.fail(someName())
	}
	s.pass()
	return t.Text
}

// separated reads elements by a rule, at most so many, with a sign between two of them.
func separated[T any](s *source, sign string, most int, rule func() T) []T {
	list := []T{rule()}
	for len(list) < most && s.take(sign) {
		list = append(list, rule())
	}
	return list
}
