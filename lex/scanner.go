package lex

import (
	"strings"

	"manorboy/api"
	"manorboy/integer"
	"manorboy/real"
)

// quote is the byte around a string.
const quote = '"'

// place is a place in a text that is read from the left to the right.
type place struct {
	text string
	at   int
}

func (p *place) rest() string { return p.text[p.at:] }

// run returns the letters and digits that the rest begins with.
func (p *place) run() string { return lead(p.rest(), isPart) }

func (p *place) skipBlanks() { p.at += len(lead(p.rest(), isBlank)) }

// passSemicolon goes on behind the next semicolon, if there is one.
func (p *place) passSemicolon() bool {
	length := strings.Index(p.rest(), semicolon)
	if length < 0 {
		return false
	}
	p.at += length + len(semicolon)
	return true
}

// skipTail goes on to what ends the comment behind a word end.
func (p *place) skipTail() {
bytes:
	for p.at < len(p.text) {
		switch run := p.run(); {
		case run == wordEnd, run == wordElse, strings.HasPrefix(p.rest(), semicolon):
			break bytes
		case run == "":
			p.at++
		default:
			// No end is found inside of a longer run.
			p.at += len(run)
		}
	}
}

// scanner reads a text. At the first error it panics with a failure, so that no reader of a part has to hand it on.
type scanner struct {
	place
	tokens []api.Token
}

// failure is an error, and the offset of the token or comment that has it.
type failure struct {
	e  api.Errno
	at int
}

func (s *scanner) fail(e api.Errno) { panic(failure{e, s.at}) }

// add makes a token of the next bytes.
func (s *scanner) add(t api.Token, length int) {
	t.At, t.End = s.at, s.at+length
	s.tokens = append(s.tokens, t)
	s.at = t.End
}

// comment reads from the word comment to a semicolon: L4.
func (s *scanner) comment() {
	if !s.mayComment() || !s.passSemicolon() {
		s.fail(api.ErrForm)
	}
}

// mayComment reports whether the last token allows a comment behind it.
func (s *scanner) mayComment() bool {
	if len(s.tokens) == 0 {
		return false
	}
	last := s.tokens[len(s.tokens)-1]
	return isSemicolon(last) || isWord(last, wordBegin)
}

// token reads a token, and the comment behind it if it is the word end: L5 to L9.
func (s *scanner) token() {
	if len(s.tokens) == api.MaxTokens {
		s.fail(api.ErrLimit)
	}
	switch first := s.text[s.at]; {
	case isLetter(first):
		s.word()
	case isDigit(first):
		s.number()
	case first == quote:
		s.quoted()
	default:
		s.sign()
	}
}

// word reads a reserved word or an identifier: L6.
func (s *scanner) word() {
	text := s.run()
	if !IsWord(text) {
		if len(text) > api.MaxName {
			s.fail(api.ErrLimit)
		}
		s.add(api.Token{Kind: api.TkName, Text: text}, len(text))
		return
	}
	s.add(api.Token{Kind: api.TkWord, Text: text}, len(text))
	if text == wordEnd {
		s.skipTail()
	}
}

// number reads an integer or a real number: L7.
func (s *scanner) number() {
	rest := s.rest()
	length, whole := numberLength(rest)
	text, behind := rest[:length], rest[length:]
	if strings.HasPrefix(behind, ".") || lead(behind, isLetter) != "" {
		s.fail(api.ErrForm)
	}
	t, e := api.Token{Kind: api.TkReal}, api.OK
	if whole {
		t.Kind = api.TkInt
		t.N, e = integer.Parse(text)
	} else {
		t.Real, e = real.Parse(text)
	}
	if e != api.OK {
		s.fail(e)
	}
	s.add(t, length)
}

// numberLength returns the length of the longest number that s begins with, and whether it has digits only.
func numberLength(s string) (length int, whole bool) {
	digits := len(lead(s, isDigit))
	length = digits + fractionLength(s[digits:])
	length += exponentLength(s[length:])
	return length, length == digits
}

func fractionLength(s string) int {
	if strings.HasPrefix(s, ".") {
		return digitsBehind(s, 1)
	}
	return 0
}

func exponentLength(s string) int {
	if strings.HasPrefix(s, "e+") || strings.HasPrefix(s, "e-") {
		return digitsBehind(s, 2)
	}
	if strings.HasPrefix(s, "e") {
		return digitsBehind(s, 1)
	}
	return 0
}

// digitsBehind returns the length of the first n bytes of s together with the digits behind them, or 0 if there are no such digits.
func digitsBehind(s string, n int) int {
	if digits := lead(s[n:], isDigit); digits != "" {
		return n + len(digits)
	}
	return 0
}

// quoted reads a string: L8.
func (s *scanner) quoted() {
	inside := s.rest()[1:]
	text := lead(inside, isPlain)
	if len(text) == len(inside) || inside[len(text)] != quote {
		s.fail(api.ErrForm)
	}
	if len(text) > api.MaxText {
		s.fail(api.ErrLimit)
	}
	s.add(api.Token{Kind: api.TkString, Text: text}, len(text)+2)
}

// sign reads a sign: L9.
func (s *scanner) sign() {
	rest := s.rest()
	for length := min(2, len(rest)); length > 0; length-- {
		if isSign(rest[:length]) {
			s.add(api.Token{Kind: api.TkSign, Text: rest[:length]}, length)
			return
		}
	}
	s.fail(api.ErrForm)
}
