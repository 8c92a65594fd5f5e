// Package token: tokens: see doc/01-token.md.
package token

import (
	"strings"

	"veilwork/api"
)

// signs are those of one byte.
const signs = "{}();:!,=+-*<"

// place is where a text can't go on, and why.
type place struct {
	at  int
	why api.Errno
}

// Scan a text.
func Scan(s string) ([]api.Token, int, api.Errno) {
	if len(s) > api.MaxText {
		return nil, 0, api.ErrMany
	}
	return scan(s)
}

// Join tokens.
func Join(l []api.Token) (string, api.Errno) {
	long := 0
	for _, t := range l {
		if !alone(t) {
			return "", api.ErrForm
		}
		long += len(t.Text) + 1
	}
	// There is one blank fewer than there are tokens.
	if long-1 > api.MaxText {
		return "", api.ErrMany
	}
	return glue(l), api.OK
}

// alone: is a token the only one of its text, with nothing around it?
func alone(t api.Token) bool {
	l, _, e := Scan(t.Text)
	return e == api.OK && len(l) == 1 && l[0].Kind == t.Kind && l[0].Text == t.Text
}

// glue puts texts of tokens together, one blank between.
func glue(l []api.Token) string {
	var b strings.Builder
	for i, t := range l {
		if i > 0 {
			b.WriteByte(' ')
		}
		b.WriteString(t.Text)
	}
	return b.String()
}

// scan is Scan of a text that is not too long; its results have names, so that they can still be set when it gave up.
func scan(s string) (l []api.Token, at int, e api.Errno) {
	defer func() {
		if why := recover(); why != nil {
			p := why.(place)
			l, at, e = nil, p.at, p.why
		}
	}()
	for i := skip(s, 0); i < len(s); {
		t := next(s, i)
		l = append(l, t)
		i = skip(s, i+len(t.Text))
	}
	return l, 0, api.OK
}

// skip goes on to where a token must begin, or to the end.
func skip(s string, at int) int {
	for at < len(s) {
		switch s[at] {
		case ' ', '\t', '\n':
			at++
		case '#':
			at = span(s, at, func(c byte) bool { return c != '\n' })
		default:
			return at
		}
	}
	return at
}

// next is the token that begins at a place.
func next(s string, at int) api.Token {
	switch c := s[at]; {
	case isLetter(c):
		return name(s, at)
	case isDigit(c):
		return number(s, at)
	}
	return sign(s, at)
}

func name(s string, at int) api.Token {
	to := span(s, at, func(c byte) bool { return isLetter(c) || isDigit(c) })
	if to-at > api.MaxName {
		panic(place{at, api.ErrMany})
	}
	return cut(s, api.TokenName, at, to)
}

func number(s string, at int) api.Token {
	to := span(s, at, isDigit)
	if to-at > api.MaxDigits {
		panic(place{at, api.ErrMany})
	}
	if s[at] == '0' && to-at > 1 {
		panic(place{at, api.ErrForm})
	}
	return cut(s, api.TokenNumber, at, to)
}

func sign(s string, at int) api.Token {
	if strings.HasPrefix(s[at:], "==") {
		return cut(s, api.TokenSign, at, at+2)
	}
	if strings.IndexByte(signs, s[at]) < 0 {
		panic(place{at, api.ErrForm})
	}
	return cut(s, api.TokenSign, at, at+1)
}

// cut makes a token; its text is a copy, as an answer shares no memory with what came in.
func cut(s string, kind, at, to int) api.Token {
	return api.Token{Kind: kind, At: at, Text: strings.Clone(s[at:to])}
}

// span goes on from a place as long as bytes go on in the same thing.
func span(s string, at int, goesOn func(c byte) bool) int {
	for at < len(s) && goesOn(s[at]) {
		at++
	}
	return at
}

func isLetter(c byte) bool { return 'a' <= c && c <= 'z' }

func isDigit(c byte) bool { return '0' <= c && c <= '9' }
