package token_test

import (
	"math/rand"
	"reflect"
	"regexp"
	"strings"
	"sync"
	"testing"
	"unsafe"

	"veilwork/api"
	"veilwork/token"
)

const allSigns = "== { } ( ) ; : ! , = + - * <"

func tok(kind, at int, text string) api.Token { return api.Token{Kind: kind, At: at, Text: text} }

func name(at int, text string) api.Token   { return tok(api.TokenName, at, text) }
func number(at int, text string) api.Token { return tok(api.TokenNumber, at, text) }
func sign(at int, text string) api.Token   { return tok(api.TokenSign, at, text) }

// same: an empty list may be nil or not.
func same(l, m []api.Token) bool {
	return len(l) == 0 && len(m) == 0 || reflect.DeepEqual(l, m)
}

// A1: ordinary texts, and what parts tokens.
func TestScan(t *testing.T) {
	for s, want := range map[string][]api.Token{
		"":                        nil,
		" \t\n":                   nil,
		"#":                       nil,
		"# a\x00\xff\r %":         nil,
		"#\n#\n":                  nil,
		"a":                       {name(0, "a")},
		"z9y0":                    {name(0, "z9y0")},
		"if main":                 {name(0, "if"), name(3, "main")},
		"a\tb\nc d":               {name(0, "a"), name(2, "b"), name(4, "c"), name(6, "d")},
		"a#b\nc":                  {name(0, "a"), name(4, "c")},
		"a # b # c\n\n  d#":       {name(0, "a"), name(13, "d")},
		"0":                       {number(0, "0")},
		"0a":                      {number(0, "0"), name(1, "a")},
		"12ab34 56":               {number(0, "12"), name(2, "ab34"), number(7, "56")},
		"-0":                      {sign(0, "-"), number(1, "0")},
		"==":                      {sign(0, "==")},
		"= =":                     {sign(0, "="), sign(2, "=")},
		"===":                     {sign(0, "=="), sign(2, "=")},
		"====":                    {sign(0, "=="), sign(2, "==")},
		"=#\n=":                   {sign(0, "="), sign(3, "=")},
		"{a:b,c;d!}":              {sign(0, "{"), name(1, "a"), sign(2, ":"), name(3, "b"), sign(4, ","), name(5, "c"), sign(6, ";"), name(7, "d"), sign(8, "!"), sign(9, "}")},
		"(+-*<)":                  {sign(0, "("), sign(1, "+"), sign(2, "-"), sign(3, "*"), sign(4, "<"), sign(5, ")")},
		"abcdefghijkl 9999999":    {name(0, "abcdefghijkl"), number(13, "9999999")},
		"a12345678901 1000000 b0": {name(0, "a12345678901"), number(13, "1000000"), name(21, "b0")},
	} {
		l, at, e := token.Scan(s)
		if !same(l, want) || at != 0 || e != api.OK {
			t.Errorf("A1: Scan(%q): %v %d %d, want %v", s, l, at, e, want)
		}
	}
}

// A1: errors, each at the first token or byte that it is of.
func TestScanErrors(t *testing.T) {
	for _, c := range []struct {
		text string
		at   int
		e    api.Errno
	}{
		{"X", 0, api.ErrForm},
		{"aX", 1, api.ErrForm},
		{"a\r", 1, api.ErrForm},
		{"a \v", 2, api.ErrForm},
		{"a\x00", 1, api.ErrForm},
		{"\u00e4", 0, api.ErrForm},
		{"\u00a0a", 0, api.ErrForm},
		{"a_b", 1, api.ErrForm},
		{"1 > 2", 2, api.ErrForm},
		{"a; &; %", 3, api.ErrForm},
		{"# %\n%", 4, api.ErrForm},
		{"abcdefghijklm", 0, api.ErrMany},
		{"a abcdefghijkl0 %", 2, api.ErrMany},
		{"% abcdefghijklm", 0, api.ErrForm},
		{"x 12345678", 2, api.ErrMany},
		{"x 12345678 %", 2, api.ErrMany},
		{"00", 0, api.ErrForm},
		{"0 01", 2, api.ErrForm},
		{"0000000", 0, api.ErrForm},
		{"00000000", 0, api.ErrMany},
		{"01 12345678", 0, api.ErrForm},
		{"12345678 01", 0, api.ErrMany},
	} {
		l, at, e := token.Scan(c.text)
		if len(l) != 0 || at != c.at || e != c.e {
			t.Errorf("A1: Scan(%q): %v %d %d, want %d %d", c.text, l, at, e, c.at, c.e)
		}
	}
}

// A1: MaxText, ahead of all else.
func TestScanLongTexts(t *testing.T) {
	for _, fill := range []string{" ", ";", "#", "\n"} {
		if _, at, e := token.Scan(strings.Repeat(fill, api.MaxText)); at != 0 || e != api.OK {
			t.Errorf("A1: MaxText of %q: %d %d", fill, at, e)
		}
		if l, at, e := token.Scan(strings.Repeat(fill, api.MaxText+1)); len(l) != 0 || at != 0 || e != api.ErrMany {
			t.Errorf("A1: more than MaxText of %q: %v %d %d", fill, l, at, e)
		}
	}
	if _, at, e := token.Scan(strings.Repeat(" ", api.MaxText-1) + "%"); at != api.MaxText-1 || e != api.ErrForm {
		t.Errorf("A1: the last byte: %d %d", at, e)
	}
	if _, at, e := token.Scan(" %" + strings.Repeat(" ", api.MaxText)); at != 0 || e != api.ErrMany {
		t.Errorf("A1: too long, and no token: %d %d", at, e)
	}
}

var (
	gap  = regexp.MustCompile(`^(?:[ \t\n]|#[^\n]*)+`)
	word = regexp.MustCompile(`^(?:([a-z][a-z0-9]*)|([0-9]+)|(==|[{}();:!,=+*<-]))`)
)

// slowScan is Scan of short texts, by patterns.
func slowScan(s string) ([]api.Token, int, api.Errno) {
	var l []api.Token
	for at := 0; ; {
		at += len(gap.FindString(s[at:]))
		if at == len(s) {
			return l, 0, api.OK
		}
		m := word.FindStringSubmatch(s[at:])
		switch {
		case m == nil:
			return nil, at, api.ErrForm
		case len(m[1]) > 12 || len(m[2]) > 7:
			return nil, at, api.ErrMany
		case len(m[2]) > 1 && m[2][0] == '0':
			return nil, at, api.ErrForm
		case m[1] != "":
			l = append(l, name(at, m[1]))
		case m[2] != "":
			l = append(l, number(at, m[2]))
		default:
			l = append(l, sign(at, m[3]))
		}
		at += len(m[0])
	}
}

func randomText(r *rand.Rand) string {
	bytes := "abz019 \t\n#{}();:!,==+-*<"
	if r.Intn(4) == 0 {
		bytes += "A%\r\x00\xc3\xa4"
	}
	b := make([]byte, r.Intn(60))
	for i := range b {
		b[i] = bytes[r.Intn(len(bytes))]
		if i > 0 && r.Intn(3) > 0 && strings.IndexByte("abz019", b[i-1]) >= 0 {
			b[i] = "abz019"[r.Intn(6)]
		}
	}
	return string(b)
}

// A1, P1: whatever the text is.
func TestScanRandomTexts(t *testing.T) {
	r := rand.New(rand.NewSource(1))
	for range 20000 {
		s := randomText(r)
		l, at, e := token.Scan(s)
		m, to, f := slowScan(s)
		if !same(l, m) || at != to || e != f {
			t.Fatalf("A1: Scan(%q): %v %d %d, want %v %d %d", s, l, at, e, m, to, f)
		}
	}
}

// A2: ordinary tokens, and those that are not the only one of their texts.
func TestJoin(t *testing.T) {
	for _, c := range []struct {
		l    []api.Token
		want string
		e    api.Errno
	}{
		{nil, "", api.OK},
		{[]api.Token{}, "", api.OK},
		{[]api.Token{name(0, "a")}, "a", api.OK},
		{[]api.Token{name(7, "if"), number(-3, "0"), sign(7, "=="), sign(1<<40, "=")}, "if 0 == =", api.OK},
		{[]api.Token{name(0, "abcdefghijkl"), number(0, "9999999")}, "abcdefghijkl 9999999", api.OK},
		{[]api.Token{{}}, "", api.ErrForm},
		{[]api.Token{name(0, "")}, "", api.ErrForm},
		{[]api.Token{name(0, " a")}, "", api.ErrForm},
		{[]api.Token{name(0, "a ")}, "", api.ErrForm},
		{[]api.Token{name(0, "a\n")}, "", api.ErrForm},
		{[]api.Token{name(0, "a#")}, "", api.ErrForm},
		{[]api.Token{name(0, "#a")}, "", api.ErrForm},
		{[]api.Token{name(0, "a b")}, "", api.ErrForm},
		{[]api.Token{name(0, "a;")}, "", api.ErrForm},
		{[]api.Token{name(0, "A")}, "", api.ErrForm},
		{[]api.Token{name(0, "1")}, "", api.ErrForm},
		{[]api.Token{name(0, "1a")}, "", api.ErrForm},
		{[]api.Token{name(0, ";")}, "", api.ErrForm},
		{[]api.Token{name(0, "abcdefghijklm")}, "", api.ErrForm},
		{[]api.Token{number(0, "a")}, "", api.ErrForm},
		{[]api.Token{number(0, "01")}, "", api.ErrForm},
		{[]api.Token{number(0, "-1")}, "", api.ErrForm},
		{[]api.Token{number(0, "10000000")}, "", api.ErrForm},
		{[]api.Token{sign(0, "= =")}, "", api.ErrForm},
		{[]api.Token{sign(0, "===")}, "", api.ErrForm},
		{[]api.Token{sign(0, "&")}, "", api.ErrForm},
		{[]api.Token{sign(0, "a")}, "", api.ErrForm},
		{[]api.Token{tok(0, 0, "a")}, "", api.ErrForm},
		{[]api.Token{tok(4, 0, "a")}, "", api.ErrForm},
		{[]api.Token{tok(-1, 0, ";")}, "", api.ErrForm},
		{[]api.Token{name(0, "a"), name(0, "b"), name(0, "%")}, "", api.ErrForm},
	} {
		if s, e := token.Join(c.l); s != c.want || e != c.e {
			t.Errorf("A2: Join(%v): %q %d, want %q %d", c.l, s, e, c.want, c.e)
		}
	}
}

// A2: MaxText, behind the form of all tokens.
func TestJoinLong(t *testing.T) {
	var l []api.Token
	for range api.MaxText / 2 {
		l = append(l, sign(0, ";"))
	}
	if s, e := token.Join(l); len(s) != api.MaxText-1 || e != api.OK {
		t.Errorf("A2: %d bytes, %d", len(s), e)
	}
	l[5].Text = "=="
	if s, e := token.Join(l); len(s) != api.MaxText || e != api.OK {
		t.Errorf("A2: MaxText: %d bytes, %d", len(s), e)
	}
	l[9].Text = "=="
	if s, e := token.Join(l); s != "" || e != api.ErrMany {
		t.Errorf("A2: more than MaxText: %d bytes, %d", len(s), e)
	}
	l = append(l, name(0, "a b"))
	if s, e := token.Join(l); s != "" || e != api.ErrForm {
		t.Errorf("A2: more than MaxText, and a token that is none: %d bytes, %d", len(s), e)
	}
	if s, e := token.Join([]api.Token{name(0, strings.Repeat("a", api.MaxText+1))}); s != "" || e != api.ErrForm {
		t.Errorf("A2: a name that is too long: %d bytes, %d", len(s), e)
	}
}

func withoutPlaces(l []api.Token) []api.Token {
	out := append([]api.Token(nil), l...)
	for i := range out {
		out[i].At = 0
	}
	return out
}

// A3: of all pairs of tokens, and of long lists.
func TestJoinedIsScanned(t *testing.T) {
	some := []api.Token{name(3, "a"), name(0, "a1"), name(-1, "main"), number(0, "0"), number(9, "12")}
	for _, s := range strings.Fields(allSigns) {
		some = append(some, sign(1, s))
	}
	check := func(l []api.Token) {
		s, e := token.Join(l)
		m, at, f := token.Scan(s)
		if e != api.OK || f != api.OK || at != 0 || !same(withoutPlaces(l), withoutPlaces(m)) {
			t.Errorf("A3: %v is joined to %q %d, and scanned to %v %d %d", l, s, e, m, at, f)
		}
	}
	for _, a := range some {
		for _, b := range some {
			check([]api.Token{a, b})
		}
	}
	r := rand.New(rand.NewSource(2))
	for range 200 {
		l := make([]api.Token, r.Intn(1000))
		for i := range l {
			l[i] = some[r.Intn(len(some))]
		}
		check(l)
	}
}

// P1: whatever is handed in; with an error all else is zero.
func TestJoinRandomTokens(t *testing.T) {
	r := rand.New(rand.NewSource(3))
	for range 20000 {
		l := make([]api.Token, r.Intn(3))
		for i := range l {
			text := randomText(r)
			l[i] = tok(r.Intn(6)-1, r.Intn(9)-4, text[:min(len(text), r.Intn(3))])
		}
		want := api.OK
		for _, x := range l {
			if m, _, e := slowScan(x.Text); e != api.OK || len(m) != 1 || m[0].Kind != x.Kind || m[0].Text != x.Text {
				want = api.ErrForm
			}
		}
		if s, e := token.Join(l); e != want || e != api.OK && s != "" {
			t.Fatalf("A2, P1: Join(%v): %q %d, want %d", l, s, e, want)
		}
	}
}

// P2: lists that come in are only read, their spare room too.
func TestJoinOnlyReads(t *testing.T) {
	l := []api.Token{name(4, "a"), sign(5, ";"), name(6, "spare"), {}}
	was := append([]api.Token(nil), l...)
	if s, e := token.Join(l[:2]); s != "a ;" || e != api.OK {
		t.Errorf("P2: %q %d", s, e)
	}
	if !reflect.DeepEqual(l, was) {
		t.Errorf("P2: %v became %v", was, l)
	}
}

// P2: what is answered hangs on no memory of what came in, nor of another answer.
func TestAnswersAreNew(t *testing.T) {
	b := []byte("ab = 12 ;")
	l, _, _ := token.Scan(unsafe.String(&b[0], len(b)))
	m, _, _ := token.Scan("ab = 12 ;")
	copy(b, "xxxxxxxxx")
	if !same(l, m) {
		t.Errorf("P2: the text was changed, and tokens are %v", l)
	}
	l[0].Text = "changed"
	_ = append(l[:1], name(0, "changed"))
	if n, _, _ := token.Scan("ab = 12 ;"); !same(m, n) {
		t.Errorf("P2: an answer was changed, and another one is %v", n)
	}
	b = []byte("ab")
	s, _ := token.Join([]api.Token{name(0, unsafe.String(&b[0], len(b)))})
	copy(b, "xx")
	if s != "ab" {
		t.Errorf("P2: a token was changed, and what was joined is %q", s)
	}
}

// P3: the same each time, whatever was asked between or at the same time.
func TestSameEachTime(t *testing.T) {
	r := rand.New(rand.NewSource(4))
	texts := make([]string, 300)
	first := make([][]api.Token, len(texts))
	for i := range texts {
		texts[i] = randomText(r)
		first[i], _, _ = token.Scan(texts[i])
	}
	var all sync.WaitGroup
	for range 4 {
		all.Add(1)
		go func() {
			defer all.Done()
			for i, s := range texts {
				l, _, e := token.Scan(s)
				j, f := token.Join(l)
				k, g := token.Join(first[i])
				if !same(l, first[i]) || j != k || f != g || e != api.OK && j != "" {
					t.Errorf("P3: Scan(%q): %v, then %v", s, first[i], l)
				}
			}
		}()
	}
	all.Wait()
}
