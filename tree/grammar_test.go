package tree_test

import (
	"math/rand"
	"strings"
	"testing"

	"veilwork/api"
	"veilwork/token"
	"veilwork/tree"
)

// grammar of chapter 2, a rule a line: what begins with a capital letter is a rule's name; N is a name, 0 nought, 1 another number.
const grammar = `Text Decls main Block
Decls
Decls Decl Decls
Decl actor N ;
Decl grant N N ;
Decl speak N ;
Decl in N Label ;
Decl out N Label ;
Decl var N ;
Decl var N Label ;
Decl func N ( Some ) { Stmts return E ; }
Some
Some Names
Names N
Names N , Names
Label { }
Label { Policies }
Policies Policy
Policies Policy ; Policies
Policy N : Some
Policy N ! Some
Block { Stmts }
Stmts
Stmts Stmt Stmts
Stmt N = E ;
Stmt N = N ( Args ) ;
Stmt get N N ;
Stmt put N E ;
Stmt reveal N E ;
Stmt trust N E ;
Stmt if E Block
Stmt if E Block else Block
Stmt while E Block
Args
Args Es
Es E
Es E , Es
E 0
E 1
E - 1
E N
E ( E Op E )
Op +
Op -
Op *
Op <
Op ==`

const words = " actor grant speak in out var func main get put reveal trust if else while return "

// item of Earley's way to recognize: a rule, how far in it, where it began.
type item struct{ rule, dot, from int }

// recognizer holds against the grammar what begins a text, with no choice of its own.
type recognizer struct {
	rules [][]string
	sets  []map[item]bool
}

func newRecognizer() *recognizer {
	c := &recognizer{}
	for _, l := range strings.Split(grammar, "\n") {
		c.rules = append(c.rules, strings.Fields(l))
	}
	c.sets = []map[item]bool{{{0, 1, 0}: true}}
	c.close()
	return c
}

// next of an item: what must come; nothing, if it is at its end.
func (c *recognizer) next(i item) string {
	if r := c.rules[i.rule]; i.dot < len(r) {
		return r[i.dot]
	}
	return ""
}

// close the last set: rules that begin there, and go on behind rules that end there.
func (c *recognizer) close() {
	here := len(c.sets) - 1
	for many := -1; many != len(c.sets[here]); {
		many = len(c.sets[here])
		for _, i := range keys(c.sets[here]) {
			if n := c.next(i); n == "" {
				for _, b := range keys(c.sets[i.from]) {
					if c.next(b) == c.rules[i.rule][0] {
						c.sets[here][item{b.rule, b.dot + 1, b.from}] = true
					}
				}
				continue
			}
			for k, r := range c.rules {
				if r[0] == c.next(i) {
					c.sets[here][item{k, 1, here}] = true
				}
			}
		}
	}
}

func keys(set map[item]bool) []item {
	var l []item
	for i := range set {
		l = append(l, i)
	}
	return l
}

// step: may a token stand here?
func (c *recognizer) step(what string) bool {
	after := map[item]bool{}
	for i := range c.sets[len(c.sets)-1] {
		if c.next(i) == what {
			after[item{i.rule, i.dot + 1, i.from}] = true
		}
	}
	c.sets = append(c.sets, after)
	c.close()
	return len(after) > 0
}

// done: may the text end here?
func (c *recognizer) done() bool { return c.sets[len(c.sets)-1][item{0, 4, 0}] }

// class of a token: how the grammar names it.
func class(t api.Token) string {
	switch {
	case t.Kind == api.TokenNumber && t.Text == "0":
		return "0"
	case t.Kind == api.TokenNumber:
		return "1"
	case t.Kind == api.TokenName && !strings.Contains(words, " "+t.Text+" "):
		return "N"
	}
	return t.Text
}

// firstWrong: where a text of tokens can't go on; -1, if it is a text of the grammar.
func firstWrong(s string) int {
	l, _, _ := token.Scan(s)
	c := newRecognizer()
	for _, t := range l {
		if !c.step(class(t)) {
			return t.At
		}
	}
	if !c.done() {
		return len(s)
	}
	return -1
}

// change tokens of a text: leave one out, put one in, put another one there, or swap two.
func change(r *rand.Rand, l []string) []string {
	all := append(strings.Fields(words+"{ } ( ) ; : ! , = + - * < =="), "a", "x", "0", "7")
	l = append([]string(nil), l...)
	i, new := r.Intn(len(l)), all[r.Intn(len(all))]
	switch r.Intn(5) {
	case 0:
		return append(l[:i], l[i+1:]...)
	case 1:
		return append(l[:i], append([]string{new}, l[i:]...)...)
	case 2:
		l[i] = new
	case 3:
		k := r.Intn(len(l))
		l[i], l[k] = l[k], l[i]
	case 4:
		return l[:i]
	}
	return l
}

// B1, B2: a text is parsed, if it is one of the grammar; else the place is that of the first token with which nothing of the grammar begins.
func TestParseAgainstGrammar(t *testing.T) {
	r := rand.New(rand.NewSource(5))
	wrong := 0
	for i := range 1500 {
		m := maker{r: r}
		s := text(r, m.tree())
		if i%8 > 0 {
			l, _, _ := token.Scan(s)
			var texts []string
			for _, t := range l {
				texts = append(texts, t.Text)
			}
			for range 1 + r.Intn(2) {
				texts = change(r, texts)
				if len(texts) == 0 {
					texts = []string{"main"}
				}
			}
			s = strings.Join(texts, " ") + strings.Repeat("\n", r.Intn(2))
		}
		want, e := firstWrong(s), api.ErrForm
		if want < 0 {
			want, e = 0, api.OK
		} else {
			wrong++
		}
		if _, at, f := tree.Parse(s); at != want || f != e {
			t.Fatalf("B1, B2: Parse(%q): %d %d, want %d %d", s, at, f, want, e)
		}
	}
	if wrong < 500 {
		t.Errorf("only %d texts were wrong", wrong)
	}
}
