package tree

import (
	"strconv"

	"veilwork/api"
)

// maxBrackets is how many brackets an expression may stand in.
const maxBrackets = 60

// place is where a token stands that can't stand there, or the text's end.
type place int

// reader goes through the tokens of a text.
type reader struct {
	tokens []api.Token
	next   int
	end    int // how long the text is
}

// read the tree of tokens; its results have names, so that they can still be set when it gave up.
func read(l []api.Token, end int) (t api.Tree, at int, e api.Errno) {
	defer func() {
		if why := recover(); why != nil {
			t, at, e = api.Tree{}, int(why.(place)), api.ErrForm
		}
	}()
	r := &reader{tokens: l, end: end}
	for !r.is("main") {
		t.Decls = append(t.Decls, r.decl())
	}
	r.take("main")
	t.Main = r.block()
	if r.next < len(r.tokens) {
		r.giveUp()
	}
	return t, 0, api.OK
}

// here is where the next token begins.
func (r *reader) here() int {
	if r.next < len(r.tokens) {
		return r.tokens[r.next].At
	}
	return r.end
}

func (r *reader) giveUp() { panic(place(r.here())) }

// peek at the next token, which has no kind at the text's end.
func (r *reader) peek() api.Token {
	if r.next < len(r.tokens) {
		return r.tokens[r.next]
	}
	return api.Token{}
}

// is the next token that one? (Texts of tokens of two kinds are never the same.)
func (r *reader) is(text string) bool { return r.peek().Text == text }

func (r *reader) isName() bool {
	t := r.peek()
	return t.Kind == api.TokenName && !isWord(t.Text)
}

// takes the next token, if it is that one.
func (r *reader) takes(text string) bool {
	if !r.is(text) {
		return false
	}
	r.next++
	return true
}

// take the next token, which must be that one.
func (r *reader) take(text string) {
	if !r.takes(text) {
		r.giveUp()
	}
}

func (r *reader) name() string {
	if !r.isName() {
		r.giveUp()
	}
	text := r.peek().Text
	r.next++
	return text
}

// each reads things with a sign between, if there are some.
func (r *reader) each(some bool, between string, one func()) {
	for some {
		one()
		some = r.takes(between)
	}
}

// names with commas between, if there are some.
func (r *reader) names(some bool) []string {
	var l []string
	r.each(some, ",", func() { l = append(l, r.name()) })
	return l
}

func (r *reader) decl() api.TreeDecl {
	d := api.TreeDecl{At: r.here(), Kind: declKind(r.peek().Text)}
	if d.Kind == 0 {
		r.giveUp()
	}
	r.next++
	d.Name = r.name()
	switch d.Kind {
	case api.DeclGrant:
		d.Other = r.name()
	case api.DeclIn, api.DeclOut:
		d.Given = true
	case api.DeclVar:
		d.Given = r.is("{")
	case api.DeclFunc:
		r.function(&d)
		return d
	}
	if d.Given {
		d.Label = r.label()
	}
	r.take(";")
	return d
}

// declKind is the kind of declaration that a word begins; 0, if it begins none.
func declKind(word string) int {
	switch word {
	case "actor":
		return api.DeclActor
	case "grant":
		return api.DeclGrant
	case "speak":
		return api.DeclSpeak
	case "in":
		return api.DeclIn
	case "out":
		return api.DeclOut
	case "var":
		return api.DeclVar
	case "func":
		return api.DeclFunc
	}
	return 0
}

// function reads what stands behind a function's name.
func (r *reader) function(d *api.TreeDecl) {
	r.take("(")
	d.Params = r.names(!r.is(")"))
	r.take(")")
	r.take("{")
	d.Body = r.stmts()
	r.take("return")
	d.Result = r.expr(0)
	r.take(";")
	r.take("}")
}

func (r *reader) label() []api.TreePolicy {
	var l []api.TreePolicy
	r.take("{")
	r.each(!r.is("}"), ";", func() { l = append(l, r.policy()) })
	r.take("}")
	return l
}

func (r *reader) policy() api.TreePolicy {
	p := api.TreePolicy{At: r.here(), Owner: r.name()}
	p.Write = r.takes("!")
	if !p.Write {
		r.take(":")
	}
	p.Names = r.names(r.isName())
	return p
}

func (r *reader) block() []api.TreeStmt {
	r.take("{")
	l := r.stmts()
	r.take("}")
	return l
}

// stmts are all commands up to what ends a block or a function.
func (r *reader) stmts() []api.TreeStmt {
	var l []api.TreeStmt
	for !r.is("}") && !r.is("return") {
		l = append(l, r.stmt())
	}
	return l
}

func (r *reader) stmt() api.TreeStmt {
	s := api.TreeStmt{At: r.here()}
	switch {
	case r.takes("if"):
		s.Kind, s.Expr, s.Then = api.StmtIf, r.expr(0), r.block()
		if r.takes("else") {
			s.Else = r.block()
		}
		return s
	case r.takes("while"):
		s.Kind, s.Expr, s.Then = api.StmtWhile, r.expr(0), r.block()
		return s
	case r.takes("get"):
		s.Kind, s.Name, s.Other = api.StmtGet, r.name(), r.name()
	case r.takes("put"):
		s.Kind, s.Other, s.Expr = api.StmtPut, r.name(), r.expr(0)
	case r.takes("reveal"):
		s.Kind, s.Name, s.Expr = api.StmtReveal, r.name(), r.expr(0)
	case r.takes("trust"):
		s.Kind, s.Name, s.Expr = api.StmtTrust, r.name(), r.expr(0)
	default:
		r.become(&s)
	}
	r.take(";")
	return s
}

// become reads a variable and what it becomes: what a name is shows only behind it.
func (r *reader) become(s *api.TreeStmt) {
	s.Name = r.name()
	r.take("=")
	e := r.expr(0)
	if e.Kind != api.ExprName || !r.takes("(") {
		s.Kind, s.Expr = api.StmtSet, e
		return
	}
	s.Kind, s.Other = api.StmtCall, e.Name
	r.each(!r.is(")"), ",", func() { s.Args = append(s.Args, r.expr(0)) })
	r.take(")")
}

// expr reads an expression that stands in so many brackets.
func (r *reader) expr(deep int) api.TreeExpr {
	e := api.TreeExpr{At: r.here()}
	switch {
	case r.peek().Kind == api.TokenNumber:
		e.Kind, e.N = api.ExprNumber, r.number()
	case r.takes("-"):
		if r.is("0") {
			r.giveUp()
		}
		e.Kind, e.N = api.ExprNumber, -r.number()
	case r.isName():
		e.Kind, e.Name = api.ExprName, r.name()
	case deep < maxBrackets && r.takes("("):
		first := r.expr(deep + 1)
		e.Kind = r.operator()
		e.Args = []api.TreeExpr{first, r.expr(deep + 1)}
		r.take(")")
	default:
		r.giveUp()
	}
	return e
}

func (r *reader) number() int {
	t := r.peek()
	if t.Kind != api.TokenNumber {
		r.giveUp()
	}
	r.next++
	n, _ := strconv.Atoi(t.Text) // digits alone, and few of them
	return n
}

func (r *reader) operator() int {
	kind := operatorKind(r.peek().Text)
	if kind == 0 {
		r.giveUp()
	}
	r.next++
	return kind
}

// operatorKind is the kind of expression that a sign makes; 0, if it makes none.
func operatorKind(sign string) int {
	switch sign {
	case "+":
		return api.ExprAdd
	case "-":
		return api.ExprSub
	case "*":
		return api.ExprMul
	case "<":
		return api.ExprLess
	case "==":
		return api.ExprSame
	}
	return 0
}
