package show

import (
	"strconv"
	"strings"

	"veilwork/api"
)

// printer of a tree that passed Check, as a text that it has in it.
type printer struct {
	strings.Builder
	deep int
}

// line of some texts, as far in as the printer is.
func (p *printer) line(texts ...string) {
	for range p.deep {
		p.WriteString("  ")
	}
	for _, s := range texts {
		p.WriteString(s)
	}
	p.WriteByte('\n')
}

func (p *printer) tree(t api.Tree) {
	for _, d := range t.Decls {
		p.decl(d)
	}
	p.line("main {")
	p.block(t.Main)
	p.line("}")
}

func (p *printer) decl(d api.TreeDecl) {
	switch d.Kind {
	case api.DeclActor:
		p.line("actor ", d.Name, ";")
	case api.DeclGrant:
		p.line("grant ", d.Name, " ", d.Other, ";")
	case api.DeclSpeak:
		p.line("speak ", d.Name, ";")
	case api.DeclIn:
		p.line("in ", d.Name, label(d), ";")
	case api.DeclOut:
		p.line("out ", d.Name, label(d), ";")
	case api.DeclVar:
		p.line("var ", d.Name, label(d), ";")
	case api.DeclFunc:
		p.function(d)
	}
}

func (p *printer) function(d api.TreeDecl) {
	p.line("func ", d.Name, "(", names(d.Params), ") {")
	p.block(d.Body)
	p.deep++
	p.line("return ", expr(d.Result), ";")
	p.deep--
	p.line("}")
}

// block of commands, which stand further in than what they are in.
func (p *printer) block(l []api.TreeStmt) {
	p.deep++
	for _, s := range l {
		p.stmt(s)
	}
	p.deep--
}

func (p *printer) stmt(s api.TreeStmt) {
	switch s.Kind {
	case api.StmtSet:
		p.line(s.Name, " = ", expr(s.Expr), ";")
	case api.StmtCall:
		p.line(s.Name, " = ", s.Other, "(", between(s.Args, ", ", expr), ");")
	case api.StmtGet:
		p.line("get ", s.Name, " ", s.Other, ";")
	case api.StmtPut:
		p.line("put ", s.Other, " ", expr(s.Expr), ";")
	case api.StmtReveal:
		p.line("reveal ", s.Name, " ", expr(s.Expr), ";")
	case api.StmtTrust:
		p.line("trust ", s.Name, " ", expr(s.Expr), ";")
	case api.StmtIf:
		p.line("if ", expr(s.Expr), " {")
		p.branches(s)
	case api.StmtWhile:
		p.line("while ", expr(s.Expr), " {")
		p.branches(s)
	}
}

// branches of a command, behind its first line.
func (p *printer) branches(s api.TreeStmt) {
	p.block(s.Then)
	if len(s.Else) > 0 {
		p.line("} else {")
		p.block(s.Else)
	}
	p.line("}")
}

// label of a declaration, with a blank ahead; nothing, if none is given.
func label(d api.TreeDecl) string {
	if !d.Given {
		return ""
	}
	return " {" + between(d.Label, "; ", policy) + "}"
}

func policy(p api.TreePolicy) string {
	head := p.Owner + ":"
	if p.Write {
		head = p.Owner + "!"
	}
	if len(p.Names) == 0 {
		return head
	}
	return head + " " + names(p.Names)
}

func names(l []string) string {
	return between(l, ", ", func(name string) string { return name })
}

func expr(e api.TreeExpr) string {
	switch e.Kind {
	case api.ExprNumber:
		return strconv.Itoa(e.N)
	case api.ExprName:
		return e.Name
	}
	return "(" + between(e.Args, operator(e.Kind), expr) + ")"
}

// operator of a kind of expression, with a blank on both sides.
func operator(kind int) string {
	switch kind {
	case api.ExprAdd:
		return " + "
	case api.ExprSub:
		return " - "
	case api.ExprMul:
		return " * "
	case api.ExprLess:
		return " < "
	}
	return " == "
}

// between puts things together, each as a text, with a text between.
func between[T any](l []T, text string, show func(T) string) string {
	shown := make([]string, len(l))
	for i, x := range l {
		shown[i] = show(x)
	}
	return strings.Join(shown, text)
}
