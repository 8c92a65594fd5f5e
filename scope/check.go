package scope

import (
	"slices"

	"veilwork/actors"
	"veilwork/api"
	"veilwork/expr"
	"veilwork/label"
	"veilwork/shape"
)

// checker goes through a program, and gives up at the first thing that is wrong.
type checker struct{ api.Program }

func (c checker) check() {
	pass(actors.Check(c.Actors))
	must(len(c.Vars) <= api.MaxVars &&
		len(c.Ins) <= api.MaxChannels && len(c.Outs) <= api.MaxChannels &&
		len(c.Funcs) <= api.MaxFuncs && len(c.Speak) <= c.Actors.Many, api.ErrMany)
	for _, who := range c.Speak {
		must(isOneOf(who, c.Actors.Many), api.ErrNone)
	}
	c.labels()
	c.limits()
	for i, f := range c.Funcs {
		c.function(f, i)
	}
	c.stmts(c.Main, len(c.Funcs))
}

// isOneOf: is it the number of one of so many?
func isOneOf(n, many int) bool { return 0 <= n && n < many }

func (c checker) labels() {
	for _, l := range slices.Concat(c.Ins, c.Outs) {
		pass(label.Check(c.Actors, l))
	}
	for _, v := range c.Vars {
		pass(label.Check(c.Actors, v.Label))
	}
	for _, v := range c.Vars {
		must(v.Known || len(v.Label.Read) == 0 && len(v.Label.Write) == 0, api.ErrForm)
	}
}

// limits of commands come ahead of all else that may be wrong with one of them; what is within them is small enough to be gone through whole.
func (c checker) limits() {
	many := 0
	for _, f := range c.Funcs {
		many = countStmts(f.Body, 1, many)
	}
	countStmts(c.Main, 1, many)
}

// countStmts: how many commands there are with these, which stand so deep, if there were so many ahead of them. It goes on no further than the limits, so that it ends even on lists that hold themselves.
func countStmts(l []api.Stmt, deep, many int) int {
	for _, s := range l {
		many++
		must(many <= api.MaxStmts && deep <= api.MaxDeep, api.ErrMany)
		many = countStmts(s.Then, deep+1, many)
		many = countStmts(s.Else, deep+1, many)
	}
	return many
}

// function that has so many ahead of it.
func (c checker) function(f api.Func, ahead int) {
	must(len(f.Params) <= api.MaxParams, api.ErrMany)
	for _, v := range f.Params {
		must(isOneOf(v, len(c.Vars)), api.ErrNone)
	}
	for i, v := range f.Params {
		must(!slices.Contains(f.Params[:i], v), api.ErrTwice)
	}
	c.stmts(f.Body, ahead)
	c.expr(f.Result)
}

// stmts that may call so many functions.
func (c checker) stmts(l []api.Stmt, funcs int) {
	for _, s := range l {
		c.stmt(s, funcs)
		c.stmts(s.Then, funcs)
		c.stmts(s.Else, funcs)
	}
}

// stmt is a command, but for those in it.
func (c checker) stmt(s api.Stmt, funcs int) {
	has, ok := shape.OfStmt(s.Kind)
	must(ok, api.ErrKind)
	must(!has.Var || isOneOf(s.Var, len(c.Vars)), api.ErrNone)
	must(!has.Other || isOneOf(s.Other, c.others(s.Kind, funcs)), api.ErrNone)
	must(has.Var || s.Var == 0, api.ErrForm)
	must(has.Other || s.Other == 0, api.ErrForm)
	must(has.Expr || s.Expr.Kind == 0 && s.Expr.N == 0 && len(s.Expr.Args) == 0, api.ErrForm)
	must(has.Args || len(s.Args) == 0, api.ErrForm)
	must(has.Then || len(s.Then) == 0, api.ErrForm)
	must(has.Else || len(s.Else) == 0, api.ErrForm)
	must(s.Kind != api.StmtCall || len(s.Args) == len(c.Funcs[s.Other].Params), api.ErrForm)
	if has.Expr {
		c.expr(s.Expr)
	}
	for _, e := range s.Args {
		c.expr(e)
	}
}

// others: how many there are of what a command of a kind names beside a variable.
func (c checker) others(kind, funcs int) int {
	switch kind {
	case api.StmtCall:
		return funcs
	case api.StmtGet:
		return len(c.Ins)
	}
	return len(c.Outs)
}

func (c checker) expr(e api.Expr) { pass(expr.Check(e, len(c.Vars))) }
