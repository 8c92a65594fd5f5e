package scope_test

import (
	"slices"
	"strings"

	"veilwork/actors"
	"veilwork/api"
	"veilwork/label"
)

// finding is something wrong, and where it stands in the order that F1 gives.
type finding struct {
	rank []int
	why  api.Errno
}

// first of findings; OK, if there are none.
func first(l []finding) api.Errno {
	if len(l) == 0 {
		return api.OK
	}
	return slices.MinFunc(l, func(x, y finding) int { return slices.Compare(x.rank, y.rank) }).why
}

// finder finds all that is wrong with a program, in any order.
type finder struct {
	p   api.Program
	all []finding
}

func (f *finder) add(is bool, why api.Errno, rank ...int) {
	if is {
		f.all = append(f.all, finding{rank, why})
	}
}

func isNone(n, many int) bool { return n < 0 || n > many-1 }

func findings(p api.Program) []finding {
	f := &finder{p: p}
	e := actors.Check(p.Actors)
	f.add(e != api.OK, e, 0)
	f.add(len(p.Vars) >= 17 || len(p.Ins) >= 6 || len(p.Outs) >= 6 || len(p.Funcs) >= 6 || len(p.Speak) > p.Actors.Many, api.ErrMany, 1)
	for _, who := range p.Speak {
		f.add(isNone(who, p.Actors.Many), api.ErrNone, 2)
	}
	labels := slices.Concat(p.Ins, p.Outs)
	for _, v := range p.Vars {
		labels = append(labels, v.Label)
		f.add(!v.Known && len(v.Label.Read)+len(v.Label.Write) > 0, api.ErrForm, 4)
	}
	for i, l := range labels {
		e := label.Check(p.Actors, l)
		f.add(e != api.OK, e, 3, i)
	}
	many := 0
	for i, fn := range append(slices.Clone(p.Funcs), api.Func{Body: p.Main, Result: number(0)}) {
		many += f.function(i, fn)
	}
	f.add(many >= 51, api.ErrMany, 5)
	return f.all
}

// function of some number (Main is the last one), and how many commands it has.
func (f *finder) function(i int, fn api.Func) int {
	f.add(len(fn.Params) >= 5, api.ErrMany, 6, i, 0)
	for _, v := range fn.Params {
		f.add(isNone(v, len(f.p.Vars)), api.ErrNone, 6, i, 1)
	}
	sorted := slices.Compact(slices.Sorted(slices.Values(fn.Params)))
	f.add(len(sorted) < len(fn.Params), api.ErrTwice, 6, i, 2)
	list := flat(fn.Body, 1)
	for k, s := range list {
		f.add(s.deep >= 7, api.ErrMany, 5)
		f.stmt(s.Stmt, i, 6, i, 3+k)
	}
	f.expr(fn.Result, 6, i, 1<<20)
	return len(list)
}

// placed is a command that stands so deep.
type placed struct {
	api.Stmt
	deep int
}

// flat: all commands, each ahead of those in it.
func flat(l []api.Stmt, deep int) []placed {
	var out []placed
	for _, s := range l {
		out = append(out, placed{s, deep})
		out = append(out, flat(s.Then, deep+1)...)
		out = append(out, flat(s.Else, deep+1)...)
	}
	return out
}

// names: what kinds of commands name.
var names = []string{
	"", "var expr", "var other args", "var other", "other expr", "var expr", "var expr", "expr then else", "expr then",
}

func (f *finder) stmt(s api.Stmt, funcs int, rank ...int) {
	at := func(n ...int) []int { return slices.Concat(rank, n) }
	if s.Kind < 1 || s.Kind > 8 {
		f.add(true, api.ErrKind, at(0)...)
		return
	}
	has := func(what string) bool { return slices.Contains(strings.Fields(names[s.Kind]), what) }
	f.add(has("var") && isNone(s.Var, len(f.p.Vars)), api.ErrNone, at(1)...)
	many := map[int]int{api.StmtCall: funcs, api.StmtGet: len(f.p.Ins), api.StmtPut: len(f.p.Outs)}
	other := has("other") && isNone(s.Other, many[s.Kind])
	f.add(other, api.ErrNone, at(1)...)
	f.add(!has("var") && s.Var != 0 || !has("other") && s.Other != 0, api.ErrForm, at(2)...)
	f.add(!has("expr") && (s.Expr.Kind != 0 || s.Expr.N != 0 || len(s.Expr.Args) > 0), api.ErrForm, at(2)...)
	f.add(!has("args") && len(s.Args) > 0 || !has("then") && len(s.Then) > 0 || !has("else") && len(s.Else) > 0, api.ErrForm, at(2)...)
	if s.Kind == api.StmtCall && !other {
		f.add(len(s.Args) != len(f.p.Funcs[s.Other].Params), api.ErrForm, at(2)...)
	}
	if has("expr") {
		f.expr(s.Expr, at(3)...)
	}
	for i, e := range s.Args {
		f.expr(e, at(4, i)...)
	}
}

func parts(e api.Expr) []api.Expr {
	out := []api.Expr{e}
	for _, a := range e.Args {
		out = append(out, parts(a)...)
	}
	return out
}

func (f *finder) expr(e api.Expr, rank ...int) {
	list := parts(e)
	f.add(len(list) >= 16, api.ErrMany, slices.Concat(rank, []int{-1})...)
	for i, x := range list {
		at := func(n int) []int { return slices.Concat(rank, []int{i, n}) }
		f.add(x.Kind < 1 || x.Kind > 7, api.ErrKind, at(0)...)
		f.add(len(x.Args) != 2 && x.Kind > 2 || len(x.Args) != 0 && x.Kind < 3, api.ErrForm, at(1)...)
		f.add(x.Kind == 1 && (x.N > 9999999 || x.N < -9999999) || x.Kind > 2 && x.N != 0, api.ErrRange, at(2)...)
		f.add(x.Kind == 2 && isNone(x.N, len(f.p.Vars)), api.ErrNone, at(3)...)
	}
}
