package slice

import (
	"slices"

	"veilwork/api"
	"veilwork/expr"
)

// command of a program: the number of the one behind all that stand in it, too.
type command struct {
	api.Stmt
	end int
}

// needs of a channel of a program that passed check: what is known to be needed so far.
type needs struct {
	api.Program
	channel          int
	commands         []command // by their numbers
	first            []int     // the number of each function's first command, and of Main's
	vars, ins, stmts []bool
	more             bool // whether something was not known the last time
}

func needsOf(p api.Program, channel int) *needs {
	n := &needs{Program: p, channel: channel}
	for _, f := range p.Funcs {
		n.first = append(n.first, len(n.commands))
		n.list(f.Body)
	}
	n.first = append(n.first, len(n.commands))
	n.list(p.Main)
	n.vars = make([]bool, len(p.Vars))
	n.ins = make([]bool, len(p.Ins))
	n.stmts = make([]bool, len(n.commands))
	for n.more = true; n.more; {
		n.more = false
		n.look()
	}
	return n
}

// list commands, each ahead of those in it.
func (n *needs) list(l []api.Stmt) {
	for _, s := range l {
		at := len(n.commands)
		n.commands = append(n.commands, command{Stmt: s})
		n.list(s.Then)
		n.list(s.Else)
		n.commands[at].end = len(n.commands)
	}
}

// look at all commands once.
func (n *needs) look() {
	for at, c := range n.commands {
		if n.isNeeded(at, c) {
			n.need(n.stmts, at)
			n.needFor(c)
		}
	}
}

// isNeeded: is a command with this number, as far as is known?
func (n *needs) isNeeded(at int, c command) bool {
	switch c.Kind {
	case api.StmtCall:
		isVar := func(v int) bool { return n.vars[v] }
		return isVar(c.Var) || slices.ContainsFunc(n.Funcs[c.Other].Params, isVar) ||
			n.isOneOf(n.first[c.Other], n.first[c.Other+1])
	case api.StmtGet:
		return n.vars[c.Var] || n.ins[c.Other]
	case api.StmtPut:
		return c.Other == n.channel
	case api.StmtIf, api.StmtWhile:
		return n.isOneOf(at+1, c.end)
	}
	return n.vars[c.Var]
}

// isOneOf the commands from a number on, ahead of another one, known to be needed?
func (n *needs) isOneOf(from, to int) bool { return slices.Contains(n.stmts[from:to], true) }

// needFor a command that is needed: all that it hangs on.
func (n *needs) needFor(c command) {
	n.needVars(c.Expr)
	switch c.Kind {
	case api.StmtGet:
		n.need(n.ins, c.Other)
	case api.StmtCall:
		f := n.Funcs[c.Other]
		for i, v := range f.Params {
			if n.vars[v] {
				n.needVars(c.Args[i])
			}
		}
		if n.vars[c.Var] {
			n.needVars(f.Result)
		}
	}
}

func (n *needs) needVars(e api.Expr) {
	for v := range expr.Vars(e) {
		n.need(n.vars, v)
	}
}

// need one of a list.
func (n *needs) need(l []bool, i int) {
	if !l[i] {
		l[i], n.more = true, true
	}
}
