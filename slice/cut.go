package slice

import (
	"slices"

	"veilwork/api"
)

// cutter copies a program, but for commands that are not needed.
type cutter struct {
	needed []bool // by the numbers of commands
	at     int    // the number of the next command
}

func (c *cutter) program(p api.Program) api.Program {
	p.Actors.Grants = slices.Clone(p.Actors.Grants)
	p.Speak = slices.Clone(p.Speak)
	p.Ins = each(p.Ins, copyLabel)
	p.Outs = each(p.Outs, copyLabel)
	p.Vars = each(p.Vars, func(v api.Var) api.Var {
		return api.Var{Known: v.Known, Label: copyLabel(v.Label)}
	})
	p.Funcs = each(p.Funcs, func(f api.Func) api.Func {
		return api.Func{Params: slices.Clone(f.Params), Body: c.stmts(f.Body), Result: copyExpr(f.Result)}
	})
	p.Main = c.stmts(p.Main)
	return p
}

// stmts that are needed, of those that come next.
func (c *cutter) stmts(l []api.Stmt) []api.Stmt {
	var out []api.Stmt
	for _, s := range l {
		isNeeded := c.needed[c.at]
		c.at++
		// What stands in a command that is not needed is gone through all the same: the commands behind it have their numbers.
		s.Then, s.Else = c.stmts(s.Then), c.stmts(s.Else)
		if isNeeded {
			s.Expr, s.Args = copyExpr(s.Expr), each(s.Args, copyExpr)
			out = append(out, s)
		}
	}
	return out
}

// each of a list as another one, in a new list.
func each[T any](l []T, other func(x T) T) []T {
	var out []T
	for _, x := range l {
		out = append(out, other(x))
	}
	return out
}

func copyLabel(l api.Label) api.Label {
	return api.Label{Read: each(l.Read, copyPolicy), Write: each(l.Write, copyPolicy)}
}

func copyPolicy(p api.Policy) api.Policy {
	return api.Policy{Owner: p.Owner, Names: slices.Clone(p.Names)}
}

func copyExpr(e api.Expr) api.Expr {
	e.Args = each(e.Args, copyExpr)
	return e
}
