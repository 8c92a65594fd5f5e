// Package whole: tests on programs that are made up: calls are held against other ways to reckon what they answer, and against what the whole promises.
package whole

import (
	"math/rand"
	"slices"

	"veilwork/api"
)

// maker makes up a program.
type maker struct {
	*rand.Rand
	p    api.Program
	left int // commands that there may still be
}

// makeProgram that passes Check. Its variables are few, so that commands have to do with each other.
func makeProgram(r *rand.Rand) api.Program {
	m := maker{Rand: r, left: r.Intn(api.MaxStmts + 1)}
	if r.Intn(4) > 0 {
		m.left /= 2
	}
	m.p.Actors.Many = 1 + r.Intn(4)
	for range r.Intn(3) {
		m.p.Actors.Grants = append(m.p.Actors.Grants, api.Grant{Who: m.actor(), For: m.actor()})
	}
	for range r.Intn(m.p.Actors.Many + 1) {
		m.p.Speak = append(m.p.Speak, m.actor())
	}
	for range r.Intn(4) {
		m.p.Ins = append(m.p.Ins, m.label())
	}
	for range r.Intn(4) {
		m.p.Outs = append(m.p.Outs, m.label())
	}
	for range 1 + r.Intn(7) {
		v := api.Var{Known: r.Intn(3) == 0}
		if v.Known {
			v.Label = m.label()
		}
		m.p.Vars = append(m.p.Vars, v)
	}
	for range r.Intn(4) {
		params := r.Perm(len(m.p.Vars))[:r.Intn(min(len(m.p.Vars), api.MaxParams)+1)]
		body := m.stmts(1)
		m.p.Funcs = append(m.p.Funcs, api.Func{Params: params, Body: body, Result: m.expr(2)})
	}
	m.p.Main = m.stmts(1)
	return m.p
}

func (m *maker) actor() int { return m.Intn(m.p.Actors.Many) }

func (m *maker) variable() int { return m.Intn(len(m.p.Vars)) }

func (m *maker) label() api.Label {
	return api.Label{Read: m.policies(), Write: m.policies()}
}

func (m *maker) policies() []api.Policy {
	var l []api.Policy
	for range m.Intn(3) {
		names := m.Perm(m.p.Actors.Many)[:m.Intn(m.p.Actors.Many)]
		slices.Sort(names)
		l = append(l, api.Policy{Owner: m.actor(), Names: names})
	}
	return l
}

func (m *maker) stmts(deep int) []api.Stmt {
	var l []api.Stmt
	for deep <= api.MaxDeep && m.left > 0 && m.Intn(4*deep+8) > deep {
		m.left--
		l = append(l, m.stmt(deep))
	}
	return l
}

func (m *maker) stmt(deep int) api.Stmt {
	kind := 1 + m.Intn(8)
	switch {
	case kind == api.StmtCall && len(m.p.Funcs) > 0:
		return m.call()
	case kind == api.StmtGet && len(m.p.Ins) > 0:
		return api.Stmt{Kind: kind, Var: m.variable(), Other: m.Intn(len(m.p.Ins))}
	case kind == api.StmtPut && len(m.p.Outs) > 0:
		return api.Stmt{Kind: kind, Other: m.Intn(len(m.p.Outs)), Expr: m.expr(2)}
	case kind == api.StmtReveal || kind == api.StmtTrust:
		return api.Stmt{Kind: kind, Var: m.variable(), Expr: m.expr(2)}
	case kind == api.StmtIf:
		return api.Stmt{Kind: kind, Expr: m.expr(1), Then: m.stmts(deep + 1), Else: m.stmts(deep + 1)}
	case kind == api.StmtWhile:
		return api.Stmt{Kind: kind, Expr: m.expr(1), Then: m.stmts(deep + 1)}
	}
	return api.Stmt{Kind: api.StmtSet, Var: m.variable(), Expr: m.expr(3)}
}

func (m *maker) call() api.Stmt {
	s := api.Stmt{Kind: api.StmtCall, Var: m.variable(), Other: m.Intn(len(m.p.Funcs))}
	for range m.p.Funcs[s.Other].Params {
		s.Args = append(s.Args, m.expr(2))
	}
	return s
}

// expr of at most 15 parts.
func (m *maker) expr(deep int) api.Expr {
	switch {
	case deep > 0 && m.Intn(2) == 0:
		kind := api.ExprAdd + m.Intn(5)
		return api.Expr{Kind: kind, Args: []api.Expr{m.expr(deep - 1), m.expr(deep - 1)}}
	case m.Intn(3) > 0:
		return api.Expr{Kind: api.ExprName, N: m.variable()}
	case m.Intn(8) == 0:
		return api.Expr{Kind: api.ExprNumber, N: api.MaxNumber}
	}
	return api.Expr{Kind: api.ExprNumber, N: m.Intn(6) - 2}
}

// makeInputs for all channels of a program.
func makeInputs(r *rand.Rand, p api.Program) [][]int {
	var ins [][]int
	for range p.Ins {
		var l []int
		for range r.Intn(12) {
			l = append(l, makeNumber(r))
		}
		ins = append(ins, l)
	}
	return ins
}

// makeNumber that may come in: most are small.
func makeNumber(r *rand.Rand) int {
	switch r.Intn(8) {
	case 0:
		return []int{api.Least, api.Most}[r.Intn(2)]
	case 1:
		return int(int32(r.Uint32()))
	}
	return r.Intn(7) - 3
}

// makeLevels of a program: any that are Right.
func makeLevels(r *rand.Rand, p api.Program) api.Levels {
	list := func(many int) []api.Level {
		var l []api.Level
		for range many {
			var x api.Level
			for range p.Actors.Many {
				x.Readers = append(x.Readers, r.Intn(2) == 0)
				x.Writers = append(x.Writers, r.Intn(2) == 0)
			}
			l = append(l, x)
		}
		return l
	}
	return api.Levels{Vars: list(len(p.Vars)), Funcs: list(len(p.Funcs))}
}

// makeEvents of a program, whether its commands could have them or not.
func makeEvents(r *rand.Rand, p api.Program) []api.Event {
	var l []api.Event
	for range r.Intn(8) {
		x := api.Event{Kind: api.EventPut + r.Intn(3), At: r.Intn(10), Value: makeNumber(r)}
		if x.Kind == api.EventPut && len(p.Outs) == 0 {
			x.Kind = api.EventReveal
		}
		x.Which = r.Intn(len(p.Vars))
		if x.Kind == api.EventPut {
			x.Which = r.Intn(len(p.Outs))
		}
		l = append(l, x)
	}
	return l
}

// makeFuel: any, often little.
func makeFuel(r *rand.Rand) int {
	if r.Intn(2) == 0 {
		return r.Intn(10)
	}
	return r.Intn(api.MaxFuel + 1)
}
