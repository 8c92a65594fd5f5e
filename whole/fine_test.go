package whole

import (
	"iter"
	"math/rand"
	"slices"

	"veilwork/api"
	"veilwork/judge"
	"veilwork/view"
)

// makeFine: a program without faults.
func makeFine(r *rand.Rand) api.Program {
	return makeGrown(r, func(p api.Program) bool {
		fine, _ := judge.Fine(p)
		return fine
	})
}

// makeGrown: a program that grows command by command, as long as something holds of it, so that much goes on in it. At first it gets something from each of three channels, at last once more, and all that is Known goes out.
func makeGrown(r *rand.Rand, holds func(p api.Program) bool) api.Program {
	m := maker{Rand: r}
	m.p.Actors.Many = 2 + r.Intn(3)
	for range r.Intn(2) {
		m.p.Actors.Grants = append(m.p.Actors.Grants, api.Grant{Who: m.actor(), For: m.actor()})
	}
	for range 1 + r.Intn(2) {
		m.p.Speak = append(m.p.Speak, m.actor())
	}
	var gets, puts []api.Stmt
	for v := range api.MaxChannels {
		l := m.plain()
		m.p.Outs = append(m.p.Outs, l)
		m.p.Vars = append(m.p.Vars, api.Var{Known: true, Label: l})
		puts = append(puts, api.Stmt{Kind: api.StmtPut, Other: v, Expr: api.Expr{Kind: api.ExprName, N: v}})
		if v < 3 {
			m.p.Ins = append(m.p.Ins, l)
			gets = append(gets, api.Stmt{Kind: api.StmtGet, Var: v, Other: v})
		}
	}
	m.p.Vars = append(m.p.Vars, api.Var{}, api.Var{})
	for range r.Intn(3) {
		params := r.Perm(len(m.p.Vars))[:r.Intn(3)]
		m.p.Funcs = append(m.p.Funcs, api.Func{Params: params, Result: m.expr(1)})
	}
	m.p.Main = gets
	for range 30 {
		q := m.grown()
		if holds(q) && len(commandsOf(q))+len(gets)+len(puts) <= api.MaxStmts {
			m.p = q
		}
	}
	m.p.Main = slices.Concat(m.p.Main, gets, puts)
	return m.p
}

// plain label: one policy at the most of each kind, and most of those who speak.
func (m *maker) plain() api.Label {
	one := func() []api.Policy {
		switch m.Intn(4) {
		case 0:
			return []api.Policy{{Owner: m.actor()}}
		case 1:
			return []api.Policy{{Owner: m.p.Speak[0]}}
		}
		return nil
	}
	return api.Label{Read: one(), Write: one()}
}

// grown: the program with one command more somewhere.
func (m *maker) grown() api.Program {
	q := m.p
	i := m.Intn(len(q.Funcs) + 3)
	if i >= len(q.Funcs) {
		q.Main = m.grownList(q.Main, 1)
		return q
	}
	// A function calls those ahead of it alone.
	ahead := maker{Rand: m.Rand, p: q}
	ahead.p.Funcs = q.Funcs[:i]
	q.Funcs = slices.Clone(q.Funcs)
	q.Funcs[i].Body = ahead.grownList(q.Funcs[i].Body, 1)
	return q
}

func (m *maker) grownList(l []api.Stmt, deep int) []api.Stmt {
	l = slices.Clone(l)
	i := m.Intn(len(l) + 1)
	if i == len(l) || l[i].Kind < api.StmtIf || deep > 3 {
		return slices.Insert(l, i, m.single())
	}
	if l[i].Kind == api.StmtIf && m.Intn(2) == 0 {
		l[i].Else = m.grownList(l[i].Else, deep+1)
	} else {
		l[i].Then = m.grownList(l[i].Then, deep+1)
	}
	return l
}

// single command, without others in it, but for a StmtWhile, which ends by one. More than else is gotten and called, and what came in is revealed and trusted.
func (m *maker) single() api.Stmt {
	in := m.Intn(len(m.p.Ins))
	switch choice := m.Intn(6); {
	case choice < 1:
		return api.Stmt{Kind: api.StmtGet, Var: m.variable(), Other: in}
	case choice < 2 && len(m.p.Funcs) > 0:
		return m.call()
	case choice < 4:
		came := api.Expr{Kind: api.ExprName, N: in}
		return api.Stmt{Kind: api.StmtReveal + m.Intn(2), Var: m.variable(), Expr: came}
	}
	s := m.stmt(1) // as none are left, there are none in it
	if s.Kind == api.StmtWhile {
		v := api.Expr{Kind: api.ExprName, N: m.variable()}
		less := api.Expr{Kind: api.ExprSub, Args: []api.Expr{v, {Kind: api.ExprNumber, N: 1}}}
		s.Expr = api.Expr{Kind: api.ExprLess, Args: []api.Expr{{Kind: api.ExprNumber}, v}}
		s.Then = []api.Stmt{{Kind: api.StmtSet, Var: v.N, Expr: less}}
	}
	return s
}

// makeFew numbers on each channel, all small, so that commands go now this way, now that.
func makeFew(r *rand.Rand, p api.Program) [][]int {
	ins := make([][]int, len(p.Ins))
	for i := range ins {
		for range r.Intn(5) {
			ins[i] = append(ins[i], r.Intn(4)-1)
		}
	}
	return ins
}

// eachFine of so many programs that are, with each of its actors, once for what it sees, once for what it can't touch, and inputs of which these are the same, while others are not.
func eachFine(r *rand.Rand, many int) iter.Seq2[given, [][]int] {
	return func(yield func(given, [][]int) bool) {
		for range many {
			g := given{Program: makeFine(r)}
			for i := range 6 * g.Program.Actors.Many {
				g.Who, g.Touch = i/6, i%2 == 0
				g.Fuel = []int{100, 100, r.Intn(30)}[r.Intn(3)]
				g.Ins = makeFew(r, g.Program)
				others := makeFew(r, g.Program)
				keepSame(g, others)
				if !yield(g, others) {
					return
				}
			}
		}
	}
}

// keepSame on channels that one sees, or can't touch.
func keepSame(g given, others [][]int) {
	same, _ := view.Inputs(g.Program, g.Who, g.Touch, slices.Repeat([][]int{{1}}, len(g.Ins)))
	for i, l := range same {
		if len(l) > 0 {
			others[i] = g.Ins[i]
		}
	}
}
