package judge_test

import (
	"slices"
	"testing"

	"veilwork/api"
	"veilwork/judge"
)

func expectWrong(t *testing.T, what int, p api.Program, want api.Errno) {
	t.Helper()
	if l, e := judge.Faults(p); len(l) > 0 || e != want {
		t.Errorf("I1: program %d: %v (%d), want error %d", what, l, e, want)
	}
	if fine, e := judge.Fine(p); fine || e != want {
		t.Errorf("I2: program %d: %v (%d), want error %d", what, fine, e, want)
	}
}

// I2: errors of Check, be the program fine but for that or not.
func TestWrongPrograms(t *testing.T) {
	expectWrong(t, -1, api.Program{}, api.ErrRange)
	for i, c := range []struct {
		change func(p *api.Program)
		want   api.Errno
	}{
		{func(p *api.Program) { p.Actors.Many = 0 }, api.ErrRange},
		{func(p *api.Program) { p.Actors.Many = api.MaxActors + 1 }, api.ErrRange},
		{func(p *api.Program) { p.Actors.Grants = []api.Grant{{Who: 3}} }, api.ErrNone},
		{func(p *api.Program) { p.Vars = make([]api.Var, api.MaxVars+1) }, api.ErrMany},
		{func(p *api.Program) { p.Speak = []int{0, 1, 2, 0} }, api.ErrMany},
		{func(p *api.Program) { p.Speak = []int{-1} }, api.ErrNone},
		{func(p *api.Program) { p.Speak = []int{3} }, api.ErrNone},
		{func(p *api.Program) { p.Outs[3].Read = []api.Policy{{Owner: 3}} }, api.ErrNone},
		{func(p *api.Program) { p.Ins[0].Write = []api.Policy{{Owner: 1, Names: []int{1, 1}}} }, api.ErrState},
		{func(p *api.Program) { p.Vars[0].Known = false }, api.ErrForm},
		{func(p *api.Program) { p.Main = slices.Repeat(p.Main, api.MaxStmts) }, api.ErrMany},
		{func(p *api.Program) { p.Main[1].Then = p.Main }, api.ErrMany}, // it holds itself
		{func(p *api.Program) { p.Main[0].Kind = 9 }, api.ErrKind},
		{func(p *api.Program) { p.Main[0].Kind = 0 }, api.ErrKind},
		{func(p *api.Program) { p.Main[0].Var = len(p.Vars) }, api.ErrNone},
		{func(p *api.Program) { p.Main[1].Then[0].Other = 4 }, api.ErrNone},
		{func(p *api.Program) { p.Main[2].Other = -1 }, api.ErrNone},
		{func(p *api.Program) { p.Main[2].Args = nil }, api.ErrForm},
		{func(p *api.Program) { p.Main[0].Expr.N = 99 }, api.ErrNone},
		{func(p *api.Program) { p.Main[0].Expr.Args = []api.Expr{p.Main[0].Expr} }, api.ErrForm},
		{func(p *api.Program) { p.Funcs[0].Params = []int{2, 2} }, api.ErrTwice},
		{func(p *api.Program) { p.Funcs[0].Result.N = api.MaxNumber + 1 }, api.ErrRange},
	} {
		for _, from := range []string{"pt", "su"} {
			p := program(t, head+"func f(n) { return 1; } main { reveal pt "+from+"; if 1 { put opt 2; } x = f(3); }")
			c.change(&p)
			expectWrong(t, i, p, c.want)
		}
	}
}

// I1, I2: a program that has nothing but an actor, and one of each.
func TestLeast(t *testing.T) {
	p := api.Program{Actors: api.Actors{Many: 1}}
	expect(t, "nothing", p, "")
	p.Vars = []api.Var{{}}
	p.Main = []api.Stmt{{Kind: api.StmtTrust, Expr: api.Expr{Kind: api.ExprName}}}
	expect(t, "trust", p, "0 hidden")
	p.Vars[0].Known = true
	expect(t, "trust a variable that is Known", p, "")
}
