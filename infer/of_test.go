package infer_test

import (
	"math"
	"slices"
	"testing"

	"veilwork/api"
	"veilwork/infer"
)

func number(n int) api.Expr { return api.Expr{Kind: api.ExprNumber, N: n} }

func variable(n int) api.Expr { return api.Expr{Kind: api.ExprName, N: n} }

func add(x, y api.Expr) api.Expr { return api.Expr{Kind: api.ExprAdd, Args: []api.Expr{x, y}} }

// chain is an expression of so many parts, which is an odd number.
func chain(parts int) api.Expr {
	e := variable(0)
	for ; parts > 1; parts -= 2 {
		e = add(e, number(1))
	}
	return e
}

// H1: the join of all variables; the bottom of none. Levels need not fit, not even those that are Known.
func TestOf(t *testing.T) {
	p := program(t, "func f() { return 1; } main { x = y; }")
	l := levels("a/ b/ ab/ ab/b /a | /ab")
	for _, c := range []struct {
		e    api.Expr
		want string
	}{
		{number(3), "ab/"},
		{add(number(3), number(-api.MaxNumber)), "ab/"},
		{variable(0), "a/"},
		{variable(2), "ab/"},
		{variable(3), "ab/b"},
		{variable(4), "/a"},
		{add(variable(0), number(1)), "a/"},
		{add(variable(0), variable(0)), "a/"},
		{add(variable(0), variable(1)), "/"},
		{add(variable(3), variable(0)), "a/b"},
		{add(number(1), add(variable(3), variable(4))), "/ab"},
		{add(add(add(number(1), variable(1)), variable(2)), add(number(2), variable(3))), "b/b"},
		{chain(api.MaxExpr), "a/"},
	} {
		if x, e := infer.Of(p, l, c.e); !same(x, level(c.want)) || e != api.OK {
			t.Errorf("H1: %v: %v (%d), want %s", c.e, x, e, c.want)
		}
	}
	for kind := api.ExprAdd; kind <= api.ExprSame; kind++ {
		if x, e := infer.Of(p, l, api.Expr{Kind: kind, Args: []api.Expr{variable(3), variable(4)}}); !same(x, level("/ab")) || e != api.OK {
			t.Errorf("H1: kind %d: %v (%d)", kind, x, e)
		}
	}
}

// expectOf: no level, and an error.
func expectOf(t *testing.T, what string, p api.Program, l api.Levels, e api.Expr, want api.Errno) {
	t.Helper()
	if x, why := infer.Of(p, l, e); why != want || len(x.Readers)+len(x.Writers) > 0 {
		t.Errorf("H1: %s: %v (%d), want error %d", what, x, why, want)
	}
}

// H1: the form of the expression.
func TestOfForm(t *testing.T) {
	p := program(t, "main {}")
	l := levels("ab/ ab/ ab/ ab/ ab/")
	for _, c := range []struct {
		e    api.Expr
		want api.Errno
	}{
		{api.Expr{}, api.ErrKind},
		{api.Expr{Kind: api.ExprSame + 1}, api.ErrKind},
		{api.Expr{Kind: api.ExprAdd, Args: []api.Expr{number(1)}}, api.ErrForm},
		{api.Expr{Kind: api.ExprName, Args: []api.Expr{number(1)}}, api.ErrForm},
		{number(api.MaxNumber + 1), api.ErrRange},
		{number(-api.MaxNumber - 1), api.ErrRange},
		{api.Expr{Kind: api.ExprAdd, N: 1, Args: []api.Expr{number(1), number(1)}}, api.ErrRange},
		{variable(-1), api.ErrNone},
		{variable(5), api.ErrNone},
		{variable(math.MaxInt), api.ErrNone},
	} {
		expectOf(t, "form", p, l, c.e, c.want)
		expectOf(t, "form within", p, l, add(number(1), c.e), c.want)
		expectOf(t, "form within", p, l, add(c.e, api.Expr{Kind: 99}), c.want)
		expectOf(t, "many parts", p, l, add(c.e, chain(api.MaxExpr)), api.ErrMany)
	}
	expectOf(t, "many parts", p, l, chain(api.MaxExpr+2), api.ErrMany)
}

// wrongLevels: levels that are none of a program with two actors, five variables and a function.
func wrongLevels() []api.Levels {
	fine := func() api.Levels { return levels("a/ab ab/ab ab/ ab/ ab/ | ab/") }
	out := []api.Levels{{}, {Vars: fine().Vars}, {Funcs: fine().Funcs}}
	for _, change := range []func(l *api.Levels){
		func(l *api.Levels) { l.Vars = l.Vars[:4] },
		func(l *api.Levels) { l.Vars = append(l.Vars, level("ab/")) },
		func(l *api.Levels) { l.Funcs = append(l.Funcs, level("ab/")) },
		func(l *api.Levels) { l.Vars, l.Funcs = l.Funcs, l.Vars },
		func(l *api.Levels) { l.Vars = slices.Repeat(l.Vars, 1000) },
	} {
		l := fine()
		change(&l)
		out = append(out, l)
	}
	three := []bool{true, true, true}
	for i := range 6 {
		for _, x := range []api.Level{{}, {Readers: three[:2]}, {Writers: three[:2]}, {Readers: three[:1], Writers: three[:2]}, {Readers: three[:2], Writers: three}, {Readers: three, Writers: three[:2]}} {
			l := fine()
			all := append(l.Vars, l.Funcs...)
			all[i] = x
			out = append(out, api.Levels{Vars: all[:5], Funcs: all[5:]})
		}
	}
	return out
}

// H1, H2: levels of another form; ahead of errors of the expression.
func TestWrongLevels(t *testing.T) {
	p := program(t, "func f() { return 1; } main { x = y; }")
	for _, l := range wrongLevels() {
		expectOf(t, "levels", p, l, variable(0), api.ErrForm)
		expectOf(t, "levels", p, l, variable(-1), api.ErrForm)
		expectOf(t, "levels", p, l, chain(api.MaxExpr+2), api.ErrForm)
		if fits, e := infer.Fits(p, l); fits || e != api.ErrForm {
			t.Errorf("H2: do %v fit: %v (%d), want error %d", l, fits, e, api.ErrForm)
		}
	}
}

// expectWrong: a program that has an error of chapter 6.
func expectWrong(t *testing.T, what int, p api.Program, want api.Errno) {
	t.Helper()
	l, e := infer.Infer(p)
	if e != want || len(l.Vars)+len(l.Funcs) > 0 {
		t.Errorf("H3: program %d: %v (%d), want error %d", what, l, e, want)
	}
	for _, l := range append(wrongLevels(), levels("a/ab ab/ab ab/ ab/ ab/ | ab/")) {
		expectOf(t, "program", p, l, number(1), want)
		expectOf(t, "program", p, l, variable(99), want)
		if fits, e := infer.Fits(p, l); fits || e != want {
			t.Errorf("H2: program %d: %v (%d), want error %d", what, fits, e, want)
		}
	}
}

// H1, H2, H3: errors of the program, ahead of all others.
func TestWrongPrograms(t *testing.T) {
	expectWrong(t, -1, api.Program{}, api.ErrRange)
	for i, c := range []struct {
		change func(p *api.Program)
		want   api.Errno
	}{
		{func(p *api.Program) { p.Actors.Many = api.MaxActors + 1 }, api.ErrRange},
		{func(p *api.Program) { p.Vars = make([]api.Var, api.MaxVars+1) }, api.ErrMany},
		{func(p *api.Program) { p.Speak = []int{2} }, api.ErrNone},
		{func(p *api.Program) { p.Ins[0].Read = []api.Policy{{Owner: 2}} }, api.ErrNone},
		{func(p *api.Program) { p.Vars[2].Label = p.Vars[0].Label }, api.ErrForm},
		{func(p *api.Program) { p.Main = slices.Repeat(p.Main, api.MaxStmts) }, api.ErrMany},
		{func(p *api.Program) { p.Main[0].Kind = 9 }, api.ErrKind},
		{func(p *api.Program) { p.Main[0].Var = 5 }, api.ErrNone},
		{func(p *api.Program) { p.Main[0].Expr = variable(5) }, api.ErrNone},
		{func(p *api.Program) { p.Funcs[0].Params = []int{2, 2} }, api.ErrTwice},
		{func(p *api.Program) { p.Funcs[0].Result = number(api.MaxNumber + 1) }, api.ErrRange},
		{func(p *api.Program) { p.Main[0].Then = p.Main[1:] }, api.ErrForm},
		{func(p *api.Program) { p.Main[0].Then = p.Main }, api.ErrMany}, // it holds itself
	} {
		p := program(t, "func f() { return 1; } main { x = y; z = 3; }")
		c.change(&p)
		expectWrong(t, i, p, c.want)
	}
}

// H1 to H3: a program without variables and functions.
func TestNothing(t *testing.T) {
	p := api.Program{Actors: api.Actors{Many: 2}}
	l, e := infer.Infer(p)
	if e != api.OK || len(l.Vars)+len(l.Funcs) > 0 {
		t.Errorf("H3: %v (%d)", l, e)
	}
	if fits, e := infer.Fits(p, api.Levels{}); !fits || e != api.OK {
		t.Errorf("H2: %v (%d)", fits, e)
	}
	if x, e := infer.Of(p, l, number(1)); !same(x, level("ab/")) || e != api.OK {
		t.Errorf("H1: %v (%d)", x, e)
	}
	expectOf(t, "no variable", p, l, variable(0), api.ErrNone)
}
