package scope_test

import (
	"math"
	"math/rand"
	"slices"
	"strings"
	"testing"

	"veilwork/actors"
	"veilwork/api"
	"veilwork/label"
	"veilwork/scope"
)

func number(n int) api.Expr { return api.Expr{Kind: api.ExprNumber, N: n} }

func variable(n int) api.Expr { return api.Expr{Kind: api.ExprName, N: n} }

func add(x, y api.Expr) api.Expr { return api.Expr{Kind: api.ExprAdd, Args: []api.Expr{x, y}} }

// chain is an expression of so many parts, which is an odd number.
func chain(parts int) api.Expr {
	e := variable(0)
	for ; parts > 1; parts -= 2 {
		e = add(e, number(1))
	}
	return e
}

func policy(owner int, names ...int) api.Policy { return api.Policy{Owner: owner, Names: names} }

func read(l ...api.Policy) api.Label { return api.Label{Read: l} }

// sets are so many commands.
func sets(many int) []api.Stmt {
	return slices.Repeat([]api.Stmt{{Kind: api.StmtSet, Expr: number(1)}}, many)
}

// nested is a command with so many in one another.
func nested(deep int) api.Stmt {
	s := sets(1)[0]
	for i := 1; i < deep; i++ {
		switch i % 3 {
		case 0:
			s = api.Stmt{Kind: api.StmtIf, Expr: number(1), Then: []api.Stmt{s}}
		case 1:
			s = api.Stmt{Kind: api.StmtIf, Expr: number(1), Else: []api.Stmt{s}}
		case 2:
			s = api.Stmt{Kind: api.StmtWhile, Expr: number(1), Then: []api.Stmt{s}}
		}
	}
	return s
}

// fine is a program with two actors, two channels of Ins and three of Outs, four variables, and three functions, of no, two and one parameters.
func fine(main ...api.Stmt) api.Program {
	return api.Program{
		Actors: api.Actors{Many: 2, Grants: []api.Grant{{Who: 0, For: 1}}},
		Speak:  []int{1},
		Ins:    []api.Label{{}, read(policy(0, 1))},
		Outs:   []api.Label{{}, read(policy(1)), {Write: []api.Policy{policy(0)}}},
		Vars:   []api.Var{{Known: true, Label: read(policy(0))}, {}, {}, {}},
		Funcs: []api.Func{
			{Result: number(1)},
			{Params: []int{2, 3}, Result: add(variable(2), variable(0))},
			{Params: []int{1}, Result: variable(1)},
		},
		Main: main,
	}
}

// kinds: a command of each kind, with all that it can have.
func kinds() []api.Stmt {
	return []api.Stmt{
		{Kind: api.StmtSet, Var: 3, Expr: number(-5)},
		{Kind: api.StmtCall, Var: 2, Other: 1, Args: []api.Expr{number(1), variable(3)}},
		{Kind: api.StmtGet, Var: 1, Other: 1},
		{Kind: api.StmtPut, Other: 2, Expr: variable(0)},
		{Kind: api.StmtReveal, Var: 1, Expr: add(variable(0), number(7))},
		{Kind: api.StmtTrust, Var: 3, Expr: chain(5)},
		{Kind: api.StmtIf, Expr: variable(1), Then: sets(1), Else: sets(2)},
		{Kind: api.StmtWhile, Expr: number(0), Then: sets(1)},
	}
}

// places: programs with a command wherever one can stand; the function that it stands in has two ahead of it.
func places(s api.Stmt) []api.Program {
	in := append(sets(1), s)
	out := []api.Program{
		fine(s),
		fine(in...),
		fine(api.Stmt{Kind: api.StmtIf, Expr: number(1), Then: in}),
		fine(api.Stmt{Kind: api.StmtIf, Expr: number(1), Else: in}),
		fine(api.Stmt{Kind: api.StmtWhile, Expr: number(1), Then: in}),
		fine(),
		fine(),
	}
	out[5].Funcs[2].Body = in
	out[6].Funcs[2].Body = []api.Stmt{{Kind: api.StmtWhile, Expr: number(1), Then: in}}
	return out
}

// exprPlaces: programs with an expression wherever one can stand by itself.
func exprPlaces(e api.Expr) []api.Program {
	out := []api.Program{fine(), fine()}
	out[0].Funcs[0].Result = e
	out[1].Funcs[2].Result = e
	for _, s := range []api.Stmt{
		{Kind: api.StmtSet, Expr: e},
		{Kind: api.StmtCall, Other: 1, Args: []api.Expr{e, number(1)}},
		{Kind: api.StmtCall, Other: 1, Args: []api.Expr{number(1), e}},
		{Kind: api.StmtPut, Expr: e},
		{Kind: api.StmtReveal, Expr: e},
		{Kind: api.StmtTrust, Expr: e},
		{Kind: api.StmtIf, Expr: e},
		{Kind: api.StmtWhile, Expr: e},
	} {
		out = append(out, places(s)...)
	}
	return out
}

// partPlaces: programs with an expression wherever one can stand, within another one, too.
func partPlaces(e api.Expr) []api.Program {
	out := exprPlaces(e)
	for kind := api.ExprAdd; kind <= api.ExprSame; kind++ {
		out = append(out, exprPlaces(api.Expr{Kind: kind, Args: []api.Expr{e, number(1)}})...)
		out = append(out, exprPlaces(api.Expr{Kind: kind, Args: []api.Expr{number(1), e}})...)
	}
	return append(out, exprPlaces(add(number(1), add(add(e, number(2)), number(3))))...)
}

// expect the same of Check for all programs.
func expect(t *testing.T, want api.Errno, what string, programs ...api.Program) {
	t.Helper()
	for i, p := range programs {
		if e := scope.Check(p); e != want {
			t.Errorf("F1: %s (%d): Check(%+v): %d, want %d", what, i, p, e, want)
		}
	}
}

// with: the fine program, changed.
func with(change func(p *api.Program)) api.Program {
	p := fine(kinds()...)
	change(&p)
	return p
}

// answer: OK, or an error, if something is not fine.
func answer(ok bool, why api.Errno) api.Errno {
	if ok {
		return api.OK
	}
	return why
}

// F1: ordinary programs.
func TestCheck(t *testing.T) {
	expect(t, api.OK, "least", api.Program{Actors: api.Actors{Many: 1}})
	expect(t, api.OK, "fine", fine(), fine(kinds()...))
	for _, s := range kinds() {
		expect(t, api.OK, "a kind", places(s)...)
	}
	expect(t, api.OK, "empty lists", copied(fine(kinds()...), 2))
	expect(t, api.ErrRange, "nothing", api.Program{})
	expect(t, api.OK, "functions that share a parameter", with(func(p *api.Program) { p.Funcs[2].Params = []int{2} }))
	expect(t, api.OK, "a parameter that is Known", with(func(p *api.Program) { p.Funcs[2].Params = []int{0} }))
	expect(t, api.OK, "one who speaks twice", with(func(p *api.Program) { p.Speak = []int{1, 1} }))
}

// F1: that of chapter 4.
func TestCheckActors(t *testing.T) {
	for _, a := range []api.Actors{
		{}, {Many: -1}, {Many: api.MaxActors + 1},
		{Many: 2, Grants: make([]api.Grant, api.MaxGrants+1)},
		{Many: 2, Grants: []api.Grant{{Who: 2}}},
	} {
		expect(t, actors.Check(a), "actors", with(func(p *api.Program) { p.Actors = a }), api.Program{Actors: a, Vars: make([]api.Var, 99)})
	}
	expect(t, api.OK, "actors", with(func(p *api.Program) { p.Actors = api.Actors{Many: 6, Grants: make([]api.Grant, 20)} }))
}

// F1: how many there may be of what a program has.
func TestCheckLimits(t *testing.T) {
	funcs := func(many int) []api.Func { return slices.Repeat([]api.Func{{Result: number(1)}}, many) }
	for more := range 2 {
		want := answer(more == 0, api.ErrMany)
		many := func(what string, change func(p *api.Program)) {
			t.Helper()
			p := fine()
			change(&p)
			expect(t, want, what, p)
		}
		many("variables", func(p *api.Program) { p.Vars = make([]api.Var, api.MaxVars+more) })
		many("ins", func(p *api.Program) { p.Ins = make([]api.Label, api.MaxChannels+more) })
		many("outs", func(p *api.Program) { p.Outs = make([]api.Label, api.MaxChannels+more) })
		many("ins and outs", func(p *api.Program) {
			p.Ins, p.Outs = make([]api.Label, api.MaxChannels), make([]api.Label, api.MaxChannels+more)
		})
		many("functions", func(p *api.Program) { p.Funcs = funcs(api.MaxFuncs + more) })
		many("policies", func(p *api.Program) { p.Vars[0].Label.Read = make([]api.Policy, api.MaxPolicies+more) })
		many("names", func(p *api.Program) {
			p.Actors.Many = 6
			p.Ins[1] = read(policy(0, []int{0, 1, 2, 3, 4, 5, 5}[:api.MaxNames+more]...))
		})
		many("parameters", func(p *api.Program) {
			p.Vars = make([]api.Var, 5)
			p.Funcs[1].Params = []int{4, 3, 2, 1, 0}[:api.MaxParams+more]
		})
		for _, actors := range []int{1, 2, api.MaxActors} {
			p := api.Program{Actors: api.Actors{Many: actors}, Speak: make([]int, actors+more)}
			expect(t, want, "speak", p)
		}
	}
	expect(t, api.ErrMany, "very many", with(func(p *api.Program) { p.Speak = make([]int, 1<<16) }),
		with(func(p *api.Program) { p.Vars = make([]api.Var, 1<<16) }),
		with(func(p *api.Program) { p.Main = make([]api.Stmt, 1<<16) }),
		with(func(p *api.Program) { p.Funcs[1].Params = make([]int, 1<<16) }))
}

// F1: how many commands there may be, wherever they stand, and how many in one another.
func TestCheckStmts(t *testing.T) {
	for more := range 2 {
		want := answer(more == 0, api.ErrMany)
		many := api.MaxStmts + more
		expect(t, want, "commands of main", fine(sets(many)...))
		p := fine(sets(many - 30)...)
		p.Funcs[0].Body, p.Funcs[2].Body = sets(10), sets(20)
		expect(t, want, "commands in functions", p)
		p = fine()
		p.Funcs[1].Body = sets(many)
		expect(t, want, "commands of a function", p)
		for _, s := range []api.Stmt{
			{Kind: api.StmtIf, Expr: number(1), Then: sets(many - 1)},
			{Kind: api.StmtIf, Expr: number(1), Else: sets(many - 1)},
			{Kind: api.StmtIf, Expr: number(1), Then: sets(many - 11), Else: sets(10)},
			{Kind: api.StmtWhile, Expr: number(1), Then: sets(many - 1)},
		} {
			expect(t, want, "commands within", fine(s))
		}
		deep := nested(api.MaxDeep + more)
		expect(t, want, "deep", fine(deep), fine(append(sets(3), deep)...))
		p = fine()
		p.Funcs[0].Body = []api.Stmt{deep}
		expect(t, want, "deep in a function", p)
		p = fine(nested(api.MaxDeep + more))
		p.Funcs[2].Body = []api.Stmt{nested(api.MaxDeep)}
		expect(t, want, "deep in both", p)
	}
	// Limits count for commands that are wrong, too, and come ahead of what is wrong with them.
	wrong := sets(1)[0]
	wrong.Then = make([]api.Stmt, api.MaxStmts)
	expect(t, api.ErrMany, "commands that may not be there", fine(wrong))
	deep := api.Stmt{}
	for range api.MaxDeep {
		deep = api.Stmt{Else: []api.Stmt{deep}}
	}
	expect(t, api.ErrMany, "commands of no kind", fine(deep), fine(make([]api.Stmt, api.MaxStmts+1)...))
	p := fine(sets(api.MaxStmts + 1)...)
	p.Funcs[0].Params = []int{9, 9, 9, 9, 9, 9}
	expect(t, api.ErrMany, "many ahead of parameters", p)
}

// F1: those who speak.
func TestCheckSpeak(t *testing.T) {
	for _, who := range []int{math.MinInt, -1, 0, 1, 2, 3, 6, math.MaxInt} {
		want := answer(who == 0 || who == 1, api.ErrNone)
		expect(t, want, "speak", with(func(p *api.Program) { p.Speak = []int{who} }), with(func(p *api.Program) { p.Speak = []int{0, who} }))
	}
}

// F1: labels, and that only variables that are Known have policies.
func TestCheckLabels(t *testing.T) {
	for _, l := range []api.Label{
		{}, read(policy(1, 0)), read(policy(2)), read(policy(0, 0, 0)), read(make([]api.Policy, 5)...), {Write: []api.Policy{policy(0, -1)}},
	} {
		want := label.Check(api.Actors{Many: 2}, l)
		expect(t, want, "a label",
			with(func(p *api.Program) { p.Ins[0] = l }), with(func(p *api.Program) { p.Ins[1] = l }),
			with(func(p *api.Program) { p.Outs[0] = l }), with(func(p *api.Program) { p.Outs[2] = l }),
			with(func(p *api.Program) { p.Vars[0].Label = l }), with(func(p *api.Program) { p.Vars[3] = api.Var{Known: true, Label: l} }))
		has := len(l.Read)+len(l.Write) > 0
		if want == api.OK && has {
			want = api.ErrForm
		}
		expect(t, want, "a label that is not known", with(func(p *api.Program) { p.Vars[3].Label = l }))
	}
	expect(t, api.ErrForm, "not known", with(func(p *api.Program) { p.Vars[0].Known = false }),
		with(func(p *api.Program) { p.Vars[1].Label.Write = []api.Policy{policy(0)} }))
	expect(t, api.OK, "known", with(func(p *api.Program) { p.Vars[1].Known = true }))
}

// F1: parameters.
func TestCheckParams(t *testing.T) {
	for _, c := range []struct {
		params []int
		want   api.Errno
	}{
		{nil, api.OK}, {[]int{}, api.OK}, {[]int{3}, api.OK}, {[]int{3, 2, 1, 0}, api.OK},
		{[]int{4}, api.ErrNone}, {[]int{-1}, api.ErrNone}, {[]int{0, 1, 2, 4}, api.ErrNone}, {[]int{math.MaxInt}, api.ErrNone},
		{[]int{0, 0}, api.ErrTwice}, {[]int{0, 1, 2, 0}, api.ErrTwice}, {[]int{0, 1, 3, 3}, api.ErrTwice},
		{[]int{0, 0, 4}, api.ErrNone}, {[]int{9, 9}, api.ErrNone}, {[]int{9, 9, 9, 9, 9}, api.ErrMany}, {[]int{0, 0, 0, 0, 0}, api.ErrMany},
	} {
		for i := range 3 {
			p := fine()
			p.Funcs[i].Params = c.params
			expect(t, c.want, "parameters", p)
		}
	}
	p := fine()
	p.Vars = nil
	p.Funcs = []api.Func{{Params: []int{0}, Result: number(1)}}
	expect(t, api.ErrNone, "a parameter without variables", p)
}

// F1: numbers of variables, functions and channels in commands.
func TestCheckNone(t *testing.T) {
	for _, n := range []int{math.MinInt, -1 << 32, -1, 0, 1, 2, 3, 4, 5, 1 << 32, math.MaxInt} {
		is := func(many int) api.Errno { return answer(n >= 0 && n < many, api.ErrNone) }
		for _, s := range kinds() {
			switch s.Kind {
			case api.StmtPut:
				s.Other = n
				expect(t, is(3), "a channel of outs", places(s)...)
				continue
			case api.StmtIf, api.StmtWhile:
				continue
			}
			s.Var = n
			expect(t, is(4), "a variable", places(s)...)
			if s.Kind == api.StmtGet {
				s.Var, s.Other = 0, n
				expect(t, is(2), "a channel of ins", places(s)...)
			}
		}
		expect(t, is(4), "a variable of an expression", partPlaces(variable(n))...)
	}
}

// F1: a function calls those ahead of it alone, Main any.
func TestCheckCalls(t *testing.T) {
	for _, n := range []int{math.MinInt, -1, 0, 1, 2, 3, 4, math.MaxInt} {
		s := api.Stmt{Kind: api.StmtCall, Other: n}
		if n == 1 || n == 2 {
			s.Args = slices.Repeat([]api.Expr{number(1)}, 3-n)
		}
		for _, in := range []api.Stmt{s, {Kind: api.StmtIf, Expr: number(1), Else: []api.Stmt{s}}} {
			expect(t, answer(n >= 0 && n < 3, api.ErrNone), "called by main", fine(in))
			for i := range 3 {
				p := fine()
				p.Funcs[i].Body = append(sets(1), in)
				expect(t, answer(n >= 0 && n < i, api.ErrNone), "called by a function", p)
			}
		}
	}
	for args := range 6 {
		for n, params := range []int{0, 2, 1} {
			s := api.Stmt{Kind: api.StmtCall, Other: n, Args: slices.Repeat([]api.Expr{number(1)}, args)}
			expect(t, answer(args == params, api.ErrForm), "arguments", fine(s))
		}
	}
}

// F1: a command has just what its kind names.
func TestCheckForm(t *testing.T) {
	for _, s := range kinds() {
		try := func(what string, change func(s *api.Stmt)) {
			t.Helper()
			c := s
			change(&c)
			ok := slices.Contains(strings.Fields(names[s.Kind]), what)
			expect(t, answer(ok, api.ErrForm), what, places(c)...)
		}
		try("var", func(s *api.Stmt) { s.Var = 1 })
		try("other", func(s *api.Stmt) { s.Other = 1 })
		try("expr", func(s *api.Stmt) { s.Expr = number(0) })
		try("args", func(s *api.Stmt) { s.Args = []api.Expr{number(1), number(1)} })
		try("then", func(s *api.Stmt) { s.Then = sets(1) })
		try("else", func(s *api.Stmt) { s.Else = sets(1) })
		if s.Kind == api.StmtCall || s.Kind == api.StmtGet {
			try("a number of no kind", func(s *api.Stmt) { s.Expr.N = 1 })
			try("a number below", func(s *api.Stmt) { s.Expr.N = -1 })
			try("parts of no kind", func(s *api.Stmt) { s.Expr.Args = []api.Expr{{}} })
		} else {
			s.Expr = api.Expr{}
			expect(t, api.ErrKind, "no expression", places(s)...)
		}
	}
	for _, s := range []api.Stmt{
		{Kind: api.StmtPut, Var: -1, Expr: number(1)}, {Kind: api.StmtSet, Other: -1, Expr: number(1)}, {Kind: api.StmtIf, Var: 9, Expr: number(1)},
	} {
		expect(t, api.ErrForm, "a number where none is named", places(s)...)
	}
}

// F1: kinds that are none.
func TestCheckKinds(t *testing.T) {
	for _, kind := range []int{math.MinInt, -1, 0, 9, 10, math.MaxInt} {
		expect(t, api.ErrKind, "a command", places(api.Stmt{Kind: kind})...)
		expect(t, api.ErrKind, "a command", places(api.Stmt{Kind: kind, Var: 99, Other: 99, Expr: api.Expr{Kind: 99}})...)
	}
	for _, kind := range []int{math.MinInt, -1, 0, 8, 9, math.MaxInt} {
		expect(t, api.ErrKind, "an expression", partPlaces(api.Expr{Kind: kind})...)
		expect(t, api.ErrKind, "an expression", partPlaces(api.Expr{Kind: kind, N: math.MaxInt, Args: []api.Expr{{}}})...)
	}
}

// F1: what expressions have.
func TestCheckExprs(t *testing.T) {
	for _, n := range []int{-api.MaxNumber, -1, 0, 1, api.MaxNumber} {
		expect(t, api.OK, "a number", partPlaces(number(n))...)
	}
	for _, n := range []int{math.MinInt, -api.MaxNumber - 1, api.MaxNumber + 1, math.MaxInt} {
		expect(t, api.ErrRange, "a number", partPlaces(number(n))...)
	}
	for kind := api.ExprNumber; kind <= api.ExprSame; kind++ {
		for many := range 4 {
			e := api.Expr{Kind: kind, Args: slices.Repeat([]api.Expr{number(1)}, many)}
			ok := many == 0 && kind <= api.ExprName || many == 2 && kind >= api.ExprAdd
			expect(t, answer(ok, api.ErrForm), "args", partPlaces(e)...)
			if many == 2 && kind >= api.ExprAdd {
				for _, n := range []int{math.MinInt, -1, 1, 3, math.MaxInt} {
					e.N = n
					expect(t, api.ErrRange, "a number with args", partPlaces(e)...)
				}
			}
		}
	}
}

// F1: how many parts an expression may have.
func TestCheckParts(t *testing.T) {
	expect(t, api.OK, "15 parts", exprPlaces(chain(api.MaxExpr))...)
	expect(t, api.ErrMany, "17 parts", exprPlaces(chain(api.MaxExpr+2))...)
	expect(t, api.ErrMany, "15 and 2 parts", exprPlaces(add(number(1), chain(api.MaxExpr)))...)
	// The limit comes ahead of what is wrong with a part.
	flat := func(args int) api.Expr { return api.Expr{Kind: 99, Args: make([]api.Expr, args)} }
	expect(t, api.ErrKind, "15 parts in one", exprPlaces(flat(api.MaxExpr-1))...)
	expect(t, api.ErrMany, "16 parts in one", exprPlaces(flat(api.MaxExpr))...)
	expect(t, api.ErrMany, "very many parts in one", exprPlaces(flat(1<<12))...)
	// Each expression by itself.
	full := chain(api.MaxExpr)
	expect(t, api.OK, "two of 15 parts", fine(api.Stmt{Kind: api.StmtCall, Other: 1, Args: []api.Expr{full, full}}))
}

// F1: of several errors the first one that the promise names.
func TestCheckOrder(t *testing.T) {
	// Each change is wrong by its own error, and comes ahead of all behind it.
	changes := []struct {
		why api.Errno
		do  func(p *api.Program)
	}{
		{api.ErrRange, func(p *api.Program) { p.Actors.Many = 0 }},
		{api.ErrMany, func(p *api.Program) { p.Vars = append(p.Vars, make([]api.Var, 13)...) }},
		{api.ErrNone, func(p *api.Program) { p.Speak[0] = 2 }},
		{api.ErrState, func(p *api.Program) { p.Ins[0] = read(policy(0, 1, 0)) }},
		{api.ErrNone, func(p *api.Program) { p.Ins[1] = read(policy(7)) }},
		{api.ErrMany, func(p *api.Program) { p.Outs[0] = read(make([]api.Policy, 5)...) }},
		{api.ErrState, func(p *api.Program) { p.Vars[0].Label = read(policy(0, 0, 0)) }},
		{api.ErrNone, func(p *api.Program) { p.Vars[2].Label = read(policy(-1)) }},
		{api.ErrForm, func(p *api.Program) { p.Vars[1].Label = read(policy(0)) }},
		{api.ErrMany, func(p *api.Program) { p.Main = append(p.Main, sets(50)...) }},
		{api.ErrTwice, func(p *api.Program) { p.Funcs[0].Params = []int{1, 1} }},
		{api.ErrForm, func(p *api.Program) { p.Funcs[0].Body = []api.Stmt{{Kind: api.StmtSet, Other: 1}} }},
		{api.ErrRange, func(p *api.Program) { p.Funcs[0].Result.N = math.MaxInt }},
		{api.ErrMany, func(p *api.Program) { p.Funcs[1].Params = make([]int, 5) }},
		{api.ErrKind, func(p *api.Program) { p.Funcs[1].Body = make([]api.Stmt, 1) }},
		{api.ErrNone, func(p *api.Program) { p.Funcs[1].Result = variable(99) }},
		{api.ErrKind, func(p *api.Program) { p.Main[0].Kind = 0 }},
		{api.ErrRange, func(p *api.Program) { p.Main[4].Expr.Args[1].N = math.MinInt }},
		{api.ErrForm, func(p *api.Program) { p.Main[6].Expr.Args = make([]api.Expr, 1) }},
		{api.ErrNone, func(p *api.Program) { p.Main[6].Then[0].Var = -1 }},
		{api.ErrKind, func(p *api.Program) { p.Main[6].Else[0].Expr.Kind = 0 }},
		{api.ErrNone, func(p *api.Program) { p.Main[6].Else[1].Var = 99 }},
		{api.ErrMany, func(p *api.Program) { p.Main[7].Expr = chain(17) }},
		{api.ErrForm, func(p *api.Program) { p.Main[7].Then[0].Other = 1 }},
	}
	for i, first := range changes {
		expect(t, first.why, "one", with(first.do))
		for k := i + 1; k < len(changes); k++ {
			p := fine(kinds()...)
			changes[k].do(&p)
			first.do(&p)
			expect(t, first.why, "two", p)
		}
	}
}

// F1: of one command or expression the first error that the promise names.
func TestCheckOrderWithin(t *testing.T) {
	long := chain(17)
	for _, c := range []struct {
		s    api.Stmt
		want api.Errno
	}{
		{api.Stmt{Kind: 9, Var: 9, Other: 9, Expr: long}, api.ErrKind},
		{api.Stmt{Kind: api.StmtSet, Var: 9, Other: 9, Expr: long}, api.ErrNone},
		{api.Stmt{Kind: api.StmtPut, Var: 9, Other: 9, Expr: long}, api.ErrNone},
		{api.Stmt{Kind: api.StmtGet, Var: 0, Other: 9, Expr: long}, api.ErrNone},
		{api.Stmt{Kind: api.StmtCall, Var: 9, Other: 1}, api.ErrNone},
		{api.Stmt{Kind: api.StmtCall, Var: 0, Other: 1, Args: []api.Expr{{Kind: 9}}}, api.ErrForm},
		{api.Stmt{Kind: api.StmtCall, Var: 0, Other: 1, Args: []api.Expr{long, long}, Expr: number(1)}, api.ErrForm},
		{api.Stmt{Kind: api.StmtSet, Other: 1, Expr: long}, api.ErrForm},
		{api.Stmt{Kind: api.StmtWhile, Expr: long, Else: sets(1)}, api.ErrForm},
		{api.Stmt{Kind: api.StmtPut, Expr: long, Then: make([]api.Stmt, 1)}, api.ErrForm},
		{api.Stmt{Kind: api.StmtCall, Other: 1, Args: []api.Expr{variable(9), long}}, api.ErrNone},
		{api.Stmt{Kind: api.StmtCall, Other: 1, Args: []api.Expr{long, variable(9)}}, api.ErrMany},
		{api.Stmt{Kind: api.StmtIf, Expr: variable(9), Then: make([]api.Stmt, 1)}, api.ErrNone},
	} {
		expect(t, c.want, "of one command", places(c.s)...)
	}
	for _, c := range []struct {
		e    api.Expr
		want api.Errno
	}{
		{api.Expr{Kind: 9, N: 1, Args: []api.Expr{number(1)}}, api.ErrKind},
		{api.Expr{Kind: api.ExprNumber, N: math.MaxInt, Args: []api.Expr{{}}}, api.ErrForm},
		{api.Expr{Kind: api.ExprName, N: -1, Args: []api.Expr{{}}}, api.ErrForm},
		{api.Expr{Kind: api.ExprMul, N: 1, Args: []api.Expr{{}}}, api.ErrForm},
		{api.Expr{Kind: api.ExprMul, N: 1, Args: []api.Expr{{}, {}}}, api.ErrRange},
		{add(number(math.MaxInt), api.Expr{}), api.ErrRange},
		{add(api.Expr{}, number(math.MaxInt)), api.ErrKind},
		{add(add(number(1), variable(9)), api.Expr{}), api.ErrNone},
		{add(add(add(variable(9), number(1)), api.Expr{}), api.Expr{}), api.ErrNone},
	} {
		expect(t, c.want, "of one expression", partPlaces(c.e)...)
	}
}

// F1: programs of all sorts, held against all that is wrong with them.
func TestCheckFindings(t *testing.T) {
	r := rand.New(rand.NewSource(5))
	seen := map[api.Errno]int{}
	for range 10000 {
		_, p := makeProgram(r)
		for range r.Intn(4) {
			spoil(r, &p)
		}
		want := first(findings(p))
		seen[want]++
		if e := scope.Check(p); e != want {
			t.Fatalf("F1: Check(%+v): %d, want %d", p, e, want)
		}
	}
	for e := api.OK; e <= api.ErrKind; e++ {
		if seen[e] < 20 {
			t.Errorf("F1: %d programs with %d", seen[e], e)
		}
	}
}

// P1: Check ends on lists that hold themselves, and on very deep ones.
func TestCheckEnds(t *testing.T) {
	l := []api.Stmt{{Kind: api.StmtIf, Expr: number(1)}}
	l[0].Then, l[0].Else = l, l
	p := fine()
	p.Funcs[1].Body = l
	expect(t, api.ErrMany, "commands that hold themselves", fine(l...), p)
	e := []api.Expr{{Kind: api.ExprAdd}, {Kind: api.ExprAdd}}
	e[0].Args, e[1].Args = e, e
	expect(t, api.ErrMany, "expressions that hold themselves", partPlaces(e[0])...)
	expect(t, api.ErrMany, "very deep", append(exprPlaces(chain(1<<13+1)), fine(nested(1<<13)))...)
	expect(t, api.ErrForm, "args that may not be there", places(api.Stmt{Kind: api.StmtGet, Args: e})...)
	expect(t, api.ErrForm, "args of what may not be there", places(api.Stmt{Kind: api.StmtGet, Expr: api.Expr{Args: e}})...)
}
