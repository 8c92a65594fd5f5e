package whole

import (
	"reflect"
	"slices"
	"testing"

	"veilwork/api"
	"veilwork/infer"
	"veilwork/judge"
	"veilwork/run"
	"veilwork/slice"
	"veilwork/sure"
	"veilwork/view"
	"veilwork/watch"
)

// greatest program: as many of all things as there may be.
func greatest() api.Program {
	number := api.Expr{Kind: api.ExprNumber, N: 1}
	deepest := []api.Stmt{{Kind: api.StmtPut, Other: api.MaxChannels - 1, Expr: longest()}}
	for range api.MaxDeep - 1 {
		deepest = []api.Stmt{{Kind: api.StmtIf, Expr: number, Then: deepest}}
	}
	names := []int{0, 1, 2, 3, 4, 5}
	policies := slices.Repeat([]api.Policy{{Owner: api.MaxActors - 1, Names: names[:api.MaxNames]}}, api.MaxPolicies)
	l := api.Label{Read: policies, Write: policies}
	call := api.Stmt{Kind: api.StmtCall, Var: 4, Other: api.MaxFuncs - 1, Args: slices.Repeat([]api.Expr{longest()}, api.MaxParams)}
	get := api.Stmt{Kind: api.StmtGet, Var: api.MaxVars - 1, Other: api.MaxChannels - 1}
	p := api.Program{
		Actors: api.Actors{Many: api.MaxActors, Grants: slices.Repeat([]api.Grant{{Who: 5, For: 4}}, api.MaxGrants)},
		Speak:  names[:api.MaxActors],
		Ins:    slices.Repeat([]api.Label{l}, api.MaxChannels),
		Outs:   slices.Repeat([]api.Label{l}, api.MaxChannels),
		Vars:   slices.Repeat([]api.Var{{Known: true, Label: l}, {}}, api.MaxVars/2),
		Funcs:  slices.Repeat([]api.Func{{Params: []int{12, 13, 14, 15}, Result: longest()}}, api.MaxFuncs),
		Main:   append(deepest, get, call),
	}
	sets := api.Stmt{Kind: api.StmtSet, Var: 3, Expr: longest()}
	p.Main = append(p.Main, slices.Repeat([]api.Stmt{sets}, api.MaxStmts-api.MaxDeep-2)...)
	return p
}

// longest expression.
func longest() api.Expr {
	e := api.Expr{Kind: api.ExprName, N: api.MaxVars - 1}
	for range api.MaxExpr / 2 {
		e = api.Expr{Kind: api.ExprAdd, Args: []api.Expr{e, {Kind: api.ExprNumber, N: api.MaxNumber}}}
	}
	return e
}

// G2, H1 to H3: programs at all limits.
func TestGreatest(t *testing.T) {
	p := greatest()
	ins := slices.Repeat([][]int{slices.Repeat([]int{api.Most}, api.MaxInput)}, api.MaxChannels)
	x, e := run.Run(p, ins, api.MaxFuel)
	if want := machineRun(p, ins, api.MaxFuel); e != api.OK || !alike(x, want) || x.Steps != api.MaxStmts {
		t.Errorf("G2: %v (%d), want %v", x, e, want)
	}
	l, e := infer.Infer(p)
	if want := makeGraph(p).least(bottom(p)); e != api.OK || !alike(l, want) {
		t.Errorf("H3: %v (%d), want %v", l, e, want)
	}
	if fits, e := infer.Fits(p, l); !fits || e != api.OK {
		t.Errorf("H4: %v (%d)", fits, e)
	}
	if x, e := infer.Of(p, l, longest()); e != api.OK || !alike(x, l.Vars[api.MaxVars-1]) {
		t.Errorf("H1: %v (%d)", x, e)
	}
}

// more: a list with its last element once more.
func more[T any](l []T) []T { return append(slices.Clone(l), l[len(l)-1]) }

// I1, J1: programs at all limits.
func TestGreatestJudged(t *testing.T) {
	p := greatest()
	l, e := judge.Faults(p)
	if want := makeTrial(p).faults; e != api.OK || !slices.Equal(l, want) || len(want) > 0 {
		t.Errorf("I1: %v (%d), want %v", l, e, want)
	}
	// Nobody of those who may have written what is put may have written the channel any more.
	p.Outs[api.MaxChannels-1].Write = []api.Policy{{Owner: 0}}
	p.Vars[api.MaxVars-1].Known = true
	l, e = judge.Faults(p)
	if want := makeTrial(p).faults; e != api.OK || !slices.Equal(l, want) || len(want) == 0 {
		t.Errorf("I1: %v (%d), want %v", l, e, want)
	}
	ins := slices.Repeat([][]int{slices.Repeat([]int{api.Most}, api.MaxInput)}, api.MaxChannels)
	events := slices.Repeat([]api.Event{{Kind: api.EventTrust, Which: api.MaxVars - 1}, {Kind: api.EventPut, Which: api.MaxChannels - 1}}, api.MaxFuel/2)
	for who := range api.MaxActors {
		if x, e := view.Inputs(p, who, false, ins); e != api.OK || !alike(x, ins) {
			t.Errorf("J1: %d sees %v (%d)", who, x, e)
		}
		if x, e := view.Events(p, who, false, events); e != api.OK || !slices.Equal(x, events) {
			t.Errorf("J1: %d sees %v (%d)", who, x, e)
		}
	}
}

// G2, H1 to H3, I1, I2, J1, K2, L1, M1: programs one past a limit.
func TestPastLimits(t *testing.T) {
	for i, change := range []func(p *api.Program){
		func(p *api.Program) { p.Actors.Grants = more(p.Actors.Grants) },
		func(p *api.Program) { p.Speak = more(p.Speak) },
		func(p *api.Program) { p.Ins = more(p.Ins) },
		func(p *api.Program) { p.Outs = more(p.Outs) },
		func(p *api.Program) { p.Vars = more(p.Vars) },
		func(p *api.Program) { p.Funcs = more(p.Funcs) },
		func(p *api.Program) { p.Main = more(p.Main) },
		func(p *api.Program) { p.Ins[4].Read = more(p.Ins[4].Read) },
		func(p *api.Program) { p.Outs[4].Write = more(p.Outs[4].Write) },
		func(p *api.Program) { p.Vars[2].Label.Read[3].Names = more(p.Vars[2].Label.Read[3].Names) },
		func(p *api.Program) { p.Funcs[4].Params = []int{1, 2, 3, 4, 5} },
		func(p *api.Program) {
			p.Main[0].Then = []api.Stmt{{Kind: api.StmtIf, Expr: p.Main[0].Expr, Then: p.Main[0].Then}}
			p.Main = p.Main[:10]
		},
		func(p *api.Program) {
			p.Main[9].Expr = api.Expr{Kind: api.ExprAdd, Args: []api.Expr{longest(), {Kind: api.ExprNumber}}}
		},
	} {
		p := greatest()
		change(&p)
		l := bottom(p)
		for name, call := range calls() {
			if name == "Eval" || name == "Apart" || name == "Report" {
				continue // they take no program
			}
			x, e := call(given{Program: p, Ins: make([][]int, len(p.Ins)), Fuel: 1, Levels: l, Expr: longest()})
			if e != api.ErrMany || !reflect.ValueOf(x).IsZero() {
				t.Errorf("P1: %s of a program past limit %d: %v (%d), want error %d", name, i, x, e, api.ErrMany)
			}
		}
	}
}

// K1, L1, L2: programs at all limits.
func TestGreatestWatched(t *testing.T) {
	p := greatest()
	ins := slices.Repeat([][]int{slices.Repeat([]int{api.Most}, api.MaxInput)}, api.MaxChannels)
	x, l, e := watch.Watch(p, ins, api.MaxFuel)
	want := guardedRun(p, ins, api.MaxFuel)
	if e != api.OK || !alike(x, want.run) || !alike(l, want.levels()) || x.Steps != api.MaxStmts || x.End != api.EndDone {
		t.Errorf("K1: %v and %v (%d), want %v and %v", x, l, e, want.run, want.levels())
	}
	last := api.MaxChannels - 1
	v, in, s, e := slice.Needs(p, last)
	if want := makeHanging(p).needed(last); e != api.OK || !slices.Equal(slices.Concat(v, in, s), want) || len(s) != api.MaxStmts {
		t.Errorf("L1: %v %v %v (%d), want %v", v, in, s, e, want)
	}
	q, e := slice.Slice(p, last)
	if e != api.OK || !alike(spotsOf(q, slices.Repeat([]bool{true}, len(commandsOf(q)))), spotsOf(p, s)) || !alike(bare(q), bare(p)) {
		t.Errorf("L2: %+v (%d)", q, e)
	}
}

// deepest program: as many of StmtIf, and of calls, in one another as there may be. Its last variable is left.
func deepest() api.Program {
	const many = api.MaxFuncs
	number := api.Expr{Kind: api.ExprNumber, N: 1}
	p := api.Program{
		Actors: api.Actors{Many: 2},
		Ins:    []api.Label{{Read: []api.Policy{{Owner: 0}}}},
		Outs:   []api.Label{{}},
		Vars:   make([]api.Var, many+2),
	}
	body := []api.Stmt{{Kind: api.StmtPut, Expr: number}}
	for i := range many + 1 {
		for range api.MaxDeep - 1 {
			body = []api.Stmt{{Kind: api.StmtIf, Expr: number, Then: body}}
		}
		if i < many {
			p.Funcs = append(p.Funcs, api.Func{Body: body, Result: number})
			body = []api.Stmt{{Kind: api.StmtCall, Var: i, Other: i}}
		}
	}
	p.Main = body
	return p
}

// K1: the place is that of all that is gone through, however many that are.
func TestDeepestWatched(t *testing.T) {
	p := deepest()
	x, _, e := watch.Watch(p, make([][]int, 1), api.MaxFuel)
	if e != api.OK || x.End != api.EndDone || len(x.Events) != 1 || x.Steps != (api.MaxFuncs+1)*api.MaxDeep {
		t.Errorf("K1: %v (%d)", x, e)
	}
	// Something is secret around all that.
	secret := api.MaxFuncs + 1
	p.Main[0].Expr = api.Expr{Kind: api.ExprName, N: secret}
	p.Main = append([]api.Stmt{{Kind: api.StmtGet, Var: secret}}, p.Main...)
	x, l, e := watch.Watch(p, [][]int{{1}}, api.MaxFuel)
	if e != api.OK || x.End != api.EndStop || x.Stop != api.MaxDeep-1 || len(x.Events) != 0 || l[secret].Readers[1] {
		t.Errorf("K1: %v and %v (%d)", x, l, e)
	}
}

// M1: programs at all limits, and as many events as there may be.
func TestGreatestSure(t *testing.T) {
	p := greatest()
	p.Main[0], p.Main[1] = p.Main[1], p.Main[0] // so what is gotten goes out
	full := func(n int) [][]int {
		return slices.Repeat([][]int{slices.Repeat([]int{n}, api.MaxInput)}, api.MaxChannels)
	}
	for who := range api.MaxActors {
		l, m, at, e := sure.Both(p, who, false, full(api.Most), full(api.Least), api.MaxFuel)
		if e != api.OK || at != 0 || len(l) != 1 || len(m) != 1 {
			t.Errorf("M1: %d: %v and %v, apart at %d (%d)", who, l, m, at, e)
		}
	}
	number := api.Expr{Kind: api.ExprNumber, N: 1}
	put := api.Stmt{Kind: api.StmtPut, Other: api.MaxChannels - 1, Expr: number}
	p.Main = []api.Stmt{{Kind: api.StmtWhile, Expr: number, Then: slices.Repeat([]api.Stmt{put}, api.MaxStmts-1)}}
	l, m, at, e := sure.Both(p, api.MaxActors-1, false, full(1), full(2), api.MaxFuel)
	if want := machineRun(p, full(1), api.MaxFuel).Events; e != api.OK || at != -1 || !slices.Equal(l, want) || !slices.Equal(m, want) || len(l) < 1900 {
		t.Errorf("M1: %d and %d events, apart at %d (%d)", len(l), len(m), at, e)
	}
}
