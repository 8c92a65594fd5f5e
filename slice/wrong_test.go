package slice_test

import (
	"math"
	"reflect"
	"testing"

	"veilwork/api"
	"veilwork/slice"
)

func expectWrong(t *testing.T, what any, p api.Program, channel int, want api.Errno) {
	t.Helper()
	v, in, s, e := slice.Needs(p, channel)
	if e != want || len(v)+len(in)+len(s) > 0 {
		t.Errorf("L1: %v, channel %d: %v %v %v (%d), want error %d and nothing", what, channel, v, in, s, e, want)
	}
	q, e := slice.Slice(p, channel)
	if e != want || !reflect.ValueOf(q).IsZero() {
		t.Errorf("L2: %v, channel %d: %+v (%d), want error %d and nothing", what, channel, q, e, want)
	}
}

// L1: there is no such channel.
func TestNoChannel(t *testing.T) {
	p := program(t, "main { get x i; put o x; }")
	for _, channel := range []int{-1, 2, 3, api.MaxChannels, math.MinInt, math.MaxInt} {
		expectWrong(t, "a program", p, channel, api.ErrNone)
		expectWrong(t, "no program", api.Program{}, channel, api.ErrRange)
	}
	none := api.Program{Actors: api.Actors{Many: 1}, Ins: make([]api.Label, 3)}
	for channel := -1; channel < 4; channel++ {
		expectWrong(t, "no channels of Outs", none, channel, api.ErrNone)
	}
}

// L1: errors of Check come ahead of that there is no such channel.
func TestWrongPrograms(t *testing.T) {
	for i, c := range []struct {
		change func(p *api.Program)
		want   api.Errno
	}{
		{func(p *api.Program) { p.Actors.Many = api.MaxActors + 1 }, api.ErrRange},
		{func(p *api.Program) { p.Actors.Grants = []api.Grant{{Who: 2}} }, api.ErrNone},
		{func(p *api.Program) { p.Outs = make([]api.Label, api.MaxChannels+1) }, api.ErrMany},
		{func(p *api.Program) { p.Speak = []int{-1} }, api.ErrNone},
		{func(p *api.Program) { p.Ins[1].Read[0].Names = []int{1, 0} }, api.ErrState},
		{func(p *api.Program) { p.Vars[0].Known = false }, api.ErrForm},
		{func(p *api.Program) { p.Main[1].Then = p.Main }, api.ErrMany}, // it holds itself
		{func(p *api.Program) { p.Main[0].Kind = 0 }, api.ErrKind},
		{func(p *api.Program) { p.Main[0].Other = 2 }, api.ErrNone},
		{func(p *api.Program) { p.Main[1].Var = 1 }, api.ErrForm},
		{func(p *api.Program) { p.Main[2].Args = nil }, api.ErrForm},
		{func(p *api.Program) { p.Main[1].Expr.Args = []api.Expr{p.Main[1].Expr} }, api.ErrForm},
		{func(p *api.Program) { p.Funcs[0].Params = []int{1, 1} }, api.ErrTwice},
		{func(p *api.Program) { p.Funcs[0].Result.N = -api.MaxNumber - 1 }, api.ErrRange},
	} {
		for _, channel := range []int{-1, 0, 1, 2} {
			p := program(t, "func f(n) { return 1; } main { get x i; if 1 { put o 2; } y = f(3); }")
			c.change(&p)
			expectWrong(t, i, p, channel, c.want)
		}
	}
}

// L1, L2: a program that has nothing but an actor and a channel.
func TestLeast(t *testing.T) {
	p := api.Program{Actors: api.Actors{Many: 1}, Outs: []api.Label{{}}}
	expect(t, "nothing", p, "//")
	expectSlice(t, "nothing", p, p)
	p.Main = []api.Stmt{{Kind: api.StmtPut, Expr: api.Expr{Kind: api.ExprNumber}}}
	expect(t, "put", p, "//0")
	expectSlice(t, "put", p, p)
}
