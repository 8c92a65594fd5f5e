package watch_test

import (
	"math"
	"reflect"
	"slices"
	"strconv"
	"testing"

	"veilwork/api"
	"veilwork/watch"
)

func expectWrong(t *testing.T, what string, p api.Program, in [][]int, fuel int, want api.Errno) {
	t.Helper()
	r, l, e := watch.Watch(p, in, fuel)
	if e != want || !reflect.ValueOf(r).IsZero() || len(l) > 0 {
		t.Errorf("K2: %s: %s (%d), want error %d and nothing", what, told(r, l), e, want)
	}
}

// K2: errors of Run, of several the first one.
func TestErrors(t *testing.T) {
	p := program(t, head+"main { put opt 1; }")
	wrong := program(t, head+"main { put opt 1; }")
	wrong.Main[0].Other = 4
	long := make([]int, api.MaxInput+1)
	far := append(slices.Clone(long), api.Most+1)
	for _, fuel := range []int{-1, 0, api.MaxFuel, api.MaxFuel + 1, math.MinInt, math.MaxInt} {
		for _, in := range [][][]int{nil, {nil}, {nil, nil, nil}, {far, nil, nil}, make([][]int, 5)} {
			expectWrong(t, "lists", p, in, fuel, api.ErrForm)
			expectWrong(t, "program", wrong, in, fuel, api.ErrNone)
			expectWrong(t, "no program", api.Program{}, in, fuel, api.ErrRange)
		}
		for _, in := range [][][]int{{long, nil, nil, nil}, {{api.Most + 1}, nil, nil, long}, {nil, far, nil, nil}} {
			expectWrong(t, "long lists", p, in, fuel, api.ErrMany)
			expectWrong(t, "program", wrong, in, fuel, api.ErrNone)
		}
		for _, n := range []int{api.Most + 1, api.Least - 1, math.MaxInt, math.MinInt} {
			expectWrong(t, "numbers", p, [][]int{nil, {1, n}, nil, nil}, fuel, api.ErrRange)
			expectWrong(t, "program", wrong, [][]int{nil, nil, nil, {n}}, fuel, api.ErrNone)
		}
		if fuel < 0 || fuel > api.MaxFuel {
			expectWrong(t, "fuel", p, ins(1), fuel, api.ErrRange)
		}
	}
	long[0], long[1] = api.Least, api.Most
	expect(t, "at the bounds", p, ins(long[:api.MaxInput]...), api.MaxFuel, "put 1 at 0, 1 steps, done")
}

// K1: a program that has nothing but an actor.
func TestNothing(t *testing.T) {
	p := api.Program{Actors: api.Actors{Many: 1}}
	for _, in := range [][][]int{nil, {}} {
		expect(t, "nothing", p, in, 0, "0 steps, done")
	}
	expectWrong(t, "a list for no channel", p, [][]int{nil}, 0, api.ErrForm)
}

// K2: a program that is wrong, wherever it is.
func TestWrongPrograms(t *testing.T) {
	for i, c := range []struct {
		change func(p *api.Program)
		want   api.Errno
	}{
		{func(p *api.Program) { p.Actors.Many = 0 }, api.ErrRange},
		{func(p *api.Program) { p.Actors.Grants = []api.Grant{{For: 2}} }, api.ErrNone},
		{func(p *api.Program) { p.Speak = []int{0, 0, 0} }, api.ErrMany},
		{func(p *api.Program) { p.Speak = []int{2} }, api.ErrNone},
		{func(p *api.Program) { p.Outs[1].Read[0].Names = []int{1, 1} }, api.ErrState},
		{func(p *api.Program) { p.Vars[1].Known = false }, api.ErrForm},
		{func(p *api.Program) { p.Main[1].Then = p.Main }, api.ErrMany}, // it holds itself
		{func(p *api.Program) { p.Main[0].Kind = 9 }, api.ErrKind},
		{func(p *api.Program) { p.Main[0].Var = -1 }, api.ErrNone},
		{func(p *api.Program) { p.Main[2].Args = nil }, api.ErrForm},
		{func(p *api.Program) { p.Main[0].Expr.N = 99 }, api.ErrNone},
		{func(p *api.Program) { p.Funcs[0].Params = []int{2, 2} }, api.ErrTwice},
		{func(p *api.Program) { p.Funcs[0].Result.N = api.MaxNumber + 1 }, api.ErrRange},
	} {
		p := program(t, head+"func f(n) { return 1; } main { reveal pt x; if 1 { put opt 2; } x = f(3); }")
		c.change(&p)
		expectWrong(t, "program "+strconv.Itoa(i), p, ins(1), 9, c.want)
	}
}
