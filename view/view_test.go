package view_test

import (
	"fmt"
	"math"
	"slices"
	"testing"

	"veilwork/api"
	"veilwork/scope"
	"veilwork/view"
)

// head of texts: a acts for b. Channels and variables have the same labels: all may read and have written; a alone may read, b and a may have written; c alone may read, and a.
const head = `actor a; actor b; actor c; grant a b;
	in all {}; in ina {a: ; b!}; in inc {c: a; c!};
	out oall {}; out oa {a: ; b!}; out oc {c: a; c!};
	var vall {}; var va {a: ; b!}; var vc {c: a; c!}; var x; var y; `

func program(t *testing.T, s string) api.Program {
	t.Helper()
	p, at, e := scope.Program(head + s)
	if e != api.OK {
		t.Fatalf("%q has error %d at %d", s, e, at-len(head))
	}
	return p
}

func expectInputs(t *testing.T, p api.Program, who int, touch bool, ins [][]int, want string) {
	t.Helper()
	l, e := view.Inputs(p, who, touch, ins)
	if s := fmt.Sprint(l); s != want || e != api.OK {
		t.Errorf("J1: inputs %v of %d, touch %v: %s (%d), want %s", ins, who, touch, s, e, want)
	}
}

// J1: what came in on channels that one sees, or can't touch.
func TestInputs(t *testing.T) {
	p := program(t, "main {}")
	ins := [][]int{{1, 2}, {3}, {4, 4, 4}}
	for who, want := range []string{"[[1 2] [3] [4 4 4]]", "[[1 2] [] []]", "[[1 2] [] [4 4 4]]"} {
		expectInputs(t, p, who, false, ins, want)
	}
	for who, want := range []string{"[[] [] [4 4 4]]", "[[] [] [4 4 4]]", "[[] [3] []]"} {
		expectInputs(t, p, who, true, ins, want)
	}
}

// J1: lists of any length and any numbers: nothing is said against them.
func TestAnyInputs(t *testing.T) {
	p := program(t, "main {}")
	expectInputs(t, p, 0, false, [][]int{nil, {}, nil}, "[[] [] []]")
	expectInputs(t, p, 0, false, [][]int{nil, {math.MinInt, math.MaxInt}, {api.Most + 1}}, fmt.Sprint([][]int{nil, {math.MinInt, math.MaxInt}, {api.Most + 1}}))
	long := slices.Repeat([]int{7}, 5*api.MaxInput)
	expectInputs(t, p, 1, false, [][]int{long, long, nil}, fmt.Sprint([][]int{long, nil, nil}))
	p.Ins = nil
	expectInputs(t, p, 1, false, nil, "[]")
	expectInputs(t, p, 1, true, [][]int{}, "[]")
}

// events: one of each kind, on each channel and of each variable.
func events(p api.Program) []api.Event {
	var l []api.Event
	for i := range p.Outs {
		l = append(l, api.Event{Kind: api.EventPut, At: len(l), Which: i, Value: 3 * i})
	}
	for i := range p.Vars {
		l = append(l, api.Event{Kind: api.EventReveal, At: len(l), Which: i, Value: -i})
		l = append(l, api.Event{Kind: api.EventTrust, At: len(l), Which: i, Value: i})
	}
	return l
}

// expectEvents: of those handed in, those with these numbers.
func expectEvents(t *testing.T, p api.Program, who int, touch bool, l []api.Event, want ...int) {
	t.Helper()
	var wants []api.Event
	for _, i := range want {
		wants = append(wants, l[i])
	}
	x, e := view.Events(p, who, touch, l)
	if !slices.Equal(x, wants) || e != api.OK {
		t.Errorf("J1: events %v of %d, touch %v: %v (%d), want %v", l, who, touch, x, e, wants)
	}
}

// J1: events on channels, and of variables, that one sees, or can't touch.
func TestEvents(t *testing.T) {
	// x is only a's to read, and a and b may have written it; y is at the bottom.
	p := program(t, "main { get x ina; }")
	l := events(p)
	expectEvents(t, p, 0, false, l, 0, 1, 2, 3, 4, 5, 6, 7, 8, 9, 10, 11, 12)
	expectEvents(t, p, 1, false, l, 0, 3, 4, 11, 12)
	expectEvents(t, p, 2, false, l, 0, 2, 3, 4, 7, 8, 11, 12)
	expectEvents(t, p, 0, true, l, 2, 7, 8, 11, 12)
	expectEvents(t, p, 1, true, l, 2, 7, 8, 11, 12)
	expectEvents(t, p, 2, true, l, 1, 5, 6, 9, 10, 11, 12)
	for who := range 3 {
		expectEvents(t, p, who, false, nil)
		expectEvents(t, p, who, true, []api.Event{})
	}
}

// J1: levels are those of chapter 8, wherever a variable comes by them.
func TestEventsInferred(t *testing.T) {
	p := program(t, "func f(n) { y = n; return 0; } main { get x ina; if vc { x = f(x); } }")
	n := p.Funcs[0].Params[0]
	l := []api.Event{{Kind: api.EventReveal, Which: 3}, {Kind: api.EventTrust, Which: 4}, {Kind: api.EventReveal, Which: n}}
	expectEvents(t, p, 0, false, l, 0, 1, 2)
	for who := 1; who < 3; who++ {
		expectEvents(t, p, who, false, l)
	}
	for who := range 3 {
		expectEvents(t, p, who, true, l)
	}
	p.Main = p.Main[:1]
	expectEvents(t, p, 2, false, l, 1, 2)
	expectEvents(t, p, 2, true, l, 0, 1, 2)
}

// J1: events stay in their order, as often as they are there, with any At and any Value.
func TestEventsOrder(t *testing.T) {
	p := program(t, "main {}")
	a, c := api.Event{Kind: api.EventPut, At: math.MaxInt, Which: 1, Value: math.MinInt}, api.Event{Kind: api.EventTrust, At: -1, Which: 2, Value: 9}
	l := []api.Event{c, a, a, c, a, c, c}
	expectEvents(t, p, 0, false, l, 0, 1, 2, 3, 4, 5, 6)
	expectEvents(t, p, 1, false, l)
	expectEvents(t, p, 2, false, l, 0, 3, 5, 6)
	expectEvents(t, p, 2, true, l, 1, 2, 4)
}

func expectNoInputs(t *testing.T, what string, p api.Program, who int, ins [][]int, want api.Errno) {
	t.Helper()
	for _, touch := range []bool{false, true} {
		if l, e := view.Inputs(p, who, touch, ins); len(l) > 0 || e != want {
			t.Errorf("J1: inputs, %s: %v (%d), want error %d", what, l, e, want)
		}
	}
}

func expectNoEvents(t *testing.T, what string, p api.Program, who int, l []api.Event, want api.Errno) {
	t.Helper()
	for _, touch := range []bool{false, true} {
		if x, e := view.Events(p, who, touch, l); len(x) > 0 || e != want {
			t.Errorf("J1: events, %s: %v (%d), want error %d", what, x, e, want)
		}
	}
}

// J1: no such actor, ahead of what is wrong with lists and events.
func TestNoActor(t *testing.T) {
	p := program(t, "main {}")
	for _, who := range []int{-1, 3, 4, math.MinInt, math.MaxInt} {
		expectNoInputs(t, "no actor", p, who, make([][]int, 3), api.ErrNone)
		expectNoInputs(t, "no actor, no lists", p, who, nil, api.ErrNone)
		expectNoEvents(t, "no actor", p, who, nil, api.ErrNone)
		expectNoEvents(t, "no actor, no kind", p, who, []api.Event{{}}, api.ErrNone)
	}
	expectInputs(t, p, 2, false, make([][]int, 3), "[[] [] []]")
}

// J1: lists that are too few, or too many.
func TestWrongLists(t *testing.T) {
	p := program(t, "main {}")
	for _, many := range []int{0, 1, 2, 4, 5, 1000} {
		expectNoInputs(t, fmt.Sprint(many, " lists"), p, 0, make([][]int, many), api.ErrForm)
	}
	p.Ins = nil
	expectNoInputs(t, "one list, no channel", p, 0, make([][]int, 1), api.ErrForm)
}

// J1: events that are none; a kind that is none comes first, whichever event is.
func TestWrongEvents(t *testing.T) {
	p := program(t, "main {}")
	fine := api.Event{Kind: api.EventPut}
	for _, kind := range []int{0, -1, 4, math.MinInt, math.MaxInt} {
		x, none := api.Event{Kind: kind}, api.Event{Kind: api.EventPut, Which: 99}
		for _, l := range [][]api.Event{{x}, {fine, x}, {x, fine}, {x, none}, {none, fine, x}, {{Kind: kind, Which: -1}}} {
			expectNoEvents(t, fmt.Sprint("kind ", kind), p, 0, l, api.ErrKind)
		}
	}
	for _, x := range []api.Event{
		{Kind: api.EventPut, Which: 3}, {Kind: api.EventPut, Which: 4}, {Kind: api.EventPut, Which: -1},
		{Kind: api.EventReveal, Which: 5}, {Kind: api.EventReveal, Which: -1},
		{Kind: api.EventTrust, Which: 5}, {Kind: api.EventTrust, Which: math.MinInt}, {Kind: api.EventTrust, Which: math.MaxInt},
	} {
		for _, l := range [][]api.Event{{x}, {fine, x}, {x, fine}} {
			expectNoEvents(t, fmt.Sprint(x), p, 0, l, api.ErrNone)
		}
	}
	p.Outs = nil
	expectNoEvents(t, "no channel", p, 0, []api.Event{fine}, api.ErrNone)
}

// J1: errors of the program, ahead of all others.
func TestWrongPrograms(t *testing.T) {
	for i, c := range []struct {
		change func(p *api.Program)
		want   api.Errno
	}{
		{func(p *api.Program) { *p = api.Program{} }, api.ErrRange},
		{func(p *api.Program) { p.Actors.Many = api.MaxActors + 1 }, api.ErrRange},
		{func(p *api.Program) { p.Outs = slices.Repeat(p.Outs, 2) }, api.ErrMany},
		{func(p *api.Program) { p.Ins[1].Read[0].Owner = 3 }, api.ErrNone},
		{func(p *api.Program) { p.Outs[2].Read[0].Names = []int{1, 0} }, api.ErrState},
		{func(p *api.Program) { p.Vars[1].Known = false }, api.ErrForm},
		{func(p *api.Program) { p.Main[0].Kind = 9 }, api.ErrKind},
		{func(p *api.Program) { p.Main[0].Then = p.Main }, api.ErrMany}, // it holds itself
	} {
		p := program(t, "main { x = y; }")
		c.change(&p)
		what := fmt.Sprint("program ", i)
		for _, who := range []int{-1, 0, 3, 99} {
			expectNoInputs(t, what, p, who, make([][]int, 3), c.want)
			expectNoInputs(t, what, p, who, nil, c.want)
			expectNoEvents(t, what, p, who, nil, c.want)
			expectNoEvents(t, what, p, who, []api.Event{{Kind: 9}}, c.want)
		}
	}
}

// J2: the first place at which two lists have not the same event.
func TestApart(t *testing.T) {
	a, b, c := api.Event{Kind: 1}, api.Event{Kind: 2, Value: 3}, api.Event{Kind: 1, At: 4}
	for _, x := range []struct {
		l, m []api.Event
		want int
	}{
		{nil, nil, -1},
		{nil, []api.Event{}, -1},
		{[]api.Event{a}, []api.Event{a}, -1},
		{[]api.Event{a, b, c, c}, []api.Event{a, b, c, c}, -1},
		{nil, []api.Event{a}, 0},
		{nil, []api.Event{{}}, 0},
		{[]api.Event{a}, []api.Event{b}, 0},
		{[]api.Event{a, b}, []api.Event{b, b}, 0},
		{[]api.Event{a, b}, []api.Event{a}, 1},
		{[]api.Event{a, b, {}}, []api.Event{a, b}, 2},
		{[]api.Event{a, b, c}, []api.Event{a, c, b}, 1},
		{[]api.Event{a, b, c, a}, []api.Event{a, b, a, a}, 2},
		{[]api.Event{a, b, c}, []api.Event{a, c}, 1},
	} {
		if n := view.Apart(x.l, x.m); n != x.want {
			t.Errorf("J2: %v and %v: %d, want %d", x.l, x.m, n, x.want)
		}
		if n := view.Apart(x.m, x.l); n != x.want {
			t.Errorf("J2: %v and %v: %d, want %d", x.m, x.l, n, x.want)
		}
	}
}

// J2: each field of an event counts.
func TestApartFields(t *testing.T) {
	x := api.Event{Kind: 1, At: 2, Which: 3, Value: 4}
	for i, y := range []api.Event{{Kind: 2, At: 2, Which: 3, Value: 4}, {Kind: 1, At: 0, Which: 3, Value: 4}, {Kind: 1, At: 2, Which: -3, Value: 4}, {Kind: 1, At: 2, Which: 3, Value: math.MaxInt}} {
		if n := view.Apart([]api.Event{x, x, y}, []api.Event{x, x, x}); n != 2 {
			t.Errorf("J2: with field %d changed: %d", i, n)
		}
	}
}
