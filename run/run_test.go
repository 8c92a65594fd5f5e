package run_test

import (
	"fmt"
	"math"
	"slices"
	"strings"
	"testing"

	"veilwork/api"
	"veilwork/run"
	"veilwork/scope"
)

// head of texts: two channels of Ins, two of Outs, and three variables.
const head = "actor a; in i {}; in j {a:}; out o {}; out p {a!}; var x; var y {a:}; var z; "

// program of a text behind head.
func program(t *testing.T, s string) api.Program {
	t.Helper()
	p, at, e := scope.Program(head + s)
	if e != api.OK {
		t.Fatalf("%q has error %d at %d", s, e, at-len(head))
	}
	return p
}

// told: all of a run as a text.
func told(r api.Run) string {
	end := map[int]string{api.EndDone: "done", api.EndFuel: "fuel"}[r.End]
	s := fmt.Sprint(r.Events, r.Vars, r.Taken, r.Steps, " ", end)
	if r.Stop != 0 {
		s += fmt.Sprint(" stopped at ", r.Stop)
	}
	return s
}

func expectRun(t *testing.T, what string, p api.Program, ins [][]int, fuel int, want string) {
	t.Helper()
	r, e := run.Run(p, ins, fuel)
	if s := told(r); s != want || e != api.OK {
		t.Errorf("G2: %s, with %v and fuel %d: %s (%d), want %s", what, ins, fuel, s, e, want)
	}
}

// G2: what each command does, and how many steps it is.
func TestRunCommands(t *testing.T) {
	ins := [][]int{{4, -5}, {6}}
	for _, c := range []struct{ text, want string }{
		{"main {}", "[] [0 0 0] [0 0] 0 done"},
		{"main { x = 5; z = (x - 7); x = (x + z); }", "[] [3 0 -2] [0 0] 3 done"},
		{"main { get x j; get y i; get z i; }", "[] [6 4 -5] [2 1] 3 done"},
		{"main { get x i; get x i; get x i; get x i; get y j; get y j; }", "[] [0 0 0] [4 2] 6 done"},
		{"main { put o 1; put p (2 * 3); put o z; }", "[{1 0 0 1} {1 1 1 6} {1 2 0 0}] [0 0 0] [0 0] 3 done"},
		{"main { reveal y 7; reveal x (y + 1); }", "[{2 0 1 7} {2 1 0 8}] [8 7 0] [0 0] 2 done"},
		{"main { trust z 7; trust z (z * z); }", "[{3 0 2 7} {3 1 2 49}] [0 0 49] [0 0] 2 done"},
		{"main { if 1 { x = 1; } else { y = 1; } }", "[] [1 0 0] [0 0] 2 done"},
		{"main { if 0 { x = 1; } else { y = 1; } }", "[] [0 1 0] [0 0] 2 done"},
		{"main { if -1 { x = 1; } if 2 {} if 0 { x = 2; } }", "[] [1 0 0] [0 0] 4 done"},
		{"main { while 0 { x = 1; } }", "[] [0 0 0] [0 0] 1 done"},
		{"main { while (x < 2) { x = (x + 1); } }", "[] [2 0 0] [0 0] 5 done"},
		{"main { x = -2; while x { x = (x + 1); } }", "[] [0 0 0] [0 0] 6 done"},
		{"main { while (x < 3) { x = (x + 1); if (x == 2) { put o x; } } put p x; }", "[{1 3 0 2} {1 4 1 3}] [3 0 0] [0 0] 12 done"},
		{"main { x = 9999999; x = (x * x); x = (x * x); }", "[] [-168090111 0 0] [0 0] 3 done"},
		{"func f() { return 7; } main { x = f(); }", "[] [7 0 0] [0 0] 1 done"},
		{"func f() { z = 2; return z; } main { x = f(); put o x; }", "[{1 2 0 2}] [2 0 2] [0 0] 3 done"},
	} {
		p := program(t, c.text)
		expectRun(t, c.text, p, ins, api.MaxFuel, c.want)
	}
}

// G2: calls.
func TestRunCalls(t *testing.T) {
	for _, c := range []struct{ text, want string }{
		{"func f(n) { n = (n + 1); return (n * n); } main { x = f(2); y = f(x); }", "[] [9 100 0 10] [0 0] 4 done"},
		{"func f(n, m) { return (n - m); } main { x = f(7, 2); y = f(x, 1); }", "[] [5 4 0 5 1] [0 0] 2 done"},
		// What a function leaves in a variable is there when it answers.
		{"func f() { x = 3; return (x + 1); } main { x = 8; x = f(); put o x; }", "[{1 3 0 4}] [4 0 0] [0 0] 4 done"},
		// Parameters keep what they were between calls.
		{"func f(n) { return n; } func g(m) { z = f(m); return (z + m); } main { y = g(4); x = f(y); }", "[] [8 8 4 8 4] [0 0] 3 done"},
		// Commands of functions have the first numbers, whichever is called.
		{"func f() { put o 1; if 1 { put o 2; } else { put o 3; put o 4; } put o 5; return 0; } func g() { put p 6; return 0; } main { x = g(); x = f(); put p 7; }",
			"[{1 6 1 6} {1 0 0 1} {1 2 0 2} {1 5 0 5} {1 9 1 7}] [0 0 0] [0 0] 8 done"},
		{"func f() { get x i; reveal y x; return x; } main { z = f(); z = f(); trust z z; }", "[{2 1 1 3} {2 1 1 0} {3 4 2 0}] [0 0 0] [2 0] 7 done"},
	} {
		expectRun(t, c.text, program(t, c.text), [][]int{{3}, nil}, api.MaxFuel, c.want)
	}
}

// G2: all arguments are reckoned ahead of the first parameter; the variable of a call may be a parameter, too.
func TestRunArguments(t *testing.T) {
	p := program(t, "main { x = 1; y = 2; }")
	p.Funcs = []api.Func{{Params: []int{0, 1}, Result: pair(api.ExprSub, variable(0), variable(1))}}
	call := api.Stmt{Kind: api.StmtCall, Var: 2, Args: []api.Expr{variable(1), pair(api.ExprAdd, variable(0), variable(1))}}
	p.Main = append(p.Main, call)
	expectRun(t, "z = f(y, (x + y)), with parameters x and y", p, [][]int{nil, nil}, 9, "[] [2 3 -1] [0 0] 3 done")
	p.Main[2].Var = 1
	expectRun(t, "y = f(y, (x + y)), with parameters x and y", p, [][]int{nil, nil}, 9, "[] [2 -1 0] [0 0] 3 done")
}

// G2: numbers of commands, where there are others within those ahead.
func TestRunNumbers(t *testing.T) {
	p := program(t, `main {
		while (x < 1) { if 0 { put o 2; while 1 { put o 4; } } else { put o 5; } x = 1; }
		if 1 { if 1 {} else { put o 9; } put o 10; } else { put o 11; }
		put o 12;
	}`)
	expectRun(t, "commands in one another", p, make([][]int, 2), api.MaxFuel, "[{1 5 0 5} {1 10 0 10} {1 12 0 12}] [1 0 0] [0 0] 9 done")
}

// G2: where a run is after so many steps.
func TestRunFuel(t *testing.T) {
	p := program(t, `func f(n) { put o n; z = (n + 1); return (z * 2); }
		main { x = f(3); while (y < 2) { get y i; } if x { reveal x 5; } }`)
	for fuel, want := range []string{
		"[] [0 0 0 0] [0 0] 0 fuel",
		"[] [0 0 0 3] [0 0] 1 fuel",          // x = f(3): it goes into the function
		"[{1 0 0 3}] [0 0 0 3] [0 0] 2 fuel", // put o n
		"[{1 0 0 3}] [8 0 4 3] [0 0] 3 fuel", // z = (n + 1), and the call is at its end
		"[{1 0 0 3}] [8 0 4 3] [0 0] 4 fuel", // while
		"[{1 0 0 3}] [8 1 4 3] [1 0] 5 fuel", // get
		"[{1 0 0 3}] [8 1 4 3] [1 0] 6 fuel", // while looks again
		"[{1 0 0 3}] [8 2 4 3] [2 0] 7 fuel", // get
		"[{1 0 0 3}] [8 2 4 3] [2 0] 8 fuel", // while looks again
		"[{1 0 0 3}] [8 2 4 3] [2 0] 9 fuel", // if
		"[{1 0 0 3} {2 6 0 5}] [5 2 4 3] [2 0] 10 done",
		"[{1 0 0 3} {2 6 0 5}] [5 2 4 3] [2 0] 10 done",
	} {
		expectRun(t, "step by step", p, [][]int{{1, 2, 3}, nil}, fuel, want)
	}
}

// G2: fuel at its bounds, with runs that would go on.
func TestRunForever(t *testing.T) {
	none := [][]int{nil, nil}
	for _, fuel := range []int{0, 1, 2, 3, 1000, api.MaxFuel - 1, api.MaxFuel} {
		p := program(t, "main { while 1 {} put o 1; }")
		expectRun(t, "while 1 {}", p, none, fuel, fmt.Sprintf("[] [0 0 0] [0 0] %d fuel", fuel))
		p = program(t, "func f() { x = (x + 1); return x; } main { while 1 { y = f(); } }")
		expectRun(t, "a call again and again", p, none, fuel, fmt.Sprintf("[] [%d %d 0] [0 0] %d fuel", fuel/3, fuel/3, fuel))
	}
	p := program(t, "main { while (x < 999) { x = (x + 1); } put o x; }")
	expectRun(t, "just enough fuel", p, none, api.MaxFuel, "[{1 2 0 999}] [999 0 0] [0 0] 2000 done")
	p = program(t, "main { while (x < 999) { x = (x + 1); } put o x; put o y; }")
	expectRun(t, "one step too few", p, none, api.MaxFuel, "[{1 2 0 999}] [999 0 0] [0 0] 2000 fuel")
}

// G2: as many numbers as may come in, and more that are taken than came.
func TestRunInputs(t *testing.T) {
	p := program(t, "main { while 1 { get x i; put o x; } }")
	in := slices.Repeat([]int{api.Most, api.Least}, api.MaxInput/2)
	r, e := run.Run(p, [][]int{in, {1}}, api.MaxFuel)
	if e != api.OK || r.Taken[0] != 667 || r.Taken[1] != 0 || len(r.Events) != 666 {
		t.Fatalf("G2: %s (%d)", told(r), e)
	}
	for i, x := range r.Events {
		want := api.Event{Kind: api.EventPut, At: 2}
		if i < len(in) {
			want.Value = in[i]
		}
		if x != want {
			t.Errorf("G2: event %d is %v, want %v", i, x, want)
		}
	}
}

func expectNoRun(t *testing.T, what string, p api.Program, ins [][]int, fuel int, want api.Errno) {
	t.Helper()
	r, e := run.Run(p, ins, fuel)
	if e != want || told(r) != told(api.Run{}) {
		t.Errorf("G2: %s: %s (%d), want error %d and nothing", what, told(r), e, want)
	}
}

// G2: errors of what comes in, and of fuel; of several the first one.
func TestRunErrors(t *testing.T) {
	p := program(t, "main { put o 1; }")
	wrong := program(t, "main { put o 1; }")
	wrong.Main[0].Other = 2
	long := make([]int, api.MaxInput+1)
	far := slices.Clone(long)
	far[0] = api.Most + 1
	for _, fuel := range []int{-1, 0, api.MaxFuel, api.MaxFuel + 1, math.MinInt, math.MaxInt} {
		for _, ins := range [][][]int{nil, {nil}, {nil, nil, nil}, {long}, {far, {1}, nil}, make([][]int, 100)} {
			expectNoRun(t, "lists", p, ins, fuel, api.ErrForm)
			expectNoRun(t, "program", wrong, ins, fuel, api.ErrNone)
			expectNoRun(t, "no program", api.Program{}, ins, fuel, api.ErrRange)
		}
		for _, ins := range [][][]int{{long, nil}, {nil, long}, {far, nil}, {{api.Least - 1}, long}, {long, long}, {make([]int, 1<<20), nil}} {
			expectNoRun(t, "long lists", p, ins, fuel, api.ErrMany)
			expectNoRun(t, "program", wrong, ins, fuel, api.ErrNone)
		}
		for _, n := range []int{api.Most + 1, api.Least - 1, math.MaxInt, math.MinInt} {
			expectNoRun(t, "numbers", p, [][]int{{1, n}, nil}, fuel, api.ErrRange)
			expectNoRun(t, "numbers", p, [][]int{nil, {n}}, fuel, api.ErrRange)
			expectNoRun(t, "numbers", p, [][]int{far[1:], append(make([]int, api.MaxInput-1), n)}, fuel, api.ErrRange)
			expectNoRun(t, "program", wrong, [][]int{{n}, nil}, fuel, api.ErrNone)
		}
		if fuel < 0 || fuel > api.MaxFuel {
			expectNoRun(t, "fuel", p, [][]int{{1}, nil}, fuel, api.ErrRange)
			expectNoRun(t, "program", wrong, [][]int{{1}, nil}, fuel, api.ErrNone)
		}
	}
	expectRun(t, "at the bounds", p, [][]int{{api.Least, api.Most}, long[1:]}, api.MaxFuel, "[{1 0 0 1}] [0 0 0] [0 0] 1 done")
}

// G2: a program without channels and variables.
func TestRunOfNothing(t *testing.T) {
	p := api.Program{Actors: api.Actors{Many: 1}}
	for _, ins := range [][][]int{nil, {}} {
		expectRun(t, "nothing", p, ins, 0, "[] [] [] 0 done")
	}
	expectNoRun(t, "a list for no channel", p, [][]int{nil}, 0, api.ErrForm)
}

// G2: the greatest programs: all commands, as deep as may be, and as many calls in one another.
func TestRunGreat(t *testing.T) {
	deep := strings.Repeat("if 1 { ", api.MaxDeep-1) + "put o 5;" + strings.Repeat(" }", api.MaxDeep-1)
	p := program(t, "main { "+deep+strings.Repeat("put p 1; ", api.MaxStmts-api.MaxDeep)+"}")
	r, e := run.Run(p, [][]int{nil, nil}, api.MaxFuel)
	if n := len(r.Events); e != api.OK || r.Steps != api.MaxStmts || n != api.MaxStmts-api.MaxDeep+1 || r.Events[0].At != 5 || r.Events[n-1].At != 49 {
		t.Errorf("G2: %s (%d)", told(r), e)
	}
	// Each function calls the one ahead of it nine times: all is done only as long as there is fuel.
	text := "func a0() { put o x; x = (x + 1); return x; } "
	for i := 1; i < api.MaxFuncs; i++ {
		text += fmt.Sprintf("func a%d() { %s return y; } ", i, strings.Repeat(fmt.Sprintf("y = a%d(); ", i-1), 9))
	}
	p = program(t, text+"main { z = a4(); put p z; }")
	r, e = run.Run(p, [][]int{nil, nil}, api.MaxFuel)
	if e != api.OK || r.Steps != api.MaxFuel || r.End != api.EndFuel || r.Vars[2] != 0 || r.Vars[0]-r.Vars[1] > 1 || len(r.Events) < 600 {
		t.Errorf("G2: %s (%d)", told(r), e)
	}
}
