package scope_test

import (
	"math"
	"math/rand"
	"strconv"
	"strings"
	"testing"

	"veilwork/api"
	"veilwork/scope"
	"veilwork/tree"
)

// expectText: of a text the answer of Program, and, if it can be parsed, the same one of Resolve.
func expectText(t *testing.T, s string, want api.Program, wantAt int, why api.Errno) {
	t.Helper()
	p, at, e := scope.Program(s)
	if !alike(p, want) || at != wantAt || e != why {
		t.Errorf("F2, F3: Program(%q): %+v %d %d, want %+v %d %d", s, p, at, e, want, wantAt, why)
	}
	u, _, e := tree.Parse(s)
	if e != api.OK {
		return
	}
	p, at, e = scope.Resolve(u)
	if !alike(p, want) || at != wantAt || e != why {
		t.Errorf("F2: Resolve of %q: %+v %d %d, want %+v %d %d", s, p, at, e, want, wantAt, why)
	}
}

// expectWrong: of a text with @ ahead of what an error is of (at 0, if it has none).
func expectWrong(t *testing.T, marked string, why api.Errno) {
	t.Helper()
	at := max(strings.Index(marked, "@"), 0)
	expectText(t, strings.Replace(marked, "@", "", 1), api.Program{}, at, why)
}

// expectFine: that a text has a program.
func expectFine(t *testing.T, s string) {
	t.Helper()
	if _, at, e := scope.Program(s); at != 0 || e != api.OK {
		t.Errorf("F2: Program(%q): %d %d", s, at, e)
	}
}

// F2: an ordinary program, with all there can be.
func TestResolve(t *testing.T) {
	s := `
actor a; actor b; in i {a: ; b! a}; var x {a: b, a, b; b: ; b! a; a! }; grant b a; out o {}; speak b; speak a;
func f(m, n) { x = (m - n); if (m < x) { get n i; } else { put o n; n = 2; } return (n * 3); }
actor c; grant c b; var y; in j {c: c, b, a}; out p {c! c}; var z {};
func g(m) { z = f(m, -1); return m; }
main { y = g(y); reveal z (x == y); trust x z; while (y < 9999999) { put p 0; get y j; } if z { } x = f(x, (y + 1)); }`
	want := api.Program{
		Actors: api.Actors{Many: 3, Grants: []api.Grant{{Who: 1, For: 0}, {Who: 2, For: 1}}},
		Speak:  []int{1, 0},
		Ins:    []api.Label{{Read: []api.Policy{policy(0)}, Write: []api.Policy{policy(1, 0)}}, read(policy(2, 0, 1, 2))},
		Outs:   []api.Label{{}, {Write: []api.Policy{policy(2, 2)}}},
		Vars: []api.Var{
			{Known: true, Label: api.Label{Read: []api.Policy{policy(0, 0, 1), policy(1)}, Write: []api.Policy{policy(1, 0), policy(0)}}},
			{}, {}, {}, {Known: true}, {},
		},
		Funcs: []api.Func{
			{Params: []int{1, 2}, Result: api.Expr{Kind: api.ExprMul, Args: []api.Expr{variable(2), number(3)}}, Body: []api.Stmt{
				{Kind: api.StmtSet, Var: 0, Expr: api.Expr{Kind: api.ExprSub, Args: []api.Expr{variable(1), variable(2)}}},
				{Kind: api.StmtIf, Expr: api.Expr{Kind: api.ExprLess, Args: []api.Expr{variable(1), variable(0)}},
					Then: []api.Stmt{{Kind: api.StmtGet, Var: 2, Other: 0}},
					Else: []api.Stmt{{Kind: api.StmtPut, Other: 0, Expr: variable(2)}, {Kind: api.StmtSet, Var: 2, Expr: number(2)}}},
			}},
			{Params: []int{5}, Result: variable(5), Body: []api.Stmt{{Kind: api.StmtCall, Var: 4, Other: 0, Args: []api.Expr{variable(5), number(-1)}}}},
		},
		Main: []api.Stmt{
			{Kind: api.StmtCall, Var: 3, Other: 1, Args: []api.Expr{variable(3)}},
			{Kind: api.StmtReveal, Var: 4, Expr: api.Expr{Kind: api.ExprSame, Args: []api.Expr{variable(0), variable(3)}}},
			{Kind: api.StmtTrust, Var: 0, Expr: variable(4)},
			{Kind: api.StmtWhile, Expr: api.Expr{Kind: api.ExprLess, Args: []api.Expr{variable(3), number(9999999)}},
				Then: []api.Stmt{{Kind: api.StmtPut, Other: 1, Expr: number(0)}, {Kind: api.StmtGet, Var: 3, Other: 1}}},
			{Kind: api.StmtIf, Expr: variable(4)},
			{Kind: api.StmtCall, Var: 0, Other: 0, Args: []api.Expr{variable(0), add(variable(3), number(1))}},
		},
	}
	expectText(t, s, want, 0, api.OK)
	expectText(t, "actor a; main {}", api.Program{Actors: api.Actors{Many: 1}}, 0, api.OK)
}

// F2: texts of all sorts, made side by side with their programs.
func TestResolveMade(t *testing.T) {
	r := rand.New(rand.NewSource(6))
	full := 0
	for range 1500 {
		s, p := makeProgram(r)
		if len(s) > api.MaxText {
			continue
		}
		expectText(t, s, p, 0, api.OK)
		if e := scope.Check(p); e != api.OK || t.Failed() {
			t.Fatalf("F1: Check(%+v): %d", p, e)
		}
		if len(p.Funcs) > 1 && len(p.Main) > 1 && len(p.Vars) > 3 {
			full++
		}
	}
	if full < 100 {
		t.Errorf("%d programs with much in them", full)
	}
}

// F2: a name that is declared already.
func TestResolveTwice(t *testing.T) {
	decls := map[string]string{"actor": "actor n;", "in": "in n {};", "out": "out n {};", "var": "var n;", "label": "var n {};", "func": "func n() { return 1; }"}
	for _, first := range decls {
		for _, second := range decls {
			expectWrong(t, "actor a; "+first+" @"+second+" main {}", api.ErrTwice)
			expectWrong(t, "actor a; "+first+" var x; out o {a: a}; @"+second+" main {}", api.ErrTwice)
		}
		expectWrong(t, "actor a; "+first+" @func f(m, n) { return 1; } main {}", api.ErrTwice)
		expectFine(t, "actor a; func f(m, n) { return n; } "+first+" main {}")
		expectFine(t, "actor a; func f(m, n) { return n; } func g(n) { return n; } "+first+" main {}")
	}
	expectWrong(t, "actor a; actor b; @actor a; main {}", api.ErrTwice)
	expectWrong(t, "actor a; @func f(f) { return 1; } main {}", api.ErrTwice)
	expectWrong(t, "actor a; @func f(x, f) { return 1; } main {}", api.ErrTwice)
	expectWrong(t, "actor a; @func f(x, x) { return 1; } main {}", api.ErrTwice)
	expectWrong(t, "actor a; @func f(x, y, z, x) { return 1; } main {}", api.ErrTwice)
	expectWrong(t, "actor a; @func a(x) { x = q; return 1; } main {}", api.ErrTwice)
	expectWrong(t, "actor a; func f(x) { return x; } @func g(f) { return 1; } main {}", api.ErrTwice)
	expectFine(t, "actor a; func f(x, y) { return x; } func g(y, x) { return x; } var x; main { x = g(x, 1); }")
	expectFine(t, "actor a; grant a a; grant a a; speak a; main {}")
}

// F2: a name that is used where it is not declared.
func TestResolveNone(t *testing.T) {
	for _, s := range []string{
		"actor a; @grant a b; main {}",
		"actor a; @grant b a; main {}",
		"actor a; @grant a b; actor b; main {}",
		"actor a; @speak b; main {}",
		"@speak a; actor a; main {}",
		"actor a; in i {@b: }; main {}",
		"actor a; in i {a: a; @b! a}; main {}",
		"actor a; out o {a: a; @a: a, b}; main {}",
		"actor a; var x {@a! b, a}; actor b; main {}",
		"actor a; main { @x = 1; }",
		"actor a; var x; main { @x = f(); }",
		"actor a; var x; main { @get x i; }",
		"actor a; var x; in i {}; main { get x i; @get y i; }",
		"actor a; main { @put o 1; }",
		"actor a; main { @reveal x 1; }",
		"actor a; main { @trust x 1; }",
		"actor a; var x; main { x = @y; }",
		"actor a; var x; main { x = (x + @y); }",
		"actor a; var x; main { x = ((x * (1 + @y)) + z); }",
		"actor a; out o {}; main { put o @y; }",
		"actor a; var x; main { reveal x @y; trust x z; }",
		"actor a; var x; main { trust x (@y == z); }",
		"actor a; main { if @y { } }",
		"actor a; var x; main { while (1 < @y) { x = z; } }",
		"actor a; var x; main { if x { x = @y; } else { x = z; } }",
		"actor a; var x; main { if x { x = 1; } else { x = @y; } z = 1; }",
		"actor a; var x; main { while 1 { if 1 { while 1 { @y = x; } } } }",
		"actor a; var x; func f(m, n) { return 1; } main { x = f(x, (1 + @y)); }",
		"actor a; func f() { @x = 1; return 1; } var x; main { x = 2; }",
		"actor a; func f() { return (2 + @x); } var x; main { x = 2; }",
		"actor a; func f() { return @x; } main { y = 1; }",
		"actor a; func f(x) { return x; } main { @x = 1; }",
		"actor a; func f(x) { return x; } func g(y) { y = @x; return 1; } main { x = 1; }",
		"actor a; func f(x) { return x; } func g() { return @x; } main {}",
		"actor a; var x; func f() { @x = g(); return 1; } func g() { return 1; } main {}",
	} {
		expectWrong(t, s, api.ErrNone)
	}
}

// F2: a function's own name can't be used within it, but behind it.
func TestResolveOwnName(t *testing.T) {
	for _, in := range []string{"@x = f();", "@x = f(1);", "x = @f;", "@f = 1;", "@get f i;", "@get x f;", "@put f 1;", "if 1 { @x = f(); }", "@reveal f 1;"} {
		expectWrong(t, "actor a; in i {}; var x; func f() { "+in+" return 1; } main {}", api.ErrNone)
	}
	expectWrong(t, "actor a; func f() { return @f; } main {}", api.ErrNone)
	expectFine(t, "actor a; var x; func f() { return 1; } func g() { x = f(); return 1; } main { x = f(); x = g(); }")
}

// F2: a name of another kind than is asked.
func TestResolveKind(t *testing.T) {
	head := "actor a; in i {}; out o {}; var x; func f() { return 1; } "
	uses := []struct{ fine, text string }{
		{"a", head + "@grant N a; main {}"},
		{"a", head + "@grant a N; main {}"},
		{"a", head + "@speak N; main {}"},
		{"a", head + "in k {@N: }; main {}"},
		{"a", head + "out k {a! a; @a: a, N}; main {}"},
		{"a", head + "var k {@N! a}; main {}"},
		{"x", head + "main { @N = 1; }"},
		{"x", head + "main { @N = f(); }"},
		{"f", head + "main { @x = N(); }"},
		{"x", head + "main { @get N i; }"},
		{"i", head + "main { @get x N; }"},
		{"o", head + "main { @put N 1; }"},
		{"x", head + "main { @reveal N 1; }"},
		{"x", head + "main { @trust N 1; }"},
		{"x", head + "main { put o @N; }"},
		{"x", head + "main { if (1 + (@N * 2)) { } }"},
		{"x", head + "func g(m) { return @N; } main { }"},
		{"x", head + "func g(m) { while @N { } return 1; } main { }"},
		{"x", head + "func g(m) { x = m; return m; } main { x = g(@N); }"},
	}
	for _, u := range uses {
		for _, name := range []string{"a", "i", "o", "x", "f"} {
			s := strings.Replace(u.text, "N", name, 1)
			if name == u.fine {
				expectFine(t, strings.Replace(s, "@", "", 1))
			} else {
				expectWrong(t, s, api.ErrKind)
			}
		}
	}
	// A parameter is a variable; what is declared is declared in its own label.
	expectWrong(t, "actor a; func f(m) { @m = m(); return 1; } main {}", api.ErrKind)
	expectWrong(t, "actor a; func f(m) { @put m 1; return 1; } main {}", api.ErrKind)
	expectWrong(t, "actor a; in i {@i: }; main {}", api.ErrKind)
	expectWrong(t, "actor a; out o {a: ; @a! o}; main {}", api.ErrKind)
	expectWrong(t, "actor a; var x {@x: }; main {}", api.ErrKind)
}

// F2: a call has as many arguments as there are parameters.
func TestResolveCalls(t *testing.T) {
	lists := []string{"", "1", "1, x", "1, x, 3", "1, x, 3, (4 + 5)"}
	names := []string{"", "m", "m, n", "m, n, k", "m, n, k, l"}
	for params := range names {
		for args := range lists {
			text := "actor a; var x; func f(" + names[params] + ") { return 1; } "
			for _, in := range []string{"main { @C }", "main { if x { } else { x = 1; @C } }", "func g(m) { @C return 1; } main {}"} {
				s := text + strings.Replace(in, "C", "x = f("+lists[args]+");", 1)
				if args == params {
					expectFine(t, strings.Replace(s, "@", "", 1))
				} else {
					expectWrong(t, s, api.ErrForm)
				}
			}
		}
	}
}

// F2: of several errors the first one in the order of the text, what stands within a command behind it.
func TestResolveOrder(t *testing.T) {
	head := "actor a; in i {}; out o {}; var x; func f(m) { return 1; } "
	for _, c := range []struct {
		text string
		why  api.Errno
	}{
		{head + "@var x {b: }; main { y = z; }", api.ErrTwice},
		{head + "in k {@a: b; x: }; actor a; main {}", api.ErrNone},
		{head + "in k {@x: ; b: }; main {}", api.ErrKind},
		{head + "@func g(x) { y = 1; return z; } main {}", api.ErrTwice},
		{head + "func g(n) { @x = f(); return z; } actor a; main {}", api.ErrForm},
		{head + "func g(n) { return @z; } actor a; main {}", api.ErrNone},
		{head + "main { @x = f(y, z); }", api.ErrForm},
		{head + "main { @x = o(y, z); }", api.ErrKind},
		{head + "main { @y = f(z, z); }", api.ErrNone},
		{head + "main { @put i y; }", api.ErrKind},
		{head + "main { x = f((@o + y)); }", api.ErrKind},
		{head + "main { x = (@y + o); }", api.ErrNone},
		{head + "main { if @o { y = 1; } }", api.ErrKind},
		{head + "main { if x { @x = f(); } else { y = 1; } }", api.ErrForm},
		{head + "main { if x { x = 1; } else { x = @i; } y = 1; }", api.ErrKind},
		{head + "main { while @y { o = 1; } x = f(); }", api.ErrNone},
		// Of one thing: name by name, from the left.
		{"actor a; var x; @grant x b; main {}", api.ErrKind},
		{"actor a; var x; @grant b x; main {}", api.ErrNone},
		{"actor a; var x; in i {@x: b}; main {}", api.ErrKind},
		{"actor a; var x; in i {@b: x}; main {}", api.ErrNone},
		{"actor a; var x; in i {@a: x, b}; main {}", api.ErrKind},
		{"actor a; var x; in i {@a: b, x}; main {}", api.ErrNone},
		{head + "main { @get a k; }", api.ErrKind},
		{head + "main { @get y x; }", api.ErrNone},
		{head + "main { @o = g(); }", api.ErrKind},
		{head + "main { @y = o(); }", api.ErrNone},
	} {
		expectWrong(t, c.text, c.why)
	}
}

// some: so many texts, with $ as their numbers.
func some(many int, text string) string {
	var b strings.Builder
	for i := range many {
		b.WriteString(strings.ReplaceAll(text, "$", strconv.Itoa(i)))
	}
	return b.String()
}

// F2: then what Check says, at 0: each limit at its bound, and one past it.
func TestResolveLimits(t *testing.T) {
	for _, c := range []struct {
		most       int
		text, more string
		why        api.Errno
	}{
		{api.MaxActors, "", "actor a$; ", api.ErrRange},
		{api.MaxGrants, "actor a; ", "grant a a; ", api.ErrMany},
		{1, "actor a; ", "speak a; ", api.ErrMany},
		{3, "actor a; actor b; actor c; ", "speak b; ", api.ErrMany},
		{api.MaxVars, "actor a; ", "var v$; ", api.ErrMany},
		{api.MaxVars - 4, "actor a; func f(k, l, m, n) { return 1; } ", "var v$; ", api.ErrMany},
		{api.MaxVars / 4, "actor a; ", "func f$(k, l, m, n) { return 1; } ", api.ErrMany},
		{api.MaxChannels, "actor a; ", "in i$ {}; ", api.ErrMany},
		{api.MaxChannels, "actor a; " + some(5, "in i$ {}; "), "out o$ {}; ", api.ErrMany},
		{api.MaxFuncs, "actor a; ", "func f$() { return 1; } ", api.ErrMany},
	} {
		expectFine(t, c.text+some(c.most, c.more)+"main {}")
		past := c.text + some(c.most+1, c.more)
		expectWrong(t, past+"main {}", c.why)
		// Names come ahead of that.
		expectWrong(t, past+"main { @nobody = 1; }", api.ErrNone)
	}
	for _, s := range []string{"main {}", "var x; main {}", "in i {}; main {}", "func f(x) { x = 1; return x; } var x; main { x = f(2); }"} {
		expectWrong(t, s, api.ErrRange)
	}
}

// F2: ErrState at 0, first of all, if the tree is none of a text.
func TestResolveState(t *testing.T) {
	fine := api.TreeDecl{Kind: api.DeclActor, Name: "a"}
	set := api.TreeStmt{Kind: api.StmtSet, At: 9, Name: "nobody", Expr: api.TreeExpr{Kind: api.ExprNumber}}
	loop := []api.TreeStmt{{Kind: api.StmtIf, Expr: set.Expr}}
	loop[0].Then, loop[0].Else = loop, loop
	parts := []api.TreeExpr{{Kind: api.ExprAdd}, {Kind: api.ExprAdd}}
	parts[0].Args, parts[1].Args = parts, parts
	for i, u := range []api.Tree{
		{Decls: []api.TreeDecl{fine, {}}},
		{Decls: []api.TreeDecl{fine, fine, {Kind: api.DeclVar, At: 3, Name: "if"}}},
		{Decls: make([]api.TreeDecl, api.MaxDecls+1)},
		{Decls: []api.TreeDecl{fine}, Main: []api.TreeStmt{set, {}}},
		{Decls: []api.TreeDecl{fine}, Main: []api.TreeStmt{{Kind: api.StmtPut, Name: "x", Other: "o", Expr: set.Expr}}},
		{Main: make([]api.TreeStmt, api.MaxStmts+1)},
		{Main: make([]api.TreeStmt, 1<<16)},
		{Main: loop},
		{Decls: []api.TreeDecl{fine, {Kind: api.DeclFunc, Name: "f", Body: loop, Result: set.Expr}}},
		{Main: []api.TreeStmt{{Kind: api.StmtIf, Expr: parts[0]}}},
		{Main: []api.TreeStmt{{Kind: api.StmtIf, Expr: api.TreeExpr{Kind: api.ExprNumber, N: math.MaxInt}}}},
	} {
		p, at, e := scope.Resolve(u)
		if !alike(p, api.Program{}) || at != 0 || e != api.ErrState || tree.Check(u) == api.OK {
			t.Errorf("F2: tree %d: %+v %d %d", i, p, at, e)
		}
	}
}

// F2: At of a tree may be anything: it is answered, and says nothing of the order.
func TestResolvePlaces(t *testing.T) {
	for _, at := range []int{math.MinInt, -1, 0, 1 << 40, math.MaxInt} {
		u := api.Tree{Decls: []api.TreeDecl{{Kind: api.DeclActor, At: at, Name: "a"}, {Kind: api.DeclVar, At: at, Name: "x"}}}
		if p, got, e := scope.Resolve(u); got != 0 || e != api.OK || len(p.Vars) != 1 {
			t.Errorf("F2: %+v %d %d", p, got, e)
		}
		u.Main = []api.TreeStmt{{Kind: api.StmtPut, At: at, Other: "o", Expr: api.TreeExpr{Kind: api.ExprName, At: -9, Name: "y"}}}
		if p, got, e := scope.Resolve(u); got != at || e != api.ErrNone || !alike(p, api.Program{}) {
			t.Errorf("F2: %+v %d %d, want %d", p, got, e, at)
		}
	}
}

// F3: errors of Parse come first, at their places.
func TestProgramErrors(t *testing.T) {
	for _, c := range []struct {
		text string
		why  api.Errno
	}{
		{"@", api.ErrForm},
		{"main {@", api.ErrForm},
		{"actor a; actor a; main { x = y; @", api.ErrForm},
		{"actor a; actor a; main { x = y @}", api.ErrForm},
		{"actor a; actor a; main {} @%", api.ErrForm},
		{"actor a; main { x = @12345678; }", api.ErrMany},
		{"actor a; main { @abcdefghijklm = 1; }", api.ErrMany},
		{"actor a; main { x = @01; }", api.ErrForm},
		{strings.Repeat(" ", api.MaxText+1), api.ErrMany},
		{"actor a; actor a; main { " + some(api.MaxStmts+1, "x = 1; ") + "}", api.ErrMany},
		{"actor a; " + some(api.MaxDecls, "actor a; ") + "main {}", api.ErrMany},
	} {
		expectWrong(t, c.text, c.why)
	}
	expectFine(t, "actor a; var x; main { "+some(api.MaxStmts, "x = 1; ")+"}")
	expectFine(t, "actor a; main {}"+strings.Repeat(" ", api.MaxText-16))
}

// F3, P1: of any text what Parse and Resolve say, one behind the other.
func TestProgramOfAnything(t *testing.T) {
	r := rand.New(rand.NewSource(7))
	tokens := strings.Fields("actor grant speak in out var func main get put reveal trust if else while return a b x f { } ( ) ; : ! , = + - * < == 1 0 @")
	seen := map[api.Errno]int{}
	for range 4000 {
		s, _ := makeProgram(r)
		list := strings.Fields(strings.ReplaceAll(s, "# a;", ""))
		for range r.Intn(3) {
			if i := r.Intn(len(list)); list[i][0] == 'n' {
				list[i] = "n" + strconv.Itoa(r.Intn(50))
			} else if r.Intn(3) == 0 {
				list[i] = tokens[r.Intn(len(tokens))]
			}
		}
		s = strings.Join(list, " ")
		p, at, e := scope.Program(s)
		seen[e]++
		u, wantAt, why := tree.Parse(s)
		var want api.Program
		if why == api.OK {
			want, wantAt, why = scope.Resolve(u)
		}
		if !alike(p, want) || at != wantAt || e != why || e != api.OK && !alike(p, api.Program{}) {
			t.Fatalf("F3: Program(%q): %+v %d %d, want %+v %d %d", s, p, at, e, want, wantAt, why)
		}
	}
	if seen[api.OK] < 200 || seen[api.ErrForm] < 200 || seen[api.ErrNone] < 200 {
		t.Errorf("F3: %v", seen)
	}
}
