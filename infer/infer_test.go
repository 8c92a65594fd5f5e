package infer_test

import (
	"slices"
	"strings"
	"testing"

	"veilwork/api"
	"veilwork/infer"
	"veilwork/scope"
)

// head of texts: channels of Ins that all may read and write, that a alone may, and b; variables that are Known, and three that are not.
const head = "actor a; actor b; in all {}; in ina {a: ; a!}; in inb {b: ; b!}; out o {}; var known {a:}; var both {a: b; b! a}; var x; var y; var z; "

func program(t *testing.T, s string) api.Program {
	t.Helper()
	p, at, e := scope.Program(head + s)
	if e != api.OK {
		t.Fatalf("%q has error %d at %d", s, e, at-len(head))
	}
	return p
}

// level of a text: who of a and b may read, a stroke, who may have written.
func level(s string) api.Level {
	readers, writers, _ := strings.Cut(s, "/")
	has := func(who string) []bool { return []bool{strings.Contains(who, "a"), strings.Contains(who, "b")} }
	return api.Level{Readers: has(readers), Writers: has(writers)}
}

// levels of a text: those of variables, a bar, and those of functions.
func levels(s string) api.Levels {
	var out [2][]api.Level
	vars, funcs, _ := strings.Cut(s, "|")
	for i, s := range []string{vars, funcs} {
		for _, word := range strings.Fields(s) {
			out[i] = append(out[i], level(word))
		}
	}
	return api.Levels{Vars: out[0], Funcs: out[1]}
}

func same(l, m api.Level) bool {
	return slices.Equal(l.Readers, m.Readers) && slices.Equal(l.Writers, m.Writers)
}

func sameLevels(l, m api.Levels) bool {
	return slices.EqualFunc(l.Vars, m.Vars, same) && slices.EqualFunc(l.Funcs, m.Funcs, same)
}

// cases: texts, and the levels of x, y, z and parameters, then of functions.
func cases() [][2]string {
	return [][2]string{
		// What nothing comes to is at the bottom.
		{"main {}", "ab/ ab/ ab/"},
		{"main { x = 5; put o known; y = (1 + 2); }", "ab/ ab/ ab/"},
		// StmtGet and StmtSet.
		{"main { get x all; get y ina; get z inb; }", "ab/ab a/a b/b"},
		{"main { x = known; y = both; z = (both + known); }", "a/ab ab/ab a/ab"},
		{"main { get x ina; y = (x + 1); z = ((2 * y) < 3); }", "a/a a/a a/a"},
		{"main { get x ina; get y inb; z = (x + y); }", "a/a b/b /ab"},
		{"main { get x ina; get x inb; y = x; }", "/ab /ab ab/"},
		// Wherever commands stand.
		{"main { z = y; y = x; get x ina; }", "a/a a/a a/a"},
		{"main { x = y; y = z; z = x; get y inb; }", "b/b b/b b/b"},
		{"main { z = known; known = x; both = z; get both ina; y = both; }", "ab/ ab/ab a/ab"},
		// The place: what a command stands in, but not what it is itself, nor what is behind.
		{"main { get x ina; if x { y = 1; } z = 2; }", "a/a a/a ab/"},
		{"main { get x ina; if x {} else { y = 1; } z = 2; }", "a/a a/a ab/"},
		{"main { get x ina; while x { y = 1; } z = 2; }", "a/a a/a ab/"},
		{"main { get x ina; if x { while known { y = 1; } z = 2; } }", "a/a a/ab a/a"},
		{"main { if both { if known { get x inb; } else { y = 1; } z = 1; } }", "/ab a/ab ab/ab"},
		{"main { get x ina; if (1 + x) { if 1 { if 0 {} else { y = 3; } } } }", "a/a a/a ab/"},
		{"main { while (y < 3) { get x ina; y = (y + x); } z = y; }", "a/a a/a a/a"},
		{"main { while y { x = z; y = x; } get z inb; }", "b/b b/b b/b"},
		{"main { if x { get y all; } get x ina; }", "a/a a/ab ab/"},
		{"main { get x inb; if x { known = 3; put o 4; get both ina; } y = both; }", "b/b ab/ab ab/"},
		// StmtReveal: the writers of the expression, the place whole.
		{"main { get x ina; reveal y x; }", "a/a ab/a ab/"},
		{"main { get x ina; get y inb; if y { reveal z x; } }", "a/a b/b b/ab"},
		{"main { reveal x (both + 1); reveal y known; }", "ab/ab ab/ab ab/"},
		{"main { reveal known x; reveal x x; get x ina; z = known; }", "a/a ab/ a/ab"},
		// StmtTrust: the readers of the expression, the place whole.
		{"main { get x ina; trust y x; }", "a/a a/ ab/"},
		{"main { get x ina; get y inb; if y { trust z x; } }", "a/a b/b /b"},
		{"main { trust x (known + 1); trust y both; }", "a/ ab/ ab/"},
		{"main { trust both x; trust x x; get x ina; z = both; }", "a/a ab/ ab/ab"},
		// StmtCall: parameters, what is answered, the function's level.
		{"func f(n) { return 7; } main { x = f(y); get y ina; }", "ab/ a/a ab/ a/a | ab/"},
		{"func f(n, m) { return (n + 1); } main { get x ina; get y inb; z = f(x, y); }", "a/a b/b a/a a/a b/b | ab/"},
		{"func f(n, m) { return m; } main { get x ina; z = f(x, 1); y = f(3, z); }", "a/a ab/ ab/ a/a ab/ | ab/"},
		{"func f(n) { return n; } main { get x ina; y = f(x); z = f(3); }", "a/a a/a a/a a/a | ab/"},
		{"func f() { y = 3; return 1; } main { get x ina; if x { z = f(); } }", "a/a a/a a/a | a/a"},
		{"func f(n) { return 1; } main { get x ina; if x { z = f(2); } y = f(3); }", "a/a ab/ a/a a/a | a/a"},
		{"func f() { return x; } main { get x ina; y = f(); both = f(); }", "a/a a/a ab/ | ab/"},
		{"func f(n) { if n { y = 1; } return 1; } main { get x inb; z = f(x); }", "b/b b/b ab/ b/b | ab/"},
		{"func f() { x = 1; return 0; } func g() { y = f(); return 0; } main { if known { z = g(); } }", "a/ab a/ab a/ab | a/ab a/ab"},
		{"func f() { x = 1; return 0; } func g() { if both { y = f(); } return 0; } main { z = 1; }", "ab/ab ab/ab ab/ | ab/ab ab/"},
		{"func f() { get x ina; return 0; } func g() { while z { y = f(); } return 0; } main { known = g(); get z inb; }", "/ab b/b b/b | b/b ab/"},
		{"func f() { reveal x known; trust y known; return 0; } main { get z inb; if z { known = f(); } }", "b/ab /b b/b | b/b"},
	}
}

// known: the levels of the two variables that are Known.
const known = "a/ab ab/ab "

// H3, H4: the least levels that fit.
func TestInfer(t *testing.T) {
	for _, c := range cases() {
		p := program(t, c[0])
		l, e := infer.Infer(p)
		if want := levels(known + c[1]); !sameLevels(l, want) || e != api.OK {
			t.Errorf("H3: %s: %v (%d), want %v", c[0], l, e, want)
		}
		if fits, e := infer.Fits(p, l); !fits || e != api.OK {
			t.Errorf("H4: %s: what is inferred does not fit (%d)", c[0], e)
		}
	}
}

// bits of levels: each of them, whether it makes its level greater, and whether it is Known.
func bits(p api.Program, l api.Levels, see func(bit *bool, greater, isKnown bool)) {
	for i, x := range append(slices.Clone(l.Vars), l.Funcs...) {
		isKnown := i < len(p.Vars) && p.Vars[i].Known
		for who := range x.Readers {
			see(&x.Readers[who], !x.Readers[who], isKnown)
			see(&x.Writers[who], x.Writers[who], isKnown)
		}
	}
}

// H2, H3: levels do not fit, if one of those that are least is made less somewhere, or one that is Known is changed.
func TestFitsNoLess(t *testing.T) {
	for _, c := range cases() {
		p := program(t, c[0])
		l := levels(known + c[1])
		bits(p, l, func(bit *bool, greater, isKnown bool) {
			if !greater && !isKnown {
				return
			}
			*bit = !*bit
			if fits, e := infer.Fits(p, l); fits || e != api.OK {
				t.Errorf("H2: %s: %v fit (%d), and must not", c[0], l, e)
			}
			*bit = !*bit
		})
	}
}

// H2: what is greater may fit, too; and what it must flow to then must be greater, but for what is Known.
func TestFits(t *testing.T) {
	for _, c := range []struct {
		text, levels string
		want         bool
	}{
		{"main {}", "/ab ab/ a/b", true},
		{"main { x = 1; get y ina; }", "/ab /ab ab/", true},
		{"main { x = y; }", "/ab /ab ab/", true},
		{"main { x = y; }", "a/ a/ ab/", true},
		{"main { x = y; }", "ab/ a/ ab/", false},
		{"main { x = y; }", "a/ ab/b ab/", false},
		{"main { x = y; }", "a/ /  ab/", false},
		{"main { if x { y = 1; } }", "a/b a/ab ab/", true},
		{"main { if x { y = 1; } }", "a/b a/a ab/", false},
		{"main { if x { y = 1; } }", "a/b ab/b ab/", false},
		{"main { if x { known = 1; put o 2; get both ina; reveal both x; trust known x; } }", "/ab ab/ ab/", true},
		{"main { get known inb; known = x; reveal both x; }", "/ab ab/ ab/", true},
		{"main { get x inb; }", "b/ab ab/ ab/", true},
		{"main { get x inb; }", "ab/ab ab/ ab/", false},
		{"main { get x inb; }", "b/a ab/ ab/", false},
		{"main { reveal x y; }", "ab/b a/b ab/", true},
		{"main { reveal x y; }", "ab/a a/b ab/", false},
		{"main { if z { reveal x y; } }", "ab/b a/b a/", false},
		{"main { if z { reveal x y; } }", "a/b /b a/", true},
		{"main { trust x y; }", "a/ a/b ab/", true},
		{"main { trust x y; }", "ab/ a/b ab/", false},
		{"main { if z { trust x y; } }", "a/ a/b ab/a", false},
		{"main { if z { trust x y; } }", "a/a a/b ab/a", true},
		{"func f(n) { return 1; } main { x = f(y); }", "ab/ a/ ab/ a/ | ab/", true},
		{"func f(n) { return 1; } main { x = f(y); }", "ab/ a/ ab/ ab/ | ab/", false},
		{"func f(n) { return n; } main { x = f(y); }", "ab/ ab/ ab/ ab/b | ab/", false},
		{"func f(n) { return n; } main { x = f(y); }", "ab/b ab/ ab/ ab/b | ab/", true},
		{"func f(n) { return 1; } main { x = f(y); }", "ab/ ab/ ab/ ab/ | /ab", true},
		{"func f(n) { y = 1; return 1; } main { x = f(2); }", "ab/ ab/ ab/ ab/ | a/", false},
		{"func f(n) { y = 1; return 1; } main { x = f(2); }", "ab/ a/ ab/ ab/ | a/", true},
		{"func f(n) { return 1; } main { if x { y = f(2); } }", "a/ a/ ab/ a/ | a/", true},
		{"func f(n) { return 1; } main { if x { y = f(2); } }", "a/ a/ ab/ a/ | ab/", false},
		{"func f(n) { return 1; } main { if x { y = f(2); } }", "a/ a/ ab/ ab/ | a/", false},
		{"func f(n) { return 1; } main { if x { y = f(2); } }", "a/ ab/ ab/ a/ | a/", false},
		{"func f() { return 1; } main { if x { known = f(); } }", "a/ ab/ ab/ | ab/", false},
		{"func f() { return 1; } main { if x { known = f(); } }", "a/ ab/ ab/ | a/", true},
	} {
		fits, e := infer.Fits(program(t, c.text), levels(known+c.levels))
		if fits != c.want || e != api.OK {
			t.Errorf("H2: %s: do %s fit: %v (%d), want %v", c.text, c.levels, fits, e, c.want)
		}
	}
}

// H2: parameters may be Known in a program that has no text; nothing is asked for them.
func TestKnownParameter(t *testing.T) {
	p := program(t, "func f(n) { return n; } main { get x inb; y = f(x); }")
	p.Vars[5] = api.Var{Known: true}
	l, e := infer.Infer(p)
	if want := levels(known + "b/b ab/ab ab/ ab/ab | ab/"); !sameLevels(l, want) || e != api.OK {
		t.Errorf("H3: %v (%d), want %v", l, e, want)
	}
}

// H3: a chain of variables that is told from its end on.
func TestInferChain(t *testing.T) {
	p := api.Program{
		Actors: api.Actors{Many: api.MaxActors},
		Ins:    []api.Label{{Read: []api.Policy{{Owner: 5}}, Write: []api.Policy{{Owner: 4}}}},
		Vars:   make([]api.Var, api.MaxVars),
	}
	for v := api.MaxVars - 1; v > 0; v-- {
		p.Main = append(p.Main, api.Stmt{Kind: api.StmtSet, Var: v, Expr: api.Expr{Kind: api.ExprName, N: v - 1}})
	}
	p.Main = append(p.Main, api.Stmt{Kind: api.StmtGet})
	l, e := infer.Infer(p)
	want := api.Level{Readers: []bool{5: true}, Writers: []bool{4: true, 5: false}}
	if e != api.OK || len(l.Vars) != api.MaxVars || slices.ContainsFunc(l.Vars, func(x api.Level) bool { return !same(x, want) }) {
		t.Errorf("H3: %v (%d)", l, e)
	}
}

// H3: who acts for another one may what that one may.
func TestInferGrants(t *testing.T) {
	p, _, _ := scope.Program("actor a; actor b; grant b a; in i {a: ; a!}; in j {b: ; b!}; var x; var y; main { get x i; get y j; }")
	l, e := infer.Infer(p)
	if want := levels("ab/ab b/b"); !sameLevels(l, want) || e != api.OK {
		t.Errorf("H3: %v (%d), want %v", l, e, want)
	}
}
