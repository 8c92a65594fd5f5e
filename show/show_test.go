package show_test

import (
	"math/rand"
	"reflect"
	"strings"
	"sync"
	"testing"

	"veilwork/api"
	"veilwork/show"
	"veilwork/tree"
)

var one = api.TreeExpr{Kind: api.ExprNumber, N: 1}

func id(name string) api.TreeExpr { return api.TreeExpr{Kind: api.ExprName, Name: name} }

func op(kind int, a, b api.TreeExpr) api.TreeExpr {
	return api.TreeExpr{Kind: kind, Args: []api.TreeExpr{a, b}}
}

func ofDecl(d api.TreeDecl) api.Tree { return api.Tree{Decls: []api.TreeDecl{d}} }

func ofStmt(s api.TreeStmt) api.Tree { return api.Tree{Main: []api.TreeStmt{s}} }

func expect(t *testing.T, u api.Tree, want string) {
	t.Helper()
	if s, e := show.Show(u); s != want || e != api.OK {
		t.Errorf("C1: Show(%+v): %q %d, want %q", u, s, e, want)
	}
}

// C1: each kind of declaration.
func TestShowDecls(t *testing.T) {
	two := []api.TreePolicy{{Owner: "a", Names: []string{"b", "c"}}, {Owner: "b", Write: true, Names: []string{"a"}}}
	bare := []api.TreePolicy{{Owner: "a", Write: true}, {Owner: "b"}, {Owner: "b", Names: []string{}}}
	get := []api.TreeStmt{{Kind: api.StmtGet, Name: "x", Other: "i"}}
	for want, d := range map[string]api.TreeDecl{
		"actor a;":                   {Kind: api.DeclActor, Name: "a"},
		"grant a b;":                 {Kind: api.DeclGrant, Name: "a", Other: "b"},
		"speak a;":                   {Kind: api.DeclSpeak, Name: "a"},
		"in i {};":                   {Kind: api.DeclIn, Name: "i", Given: true},
		"in i {a: b, c; b! a};":      {Kind: api.DeclIn, Name: "i", Given: true, Label: two},
		"out o {};":                  {Kind: api.DeclOut, Name: "o", Given: true, Label: []api.TreePolicy{}},
		"out o {a!; b:; b:};":        {Kind: api.DeclOut, Name: "o", Given: true, Label: bare},
		"var x;":                     {Kind: api.DeclVar, Name: "x"},
		"var x {};":                  {Kind: api.DeclVar, Name: "x", Given: true},
		"var x {a: b, c};":           {Kind: api.DeclVar, Name: "x", Given: true, Label: two[:1]},
		"func f() {\n  return 1;\n}": {Kind: api.DeclFunc, Name: "f", Result: one},
		"func f(a) {\n  get x i;\n  return (a == 1);\n}":            {Kind: api.DeclFunc, Name: "f", Params: []string{"a"}, Body: get, Result: op(api.ExprSame, id("a"), one)},
		"func f(a, b, c) {\n  get x i;\n  get x i;\n  return b;\n}": {Kind: api.DeclFunc, Name: "f", Params: []string{"a", "b", "c"}, Body: append(get, get...), Result: id("b")},
	} {
		expect(t, ofDecl(d), want+"\nmain {\n}\n")
	}
	expect(t, api.Tree{}, "main {\n}\n")
}

// C1: each kind of command.
func TestShowStmts(t *testing.T) {
	get := []api.TreeStmt{{Kind: api.StmtGet, Name: "y", Other: "j"}}
	for want, s := range map[string]api.TreeStmt{
		"  x = 1;":                    {Kind: api.StmtSet, Name: "x", Expr: one},
		"  x = f();":                  {Kind: api.StmtCall, Name: "x", Other: "f"},
		"  x = f(1);":                 {Kind: api.StmtCall, Name: "x", Other: "f", Args: []api.TreeExpr{one}},
		"  x = f(y, 1, (1 + y));":     {Kind: api.StmtCall, Name: "x", Other: "f", Args: []api.TreeExpr{id("y"), one, op(api.ExprAdd, one, id("y"))}},
		"  get x i;":                  {Kind: api.StmtGet, Name: "x", Other: "i"},
		"  put o x;":                  {Kind: api.StmtPut, Other: "o", Expr: id("x")},
		"  reveal x y;":               {Kind: api.StmtReveal, Name: "x", Expr: id("y")},
		"  trust x y;":                {Kind: api.StmtTrust, Name: "x", Expr: id("y")},
		"  if x {\n  }":               {Kind: api.StmtIf, Expr: id("x"), Else: []api.TreeStmt{}},
		"  if x {\n    get y j;\n  }": {Kind: api.StmtIf, Expr: id("x"), Then: get},
		"  if x {\n  } else {\n    get y j;\n  }":               {Kind: api.StmtIf, Expr: id("x"), Else: get},
		"  if x {\n    get y j;\n  } else {\n    get y j;\n  }": {Kind: api.StmtIf, Expr: id("x"), Then: get, Else: get},
		"  while x {\n  }":               {Kind: api.StmtWhile, Expr: id("x")},
		"  while x {\n    get y j;\n  }": {Kind: api.StmtWhile, Expr: id("x"), Then: get},
		"  while x {\n    if 1 {\n    } else {\n      get y j;\n    }\n  }": {Kind: api.StmtWhile, Expr: id("x"), Then: []api.TreeStmt{{Kind: api.StmtIf, Expr: one, Else: get}}},
	} {
		expect(t, ofStmt(s), "main {\n"+want+"\n}\n")
	}
}

// C1: each kind of expression.
func TestShowExprs(t *testing.T) {
	for want, e := range map[string]api.TreeExpr{
		"0":                   {Kind: api.ExprNumber},
		"7":                   {Kind: api.ExprNumber, N: 7},
		"-7":                  {Kind: api.ExprNumber, N: -7},
		"9999999":             {Kind: api.ExprNumber, N: api.MaxNumber},
		"-9999999":            {Kind: api.ExprNumber, N: -api.MaxNumber},
		"abcdefghijkl":        id("abcdefghijkl"),
		"(a + b)":             op(api.ExprAdd, id("a"), id("b")),
		"(a - b)":             op(api.ExprSub, id("a"), id("b")),
		"(a * b)":             op(api.ExprMul, id("a"), id("b")),
		"(a < b)":             op(api.ExprLess, id("a"), id("b")),
		"(a == b)":            op(api.ExprSame, id("a"), id("b")),
		"((a - b) * (1 < a))": op(api.ExprMul, op(api.ExprSub, id("a"), id("b")), op(api.ExprLess, one, id("a"))),
		"(1 - -2)":            op(api.ExprSub, one, api.TreeExpr{Kind: api.ExprNumber, N: -2}),
	} {
		expect(t, ofStmt(api.TreeStmt{Kind: api.StmtPut, Other: "o", Expr: e}), "main {\n  put o "+want+";\n}\n")
		expect(t, ofStmt(api.TreeStmt{Kind: api.StmtIf, Expr: e}), "main {\n  if "+want+" {\n  }\n}\n")
		expect(t, ofDecl(api.TreeDecl{Kind: api.DeclFunc, Name: "f", Result: e}), "func f() {\n  return "+want+";\n}\nmain {\n}\n")
	}
}

// The document's example, as it is shown.
const example = `actor alice;
actor bob;
speak alice;
in bid {alice:; alice!};
in offer {bob: alice};
out news {};
var high {alice:; alice!};
var told {alice: bob};
var x;
func more(a, b) {
  return (a < b);
}
main {
  get high bid;
  get x offer;
  x = more(high, x);
  reveal told high;
  if 1 {
    put news 1;
  }
}
`

// C1, C3: the document's example.
func TestShowExample(t *testing.T) {
	for _, s := range []string{example, strings.Join(strings.Fields(example), " "), strings.NewReplacer(":;", ": ;", "!}", "! }").Replace(example)} {
		u, _, e := tree.Parse(s)
		if e != api.OK {
			t.Fatalf("%q: %d", s, e)
		}
		expect(t, u, example)
	}
}

// C1, C3: texts that are parsed are shown as their tokens say, and parsed to the same trees again.
func TestShowTexts(t *testing.T) {
	r := rand.New(rand.NewSource(1))
	fine := 0
	for range 8000 {
		s := makeText(r)
		u, _, e := tree.Parse(s)
		if e != api.OK {
			continue
		}
		fine++
		shown, e := show.Show(u)
		if want := laidOut(s); shown != want || e != api.OK {
			t.Fatalf("C1: %q is shown as\n%s%d, want\n%s", s, shown, e, want)
		}
		v, at, e := tree.Parse(shown)
		if e != api.OK || at != 0 || !show.Same(u, v) || !alikeTrees(u, v) {
			t.Fatalf("C3: %q, shown as %q: %+v %d %d", s, shown, v, at, e)
		}
		expect(t, v, shown)
	}
	if fine < 2000 {
		t.Errorf("%d texts were parsed", fine)
	}
}

// long: a tree whose text has so many bytes, somewhat more or less than MaxText.
func long(bytes int) api.Tree {
	const many = 20
	left := len("main {\n}\n") + many*(len("var x {a: ; a: ; a: ; a: };\n")+4*(6*12+5*2)) - bytes
	var t api.Tree
	for range many {
		label := fill(api.TreePolicy{Owner: "a"}, 4)
		for i := range label {
			label[i].Names = fill("abcdefghijkl", 6)
			for k, name := range label[i].Names {
				less := min(left, 11)
				label[i].Names[k] = name[less:]
				left -= less
			}
		}
		t.Decls = append(t.Decls, api.TreeDecl{Kind: api.DeclVar, Name: "x", Given: true, Label: label})
	}
	return t
}

// C1, C3: a text may be too long to be parsed; it is shown all the same.
func TestShowLong(t *testing.T) {
	for _, bytes := range []int{api.MaxText - 1, api.MaxText, api.MaxText + 1, api.MaxText + 500} {
		u := long(bytes)
		s, e := show.Show(u)
		if len(s) != bytes || e != api.OK {
			t.Fatalf("C1: %d bytes, want %d; %d", len(s), bytes, e)
		}
		v, at, e := tree.Parse(s)
		switch {
		case bytes <= api.MaxText && (e != api.OK || !show.Same(u, v)):
			t.Errorf("C3: %d bytes: %d at %d", bytes, e, at)
		case bytes > api.MaxText && e != api.ErrMany:
			t.Errorf("C3: %d bytes: %d at %d", bytes, e, at)
		}
	}
}

func fill[T any](x T, many int) []T {
	l := make([]T, many)
	for i := range l {
		l[i] = x
	}
	return l
}

// nested: so many conditions in one another.
func nested(deep int) api.TreeStmt {
	s := api.TreeStmt{Kind: api.StmtWhile, Expr: one}
	for range deep - 1 {
		s = api.TreeStmt{Kind: api.StmtIf, Expr: one, Else: []api.TreeStmt{s}}
	}
	return s
}

// chain: an expression of so many parts (one more, if the number is even).
func chain(parts int) api.TreeExpr {
	e := one
	for n := 1; n < parts; n += 2 {
		e = op(api.ExprAdd, one, e)
	}
	return e
}

// limits: for each limit of trees one that is at it, or past it by some.
func limits(past int) map[string]api.Tree {
	set := api.TreeStmt{Kind: api.StmtSet, Name: "x", Expr: one}
	policy := api.TreePolicy{Owner: "a", Names: fill("b", api.MaxNames)}
	more := api.TreePolicy{Owner: "a", Write: true, Names: fill("b", api.MaxNames+past)}
	return map[string]api.Tree{
		"declarations": {Decls: fill(api.TreeDecl{Kind: api.DeclSpeak, Name: "a"}, api.MaxDecls+past)},
		"commands":     {Main: fill(set, api.MaxStmts+past)},
		"commands in all": {
			Decls: []api.TreeDecl{{Kind: api.DeclFunc, Name: "f", Body: fill(set, 20), Result: one}},
			Main:  fill(set, api.MaxStmts-20+past),
		},
		"deep":       ofStmt(nested(api.MaxDeep + past)),
		"policies":   ofDecl(api.TreeDecl{Kind: api.DeclIn, Name: "i", Given: true, Label: fill(policy, api.MaxPolicies+past)}),
		"names":      ofDecl(api.TreeDecl{Kind: api.DeclOut, Name: "o", Given: true, Label: []api.TreePolicy{more}}),
		"parameters": ofDecl(api.TreeDecl{Kind: api.DeclFunc, Name: "f", Params: fill("a", api.MaxParams+past), Result: one}),
		"args":       ofStmt(api.TreeStmt{Kind: api.StmtCall, Name: "x", Other: "f", Args: fill(one, api.MaxParams+past)}),
		"parts":      ofStmt(api.TreeStmt{Kind: api.StmtPut, Other: "o", Expr: chain(api.MaxExpr + past)}),
	}
}

// refused: Show answers an error, and nothing else.
func refused(t *testing.T, what string, u api.Tree, want api.Errno) {
	t.Helper()
	if s, e := show.Show(u); s != "" || e != want {
		t.Errorf("C1: %s: %q %d, want %d", what, s, e, want)
	}
}

// C1: each limit at its bound and past it.
func TestShowLimits(t *testing.T) {
	for what, u := range limits(0) {
		s, e := show.Show(u)
		v, _, f := tree.Parse(s)
		if e != api.OK || f != api.OK || !show.Same(u, v) || !alikeTrees(u, v) {
			t.Errorf("C1, C3: %s: %q %d %d", what, s, e, f)
		}
	}
	for what, u := range limits(1) {
		refused(t, what, u, api.ErrMany)
		u.Main = append([]api.TreeStmt{{Kind: 99}}, u.Main...)
		refused(t, what+", and a kind that is none", u, api.ErrMany)
	}
}

// C1: trees that are those of no text.
func TestShowErrors(t *testing.T) {
	for what, u := range map[string]api.Tree{
		"a declaration's kind":       ofDecl(api.TreeDecl{Name: "a"}),
		"a kind past the last one":   ofDecl(api.TreeDecl{Kind: 8, Name: "a"}),
		"no name":                    ofDecl(api.TreeDecl{Kind: api.DeclActor}),
		"a word":                     ofDecl(api.TreeDecl{Kind: api.DeclActor, Name: "in"}),
		"a name that is none":        ofDecl(api.TreeDecl{Kind: api.DeclActor, Name: "a;"}),
		"a name too long":            ofDecl(api.TreeDecl{Kind: api.DeclActor, Name: "abcdefghijklm"}),
		"a channel without a label":  ofDecl(api.TreeDecl{Kind: api.DeclIn, Name: "i"}),
		"a label that is not given":  ofDecl(api.TreeDecl{Kind: api.DeclVar, Name: "x", Label: []api.TreePolicy{{Owner: "a"}}}),
		"a result of no function":    ofDecl(api.TreeDecl{Kind: api.DeclVar, Name: "x", Result: one}),
		"a function without result":  ofDecl(api.TreeDecl{Kind: api.DeclFunc, Name: "f"}),
		"a command's kind":           ofStmt(api.TreeStmt{}),
		"a kind of command past all": ofStmt(api.TreeStmt{Kind: 9, Expr: one}),
		"an else of while":           ofStmt(api.TreeStmt{Kind: api.StmtWhile, Expr: one, Else: []api.TreeStmt{nested(1)}}),
		"an expression's kind":       ofStmt(api.TreeStmt{Kind: api.StmtIf}),
		"a kind of expression":       ofStmt(api.TreeStmt{Kind: api.StmtIf, Expr: api.TreeExpr{Kind: 8, Args: fill(one, 2)}}),
		"an arg of three":            ofStmt(api.TreeStmt{Kind: api.StmtIf, Expr: api.TreeExpr{Kind: api.ExprAdd, Args: fill(one, 3)}}),
		"too great a number":         ofStmt(api.TreeStmt{Kind: api.StmtIf, Expr: api.TreeExpr{Kind: api.ExprNumber, N: api.MaxNumber + 1}}),
		"too small a number":         ofStmt(api.TreeStmt{Kind: api.StmtIf, Expr: api.TreeExpr{Kind: api.ExprNumber, N: -api.MaxNumber - 1}}),
	} {
		refused(t, what, u, api.ErrForm)
	}
}

// C1: errors are those of Check, whatever is wrong.
func TestShowErrorsAreThoseOfCheck(t *testing.T) {
	r := rand.New(rand.NewSource(2))
	seen := map[api.Errno]int{}
	for range 8000 {
		u, _, _ := tree.Parse(makeText(r))
		spoil(r, &u)
		want := tree.Check(u)
		seen[want]++
		if s, e := show.Show(u); e != want || (s == "") != (want != api.OK) {
			t.Fatalf("C1: Show(%+v): %q %d, want %d", u, s, e, want)
		}
	}
	if seen[api.OK] < 500 || seen[api.ErrForm] < 500 || seen[api.ErrMany] < 1 {
		t.Errorf("%v", seen)
	}
}

// P1: Show ends on lists that hold themselves.
func TestShowEnds(t *testing.T) {
	refused(t, "commands", api.Tree{Main: selfStmts()}, api.ErrMany)
	refused(t, "expressions", ofStmt(api.TreeStmt{Kind: api.StmtIf, Expr: selfExprs()[0]}), api.ErrMany)
	refused(t, "many commands", api.Tree{Main: make([]api.TreeStmt, 1<<16)}, api.ErrMany)
}

// P2: trees are only read, and the room behind their lists is not touched.
func TestOnlyReads(t *testing.T) {
	r := rand.New(rand.NewSource(3))
	for range 500 {
		u, _, _ := tree.Parse(makeText(r))
		if r.Intn(3) == 0 {
			spoil(r, &u)
		}
		roomy := copied(reflect.ValueOf(u), 3)
		was := copied(roomy, 0).Interface()
		v := roomy.Interface().(api.Tree)
		show.Show(v)
		show.Same(v, copyTree(u))
		show.Same(copyTree(u), v)
		if !reflect.DeepEqual(was, copied(roomy, 0).Interface()) {
			t.Fatalf("P2: %v became %v", was, roomy)
		}
		visit(roomy, "", func(l reflect.Value, _ string) {
			if l.Kind() != reflect.Slice {
				return
			}
			for i := l.Len(); i < l.Cap(); i++ {
				if !l.Slice(0, l.Cap()).Index(i).IsZero() {
					t.Fatalf("P2: behind %v stands %v", l, l.Slice(0, l.Cap()))
				}
			}
		})
	}
}

// P2, P3: what is shown stays, whatever becomes of the tree; and it is the same each time, whoever asks at the same time.
func TestShowSameEachTime(t *testing.T) {
	u, _, _ := tree.Parse(example)
	first, _ := show.Show(u)
	var all sync.WaitGroup
	for range 8 {
		all.Add(1)
		go func() {
			defer all.Done()
			for range 50 {
				expect(t, u, example)
				refused(t, "nothing", ofStmt(api.TreeStmt{}), api.ErrForm)
				if !show.Same(u, u) || show.Same(u, api.Tree{}) {
					t.Error("P3: Same")
				}
			}
		}()
	}
	all.Wait()
	u.Decls[0].Name, u.Main[0].Kind = "carol", 0
	if first != example {
		t.Errorf("P2: %q", first)
	}
}
