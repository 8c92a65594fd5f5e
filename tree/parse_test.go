package tree_test

import (
	"math/rand"
	"reflect"
	"strconv"
	"strings"
	"sync"
	"testing"
	"unsafe"

	"veilwork/api"
	"veilwork/tree"
)

func num(at, n int) api.TreeExpr {
	return api.TreeExpr{Kind: api.ExprNumber, At: at, N: n}
}

func id(at int, name string) api.TreeExpr {
	return api.TreeExpr{Kind: api.ExprName, At: at, Name: name}
}

func op(kind, at int, a, b api.TreeExpr) api.TreeExpr {
	return api.TreeExpr{Kind: kind, At: at, Args: []api.TreeExpr{a, b}}
}

func repeat(s, between string, n int) string {
	return strings.TrimSuffix(strings.Repeat(s+between, n), between)
}

// B1: each kind of declaration.
func TestParseDecls(t *testing.T) {
	for s, want := range map[string]api.TreeDecl{
		"actor a;":             {Kind: api.DeclActor, Name: "a"},
		"grant a b;":           {Kind: api.DeclGrant, Name: "a", Other: "b"},
		"speak a;":             {Kind: api.DeclSpeak, Name: "a"},
		"in i {};":             {Kind: api.DeclIn, Name: "i", Given: true},
		"out o {};":            {Kind: api.DeclOut, Name: "o", Given: true},
		"var x;":               {Kind: api.DeclVar, Name: "x"},
		"var x {};":            {Kind: api.DeclVar, Name: "x", Given: true},
		"in i {a:};":           {Kind: api.DeclIn, Name: "i", Given: true, Label: []api.TreePolicy{{At: 6, Owner: "a"}}},
		"out o {a! b};":        {Kind: api.DeclOut, Name: "o", Given: true, Label: []api.TreePolicy{{At: 7, Owner: "a", Write: true, Names: []string{"b"}}}},
		"var x {a: b, b; c!};": {Kind: api.DeclVar, Name: "x", Given: true, Label: []api.TreePolicy{{At: 7, Owner: "a", Names: []string{"b", "b"}}, {At: 16, Owner: "c", Write: true}}},
		"func f() {return 1;}": {Kind: api.DeclFunc, Name: "f", Result: num(17, 1)},
		"func f(a, b) { get a b; return (a < -3); }": {Kind: api.DeclFunc, Name: "f", Params: []string{"a", "b"},
			Body:   []api.TreeStmt{{Kind: api.StmtGet, At: 15, Name: "a", Other: "b"}},
			Result: op(api.ExprLess, 31, id(32, "a"), num(36, -3))},
	} {
		u, at, e := tree.Parse(s + " main {}")
		if !same(u, api.Tree{Decls: []api.TreeDecl{want}}) || at != 0 || e != api.OK {
			t.Errorf("B1: Parse of %q: %v %d %d, want %v", s, u, at, e, want)
		}
	}
}

// B1: each kind of command, and of expression.
func TestParseStmts(t *testing.T) {
	for s, want := range map[string]api.TreeStmt{
		"x = y;":                    {Kind: api.StmtSet, Name: "x", Expr: id(4, "y")},
		"x = 0;":                    {Kind: api.StmtSet, Name: "x", Expr: num(4, 0)},
		"x = -9999999;":             {Kind: api.StmtSet, Name: "x", Expr: num(4, -9999999)},
		"x = - 7;":                  {Kind: api.StmtSet, Name: "x", Expr: num(4, -7)},
		"x = (1 + 2);":              {Kind: api.StmtSet, Name: "x", Expr: op(api.ExprAdd, 4, num(5, 1), num(9, 2))},
		"x = (1 - -2);":             {Kind: api.StmtSet, Name: "x", Expr: op(api.ExprSub, 4, num(5, 1), num(9, -2))},
		"x = (a * b);":              {Kind: api.StmtSet, Name: "x", Expr: op(api.ExprMul, 4, id(5, "a"), id(9, "b"))},
		"x = (a < b);":              {Kind: api.StmtSet, Name: "x", Expr: op(api.ExprLess, 4, id(5, "a"), id(9, "b"))},
		"x = (a==b);":               {Kind: api.StmtSet, Name: "x", Expr: op(api.ExprSame, 4, id(5, "a"), id(8, "b"))},
		"x = ((1-2)*3);":            {Kind: api.StmtSet, Name: "x", Expr: op(api.ExprMul, 4, op(api.ExprSub, 5, num(6, 1), num(8, 2)), num(11, 3))},
		"x = f();":                  {Kind: api.StmtCall, Name: "x", Other: "f"},
		"x = f(1, (y+2));":          {Kind: api.StmtCall, Name: "x", Other: "f", Args: []api.TreeExpr{num(6, 1), op(api.ExprAdd, 9, id(10, "y"), num(12, 2))}},
		"get x i;":                  {Kind: api.StmtGet, Name: "x", Other: "i"},
		"put o x;":                  {Kind: api.StmtPut, Other: "o", Expr: id(6, "x")},
		"reveal x y;":               {Kind: api.StmtReveal, Name: "x", Expr: id(9, "y")},
		"trust x 5;":                {Kind: api.StmtTrust, Name: "x", Expr: num(8, 5)},
		"if x {}":                   {Kind: api.StmtIf, Expr: id(3, "x")},
		"if x {} else {}":           {Kind: api.StmtIf, Expr: id(3, "x")},
		"if 1 { get x i; }":         {Kind: api.StmtIf, Expr: num(3, 1), Then: []api.TreeStmt{{Kind: api.StmtGet, At: 7, Name: "x", Other: "i"}}},
		"if 1 {} else { get x i; }": {Kind: api.StmtIf, Expr: num(3, 1), Else: []api.TreeStmt{{Kind: api.StmtGet, At: 15, Name: "x", Other: "i"}}},
		"while 1 {}":                {Kind: api.StmtWhile, Expr: num(6, 1)},
		"while 1 { while 2 {} }":    {Kind: api.StmtWhile, Expr: num(6, 1), Then: []api.TreeStmt{{Kind: api.StmtWhile, At: 10, Expr: num(16, 2)}}},
	} {
		lead := "main {"
		u, at, e := tree.Parse(lead + s + "}")
		shifted := api.Tree{Main: []api.TreeStmt{want}}
		shift(&shifted, len(lead))
		if !same(u, shifted) || at != 0 || e != api.OK {
			t.Errorf("B1: Parse of %q: %v %d %d, want %v", s, u, at, e, shifted)
		}
	}
}

// shift all places of a tree.
func shift(t *api.Tree, by int) {
	visit(reflect.ValueOf(t).Elem(), func(v reflect.Value) {
		if v.Kind() == reflect.Struct && v.FieldByName("Kind").IsValid() && v.FieldByName("Kind").Int() != 0 {
			v.FieldByName("At").SetInt(v.FieldByName("At").Int() + int64(by))
		}
	})
}

// B1: all words, and names that begin with one.
func TestWordsAreNoNames(t *testing.T) {
	all := strings.Fields(words)
	if len(all) != 16 {
		t.Fatalf("%d words", len(all))
	}
	for _, w := range all {
		for _, lead := range []string{"actor ", "grant a ", "in i {", "in i {a: b, ", "func f(a, ", "main { get ", "main { get x ", "main { put o "} {
			if _, at, e := tree.Parse(lead + w + " "); at != len(lead) || e != api.ErrForm {
				t.Errorf("B1: %q behind %q: %d %d", w, lead, at, e)
			}
			if _, at, e := tree.Parse(lead + w + "0 "); at != len(lead+w+"0 ") || e != api.ErrForm {
				t.Errorf("B1: %q behind %q: %d %d", w+"0", lead, at, e)
			}
		}
		if e := tree.Check(api.Tree{Decls: []api.TreeDecl{{Kind: api.DeclActor, Name: w}}}); e != api.ErrForm {
			t.Errorf("B3: %q: %d", w, e)
		}
		if e := tree.Check(api.Tree{Decls: []api.TreeDecl{{Kind: api.DeclActor, Name: w + "0"}}}); e != api.OK {
			t.Errorf("B3: %q: %d", w+"0", e)
		}
	}
}

// B2: which error, and where.
func TestParseErrors(t *testing.T) {
	for _, c := range []struct {
		text string
		at   int
		e    api.Errno
	}{
		{"", 0, api.ErrForm},
		{" \n# x", 5, api.ErrForm},
		{"main", 4, api.ErrForm},
		{"main {\n", 7, api.ErrForm},
		{"main {} main {}", 8, api.ErrForm},
		{"main {} actor a;", 8, api.ErrForm},
		{"main {};", 7, api.ErrForm},
		{"x = 1;", 0, api.ErrForm},
		{"5", 0, api.ErrForm},
		{"actor a, b; main {}", 7, api.ErrForm},
		{"grant a; main {}", 7, api.ErrForm},
		{"in i; main {}", 4, api.ErrForm},
		{"actor a {}; main {}", 8, api.ErrForm},
		{"var x {} {}; main {}", 9, api.ErrForm},
		{"var x {;}; main {}", 7, api.ErrForm},
		{"var x {a}; main {}", 8, api.ErrForm},
		{"var x {a:;}; main {}", 10, api.ErrForm},
		{"var x {a: b c}; main {}", 12, api.ErrForm},
		{"var x {a: b,}; main {}", 12, api.ErrForm},
		{"var x {a:! b}; main {}", 9, api.ErrForm},
		{"func f { return 1; } main {}", 7, api.ErrForm},
		{"func f() { return; } main {}", 17, api.ErrForm},
		{"func f() { return 1; x = 2; } main {}", 21, api.ErrForm},
		{"func f() { if 1 { return 1; } return 2; } main {}", 18, api.ErrForm},
		{"func f() { return 1; }; main {}", 22, api.ErrForm},
		{"main { return 1; }", 7, api.ErrForm},
		{"main { actor a; }", 7, api.ErrForm},
		{"main { x = y z; }", 13, api.ErrForm},
		{"main { x = f(1 2); }", 15, api.ErrForm},
		{"main { x = f()(); }", 14, api.ErrForm},
		{"main { x = (f() + 1); }", 13, api.ErrForm},
		{"main { x = (y); }", 13, api.ErrForm},
		{"main { x = 1(); }", 12, api.ErrForm},
		{"main { x = (1 + 2)(3); }", 18, api.ErrForm},
		{"main { x = 1 + 2; }", 13, api.ErrForm},
		{"main { x = (1 + 2 + 3); }", 18, api.ErrForm},
		{"main { x = (1 ! 2); }", 14, api.ErrForm},
		{"main { x = -0; }", 12, api.ErrForm},
		{"main { x = -y; }", 12, api.ErrForm},
		{"main { x = -(1 + 2); }", 12, api.ErrForm},
		{"main { x == 1; }", 9, api.ErrForm},
		{"main { f(); }", 8, api.ErrForm},
		{"main { put o f(); }", 14, api.ErrForm},
		{"main { get x; }", 12, api.ErrForm},
		{"main { get x 1; }", 13, api.ErrForm},
		{"main { if x {} else if y {} }", 20, api.ErrForm},
		{"main { while x {} else {} }", 18, api.ErrForm},
		{"main { ; }", 7, api.ErrForm},
		{"main { {} }", 7, api.ErrForm},
		// Errors of Scan come ahead of all others, wherever they are.
		{"x x X", 4, api.ErrForm},
		{"x 00", 2, api.ErrForm},
		{"x 12345678", 2, api.ErrMany},
		{"x abcdefghijklm", 2, api.ErrMany},
		{"x" + strings.Repeat(" ", api.MaxText), 0, api.ErrMany},
		// So does a token that can't stand there ahead of limits.
		{repeat("actor a;", "", 31) + "main {} x", 31*8 + 8, api.ErrForm},
		{repeat("actor a;", "", 31) + "main {}", 0, api.ErrMany},
	} {
		u, at, e := tree.Parse(c.text)
		if !same(u, api.Tree{}) || at != c.at || e != c.e {
			t.Errorf("B2: Parse(%.60q): %v %d %d, want %d %d", c.text, u, at, e, c.at, c.e)
		}
	}
}

// B2: at most 60 brackets, whatever else stands in them.
func TestParseBrackets(t *testing.T) {
	for _, lead := range []string{"main { x = ", "main { x = f(", "main { if ", "func f() { return "} {
		for _, step := range []string{"(", "(1 + "} {
			full := lead + strings.Repeat(step, 60)
			if _, at, e := tree.Parse(full); at != len(full) || e != api.ErrForm {
				t.Errorf("B2: 60 of %q behind %q: %d %d", step, lead, at, e)
			}
			if _, at, e := tree.Parse(full + "("); at != len(full) || e != api.ErrForm {
				t.Errorf("B2: 61 of %q behind %q: %d %d", step, lead, at, e)
			}
			if _, at, e := tree.Parse(full + "x"); at != len(full)+1 || e != api.ErrForm {
				t.Errorf("B2: 60 of %q behind %q, and a name: %d %d", step, lead, at, e)
			}
		}
	}
	s := "main { x = " + strings.Repeat("(1 + ", 60) + "1" + strings.Repeat(")", 60) + "; }"
	if _, at, e := tree.Parse(s); at != 0 || e != api.ErrMany {
		t.Errorf("B2: 60 brackets are too many parts: %d %d", at, e)
	}
}

// B2, B3: each limit of trees at its bound, and one past it.
func TestParseLimits(t *testing.T) {
	chain := func(n int) string { return strings.Repeat("(1 + ", n) + "1" + strings.Repeat(")", n) }
	deep := func(n int) string { return repeat("while 1 {", "", n-1) + "x = 1;" + repeat("}", "", n-1) }
	for what, text := range map[string]func(n int) string{
		"MaxDecls " + strconv.Itoa(api.MaxDecls): func(n int) string { return repeat("speak a;", "", n) + "main {}" },
		"MaxStmts " + strconv.Itoa(api.MaxStmts): func(n int) string { return "main {" + repeat("x = 1;", "", n) + "}" },
		"MaxStmts in all " + strconv.Itoa(api.MaxStmts): func(n int) string {
			return "func f() {" + repeat("x = 1;", "", 20) + "return 1; } func g() { if 1 { x = 1; } else { x = 1; x = 2; } return 1; } main {" + repeat("get x i;", "", n-24) + "}"
		},
		"MaxDeep of Main " + strconv.Itoa(api.MaxDeep):       func(n int) string { return "main {" + deep(n) + "}" },
		"MaxDeep of a function " + strconv.Itoa(api.MaxDeep): func(n int) string { return "func f() {" + deep(n) + "return 1; } main {}" },
		"MaxDeep in else " + strconv.Itoa(api.MaxDeep):       func(n int) string { return "main { if 1 {} else {" + deep(n-1) + "} }" },
		"MaxPolicies " + strconv.Itoa(api.MaxPolicies):       func(n int) string { return "in i {" + repeat("a:", ";", n) + "}; main {}" },
		"MaxNames " + strconv.Itoa(api.MaxNames):             func(n int) string { return "var x {a!" + repeat("b", ",", n) + "}; main {}" },
		"MaxParams " + strconv.Itoa(api.MaxParams):           func(n int) string { return "func f(" + repeat("a", ",", n) + ") { return 1; } main {}" },
		"MaxParams of Args " + strconv.Itoa(api.MaxParams):   func(n int) string { return "main { x = f(" + repeat("a", ",", n) + "); }" },
		"MaxExpr of a command 7":                             func(n int) string { return "main { x = " + chain(n) + "; }" },
		"MaxExpr of Args 7":                                  func(n int) string { return "main { x = f(1, " + chain(n) + "); }" },
		"MaxExpr of a Result 7":                              func(n int) string { return "func f() { return " + chain(n) + "; } main {}" },
		"MaxExpr in a loop 7":                                func(n int) string { return "main { while 1 { if " + chain(n) + " {} } }" },
	} {
		most, _ := strconv.Atoi(what[strings.LastIndex(what, " ")+1:])
		if u, at, e := tree.Parse(text(most)); at != 0 || e != api.OK || tree.Check(u) != api.OK {
			t.Errorf("B3: %s: %d %d", what, at, e)
		}
		if u, at, e := tree.Parse(text(most + 1)); !same(u, api.Tree{}) || at != 0 || e != api.ErrMany {
			t.Errorf("B3: more than %s: %d %d", what, at, e)
		}
	}
	full := "main {}" + strings.Repeat(" ", api.MaxText-7)
	if _, at, e := tree.Parse(full); at != 0 || e != api.OK {
		t.Errorf("B2: MaxText: %d %d", at, e)
	}
	if _, at, e := tree.Parse(full + " "); at != 0 || e != api.ErrMany {
		t.Errorf("B2: more than MaxText: %d %d", at, e)
	}
}

// B1, B4: what is written as a text is parsed to the same tree, with each At where its first token begins; and it passes Check.
func TestParseRandomTrees(t *testing.T) {
	r := rand.New(rand.NewSource(6))
	for range 3000 {
		m := maker{r: r}
		want := m.tree()
		s := text(r, want)
		if len(s) > api.MaxText {
			continue
		}
		u, at, e := tree.Parse(s)
		if !same(u, want) || at != 0 || e != api.OK {
			t.Fatalf("B1: Parse(%q): %v %d %d, want %v", s, u, at, e, want)
		}
		if e := tree.Check(u); e != api.OK {
			t.Fatalf("B4: %q is parsed, and Check says %d", s, e)
		}
	}
}

// P1: whatever bytes come in; with an error the tree is zero.
func TestParseRandomBytes(t *testing.T) {
	r := rand.New(rand.NewSource(7))
	for range 5000 {
		m := maker{r: r}
		b := []byte(text(r, m.tree()))
		for range r.Intn(3) {
			b[r.Intn(len(b))] = byte(r.Intn(256))
		}
		u, at, e := tree.Parse(string(b))
		if e != api.OK && !reflect.DeepEqual(u, api.Tree{}) || e == api.OK && at != 0 || at < 0 || at > len(b) {
			t.Fatalf("P1: Parse(%q): %v %d %d", b, u, at, e)
		}
		if e == api.OK && tree.Check(u) != api.OK {
			t.Fatalf("B4: Parse(%q) does not pass Check", b)
		}
	}
	for _, s := range []string{"if 1 {", "while 1 {", "(", "func f(", "{", "x = f(", "else {"} {
		tree.Parse("main { " + strings.Repeat(s, 900))
		tree.Parse(strings.Repeat(s, 900))
	}
}

// P2: no two lists of an answer share memory, nor with an answer ahead of it.
func TestParsedListsAreTheirOwn(t *testing.T) {
	type room struct{ from, to uintptr }
	r := rand.New(rand.NewSource(8))
	for range 300 {
		m := maker{r: r}
		s := text(r, m.tree())
		u, _, _ := tree.Parse(s)
		v, _, _ := tree.Parse(s)
		var rooms []room
		see := func(v reflect.Value) {
			if v.Kind() != reflect.Slice || v.Cap() == 0 {
				return
			}
			n := room{v.Pointer(), v.Pointer() + uintptr(v.Cap())*v.Type().Elem().Size()}
			for _, o := range rooms {
				if n.from < o.to && o.from < n.to {
					t.Fatalf("P2: lists of Parse(%q) share memory", s)
				}
			}
			rooms = append(rooms, n)
		}
		visit(reflect.ValueOf(&u).Elem(), see)
		visit(reflect.ValueOf(&v).Elem(), see)
	}
}

// P2: a later change of the text is not seen.
func TestParsedTreeKeepsNoText(t *testing.T) {
	s := "actor a; var x {a: b}; func f(n) { return n; } main { x = f(y); }"
	b := []byte(s)
	u, _, _ := tree.Parse(unsafe.String(&b[0], len(b)))
	for i := range b {
		b[i] = '%'
	}
	if v, _, e := tree.Parse(s); e != api.OK || !same(u, v) {
		t.Errorf("P2: the text was changed, and the tree is %v", u)
	}
}

// P3: the same each time, whatever was asked between or at the same time.
func TestParseSameEachTime(t *testing.T) {
	r := rand.New(rand.NewSource(9))
	type answer struct {
		tree api.Tree
		at   int
		e    api.Errno
	}
	ask := func(s string) answer {
		u, at, e := tree.Parse(s)
		return answer{u, at, e}
	}
	var texts []string
	var first []answer
	for i := range 100 {
		m := maker{r: r}
		s := text(r, m.tree())
		if i%2 == 0 {
			s = s[:r.Intn(len(s))]
		}
		texts, first = append(texts, s), append(first, ask(s))
	}
	var all sync.WaitGroup
	for range 4 {
		all.Add(1)
		go func() {
			defer all.Done()
			for i, s := range texts {
				if a := ask(s); !same(a.tree, first[i].tree) || a.at != first[i].at || a.e != first[i].e {
					t.Errorf("P3: Parse(%q): %v, then %v", s, first[i], a)
				}
			}
		}()
	}
	all.Wait()
}
