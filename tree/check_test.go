package tree_test

import (
	"math/rand"
	"reflect"
	"strings"
	"testing"

	"veilwork/api"
	"veilwork/tree"
)

var one = api.TreeExpr{Kind: api.ExprNumber, N: 1}

func ofDecl(d api.TreeDecl) api.Tree { return api.Tree{Decls: []api.TreeDecl{d}} }

func ofStmt(s api.TreeStmt) api.Tree { return api.Tree{Main: []api.TreeStmt{s}} }

func ofExpr(e api.TreeExpr) api.Tree {
	return ofStmt(api.TreeStmt{Kind: api.StmtSet, Name: "x", Expr: e})
}

// places a tree's command, wherever commands stand.
func places(s api.TreeStmt) []api.Tree {
	in := []api.TreeStmt{{Kind: api.StmtPut, Other: "o", Expr: one}, s}
	return []api.Tree{
		ofStmt(s),
		ofStmt(api.TreeStmt{Kind: api.StmtIf, Expr: one, Then: in}),
		ofStmt(api.TreeStmt{Kind: api.StmtIf, Expr: one, Else: in}),
		ofStmt(api.TreeStmt{Kind: api.StmtWhile, Expr: one, Then: in}),
		ofDecl(api.TreeDecl{Kind: api.DeclFunc, Name: "f", Body: in, Result: one}),
	}
}

// exprPlaces: trees with an expression wherever one stands.
func exprPlaces(e api.TreeExpr) []api.Tree {
	out := []api.Tree{
		ofDecl(api.TreeDecl{Kind: api.DeclFunc, Name: "f", Result: e}),
		ofStmt(api.TreeStmt{Kind: api.StmtCall, Name: "x", Other: "f", Args: []api.TreeExpr{one, e}}),
		ofStmt(api.TreeStmt{Kind: api.StmtPut, Other: "o", Expr: e}),
		ofStmt(api.TreeStmt{Kind: api.StmtIf, Expr: e}),
		ofStmt(api.TreeStmt{Kind: api.StmtWhile, Expr: e}),
		ofStmt(api.TreeStmt{Kind: api.StmtReveal, Name: "x", Expr: e}),
		ofStmt(api.TreeStmt{Kind: api.StmtTrust, Name: "x", Expr: e}),
		ofExpr(e),
	}
	for kind := api.ExprAdd; kind <= api.ExprSame; kind++ {
		out = append(out, ofExpr(api.TreeExpr{Kind: kind, Args: []api.TreeExpr{one, e}}))
		out = append(out, ofExpr(api.TreeExpr{Kind: kind, Args: []api.TreeExpr{e, one}}))
	}
	return out
}

// expect of Check the same for all trees.
func expect(t *testing.T, want api.Errno, what any, trees ...api.Tree) {
	t.Helper()
	for _, u := range trees {
		if e := tree.Check(u); e != want {
			t.Errorf("B3: %v: Check(%+v): %d, want %d", what, u, e, want)
		}
	}
}

// answer: OK, or ErrForm, if not.
func answer(ok bool) api.Errno {
	if ok {
		return api.OK
	}
	return api.ErrForm
}

// B3: a declaration has just what its kind names.
func TestCheckDecls(t *testing.T) {
	expect(t, api.OK, "nothing", api.Tree{}, api.Tree{Decls: []api.TreeDecl{}, Main: []api.TreeStmt{}})
	for kind := -1; kind <= 9; kind++ {
		d := api.TreeDecl{Kind: kind, Name: "a", At: 77}
		channel := kind == api.DeclIn || kind == api.DeclOut
		label := channel || kind == api.DeclVar
		switch kind {
		case api.DeclGrant:
			d.Other = "b"
		case api.DeclIn, api.DeclOut:
			d.Given = true
		case api.DeclFunc:
			d.Result = one
		}
		known := kind >= api.DeclActor && kind <= api.DeclFunc
		expect(t, answer(known), kind, ofDecl(d))
		with := func(what string, ok bool, set func(d *api.TreeDecl)) {
			t.Helper()
			c := d
			set(&c)
			expect(t, answer(ok && known), what, ofDecl(c))
		}
		with("no name", false, func(d *api.TreeDecl) { d.Name = "" })
		with("a word", false, func(d *api.TreeDecl) { d.Name = "main" })
		with("other", kind == api.DeclGrant, func(d *api.TreeDecl) { d.Other = "c" })
		with("no other", kind != api.DeclGrant, func(d *api.TreeDecl) { d.Other = "" })
		with("a wrong other", false, func(d *api.TreeDecl) { d.Other = "B" })
		with("given", label, func(d *api.TreeDecl) { d.Given = true })
		with("not given", !channel, func(d *api.TreeDecl) { d.Given = false })
		policy := []api.TreePolicy{{Owner: "b", At: 3}}
		with("a label", label, func(d *api.TreeDecl) { d.Given, d.Label = true, policy })
		with("a label, not given", false, func(d *api.TreeDecl) { d.Given, d.Label = false, policy })
		with("parameters", kind == api.DeclFunc, func(d *api.TreeDecl) { d.Params = []string{"b", "b"} })
		with("a wrong parameter", false, func(d *api.TreeDecl) { d.Params = []string{"b", "if"} })
		with("a body", kind == api.DeclFunc, func(d *api.TreeDecl) {
			d.Body = []api.TreeStmt{{Kind: api.StmtGet, Name: "x", Other: "i"}}
		})
		with("a wrong body", false, func(d *api.TreeDecl) { d.Body = []api.TreeStmt{{}} })
		with("a result", kind == api.DeclFunc, func(d *api.TreeDecl) { d.Result = one })
		with("a result of no kind", false, func(d *api.TreeDecl) { d.Result = api.TreeExpr{N: 1} })
		with("a result with a name", false, func(d *api.TreeDecl) { d.Result = api.TreeExpr{Name: "a"} })
		with("a result with args", false, func(d *api.TreeDecl) { d.Result = api.TreeExpr{Args: []api.TreeExpr{one}} })
		with("only a place", kind != api.DeclFunc, func(d *api.TreeDecl) { d.Result = api.TreeExpr{At: 5} })
		with("empty lists", true, func(d *api.TreeDecl) {
			d.Label, d.Params, d.Body, d.Result.Args = []api.TreePolicy{}, []string{}, []api.TreeStmt{}, []api.TreeExpr{}
		})
	}
}

// B3: names of chapter 1, none of the words, wherever a name stands.
func TestCheckNames(t *testing.T) {
	for name, ok := range map[string]bool{
		"a": true, "z0": true, "abcdefghijkl": true, "iff": true, "a23456789012": true,
		"": false, "A": false, "aB": false, "0": false, "0a": false, "a b": false, " a": false, "a ": false, "a\n": false, "a#": false,
		"a_": false, ";": false, "==": false, "abcdefghijklm": false, "\u00e4": false, "a\x00": false, "while": false, "return": false,
		strings.Repeat("a", api.MaxText+1): false,
	} {
		policy := func(p api.TreePolicy) api.Tree {
			return ofDecl(api.TreeDecl{Kind: api.DeclOut, Name: "o", Given: true, Label: []api.TreePolicy{{Owner: "b"}, p}})
		}
		expect(t, answer(ok), name,
			ofDecl(api.TreeDecl{Kind: api.DeclActor, Name: name}),
			ofDecl(api.TreeDecl{Kind: api.DeclGrant, Name: name, Other: "b"}),
			ofDecl(api.TreeDecl{Kind: api.DeclGrant, Name: "a", Other: name}),
			ofDecl(api.TreeDecl{Kind: api.DeclVar, Name: name}),
			ofDecl(api.TreeDecl{Kind: api.DeclFunc, Name: name, Result: one}),
			ofDecl(api.TreeDecl{Kind: api.DeclFunc, Name: "f", Result: one, Params: []string{"a", name}}),
			policy(api.TreePolicy{Owner: name}),
			policy(api.TreePolicy{Owner: "a", Write: true, Names: []string{"b", name}}))
		for _, s := range []api.TreeStmt{
			{Kind: api.StmtSet, Name: name, Expr: one},
			{Kind: api.StmtCall, Name: name, Other: "f"},
			{Kind: api.StmtCall, Name: "x", Other: name},
			{Kind: api.StmtGet, Name: name, Other: "i"},
			{Kind: api.StmtGet, Name: "x", Other: name},
			{Kind: api.StmtPut, Other: name, Expr: one},
			{Kind: api.StmtReveal, Name: name, Expr: one},
			{Kind: api.StmtTrust, Name: name, Expr: one},
		} {
			expect(t, answer(ok), name, places(s)...)
		}
		expect(t, answer(ok), name, exprPlaces(api.TreeExpr{Kind: api.ExprName, Name: name})...)
	}
}

// B3: a command has just what its kind names.
func TestCheckStmts(t *testing.T) {
	for kind := -1; kind <= 10; kind++ {
		known := kind >= api.StmtSet && kind <= api.StmtWhile
		branch := kind == api.StmtIf || kind == api.StmtWhile
		name := known && !branch && kind != api.StmtPut
		other := kind == api.StmtCall || kind == api.StmtGet || kind == api.StmtPut
		expr := kind != api.StmtCall && kind != api.StmtGet
		s := api.TreeStmt{Kind: kind, At: -4}
		if name {
			s.Name = "x"
		}
		if other {
			s.Other = "y"
		}
		if expr {
			s.Expr = one
		}
		expect(t, answer(known), kind, places(s)...)
		with := func(what string, ok bool, set func(s *api.TreeStmt)) {
			t.Helper()
			c := s
			set(&c)
			expect(t, answer(ok && known), what, places(c)...)
		}
		get := []api.TreeStmt{{Kind: api.StmtGet, Name: "x", Other: "i"}}
		with("a name", name, func(s *api.TreeStmt) { s.Name = "z" })
		with("no name", !name, func(s *api.TreeStmt) { s.Name = "" })
		with("other", other, func(s *api.TreeStmt) { s.Other = "z" })
		with("no other", !other, func(s *api.TreeStmt) { s.Other = "" })
		with("an expression", expr, func(s *api.TreeStmt) { s.Expr = one })
		with("no expression", !expr, func(s *api.TreeStmt) { s.Expr = api.TreeExpr{At: 9} })
		with("an expression's N", false, func(s *api.TreeStmt) { s.Expr = api.TreeExpr{N: 1} })
		with("an expression's name", false, func(s *api.TreeStmt) { s.Expr = api.TreeExpr{Name: "a"} })
		with("an expression's args", false, func(s *api.TreeStmt) { s.Expr = api.TreeExpr{Args: []api.TreeExpr{one}} })
		with("args", kind == api.StmtCall, func(s *api.TreeStmt) { s.Args = []api.TreeExpr{one} })
		with("wrong args", false, func(s *api.TreeStmt) { s.Args = []api.TreeExpr{one, {}} })
		with("then", branch, func(s *api.TreeStmt) { s.Then = get })
		with("a wrong then", false, func(s *api.TreeStmt) { s.Then = []api.TreeStmt{{}} })
		with("else", kind == api.StmtIf, func(s *api.TreeStmt) { s.Else = get })
		with("a wrong else", false, func(s *api.TreeStmt) { s.Else = []api.TreeStmt{{}} })
		with("empty lists", true, func(s *api.TreeStmt) {
			s.Args, s.Then, s.Else, s.Expr.Args = []api.TreeExpr{}, []api.TreeStmt{}, []api.TreeStmt{}, []api.TreeExpr{}
		})
	}
}

// B3: an expression has just what its kind names, and as many Args as it must.
func TestCheckExprs(t *testing.T) {
	for kind := -1; kind <= 9; kind++ {
		known := kind >= api.ExprNumber && kind <= api.ExprSame
		for args := range 4 {
			e := api.TreeExpr{Kind: kind, At: 1 << 40, Args: make([]api.TreeExpr, args)}
			for i := range e.Args {
				e.Args[i] = one
			}
			must := 2
			if kind == api.ExprNumber || kind == api.ExprName {
				must = 0
			}
			if kind == api.ExprName {
				e.Name = "x"
			}
			ok := known && args == must
			expect(t, answer(ok), kind, exprPlaces(e)...)
			e.N = 1
			expect(t, answer(ok && kind == api.ExprNumber), "N", exprPlaces(e)...)
			e.N, e.Name = 0, "y"
			expect(t, answer(ok && kind == api.ExprName), "Name", exprPlaces(e)...)
		}
	}
	for n, ok := range map[int]bool{
		0: true, 1: true, -1: true, api.MaxNumber: true, -api.MaxNumber: true,
		api.MaxNumber + 1: false, -api.MaxNumber - 1: false, 1 << 62: false, -1 << 63: false,
	} {
		expect(t, answer(ok), n, exprPlaces(api.TreeExpr{Kind: api.ExprNumber, N: n})...)
	}
}

// chain: an expression of so many parts, if that is no even number.
func chain(parts int) api.TreeExpr {
	if parts <= 1 {
		return one
	}
	return api.TreeExpr{Kind: api.ExprSub, Args: []api.TreeExpr{one, chain(parts - 2)}}
}

// nested commands, so many in one another.
func nested(deep int) api.TreeStmt {
	if deep == 1 {
		return api.TreeStmt{Kind: api.StmtSet, Name: "x", Expr: one}
	}
	s := api.TreeStmt{Kind: api.StmtIf, Expr: one, Then: []api.TreeStmt{nested(deep - 1)}}
	if deep%2 == 0 {
		s.Then, s.Else = nil, s.Then
	}
	return s
}

func set(many int) []api.TreeStmt {
	l := make([]api.TreeStmt, many)
	for i := range l {
		l[i] = nested(1)
	}
	return l
}

func decls(many int) []api.TreeDecl {
	l := make([]api.TreeDecl, many)
	for i := range l {
		l[i] = api.TreeDecl{Kind: api.DeclActor, Name: "a"}
	}
	return l
}

func fill(many int) []string {
	l := make([]string, many)
	for i := range l {
		l[i] = "a"
	}
	return l
}

// limits: for each limit a tree that is at it, or past it by some.
func limits(past int) map[string]api.Tree {
	policies := make([]api.TreePolicy, api.MaxPolicies+past)
	for i := range policies {
		policies[i].Owner = "a"
	}
	args := make([]api.TreeExpr, api.MaxParams+past)
	for i := range args {
		args[i] = one
	}
	f := api.TreeDecl{Kind: api.DeclFunc, Name: "f", Result: one}
	body, params, result, deep := f, f, f, f
	body.Body = set(api.MaxStmts - 10)
	params.Params = fill(api.MaxParams + past)
	result.Result = chain(api.MaxExpr + 2*past)
	deep.Body = []api.TreeStmt{nested(api.MaxDeep + past)}
	return map[string]api.Tree{
		"declarations":       {Decls: decls(api.MaxDecls + past)},
		"commands":           {Main: set(api.MaxStmts + past)},
		"commands in all":    {Decls: []api.TreeDecl{body}, Main: append([]api.TreeStmt{nested(4)}, set(6+past)...)},
		"deep":               ofStmt(nested(api.MaxDeep + past)),
		"deep in a function": ofDecl(deep),
		"policies":           ofDecl(api.TreeDecl{Kind: api.DeclVar, Name: "x", Given: true, Label: policies}),
		"names":              ofDecl(api.TreeDecl{Kind: api.DeclIn, Name: "x", Given: true, Label: []api.TreePolicy{{Owner: "a"}, {Owner: "a", Names: fill(api.MaxNames + past)}}}),
		"parameters":         ofDecl(params),
		"args":               ofStmt(api.TreeStmt{Kind: api.StmtCall, Name: "x", Other: "f", Args: args}),
		"parts":              ofExpr(chain(api.MaxExpr + 2*past)),
		"parts of args":      ofStmt(api.TreeStmt{Kind: api.StmtCall, Name: "x", Other: "f", Args: []api.TreeExpr{one, chain(api.MaxExpr + 2*past)}}),
		"parts of a result":  ofDecl(result),
		"parts further in":   ofStmt(api.TreeStmt{Kind: api.StmtWhile, Expr: one, Then: []api.TreeStmt{{Kind: api.StmtIf, Expr: chain(api.MaxExpr + 2*past)}}}),
	}
}

// B3: each limit at its bound, and past it; ErrMany comes ahead of ErrForm.
func TestCheckLimits(t *testing.T) {
	for what, u := range limits(0) {
		expect(t, api.OK, what, u)
	}
	for what, u := range limits(1) {
		expect(t, api.ErrMany, what, u)
		u.Decls = append([]api.TreeDecl{{Kind: 99}}, u.Decls...)
		expect(t, api.ErrMany, what+", with a kind that is none ahead", u)
	}
	expect(t, api.ErrMany, "kinds that are none", api.Tree{Decls: make([]api.TreeDecl, api.MaxDecls+1)}, api.Tree{Main: make([]api.TreeStmt, api.MaxStmts+1)})
	expect(t, api.ErrForm, "kinds that are none", api.Tree{Decls: make([]api.TreeDecl, api.MaxDecls)}, api.Tree{Main: make([]api.TreeStmt, api.MaxStmts)})
}

// B3: limits hold too for what a kind does not name.
func TestCheckLimitsOfWhatIsNotNamed(t *testing.T) {
	flat := func(args int) api.TreeExpr { return api.TreeExpr{Kind: 42, Args: make([]api.TreeExpr, args)} }
	for past, want := range []api.Errno{api.ErrForm, api.ErrMany} {
		actor := func(set func(d *api.TreeDecl)) api.Tree {
			d := api.TreeDecl{Kind: api.DeclActor, Name: "a"}
			set(&d)
			return ofDecl(d)
		}
		get := func(set func(s *api.TreeStmt)) api.Tree {
			s := api.TreeStmt{Kind: api.StmtGet, Name: "x", Other: "i"}
			set(&s)
			return ofStmt(s)
		}
		expect(t, want, past,
			actor(func(d *api.TreeDecl) { d.Body = set(api.MaxStmts + past) }),
			actor(func(d *api.TreeDecl) { d.Body = []api.TreeStmt{nested(api.MaxDeep + past)} }),
			actor(func(d *api.TreeDecl) { d.Params = make([]string, api.MaxParams+past) }),
			actor(func(d *api.TreeDecl) { d.Label = make([]api.TreePolicy, api.MaxPolicies+past) }),
			actor(func(d *api.TreeDecl) { d.Label = []api.TreePolicy{{Names: make([]string, api.MaxNames+past)}} }),
			actor(func(d *api.TreeDecl) { d.Result = flat(api.MaxExpr - 1 + past) }),
			get(func(s *api.TreeStmt) { s.Args = make([]api.TreeExpr, api.MaxParams+past) }),
			get(func(s *api.TreeStmt) { s.Args = []api.TreeExpr{flat(api.MaxExpr - 1 + past)} }),
			get(func(s *api.TreeStmt) { s.Expr = flat(api.MaxExpr - 1 + past) }),
			get(func(s *api.TreeStmt) { s.Expr = api.TreeExpr{Args: []api.TreeExpr{flat(5), flat(7 + past)}} }),
			get(func(s *api.TreeStmt) { s.Then = set(api.MaxStmts - 1 + past) }),
			get(func(s *api.TreeStmt) { s.Then, s.Else = set(20), set(api.MaxStmts-21+past) }),
			get(func(s *api.TreeStmt) { s.Else = []api.TreeStmt{nested(api.MaxDeep - 1 + past)} }))
	}
}

// B4: Check answers OK just for trees that, written as a text, are parsed to what they are.
func TestCheckJustTreesOfTexts(t *testing.T) {
	r := rand.New(rand.NewSource(10))
	fine := 0
	for range 30000 {
		m := maker{r: r}
		u := m.tree()
		for range 1 + r.Intn(2) {
			spoil(r, &u)
		}
		s := text(r, u)
		if len(s) > api.MaxText {
			continue
		}
		v, _, e := tree.Parse(s)
		is := e == api.OK && sameButAt(u, v)
		if is {
			fine++
		}
		if c := tree.Check(u); (c == api.OK) != is {
			t.Fatalf("B4: Check(%+v): %d; its text %q: %+v %d", u, c, s, v, e)
		}
	}
	if fine < 1000 || fine > 29000 {
		t.Errorf("%d trees of texts", fine)
	}
}

// P1: Check ends on lists that hold themselves, and on very long or very deep ones.
func TestCheckEnds(t *testing.T) {
	l := []api.TreeStmt{{Kind: api.StmtIf, Expr: one}}
	l[0].Then, l[0].Else = l, l
	expect(t, api.ErrMany, "commands that hold themselves", api.Tree{Main: l}, ofDecl(api.TreeDecl{Kind: api.DeclFunc, Name: "f", Body: l, Result: one}))
	e := []api.TreeExpr{{Kind: api.ExprAdd}, {Kind: api.ExprAdd}}
	e[0].Args, e[1].Args = e, e
	expect(t, api.ErrMany, "expressions that hold themselves", exprPlaces(e[0])...)
	for _, u := range []api.Tree{
		{Main: make([]api.TreeStmt, 1<<16)},
		ofStmt(nested(1 << 12)),
		ofExpr(chain(1 << 12)),
	} {
		if e := tree.Check(u); e != api.ErrMany {
			t.Errorf("P1: %d", e)
		}
	}
}

// P2: trees that come in are only read, the spare room of their lists too.
func TestCheckOnlyReads(t *testing.T) {
	r := rand.New(rand.NewSource(11))
	for range 300 {
		m := maker{r: r}
		u := m.tree()
		if r.Intn(2) == 0 {
			spoil(r, &u)
		}
		roomy := spare(reflect.ValueOf(u))
		was := copyTree(roomy.Interface().(api.Tree))
		tree.Check(roomy.Interface().(api.Tree))
		if !same(was, roomy.Interface().(api.Tree)) || !spareIsEmpty(roomy) {
			t.Fatalf("P2: %v became %v", was, roomy)
		}
	}
}

// spare: a copy with room behind each list.
func spare(v reflect.Value) reflect.Value {
	out := reflect.New(v.Type()).Elem()
	out.Set(v)
	switch v.Kind() {
	case reflect.Struct:
		for i := range v.NumField() {
			out.Field(i).Set(spare(v.Field(i)))
		}
	case reflect.Slice:
		out.Set(reflect.MakeSlice(v.Type(), v.Len(), v.Len()+3))
		for i := range v.Len() {
			out.Index(i).Set(spare(v.Index(i)))
		}
	}
	return out
}

func spareIsEmpty(v reflect.Value) bool {
	empty := true
	visit(v, func(v reflect.Value) {
		if v.Kind() == reflect.Slice {
			for i := v.Len(); i < v.Cap(); i++ {
				empty = empty && v.Slice(0, v.Cap()).Index(i).IsZero()
			}
		}
	})
	return empty
}

// P3: the same each time.
func TestCheckSameEachTime(t *testing.T) {
	for range 3 {
		for what, u := range limits(0) {
			expect(t, api.OK, what, u)
		}
		for what, u := range limits(1) {
			expect(t, api.ErrMany, what, u)
		}
		expect(t, api.ErrForm, "no name", ofDecl(api.TreeDecl{Kind: api.DeclActor}))
	}
}
