package show_test

import (
	"math/rand"
	"reflect"
	"testing"

	"veilwork/api"
	"veilwork/show"
	"veilwork/tree"
)

// selfStmts: commands that hold themselves.
func selfStmts() []api.TreeStmt {
	l := fill(api.TreeStmt{Kind: api.StmtIf, Expr: one}, 2)
	for i := range l {
		l[i].Then, l[i].Else = l, l
	}
	return l
}

// selfExprs: expressions that hold themselves.
func selfExprs() []api.TreeExpr {
	l := fill(api.TreeExpr{Kind: api.ExprAdd}, 2)
	for i := range l {
		l[i].Args = l
	}
	return l
}

// spoil something somewhere in a tree.
func spoil(r *rand.Rand, t *api.Tree) {
	var l []reflect.Value
	visit(reflect.ValueOf(t).Elem(), "", func(v reflect.Value, _ string) {
		if v.Kind() != reflect.Struct {
			l = append(l, v)
		}
	})
	v := l[r.Intn(len(l))]
	switch v.Kind() {
	case reflect.Int:
		v.SetInt(int64(r.Intn(12) - 2))
	case reflect.String:
		v.SetString([]string{"", "a", "b", "x", "if", "A", "a b"}[r.Intn(7)])
	case reflect.Bool:
		v.SetBool(r.Intn(2) == 0)
	case reflect.Slice:
		if v.Len() > 0 && r.Intn(2) == 0 {
			v.Set(v.Slice(0, v.Len()-1))
			return
		}
		v.Set(reflect.AppendSlice(v.Slice3(0, v.Len(), v.Len()), reflect.MakeSlice(v.Type(), 1+r.Intn(20), 40)))
	}
}

// changes: does to one thing after another in a tree what makes it another one, and tells its name.
func changes(u *api.Tree, tell func(name string)) {
	var all []func()
	visit(reflect.ValueOf(u).Elem(), "", func(v reflect.Value, name string) {
		was := reflect.New(v.Type()).Elem()
		was.Set(v)
		to := func(set func()) {
			all = append(all, func() {
				set()
				tell(name)
				v.Set(was)
			})
		}
		switch v.Kind() {
		case reflect.Int:
			to(func() { v.SetInt(was.Int() + 1) })
			to(func() { v.SetInt(was.Int() ^ -1<<63) })
		case reflect.String:
			to(func() { v.SetString(was.String() + "a") })
			to(func() { v.SetString("?") })
		case reflect.Bool:
			to(func() { v.SetBool(!was.Bool()) })
		case reflect.Slice:
			to(func() { v.Set(reflect.Append(was.Slice3(0, was.Len(), was.Len()), reflect.Zero(v.Type().Elem()))) })
			if was.Len() > 0 {
				to(func() { v.Set(was.Slice(0, was.Len()-1)) })
				to(func() { v.Set(was.Slice(1, was.Len())) })
			}
		}
	})
	for _, change := range all {
		change()
	}
}

// whole: a tree with something in every field, which no text has.
func whole() api.Tree {
	e := api.TreeExpr{Kind: 3, At: 1, N: 2, Name: "e", Args: []api.TreeExpr{one, op(4, id("a"), one)}}
	s := api.TreeStmt{Kind: 7, At: 3, Name: "s", Other: "t", Expr: e, Args: []api.TreeExpr{e, one}}
	in := s
	in.Then, in.Else = []api.TreeStmt{s, s}, []api.TreeStmt{s}
	label := []api.TreePolicy{{At: 4, Owner: "o", Write: true, Names: []string{"p", "q"}}, {Owner: "a"}}
	d := api.TreeDecl{Kind: 7, At: 5, Name: "d", Other: "e", Given: true, Label: label, Params: []string{"x", "y"}, Body: []api.TreeStmt{in}, Result: e}
	return copyTree(api.Tree{Decls: []api.TreeDecl{d, {Kind: 1, Name: "a"}}, Main: []api.TreeStmt{in, s}})
}

// C2: every field counts but At, wherever it stands, and so does how many there are of each.
func TestSameButForAt(t *testing.T) {
	example, _, _ := tree.Parse(example)
	for _, u := range []api.Tree{whole(), example} {
		v := copyTree(u)
		if !show.Same(u, v) || !show.Same(u, u) {
			t.Fatalf("C2: %+v is not the same as itself", u)
		}
		many := 0
		changes(&v, func(name string) {
			many++
			want := name == "At"
			if show.Same(u, v) != want || show.Same(v, u) != want {
				t.Errorf("C2: with another %s: %v %v\n%+v\n%+v", name, show.Same(u, v), show.Same(v, u), u, v)
			}
		})
		if many < 100 || !show.Same(u, v) {
			t.Errorf("C2: %d changes", many)
		}
	}
}

// C2: lists without elements are the same, nil or not; trees that are those of no text are held against each other all the same.
func TestSameEdges(t *testing.T) {
	empty := ofStmt(api.TreeStmt{Args: []api.TreeExpr{}, Then: []api.TreeStmt{}, Else: []api.TreeStmt{}})
	nothing := ofDecl(api.TreeDecl{Label: []api.TreePolicy{{Names: []string{}}}, Params: []string{}, Body: []api.TreeStmt{}})
	for _, c := range []struct {
		t, u api.Tree
		want bool
	}{
		{api.Tree{}, api.Tree{}, true},
		{api.Tree{}, api.Tree{Decls: []api.TreeDecl{}, Main: []api.TreeStmt{}}, true},
		{empty, ofStmt(api.TreeStmt{At: 9, Expr: api.TreeExpr{At: -3, Args: []api.TreeExpr{}}}), true},
		{nothing, ofDecl(api.TreeDecl{Label: []api.TreePolicy{{At: 7}}}), true},
		{nothing, ofDecl(api.TreeDecl{}), false},
		{empty, api.Tree{}, false},
		{empty, nothing, false},
		{ofDecl(api.TreeDecl{Kind: -5, Name: "\xff"}), ofDecl(api.TreeDecl{Kind: -5, Name: "\xff"}), true},
		{ofDecl(api.TreeDecl{Kind: -5, Name: "\xff"}), ofDecl(api.TreeDecl{Kind: -5, Name: "\xfe"}), false},
		{api.Tree{Main: fill(nested(9), 1000)}, api.Tree{Main: fill(nested(9), 1000)}, true},
		{api.Tree{Main: fill(nested(9), 1000)}, api.Tree{Main: fill(nested(9), 1001)}, false},
		{ofStmt(api.TreeStmt{Expr: chain(101)}), ofStmt(api.TreeStmt{Expr: chain(101)}), true},
		{ofStmt(api.TreeStmt{Expr: chain(101)}), ofStmt(api.TreeStmt{Expr: chain(103)}), false},
	} {
		if show.Same(c.t, c.u) != c.want || show.Same(c.u, c.t) != c.want {
			t.Errorf("C2: %+v\n%+v: want %v", c.t, c.u, c.want)
		}
	}
}

// C2: trees of texts and trees of none, held against each other field by field.
func TestSameTrees(t *testing.T) {
	r := rand.New(rand.NewSource(4))
	seen := map[bool]int{}
	var last api.Tree
	for range 8000 {
		u, _, _ := tree.Parse(makeText(r))
		v := copyTree(u)
		spoil(r, &v)
		for _, w := range []api.Tree{v, last} {
			want := alikeTrees(u, w)
			seen[want]++
			if show.Same(u, w) != want || show.Same(w, u) != want {
				t.Fatalf("C2: %+v\n%+v: want %v", u, w, want)
			}
		}
		last = v
	}
	if seen[true] < 1000 || seen[false] < 1000 {
		t.Errorf("%v", seen)
	}
}

// C2: lists that stand in several places of one tree, but not in the same ones of the other.
func TestSameSharedLists(t *testing.T) {
	a, b := []api.TreeStmt{nested(2)}, []api.TreeStmt{nested(3)}
	long := []api.TreeStmt{nested(2), nested(3)}
	in := func(l, k []api.TreeStmt) api.Tree {
		return ofStmt(api.TreeStmt{Kind: api.StmtIf, Expr: one, Then: l, Else: k})
	}
	for _, c := range []struct {
		t, u api.Tree
		want bool
	}{
		{in(a, a), in(a, a), true},
		{in(a, a), in(a, b), false},
		{in(a, b), in(b, a), false},
		{in(a, b), in(a, b), true},
		{in(long, long[:1]), in(long, long[:1]), true},
		{in(long[:1], long), in(long[:1], long[:1]), false},
		{in(long[:1], long), in(long[:1], []api.TreeStmt{nested(2), nested(2)}), false},
		{in(long[:1], long), in(a, []api.TreeStmt{nested(2), nested(3)}), true},
		{in(long[1:], long[1:]), in(b, b), true},
		{in(long[:1], long[1:]), in(a, a), false},
	} {
		if show.Same(c.t, c.u) != c.want || show.Same(c.u, c.t) != c.want {
			t.Errorf("C2: %+v\n%+v: want %v", c.t, c.u, c.want)
		}
	}
}

// deep: so many lists in one another, each of them standing in two places, with a name at the ground.
func deep(many int, name string) []api.TreeStmt {
	l := []api.TreeStmt{{Name: name}}
	for range many {
		l = []api.TreeStmt{{Kind: api.StmtIf, Then: l, Else: l}}
	}
	return l
}

// P1: Same ends, however deep lists are, and wherever they stand, in themselves, too.
func TestSameEnds(t *testing.T) {
	want := func(want bool, u, v api.Tree) {
		t.Helper()
		if show.Same(u, v) != want || show.Same(v, u) != want {
			t.Errorf("C2: want %v", want)
		}
	}
	want(true, api.Tree{Main: deep(1<<16, "a")}, api.Tree{Main: deep(1<<16, "a")})
	want(false, api.Tree{Main: deep(1<<16, "a")}, api.Tree{Main: deep(1<<16, "b")})
	want(false, api.Tree{Main: deep(1<<16, "a")}, api.Tree{Main: deep(1<<16-1, "a")})
	want(true, api.Tree{Main: selfStmts()}, api.Tree{Main: selfStmts()})
	want(false, api.Tree{Main: selfStmts()}, api.Tree{Main: deep(1000, "a")})
	other := selfStmts()
	other[1].Name = "x"
	want(false, api.Tree{Main: selfStmts()}, api.Tree{Main: other})
	expr := func(l []api.TreeExpr) api.Tree { return ofStmt(api.TreeStmt{Args: l}) }
	want(true, expr(selfExprs()), expr(selfExprs()))
	want(false, expr(selfExprs()), expr(fill(chain(1001), 2)))
}
