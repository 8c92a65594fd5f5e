package tree_test

import (
	"math/rand"
	"reflect"
	"strconv"
	"strings"

	"veilwork/api"
)

// writer writes trees as texts, with what may stand between tokens; it tells where they begin.
type writer struct {
	strings.Builder
	r *rand.Rand
}

// put a token, and answer where it begins.
func (w *writer) put(text string) int {
	between := []string{" ", "\n", "\t", "  ", " # x = 1; }\n", "#\n"}
	w.WriteString(between[w.r.Intn(len(between))])
	at := w.Len()
	w.WriteString(text)
	return at
}

// puts tokens with a blank between.
func (w *writer) puts(texts string) {
	for _, s := range strings.Fields(texts) {
		w.put(s)
	}
}

// each of a list of some length, with a sign between.
func (w *writer) each(many int, between string, one func(i int)) {
	for i := range many {
		if i > 0 {
			w.put(between)
		}
		one(i)
	}
}

func (w *writer) names(l []string) { w.each(len(l), ",", func(i int) { w.put(l[i]) }) }

// text of a tree; At of all that is in it is set. (A tree that has no text has some text all the same.)
func text(r *rand.Rand, t api.Tree) string {
	w := &writer{r: r}
	for i := range t.Decls {
		w.decl(&t.Decls[i])
	}
	w.puts("main {")
	w.stmts(t.Main)
	w.puts("}")
	return w.String()
}

func pick(l []string, i int) string {
	if i < 0 || i >= len(l) {
		return "%"
	}
	return l[i]
}

func (w *writer) decl(d *api.TreeDecl) {
	d.At = w.put(pick([]string{"%", "actor", "grant", "speak", "in", "out", "var", "func"}, d.Kind))
	w.put(d.Name)
	if d.Kind == api.DeclFunc {
		w.put("(")
		w.names(d.Params)
		w.puts(") {")
		w.stmts(d.Body)
		w.put("return")
		w.expr(&d.Result)
		w.puts("; }")
		return
	}
	if d.Kind == api.DeclGrant {
		w.put(d.Other)
	}
	if d.Given {
		w.put("{")
		w.each(len(d.Label), ";", func(i int) { w.policy(&d.Label[i]) })
		w.put("}")
	}
	w.put(";")
}

func (w *writer) policy(p *api.TreePolicy) {
	p.At = w.put(p.Owner)
	if p.Write {
		w.put("!")
	} else {
		w.put(":")
	}
	w.names(p.Names)
}

func (w *writer) stmts(l []api.TreeStmt) {
	for i := range l {
		w.stmt(&l[i])
	}
}

func (w *writer) stmt(s *api.TreeStmt) {
	switch s.Kind {
	case api.StmtIf, api.StmtWhile:
		s.At = w.put(pick([]string{"if", "while"}, s.Kind-api.StmtIf))
		w.expr(&s.Expr)
		w.put("{")
		w.stmts(s.Then)
		w.put("}")
		if len(s.Else) > 0 || s.Kind == api.StmtIf && w.r.Intn(4) == 0 {
			w.puts("else {")
			w.stmts(s.Else)
			w.put("}")
		}
		return
	case api.StmtGet:
		s.At = w.put("get")
		w.put(s.Name)
		w.put(s.Other)
	case api.StmtPut:
		s.At = w.put("put")
		w.put(s.Other)
		w.expr(&s.Expr)
	case api.StmtReveal, api.StmtTrust:
		s.At = w.put(pick([]string{"reveal", "trust"}, s.Kind-api.StmtReveal))
		w.put(s.Name)
		w.expr(&s.Expr)
	case api.StmtSet:
		s.At = w.put(s.Name)
		w.put("=")
		w.expr(&s.Expr)
	case api.StmtCall:
		s.At = w.put(s.Name)
		w.put("=")
		w.put(s.Other)
		w.put("(")
		w.each(len(s.Args), ",", func(i int) { w.expr(&s.Args[i]) })
		w.put(")")
	default:
		w.put("%")
	}
	w.put(";")
}

func (w *writer) expr(e *api.TreeExpr) {
	switch {
	case e.Kind == api.ExprNumber && e.N < 0:
		e.At = w.put("-")
		w.put(strconv.Itoa(e.N)[1:])
	case e.Kind == api.ExprNumber:
		e.At = w.put(strconv.Itoa(e.N))
	case e.Kind == api.ExprName:
		e.At = w.put(e.Name)
	default:
		e.At = w.put("(")
		w.each(len(e.Args), pick(strings.Fields("% % % + - * < =="), e.Kind), func(i int) { w.expr(&e.Args[i]) })
		w.put(")")
	}
}

// maker makes trees that have texts.
type maker struct {
	r    *rand.Rand
	left int // commands that there may still be
}

func (m *maker) name() string {
	l := strings.Fields("a b c x y1 z iff mainly abcdefghijkl q0 get2")
	return l[m.r.Intn(len(l))]
}

func (m *maker) names(most int) []string {
	var l []string
	for range m.r.Intn(most + 1) {
		l = append(l, m.name())
	}
	return l
}

func (m *maker) tree() api.Tree {
	var t api.Tree
	m.left = m.r.Intn(14)
	for range m.r.Intn(5) {
		t.Decls = append(t.Decls, m.decl())
	}
	t.Main = m.stmts(1)
	return t
}

func (m *maker) decl() api.TreeDecl {
	d := api.TreeDecl{Kind: 1 + m.r.Intn(7), Name: m.name()}
	switch d.Kind {
	case api.DeclGrant:
		d.Other = m.name()
	case api.DeclIn, api.DeclOut:
		d.Given = true
	case api.DeclVar:
		d.Given = m.r.Intn(2) == 0
	case api.DeclFunc:
		d.Params, d.Body, d.Result = m.names(api.MaxParams), m.stmts(1), m.expr(3)
	}
	if d.Given {
		for range m.r.Intn(api.MaxPolicies + 1) {
			d.Label = append(d.Label, api.TreePolicy{Owner: m.name(), Write: m.r.Intn(2) == 0, Names: m.names(api.MaxNames)})
		}
	}
	return d
}

func (m *maker) stmts(deep int) []api.TreeStmt {
	var l []api.TreeStmt
	for deep <= api.MaxDeep && m.left > 0 && m.r.Intn(4) > 0 {
		l = append(l, m.stmt(deep))
	}
	return l
}

func (m *maker) stmt(deep int) api.TreeStmt {
	m.left--
	s := api.TreeStmt{Kind: 1 + m.r.Intn(8)}
	switch s.Kind {
	case api.StmtSet, api.StmtReveal, api.StmtTrust:
		s.Name, s.Expr = m.name(), m.expr(3)
	case api.StmtCall:
		s.Name, s.Other = m.name(), m.name()
		for range m.r.Intn(api.MaxParams + 1) {
			s.Args = append(s.Args, m.expr(3))
		}
	case api.StmtGet:
		s.Name, s.Other = m.name(), m.name()
	case api.StmtPut:
		s.Other, s.Expr = m.name(), m.expr(3)
	case api.StmtIf:
		s.Expr, s.Then, s.Else = m.expr(3), m.stmts(deep+1), m.stmts(deep+1)
	case api.StmtWhile:
		s.Expr, s.Then = m.expr(3), m.stmts(deep+1)
	}
	return s
}

func (m *maker) expr(deep int) api.TreeExpr {
	if deep > 0 && m.r.Intn(2) == 0 {
		return api.TreeExpr{Kind: 3 + m.r.Intn(5), Args: []api.TreeExpr{m.expr(deep - 1), m.expr(deep - 1)}}
	}
	if m.r.Intn(2) == 0 {
		return api.TreeExpr{Kind: api.ExprName, Name: m.name()}
	}
	l := []int{0, 1, -1, 42, -37, api.MaxNumber, -api.MaxNumber}
	return api.TreeExpr{Kind: api.ExprNumber, N: l[m.r.Intn(len(l))]}
}

// visit all fields and elements of a value that can be set.
func visit(v reflect.Value, see func(v reflect.Value)) {
	see(v)
	switch v.Kind() {
	case reflect.Struct:
		for i := range v.NumField() {
			visit(v.Field(i), see)
		}
	case reflect.Slice:
		for i := range v.Len() {
			visit(v.Index(i), see)
		}
	}
}

// spoil one field somewhere in a tree.
func spoil(r *rand.Rand, t *api.Tree) {
	var l []reflect.Value
	visit(reflect.ValueOf(t).Elem(), func(v reflect.Value) {
		if v.Kind() != reflect.Struct {
			l = append(l, v)
		}
	})
	v := l[r.Intn(len(l))]
	switch v.Kind() {
	case reflect.Int:
		n := []int{-1, 0, 1, 2, 3, 4, 5, 6, 7, 8, 9, api.MaxNumber + 1, -api.MaxNumber - 1}
		v.SetInt(int64(n[r.Intn(len(n))]))
	case reflect.String:
		s := []string{"", "x", "b", "if", "return", "main", "a b", "a ", "A", "a#", "1", "x;", "abcdefghijklm"}
		v.SetString(s[r.Intn(len(s))])
	case reflect.Bool:
		v.SetBool(!v.Bool())
	case reflect.Slice:
		spoilList(r, v)
	}
}

func spoilList(r *rand.Rand, v reflect.Value) {
	switch n := v.Len(); {
	case n > 0 && r.Intn(2) == 0:
		v.Set(v.Slice(0, n-1))
	case n > 0 && r.Intn(2) == 0:
		// The copy has the lists of the first one, which the texts' At would be written to twice.
		v.Set(reflect.Append(v.Slice3(0, n, n), copied(v.Index(0))))
	default:
		v.Set(reflect.Append(v.Slice3(0, n, n), reflect.New(v.Type().Elem()).Elem()))
	}
}

// copied: a value with lists of its own.
func copied(v reflect.Value) reflect.Value {
	out := reflect.New(v.Type()).Elem()
	out.Set(v)
	switch v.Kind() {
	case reflect.Struct:
		for i := range v.NumField() {
			out.Field(i).Set(copied(v.Field(i)))
		}
	case reflect.Slice:
		if v.Len() == 0 {
			out.SetZero() // lists without elements are held to be the same
			return out
		}
		out.Set(reflect.MakeSlice(v.Type(), v.Len(), v.Len()))
		for i := range v.Len() {
			out.Index(i).Set(copied(v.Index(i)))
		}
	}
	return out
}

func copyTree(t api.Tree) api.Tree { return copied(reflect.ValueOf(t)).Interface().(api.Tree) }

func same(t, u api.Tree) bool { return reflect.DeepEqual(copyTree(t), copyTree(u)) }

// sameButAt: are two trees the same, wherever things begin?
func sameButAt(t, u api.Tree) bool { return same(withoutAt(t), withoutAt(u)) }

func withoutAt(t api.Tree) api.Tree {
	t = copyTree(t)
	visit(reflect.ValueOf(&t).Elem(), func(v reflect.Value) {
		if v.Kind() == reflect.Struct && v.FieldByName("At").IsValid() {
			v.FieldByName("At").SetInt(0)
		}
	})
	return t
}
