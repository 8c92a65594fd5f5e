package scope_test

import (
	"math/rand"
	"reflect"
	"slices"
	"testing"

	"veilwork/api"
	"veilwork/scope"
	"veilwork/tree"
)

// step is one thing that happens with a name in a text: it is declared, used, or ends.
type step struct {
	what string // "declare", "use", "end", "args"
	at   int
	name string
	kind int // 0: it can't be used
	many int // parameters of a function that is declared, or arguments
}

// script: all that happens with names in a tree, in the order of its text.
type script []step

func scriptOf(t api.Tree) script {
	var s script
	for _, d := range t.Decls {
		s.decl(d)
	}
	s.stmts(t.Main)
	return s
}

func (s *script) add(what string, at int, name string, kind, many int) {
	*s = append(*s, step{what, at, name, kind, many})
}

func (s *script) decl(d api.TreeDecl) {
	switch d.Kind {
	case api.DeclGrant:
		s.add("use", d.At, d.Name, api.DeclActor, 0)
		s.add("use", d.At, d.Other, api.DeclActor, 0)
	case api.DeclSpeak:
		s.add("use", d.At, d.Name, api.DeclActor, 0)
	case api.DeclFunc:
		s.add("declare", d.At, d.Name, 0, 0)
		for _, name := range d.Params {
			s.add("declare", d.At, name, api.DeclVar, 0)
		}
		s.stmts(d.Body)
		s.expr(d.Result)
		for _, name := range append(slices.Clone(d.Params), d.Name) {
			s.add("end", d.At, name, 0, 0)
		}
		s.add("declare", d.At, d.Name, api.DeclFunc, len(d.Params))
	default:
		s.add("declare", d.At, d.Name, d.Kind, 0)
		for _, p := range d.Label {
			for _, name := range append([]string{p.Owner}, p.Names...) {
				s.add("use", p.At, name, api.DeclActor, 0)
			}
		}
	}
}

func (s *script) stmts(l []api.TreeStmt) {
	for _, c := range l {
		if c.Name != "" {
			s.add("use", c.At, c.Name, api.DeclVar, 0)
		}
		switch c.Kind {
		case api.StmtCall:
			s.add("use", c.At, c.Other, api.DeclFunc, 0)
			s.add("args", c.At, c.Other, 0, len(c.Args))
		case api.StmtGet:
			s.add("use", c.At, c.Other, api.DeclIn, 0)
		case api.StmtPut:
			s.add("use", c.At, c.Other, api.DeclOut, 0)
		}
		for _, e := range append([]api.TreeExpr{c.Expr}, c.Args...) {
			s.expr(e)
		}
		s.stmts(c.Then)
		s.stmts(c.Else)
	}
}

func (s *script) expr(e api.TreeExpr) {
	if e.Kind == api.ExprName {
		s.add("use", e.At, e.Name, api.DeclVar, 0)
	}
	for _, a := range e.Args {
		s.expr(a)
	}
}

// play a script: the first error in it, and where.
func (s script) play() (int, api.Errno) {
	var known []step
	for _, x := range s {
		i := slices.IndexFunc(known, func(k step) bool { return k.name == x.name })
		switch {
		case x.what == "declare" && i >= 0:
			return x.at, api.ErrTwice
		case x.what == "declare":
			known = append(known, x)
		case x.what == "end":
			known = slices.Delete(known, i, i+1)
		case i < 0 || known[i].kind == 0:
			return x.at, api.ErrNone
		case x.what == "use" && known[i].kind != x.kind:
			return x.at, api.ErrKind
		case x.what == "args" && known[i].many != x.many:
			return x.at, api.ErrForm
		}
	}
	return 0, api.OK
}

// rename something in a tree to another name of it, or change how many arguments a call has.
func rename(r *rand.Rand, t *api.Tree) {
	names := []string{"nobody"}
	var places, calls []reflect.Value
	visit(reflect.ValueOf(t).Elem(), func(v reflect.Value) {
		if v.Kind() == reflect.String && v.String() != "" {
			names = append(names, v.String())
			places = append(places, v)
		}
		if s, ok := v.Interface().(api.TreeStmt); ok && s.Kind == api.StmtCall {
			calls = append(calls, v.FieldByName("Args"))
		}
	})
	if len(calls) == 0 || r.Intn(4) > 0 {
		places[r.Intn(len(places))].SetString(names[r.Intn(len(names))])
		return
	}
	v := calls[r.Intn(len(calls))]
	if n := v.Len(); n > 0 && r.Intn(2) == 0 {
		v.Set(v.Slice(0, n-1))
	} else {
		v.Set(reflect.Append(v.Slice3(0, n, n), reflect.ValueOf(api.TreeExpr{Kind: api.ExprNumber})))
	}
}

// F2: trees of all sorts in which some names are wrong, held against all that happens with names.
func TestResolveScripts(t *testing.T) {
	r := rand.New(rand.NewSource(8))
	seen := map[api.Errno]int{}
	for range 6000 {
		s, _ := makeProgram(r)
		u, _, _ := tree.Parse(s)
		if len(u.Decls) == 0 {
			continue // its text was too long
		}
		for range 1 + r.Intn(2) {
			rename(r, &u)
		}
		if tree.Check(u) != api.OK {
			continue
		}
		at, why := scriptOf(u).play()
		p, got, e := scope.Resolve(u)
		seen[why]++
		if got != at || e != why || (e == api.OK) != (p.Actors.Many > 0) {
			t.Fatalf("F2: Resolve(%+v): %d %d, want %d %d", u, got, e, at, why)
		}
	}
	for _, e := range []api.Errno{api.OK, api.ErrTwice, api.ErrNone, api.ErrKind, api.ErrForm} {
		if seen[e] < 30 {
			t.Errorf("F2: %d trees with %d", seen[e], e)
		}
	}
}
