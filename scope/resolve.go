package scope

import (
	"slices"

	"veilwork/api"
	"veilwork/shape"
)

// thing is what a name stands for: the kind of its declaration (DeclVar of a parameter, too), and its number among its kind. Without a kind it can't be used.
type thing struct{ kind, number int }

// resolver makes the program of a tree that passed Check, and gives up at the first name that is wrong.
type resolver struct {
	program api.Program
	names   map[string]thing // those that are declared where it is
}

func (r *resolver) resolve(t api.Tree) {
	for _, d := range t.Decls {
		r.decl(d)
	}
	r.program.Main = each(t.Main, r.stmt)
}

// declare a name, in a declaration at a place.
func (r *resolver) declare(at int, name string, x thing) {
	_, ok := r.names[name]
	mustAt(at, !ok, api.ErrTwice)
	r.names[name] = x
}

// use a name at a place where one of a kind is asked, and answer its number.
func (r *resolver) use(at int, name string, kind int) int {
	x := r.names[name]
	mustAt(at, x.kind != 0, api.ErrNone)
	mustAt(at, x.kind == kind, api.ErrKind)
	return x.number
}

func (r *resolver) decl(d api.TreeDecl) {
	p := &r.program
	switch d.Kind {
	case api.DeclActor:
		r.declare(d.At, d.Name, thing{d.Kind, p.Actors.Many})
		p.Actors.Many++
	case api.DeclGrant:
		who := r.use(d.At, d.Name, api.DeclActor)
		other := r.use(d.At, d.Other, api.DeclActor)
		p.Actors.Grants = append(p.Actors.Grants, api.Grant{Who: who, For: other})
	case api.DeclSpeak:
		p.Speak = append(p.Speak, r.use(d.At, d.Name, api.DeclActor))
	case api.DeclIn:
		r.declare(d.At, d.Name, thing{d.Kind, len(p.Ins)})
		p.Ins = append(p.Ins, r.label(d.Label))
	case api.DeclOut:
		r.declare(d.At, d.Name, thing{d.Kind, len(p.Outs)})
		p.Outs = append(p.Outs, r.label(d.Label))
	case api.DeclVar:
		r.declare(d.At, d.Name, thing{d.Kind, len(p.Vars)})
		p.Vars = append(p.Vars, api.Var{Known: d.Given, Label: r.label(d.Label)})
	case api.DeclFunc:
		r.function(d)
	}
}

func (r *resolver) label(l []api.TreePolicy) api.Label {
	var out api.Label
	for _, p := range l {
		if p.Write {
			out.Write = append(out.Write, r.policy(p))
		} else {
			out.Read = append(out.Read, r.policy(p))
		}
	}
	return out
}

func (r *resolver) policy(p api.TreePolicy) api.Policy {
	actor := func(name string) int { return r.use(p.At, name, api.DeclActor) }
	owner := actor(p.Owner)
	names := each(p.Names, actor)
	slices.Sort(names)
	return api.Policy{Owner: owner, Names: slices.Compact(names)}
}

func (r *resolver) function(d api.TreeDecl) {
	p := &r.program
	// Within it its own name is declared, but can't be used.
	r.declare(d.At, d.Name, thing{})
	var f api.Func
	for _, name := range d.Params {
		r.declare(d.At, name, thing{api.DeclVar, len(p.Vars)})
		f.Params = append(f.Params, len(p.Vars))
		p.Vars = append(p.Vars, api.Var{})
	}
	f.Body = each(d.Body, r.stmt)
	f.Result = r.expr(d.Result)
	for _, name := range d.Params {
		delete(r.names, name)
	}
	r.names[d.Name] = thing{d.Kind, len(p.Funcs)}
	p.Funcs = append(p.Funcs, f)
}

func (r *resolver) stmt(s api.TreeStmt) api.Stmt {
	out := api.Stmt{Kind: s.Kind}
	has, _ := shape.OfStmt(s.Kind)
	if has.Var {
		out.Var = r.use(s.At, s.Name, api.DeclVar)
	}
	if has.Other {
		out.Other = r.use(s.At, s.Other, otherKind(s.Kind))
	}
	if s.Kind == api.StmtCall {
		mustAt(s.At, len(s.Args) == len(r.program.Funcs[out.Other].Params), api.ErrForm)
	}
	// What a command does not have is empty in the tree, and becomes empty here.
	out.Expr = r.expr(s.Expr)
	out.Args = each(s.Args, r.expr)
	out.Then = each(s.Then, r.stmt)
	out.Else = each(s.Else, r.stmt)
	return out
}

// otherKind: which declaration is asked for what a command of a kind names beside a variable.
func otherKind(kind int) int {
	switch kind {
	case api.StmtCall:
		return api.DeclFunc
	case api.StmtGet:
		return api.DeclIn
	}
	return api.DeclOut
}

func (r *resolver) expr(e api.TreeExpr) api.Expr {
	out := api.Expr{Kind: e.Kind, N: e.N}
	if e.Kind == api.ExprName {
		out.N = r.use(e.At, e.Name, api.DeclVar)
	}
	out.Args = each(e.Args, r.expr)
	return out
}

// each of a list, made into something else, one behind the other.
func each[T, U any](l []T, made func(x T) U) []U {
	var out []U
	for _, x := range l {
		out = append(out, made(x))
	}
	return out
}
