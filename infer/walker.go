package infer

import (
	"slices"

	"veilwork/api"
	"veilwork/expr"
	"veilwork/label"
)

// walker goes through the commands of a program that passed Check, with levels of it that are Right: the calls of package label, which may fail on others, do not fail here.
type walker struct {
	api.Program
	levels api.Levels
}

// newWalker has the least levels that may be, whatever the commands ask.
func newWalker(p api.Program) walker {
	w := walker{Program: p}
	for _, v := range p.Vars {
		l := w.bottom()
		if v.Known {
			l = w.level(v.Label)
		}
		w.levels.Vars = append(w.levels.Vars, l)
	}
	for range p.Funcs {
		w.levels.Funcs = append(w.levels.Funcs, w.bottom())
	}
	return w
}

// bottom: all may read, nobody wrote.
func (w walker) bottom() api.Level {
	return api.Level{
		Readers: slices.Repeat([]bool{true}, w.Actors.Many),
		Writers: make([]bool, w.Actors.Many),
	}
}

func (w walker) level(l api.Label) api.Level {
	out, _ := label.Level(w.Actors, l)
	return out
}

func (w walker) join(l, m api.Level) api.Level {
	out, _ := label.Join(w.Actors, l, m)
	return out
}

func (w walker) flows(l, m api.Level) bool {
	out, _ := label.Flows(w.Actors, l, m)
	return out
}

// with: the join of a level and those of all variables in an expression.
func (w walker) with(l api.Level, e api.Expr) api.Level {
	for v := range expr.Vars(e) {
		l = w.join(l, w.levels.Vars[v])
	}
	return l
}

// knownHold: have variables that are Known the levels of their labels?
func (w walker) knownHold() bool {
	for i, v := range w.Vars {
		if v.Known && !same(w.level(v.Label), w.levels.Vars[i]) {
			return false
		}
	}
	return true
}

func same(l, m api.Level) bool {
	return slices.Equal(l.Readers, m.Readers) && slices.Equal(l.Writers, m.Writers)
}

// each command, with its place.
func (w walker) each(do func(s api.Stmt, place api.Level)) {
	for i, f := range w.Funcs {
		w.stmts(f.Body, w.levels.Funcs[i], do)
	}
	w.stmts(w.Main, w.bottom(), do)
}

// stmts that all have this place, and those in them.
func (w walker) stmts(l []api.Stmt, place api.Level, do func(s api.Stmt, place api.Level)) {
	for _, s := range l {
		do(s, place)
		inside := w.with(place, s.Expr)
		w.stmts(s.Then, inside, do)
		w.stmts(s.Else, inside, do)
	}
}

// asked: all that must flow somewhere, for levels to fit.
func (w walker) asked(flow func(from api.Level, to *api.Level)) {
	toVar := func(from api.Level, v int) {
		if !w.Vars[v].Known {
			flow(from, &w.levels.Vars[v])
		}
	}
	w.each(func(s api.Stmt, place api.Level) {
		all := w.with(place, s.Expr)
		switch s.Kind {
		case api.StmtSet:
			toVar(all, s.Var)
		case api.StmtCall:
			f := w.Funcs[s.Other]
			for i, v := range f.Params {
				toVar(w.with(place, s.Args[i]), v)
			}
			toVar(w.with(place, f.Result), s.Var)
			flow(place, &w.levels.Funcs[s.Other])
		case api.StmtGet:
			toVar(w.join(place, w.level(w.Ins[s.Other])), s.Var)
		case api.StmtReveal:
			toVar(api.Level{Readers: place.Readers, Writers: all.Writers}, s.Var)
		case api.StmtTrust:
			toVar(api.Level{Readers: all.Readers, Writers: place.Writers}, s.Var)
		}
	})
}
