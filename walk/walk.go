// Package walk: going through the commands of a program, each with its number (as package api says of events) and its place (doc/08-infer.md), and levels on the way.
package walk

import (
	"slices"

	"veilwork/api"
	"veilwork/expr"
	"veilwork/label"
)

// Walker goes through the commands of a program that passed Check (doc/06-scope.md), with levels of it that are Right: the calls of package label, which may fail on others, do not fail here.
type Walker struct {
	api.Program
	Levels api.Levels
}

// Bottom: all may read, nobody wrote.
func (w Walker) Bottom() api.Level {
	return api.Level{
		Readers: slices.Repeat([]bool{true}, w.Actors.Many),
		Writers: make([]bool, w.Actors.Many),
	}
}

// Level of a label.
func (w Walker) Level(l api.Label) api.Level {
	out, _ := label.Level(w.Actors, l)
	return out
}

// Join of two levels.
func (w Walker) Join(l, m api.Level) api.Level {
	out, _ := label.Join(w.Actors, l, m)
	return out
}

// Flows: does one level flow to another one?
func (w Walker) Flows(l, m api.Level) bool {
	out, _ := label.Flows(w.Actors, l, m)
	return out
}

// With: the join of a level and those of all variables in an expression.
func (w Walker) With(l api.Level, e api.Expr) api.Level {
	for v := range expr.Vars(e) {
		l = w.Join(l, w.Levels.Vars[v])
	}
	return l
}

// Each command in its order, with its number and its place.
func (w Walker) Each(do func(at int, s api.Stmt, place api.Level)) {
	at := 0
	for i, f := range w.Funcs {
		at = w.stmts(f.Body, at, w.Levels.Funcs[i], do)
	}
	w.stmts(w.Main, at, w.Bottom(), do)
}

// stmts that all have this place, the first of them this number, and those in them. It answers the number of the command behind them.
func (w Walker) stmts(l []api.Stmt, at int, place api.Level, do func(at int, s api.Stmt, place api.Level)) int {
	for _, s := range l {
		do(at, s, place)
		inside := w.With(place, s.Expr)
		at = w.stmts(s.Then, at+1, inside, do)
		at = w.stmts(s.Else, at, inside, do)
	}
	return at
}
