// Package step: doing the commands of a program, step by step (doc/07-run.md), for who runs and for who watches alike.
package step

import (
	"slices"

	"veilwork/api"
	"veilwork/scope"
)

// Kinds of moments.
const (
	Come  = 1 // a command was come to
	Again = 2 // a StmtWhile looks again
	Back  = 3 // the function of a StmtCall was done: the variable is to become its Result
)

// Moment of a run: what is to be done next. If it is a step, that counts already.
type Moment struct {
	Kind, At int // At: the number of the command
	Deep     int // how many of StmtIf and StmtWhile are gone through around it, those around calls too
	Stmt     api.Stmt
}

// New runner of a program. Errors are those of Run (doc/07-run.md).
func New(p api.Program, ins [][]int, fuel int) (*Runner, api.Errno) {
	if e := check(p, ins, fuel); e != api.OK {
		return nil, e
	}
	r := &Runner{program: p, ins: ins, fuel: fuel, first: firsts(p)}
	r.Vars = make([]int, len(p.Vars))
	r.Taken = make([]int, len(p.Ins))
	return r, api.OK
}

// check what a run is asked for.
func check(p api.Program, ins [][]int, fuel int) api.Errno {
	if e := scope.Check(p); e != api.OK {
		return e
	}
	isLong := func(l []int) bool { return len(l) > api.MaxInput }
	hasBeyond := func(l []int) bool { return slices.ContainsFunc(l, IsBeyond) }
	switch {
	case len(ins) != len(p.Ins):
		return api.ErrForm
	case slices.ContainsFunc(ins, isLong):
		return api.ErrMany
	case slices.ContainsFunc(ins, hasBeyond):
		return api.ErrRange
	case fuel < 0 || fuel > api.MaxFuel:
		return api.ErrRange
	}
	return api.OK
}

// IsBeyond: is it no number of a run?
func IsBeyond(n int) bool { return n < api.Least || n > api.Most }
