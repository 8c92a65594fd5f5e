package step

import "veilwork/api"

// Runner does the commands of a program that passed check. Each call of it that may come to a further command says whether it is gone on.
type Runner struct {
	api.Run
	program api.Program
	ins     [][]int
	fuel    int
	first   []int // the number of each function's first command, and of Main's
	deep    int   // how many of StmtIf and StmtWhile are gone through
	may     func(m Moment) bool
}

// firsts: the number of the first command of each function, then of Main.
func firsts(p api.Program) []int {
	first := []int{0}
	for i, f := range p.Funcs {
		first = append(first, first[i]+many(f.Body))
	}
	return first
}

// many: how many commands these are, with those in them.
func many(l []api.Stmt) int {
	n := 0
	for _, s := range l {
		n += size(s)
	}
	return n
}

// size of a command: itself, and those in it.
func size(s api.Stmt) int { return 1 + many(s.Then) + many(s.Else) }

// Do all from the beginning, once: as long as there is fuel, and may says of each moment that it may be gone on.
func (r *Runner) Do(may func(m Moment) bool) {
	r.may = may
	if r.stmts(r.program.Main, r.first[len(r.program.Funcs)]) {
		r.End = api.EndDone
	}
}

// step: the next one, if there is fuel for it.
func (r *Runner) step() bool {
	if r.Steps == r.fuel {
		r.End = api.EndFuel
		return false
	}
	r.Steps++
	return true
}

// passes a moment, if it may.
func (r *Runner) passes(kind int, s api.Stmt, at int) bool {
	if r.may(Moment{Kind: kind, At: at, Deep: r.deep, Stmt: s}) {
		return true
	}
	r.End, r.Stop = api.EndStop, at
	return false
}

// stmts one behind the other, the first of them being the command of a number.
func (r *Runner) stmts(l []api.Stmt, at int) bool {
	for _, s := range l {
		if !r.step() || !r.passes(Come, s, at) || !r.stmt(s, at) {
			return false
		}
		at += size(s)
	}
	return true
}

// stmt that may be done, and whose step is done.
func (r *Runner) stmt(s api.Stmt, at int) bool {
	switch s.Kind {
	case api.StmtSet:
		r.Vars[s.Var] = r.value(s.Expr)
	case api.StmtCall:
		return r.call(s, at)
	case api.StmtGet:
		r.Vars[s.Var] = r.next(s.Other)
	case api.StmtPut:
		r.tell(api.EventPut, at, s.Other, r.value(s.Expr))
	case api.StmtReveal:
		r.Vars[s.Var] = r.value(s.Expr)
		r.tell(api.EventReveal, at, s.Var, r.Vars[s.Var])
	case api.StmtTrust:
		r.Vars[s.Var] = r.value(s.Expr)
		r.tell(api.EventTrust, at, s.Var, r.Vars[s.Var])
	case api.StmtIf:
		if r.value(s.Expr) != 0 {
			return r.inside(s.Then, at+1)
		}
		return r.inside(s.Else, at+1+many(s.Then))
	case api.StmtWhile:
		return r.loop(s, at)
	}
	return true
}

// inside of a StmtIf or StmtWhile: commands as of stmts.
func (r *Runner) inside(l []api.Stmt, at int) bool {
	r.deep++
	ok := r.stmts(l, at)
	r.deep--
	return ok
}

// call: the arguments are all reckoned ahead of the first parameter, which may be in one of them.
func (r *Runner) call(s api.Stmt, at int) bool {
	f := r.program.Funcs[s.Other]
	var args []int
	for _, e := range s.Args {
		args = append(args, r.value(e))
	}
	for i, v := range f.Params {
		r.Vars[v] = args[i]
	}
	if !r.stmts(f.Body, r.first[s.Other]) || !r.passes(Back, s, at) {
		return false
	}
	r.Vars[s.Var] = r.value(f.Result)
	return true
}

// loop: its first look is the command's own step.
func (r *Runner) loop(s api.Stmt, at int) bool {
	for r.value(s.Expr) != 0 {
		if !r.inside(s.Then, at+1) || !r.step() || !r.passes(Again, s, at) {
			return false
		}
	}
	return true
}

// next number of a channel.
func (r *Runner) next(channel int) int {
	i, l := r.Taken[channel], r.ins[channel]
	r.Taken[channel]++
	if i < len(l) {
		return l[i]
	}
	return 0
}

func (r *Runner) tell(kind, at, which, value int) {
	r.Events = append(r.Events, api.Event{Kind: kind, At: at, Which: which, Value: value})
}

func (r *Runner) value(e api.Expr) int { return Value(e, r.Vars) }
