package run

import "veilwork/api"

// runner does the commands of a program that passed check. Each call of it that may come to a further command says whether there was fuel for that.
type runner struct {
	api.Run
	program api.Program
	ins     [][]int
	fuel    int
	first   []int // the number of each function's first command, and of Main's
}

func newRunner(p api.Program, ins [][]int, fuel int) *runner {
	r := &runner{program: p, ins: ins, fuel: fuel, first: firsts(p)}
	r.Vars = make([]int, len(p.Vars))
	r.Taken = make([]int, len(p.Ins))
	return r
}

// firsts: the number of the first command of each function, then of Main.
func firsts(p api.Program) []int {
	first := []int{0}
	for i, f := range p.Funcs {
		first = append(first, first[i]+many(f.Body))
	}
	return first
}

// many: how many commands these are, with those in them.
func many(l []api.Stmt) int {
	n := 0
	for _, s := range l {
		n += size(s)
	}
	return n
}

// size of a command: itself, and those in it.
func size(s api.Stmt) int { return 1 + many(s.Then) + many(s.Else) }

func (r *runner) run() {
	r.End = api.EndFuel
	if r.stmts(r.program.Main, r.first[len(r.program.Funcs)]) {
		r.End = api.EndDone
	}
}

// step: the next one, if there is fuel for it.
func (r *runner) step() bool {
	if r.Steps == r.fuel {
		return false
	}
	r.Steps++
	return true
}

// stmts one behind the other, the first of them being the command of a number.
func (r *runner) stmts(l []api.Stmt, at int) bool {
	for _, s := range l {
		if !r.step() || !r.stmt(s, at) {
			return false
		}
		at += size(s)
	}
	return true
}

// stmt whose step is done.
func (r *runner) stmt(s api.Stmt, at int) bool {
	switch s.Kind {
	case api.StmtSet:
		r.Vars[s.Var] = r.value(s.Expr)
	case api.StmtCall:
		return r.call(s)
	case api.StmtGet:
		r.Vars[s.Var] = r.next(s.Other)
	case api.StmtPut:
		r.tell(api.EventPut, at, s.Other, r.value(s.Expr))
	case api.StmtReveal:
		r.Vars[s.Var] = r.value(s.Expr)
		r.tell(api.EventReveal, at, s.Var, r.Vars[s.Var])
	case api.StmtTrust:
		r.Vars[s.Var] = r.value(s.Expr)
		r.tell(api.EventTrust, at, s.Var, r.Vars[s.Var])
	case api.StmtIf:
		if r.value(s.Expr) != 0 {
			return r.stmts(s.Then, at+1)
		}
		return r.stmts(s.Else, at+1+many(s.Then))
	case api.StmtWhile:
		return r.loop(s, at)
	}
	return true
}

// call: the arguments are all reckoned ahead of the first parameter, which may be in one of them.
func (r *runner) call(s api.Stmt) bool {
	f := r.program.Funcs[s.Other]
	var args []int
	for _, e := range s.Args {
		args = append(args, r.value(e))
	}
	for i, v := range f.Params {
		r.Vars[v] = args[i]
	}
	if !r.stmts(f.Body, r.first[s.Other]) {
		return false
	}
	r.Vars[s.Var] = r.value(f.Result)
	return true
}

// loop: its first look is the command's own step.
func (r *runner) loop(s api.Stmt, at int) bool {
	for r.value(s.Expr) != 0 {
		if !r.stmts(s.Then, at+1) || !r.step() {
			return false
		}
	}
	return true
}

// next number of a channel.
func (r *runner) next(channel int) int {
	i, l := r.Taken[channel], r.ins[channel]
	r.Taken[channel]++
	if i < len(l) {
		return l[i]
	}
	return 0
}

func (r *runner) tell(kind, at, which, value int) {
	r.Events = append(r.Events, api.Event{Kind: kind, At: at, Which: which, Value: value})
}

func (r *runner) value(e api.Expr) int { return value(e, r.Vars) }
