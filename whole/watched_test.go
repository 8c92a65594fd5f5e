package whole

import (
	"fmt"
	"iter"
	"math/rand"
	"slices"
	"testing"

	"veilwork/api"
	"veilwork/judge"
	"veilwork/run"
	"veilwork/view"
	"veilwork/watch"
)

// bits of a level: who may not read, and who may have written. So levels are joined by or, and flow to those that have all their bits.
type bits struct{ hidden, written uint }

func bitsOf(readers, writers []bool) bits {
	var b bits
	for who := range readers {
		if !readers[who] {
			b.hidden |= 1 << who
		}
		if writers[who] {
			b.written |= 1 << who
		}
	}
	return b
}

func (b bits) or(c bits) bits { return bits{b.hidden | c.hidden, b.written | c.written} }

func (b bits) flows(c bits) bool { return b.or(c) == c }

func (b bits) level(many int) api.Level {
	var l api.Level
	for who := range many {
		l.Readers = append(l.Readers, b.hidden>>who&1 == 0)
		l.Writers = append(l.Writers, b.written>>who&1 == 1)
	}
	return l
}

// halt of a run that is guarded: its end, and where it was stopped.
type halt struct{ end, stop int }

// guarded run of a program, as K1 says.
type guarded struct {
	p                 api.Program
	ins               [][]int
	fuel              int
	run               api.Run
	now               []bits // of variables
	vars, inOf, outOf []bits // of labels
	faults            []api.Fault
	what              string // what was stopped
}

func guardedRun(p api.Program, ins [][]int, fuel int) *guarded {
	x := makeTrial(p)
	of := func(l api.Label) bits { return bitsOf(x.allowed(l.Read), x.allowed(l.Write)) }
	g := &guarded{p: p, ins: ins, fuel: fuel, now: make([]bits, len(p.Vars)), faults: x.faults}
	for _, v := range p.Vars {
		g.vars = append(g.vars, of(v.Label))
	}
	for _, l := range p.Ins {
		g.inOf = append(g.inOf, of(l))
	}
	for _, l := range p.Outs {
		g.outOf = append(g.outOf, of(l))
	}
	g.run.Vars, g.run.Taken = make([]int, len(p.Vars)), make([]int, len(p.Ins))
	g.all()
	return g
}

func (g *guarded) all() {
	defer func() {
		h := recover().(halt)
		g.run.End, g.run.Stop = h.end, h.stop
	}()
	g.stmts(g.p.Main, g.firstOf(len(g.p.Funcs)), bits{})
	panic(halt{api.EndDone, 0})
}

func (g *guarded) levels() []api.Level {
	var l []api.Level
	for _, b := range g.now {
		l = append(l, b.level(g.p.Actors.Many))
	}
	return l
}

// firstOf: the number of a function's first command.
func (g *guarded) firstOf(f int) int {
	n := 0
	for _, x := range g.p.Funcs[:f] {
		n += howMany(x.Body)
	}
	return n
}

func howMany(l []api.Stmt) int {
	n := len(l)
	for _, s := range l {
		n += howMany(s.Then) + howMany(s.Else)
	}
	return n
}

func (g *guarded) step() {
	if g.run.Steps >= g.fuel {
		panic(halt{api.EndFuel, 0})
	}
	g.run.Steps++
}

// must hold, else a command is stopped.
func (g *guarded) must(at int, holds bool, what string) {
	if !holds {
		g.what = what
		panic(halt{api.EndStop, at})
	}
}

// of an expression: its level now.
func (g *guarded) of(e api.Expr) bits {
	var b bits
	for _, v := range named(e) {
		b = b.or(g.now[v])
	}
	return b
}

func (g *guarded) reckon(e api.Expr) int { return int(reckoned(e, g.run.Vars).Int64()) }

// mayBe: a variable may become something, at a place.
func (g *guarded) mayBe(at int, place bits, v int, b bits, what string) {
	g.must(at, place.flows(g.now[v]), what+" place")
	g.must(at, !g.p.Vars[v].Known || b.flows(g.vars[v]), what+" label")
}

func (g *guarded) be(v, n int, b bits) { g.run.Vars[v], g.now[v] = n, b }

func (g *guarded) stmts(l []api.Stmt, at int, place bits) {
	for _, s := range l {
		g.step()
		switch s.Kind {
		case api.StmtIf:
			if in := place.or(g.of(s.Expr)); g.reckon(s.Expr) != 0 {
				g.stmts(s.Then, at+1, in)
			} else {
				g.stmts(s.Else, at+1+howMany(s.Then), in)
			}
		case api.StmtWhile:
			in := place.or(g.of(s.Expr))
			for g.reckon(s.Expr) != 0 {
				g.stmts(s.Then, at+1, in)
				g.step()
				in = in.or(g.of(s.Expr))
			}
		case api.StmtCall:
			g.call(s, at, place)
		default:
			g.stmt(s, at, place)
		}
		at += howMany([]api.Stmt{s})
	}
}

func (g *guarded) call(s api.Stmt, at int, place bits) {
	f := g.p.Funcs[s.Other]
	numbers, levels := slices.Clone(g.run.Vars), slices.Clone(g.now)
	for i, v := range f.Params {
		numbers[v], levels[v] = g.reckon(s.Args[i]), place.or(g.of(s.Args[i]))
		g.mayBe(at, place, v, levels[v], "call")
	}
	g.run.Vars, g.now = numbers, levels
	g.stmts(f.Body, g.firstOf(s.Other), place)
	b := place.or(g.of(f.Result))
	g.mayBe(at, place, s.Var, b, "result")
	g.be(s.Var, g.reckon(f.Result), b)
}

func (g *guarded) stmt(s api.Stmt, at int, place bits) {
	n, b := 0, place.or(g.of(s.Expr))
	if s.Kind != api.StmtGet {
		n = g.reckon(s.Expr)
	}
	event := api.Event{Kind: s.Kind - api.StmtPut + api.EventPut, At: at, Which: s.Var, Value: n}
	what := map[int]string{api.StmtSet: "set", api.StmtGet: "get", api.StmtReveal: "reveal", api.StmtTrust: "trust"}[s.Kind]
	switch s.Kind {
	case api.StmtPut:
		g.must(at, b.flows(g.outOf[s.Other]), "put")
		event.Which = s.Other
		g.run.Events = append(g.run.Events, event)
		return
	case api.StmtGet:
		g.must(at, place.flows(g.inOf[s.Other]), "get channel")
		b = place.or(g.inOf[s.Other])
	case api.StmtReveal, api.StmtTrust:
		g.must(at, g.p.Vars[s.Var].Known, what+" unknown")
		g.must(at, !slices.Contains(g.faults, api.Fault{At: at, Kind: api.FaultSpeak}), what+" speak")
		g.must(at, !slices.Contains(g.faults, api.Fault{At: at, Kind: api.FaultHidden}), what+" hidden")
		if s.Kind == api.StmtReveal {
			b.hidden = g.vars[s.Var].hidden
		} else {
			b.written = g.vars[s.Var].written
		}
	}
	g.mayBe(at, place, s.Var, b, what)
	if s.Kind == api.StmtGet {
		if took := g.run.Taken[s.Other]; took < len(g.ins[s.Other]) {
			n = g.ins[s.Other][took]
		}
		g.run.Taken[s.Other]++
	}
	if s.Kind == api.StmtReveal || s.Kind == api.StmtTrust {
		g.run.Events = append(g.run.Events, event)
	}
	g.be(s.Var, n, b)
}

// eachWatched of so many programs, with what it is run with, and how it is guarded then; and each that comes from one by mending, or leaving out, what it is stopped by: most that are made up are stopped soon.
func eachWatched(r *rand.Rand, many int) iter.Seq2[given, *guarded] {
	return func(yield func(given, *guarded) bool) {
		for range many {
			g := makeGiven(r)
			g.Touch = false
			if r.Intn(4) > 0 {
				g.Program = revealing(r, opened(r, g.Program))
			}
			for range 8 {
				x := guardedRun(g.Program, g.Ins, g.Fuel)
				if !yield(g, x) {
					return
				}
				if x.run.End != api.EndStop {
					break
				}
				g.Program = without(r, g.Program, []api.Fault{{At: x.run.Stop}}, r.Intn(3) > 0)
			}
		}
	}
}

// revealing: a program that is opened, and tells all what came in on a channel, if there is a variable left for it.
func revealing(r *rand.Rand, p api.Program) api.Program {
	gets := p.Main[:min(len(p.Main), len(p.Ins))]
	to := r.Intn(len(p.Vars))
	if len(gets) == 0 || slices.ContainsFunc(gets, func(s api.Stmt) bool { return s.Kind != api.StmtGet || s.Var == to }) {
		return p
	}
	from := gets[r.Intn(len(gets))].Var
	p.Vars[to] = api.Var{Known: true, Label: api.Label{Write: p.Vars[from].Label.Write}}
	reveal := api.Stmt{Kind: api.StmtReveal, Var: to, Expr: api.Expr{Kind: api.ExprName, N: from}}
	p.Main = slices.Insert(p.Main, len(gets)+r.Intn(len(p.Main)-len(gets)+1), reveal)
	if len(commandsOf(p)) > api.MaxStmts {
		p.Main = p.Main[:len(p.Main)-1]
	}
	return p
}

// K1: watched runs are as those that are guarded, their levels, too.
func TestWatched(t *testing.T) {
	t.Parallel()
	r := rand.New(rand.NewSource(16))
	seen := map[string]int{}
	for g, want := range eachWatched(r, 6000) {
		x, l, e := watch.Watch(g.Program, g.Ins, g.Fuel)
		if e != api.OK || !alike(x, want.run) || !alike(l, want.levels()) {
			t.Fatalf("K1: %+v: %v and %v (%d), want %v and %v", g, x, l, e, want.run, want.levels())
		}
		seen[fmt.Sprint(x.End, " ", want.what)]++
		seen["events"] += len(x.Events)
	}
	for _, s := range []string{"1 ", "2 ", "3 set place", "3 set label", "3 get channel", "3 get place", "3 get label", "3 put",
		"3 call place", "3 call label", "3 result place", "3 result label", "3 reveal unknown", "3 reveal speak", "3 reveal hidden",
		"3 reveal place", "3 reveal label", "3 trust unknown", "3 trust speak", "3 trust place", "3 trust label"} {
		if seen[s] < 10 {
			t.Errorf("too few of %s: %v", s, seen)
		}
	}
}

// K2: what happens is the beginning of what happens unwatched; and what is stopped is not done.
func TestWatchedIsBeginning(t *testing.T) {
	r := rand.New(rand.NewSource(17))
	stops := 0
	for g := range eachWatched(r, 1500) {
		x, _, e := watch.Watch(g.Program, g.Ins, g.Fuel)
		y, _ := run.Run(g.Program, g.Ins, g.Fuel)
		if e != api.OK || x.End != api.EndStop && !alike(x, y) || !beginsWith(y.Events, x.Events) || x.Steps > y.Steps {
			t.Fatalf("K2: %+v: %v (%d), and unwatched %v", g, x, e, y)
		}
		if x.End != api.EndStop {
			continue
		}
		stops++
		// But for a call, which may be stopped at its end, it is as if there had been no fuel for the command.
		ahead, _ := run.Run(g.Program, g.Ins, x.Steps-1)
		isCall := commandsOf(g.Program)[x.Stop].Kind == api.StmtCall
		if !isCall && !alike([]any{x.Events, x.Vars, x.Taken}, []any{ahead.Events, ahead.Vars, ahead.Taken}) {
			t.Fatalf("K2: %+v: %v, and ahead of that %v", g, x, ahead)
		}
	}
	if stops < 500 {
		t.Errorf("only %d were stopped", stops)
	}
}

// commandsOf a program, by their numbers.
func commandsOf(p api.Program) []api.Stmt {
	var out []api.Stmt
	var list func(l []api.Stmt)
	list = func(l []api.Stmt) {
		for _, s := range l {
			out = append(out, s)
			list(s.Then)
			list(s.Else)
		}
	}
	for _, f := range p.Funcs {
		list(f.Body)
	}
	list(p.Main)
	return out
}

// K2: watched, whatever the program is, nobody learns more than is revealed.
func TestNothingIsToldWatched(t *testing.T) {
	t.Parallel()
	r := rand.New(rand.NewSource(18))
	seen := map[string]int{}
	for g := range eachWatched(r, 3000) {
		others := likewise(r, g)
		x, _, e := watch.Watch(g.Program, g.Ins, g.Fuel)
		y, _, f := watch.Watch(g.Program, others, g.Fuel)
		if e != api.OK || f != api.OK {
			t.Fatalf("K2: %+v and %v: errors %d and %d", g, others, e, f)
		}
		l, _ := view.Events(g.Program, g.Who, false, x.Events)
		m, _ := view.Events(g.Program, g.Who, false, y.Events)
		fine, _ := judge.Fine(g.Program)
		at := view.Apart(l, m)
		switch {
		case at < 0 && len(l) > 0 && !alike(g.Ins, others):
			seen[fmt.Sprint("same ", fine)]++
		case at >= 0 && at < min(len(l), len(m)):
			seen[fmt.Sprint("told ", fine)]++
			if l[at].Kind != api.EventReveal || m[at].Kind != api.EventReveal || l[at].At != m[at].At {
				t.Fatalf("K2: %+v and %v: %v and %v are apart at %d", g, others, l, m, at)
			}
		}
	}
	if seen["same false"] < 300 || seen["told false"] < 25 {
		t.Errorf("too little was seen: %v", seen)
	}
}

// K2: likewise of programs that grow as long as they are not stopped, with one of the inputs, though hardly any is fine.
func TestNothingIsToldGrown(t *testing.T) {
	t.Parallel()
	r := rand.New(rand.NewSource(27))
	seen := map[string]int{}
	for range 400 {
		g := given{Ins: makeFew(r, api.Program{Ins: make([]api.Label, 3)}), Fuel: 200}
		g.Program = makeGrown(r, func(p api.Program) bool {
			x, _, e := watch.Watch(p, g.Ins, g.Fuel)
			return e == api.OK && x.End == api.EndDone
		})
		for i := range 4 * g.Program.Actors.Many {
			g.Who = i / 4
			others := makeFew(r, g.Program)
			keepSame(g, others)
			x, _, e := watch.Watch(g.Program, g.Ins, g.Fuel)
			y, _, f := watch.Watch(g.Program, others, g.Fuel)
			l, _ := view.Events(g.Program, g.Who, false, x.Events)
			m, _ := view.Events(g.Program, g.Who, false, y.Events)
			v := verdict(l, m, api.EventReveal)
			if e != api.OK || f != api.OK || v == "leak" {
				t.Fatalf("K2: %+v and %v: %v and %v (%d, %d)", g, others, l, m, e, f)
			}
			if fine, _ := judge.Fine(g.Program); !fine && !alike(x, y) {
				seen[v]++
			}
		}
	}
	for _, s := range []string{"same", "told", "more"} {
		if seen[s] < 25 {
			t.Errorf("too few of %s: %v", s, seen)
		}
	}
}
