package whole

import (
	"math/rand"
	"slices"
	"testing"

	"veilwork/api"
	"veilwork/infer"
	"veilwork/label"
)

// arrow: what flows from one thing to another one: who may not read, who may have written, or both.
type arrow struct {
	from, to int
	what     string
}

// graph of a program. Its things are variables, then functions, then channels of Ins.
type graph struct {
	api.Program
	arrows []arrow
}

func makeGraph(p api.Program) *graph {
	g := &graph{Program: p}
	for i, f := range p.Funcs {
		g.stmts(f.Body, []int{len(p.Vars) + i})
	}
	g.stmts(p.Main, nil)
	return g
}

func named(e api.Expr) []int {
	if e.Kind == api.ExprName {
		return []int{e.N}
	}
	var l []int
	for _, a := range e.Args {
		l = append(l, named(a)...)
	}
	return l
}

func (g *graph) add(from []int, to int, what string) {
	for _, x := range from {
		if to >= len(g.Vars) || !g.Vars[to].Known {
			g.arrows = append(g.arrows, arrow{x, to, what})
		}
	}
}

func (g *graph) stmts(l []api.Stmt, around []int) {
	for _, s := range l {
		in := named(s.Expr)
		switch s.Kind {
		case api.StmtSet:
			g.add(slices.Concat(in, around), s.Var, "both")
		case api.StmtCall:
			f := g.Funcs[s.Other]
			for i, e := range s.Args {
				g.add(slices.Concat(named(e), around), f.Params[i], "both")
			}
			g.add(slices.Concat(named(f.Result), around), s.Var, "both")
			g.add(around, len(g.Vars)+s.Other, "both")
		case api.StmtGet:
			g.add(slices.Concat([]int{len(g.Vars) + len(g.Funcs) + s.Other}, around), s.Var, "both")
		case api.StmtReveal:
			g.add(around, s.Var, "both")
			g.add(in, s.Var, "written")
		case api.StmtTrust:
			g.add(around, s.Var, "both")
			g.add(in, s.Var, "read")
		}
		g.stmts(s.Then, slices.Concat(around, in))
		g.stmts(s.Else, slices.Concat(around, in))
	}
}

// all levels: of variables, of functions, and of channels.
func (g *graph) all(l api.Levels) []api.Level {
	out := slices.Concat(l.Vars, l.Funcs)
	for _, x := range g.Ins {
		y, _ := label.Level(g.Actors, x)
		out = append(out, y)
	}
	return out
}

// fits: do levels, by what H2 asks of each actor by itself?
func (g *graph) fits(l api.Levels) bool {
	for i, v := range g.Vars {
		if x, _ := label.Level(g.Actors, v.Label); v.Known && !alike(x, l.Vars[i]) {
			return false
		}
	}
	all := g.all(l)
	for _, a := range g.arrows {
		for who := range g.Actors.Many {
			if a.what != "written" && all[a.to].Readers[who] && !all[a.from].Readers[who] {
				return false
			}
			if a.what != "read" && all[a.from].Writers[who] && !all[a.to].Writers[who] {
				return false
			}
		}
	}
	return true
}

// least levels above some: these, but for what is Known, with all that arrows bring.
func (g *graph) least(above api.Levels) api.Levels {
	for i, v := range g.Vars {
		if v.Known {
			above.Vars[i], _ = label.Level(g.Actors, v.Label)
		}
	}
	all := g.all(above)
	for who := range g.Actors.Many {
		for from := range all {
			if !all[from].Readers[who] {
				g.bring(from, "written", func(to int) bool {
					was := all[to].Readers[who]
					all[to].Readers[who] = false
					return was
				})
			}
			if all[from].Writers[who] {
				g.bring(from, "read", func(to int) bool {
					was := !all[to].Writers[who]
					all[to].Writers[who] = true
					return was
				})
			}
		}
	}
	return above
}

// bring something from one thing to all that arrows lead to, but those that bring something else alone; to says whether it is new there.
func (g *graph) bring(from int, but string, to func(to int) bool) {
	for _, a := range g.arrows {
		if a.from == from && a.what != but && to(a.to) {
			g.bring(a.to, but, to)
		}
	}
}

// bottom: the least levels of all.
func bottom(p api.Program) api.Levels {
	l := makeLevels(rand.New(rand.NewSource(0)), p)
	for _, x := range slices.Concat(l.Vars, l.Funcs) {
		for who := range p.Actors.Many {
			x.Readers[who], x.Writers[who] = true, false
		}
	}
	return l
}

// flow: do levels flow to others, one by one?
func flow(p api.Program, l, m api.Levels) bool {
	x, y := slices.Concat(l.Vars, l.Funcs), slices.Concat(m.Vars, m.Funcs)
	for i := range x {
		if ok, e := label.Flows(p.Actors, x[i], y[i]); !ok || e != api.OK {
			return false
		}
	}
	return len(x) == len(y)
}

// H3, H4: what is inferred is what arrows bring from labels; it fits, and flows to whatever fits.
func TestInferred(t *testing.T) {
	r := rand.New(rand.NewSource(4))
	for range 3000 {
		p := makeProgram(r)
		g := makeGraph(p)
		l, e := infer.Infer(p)
		if want := g.least(bottom(p)); e != api.OK || !alike(l, want) {
			t.Fatalf("H3: %+v: %v (%d), want %v", p, l, e, want)
		}
		above := g.least(makeLevels(r, p))
		for _, x := range []api.Levels{l, above} {
			if fits, e := infer.Fits(p, x); !fits || e != api.OK {
				t.Fatalf("H4: %+v: %v do not fit (%d)", p, x, e)
			}
		}
		if !flow(p, l, above) {
			t.Fatalf("H4: %+v: %v do not flow to %v", p, l, above)
		}
	}
}

// H2: levels fit, or do not, whatever they are.
func TestFitting(t *testing.T) {
	r := rand.New(rand.NewSource(5))
	seen := map[bool]int{}
	for range 3000 {
		p := makeProgram(r)
		g := makeGraph(p)
		l := g.least(makeLevels(r, p))
		if r.Intn(4) == 0 {
			l = g.least(bottom(p))
		}
		for range 10 {
			all := slices.Concat(l.Vars, l.Funcs)
			x, who := all[r.Intn(len(all))], r.Intn(p.Actors.Many)
			bit := &[]*bool{&x.Readers[who], &x.Writers[who]}[r.Intn(2)]
			**bit = !**bit
			fits, e := infer.Fits(p, l)
			if want := g.fits(l); fits != want || e != api.OK {
				t.Fatalf("H2: %+v: do %v fit: %v (%d), want %v", p, l, fits, e, want)
			}
			seen[fits]++
			**bit = !**bit
		}
		l = makeLevels(r, p)
		if fits, e := infer.Fits(p, l); fits != g.fits(l) || e != api.OK {
			t.Fatalf("H2: %+v: do %v fit: %v (%d)", p, l, fits, e)
		}
	}
	if seen[true] < 3000 || seen[false] < 3000 {
		t.Errorf("too few that fit, or do not: %v", seen)
	}
}

// H3: of all levels that there are, with one actor and few variables, none that fit is less.
func TestNoneIsLess(t *testing.T) {
	r := rand.New(rand.NewSource(6))
	for tried := 0; tried < 150; {
		p := makeProgram(r)
		if p.Actors.Many > 1 || len(p.Vars)+len(p.Funcs) > 5 || len(p.Vars) < 2 {
			continue
		}
		tried++
		least, _ := infer.Infer(p)
		l := bottom(p)
		all := slices.Concat(l.Vars, l.Funcs)
		for n := range 1 << (2 * len(all)) {
			for i, x := range all {
				x.Readers[0], x.Writers[0] = n>>(2*i)&1 == 1, n>>(2*i+1)&1 == 1
			}
			if fits, _ := infer.Fits(p, l); fits && !flow(p, least, l) {
				t.Fatalf("H4: %+v: %v fit, and %v do not flow to them", p, l, least)
			}
		}
	}
}

// H1: who may read all variables in an expression may read it; who may have written one of them may have written it.
func TestOfExpressions(t *testing.T) {
	r := rand.New(rand.NewSource(7))
	for range 3000 {
		p := makeProgram(r)
		l, m := makeLevels(r, p), maker{Rand: r, p: p}
		e := m.expr(3)
		var want api.Level
		for who := range p.Actors.Many {
			mayNot := func(v int) bool { return !l.Vars[v].Readers[who] }
			wrote := func(v int) bool { return l.Vars[v].Writers[who] }
			want.Readers = append(want.Readers, !slices.ContainsFunc(named(e), mayNot))
			want.Writers = append(want.Writers, slices.ContainsFunc(named(e), wrote))
		}
		if x, why := infer.Of(p, l, e); why != api.OK || !alike(x, want) {
			t.Fatalf("H1: %v of %v: %v (%d), want %v", e, l, x, why, want)
		}
	}
}
