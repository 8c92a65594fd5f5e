package whole

import (
	"math/rand"
	"slices"
	"testing"

	"veilwork/api"
	"veilwork/judge"
	"veilwork/run"
	"veilwork/view"
)

// opened: a program in which less is amiss, and more goes on: often all speak, more variables are Known, and those with the labels of channels get something from them at first.
func opened(r *rand.Rand, p api.Program) api.Program {
	m := maker{Rand: r, p: p}
	if r.Intn(3) > 0 {
		p.Speak = r.Perm(p.Actors.Many)
	}
	for i, v := range p.Vars {
		if !v.Known && r.Intn(2) == 0 {
			p.Vars[i] = api.Var{Known: true, Label: m.label()}
		}
	}
	var gets []api.Stmt
	for i, v := range r.Perm(len(p.Vars)) {
		if i < len(p.Ins) {
			p.Vars[v] = api.Var{Known: true, Label: p.Ins[i]}
			gets = append(gets, api.Stmt{Kind: api.StmtGet, Var: v, Other: i})
		}
	}
	p.Main = append(gets, p.Main[:min(len(p.Main), 3)]...)
	for m.left = 10; m.left > 0; m.left-- {
		p.Main = append(p.Main, m.stmt(1))
	}
	for len(commandsOf(p)) > api.MaxStmts {
		p.Main = p.Main[:len(p.Main)-1]
	}
	return p
}

// mended: a program without faults: commands that have some go elsewhere, as long as that is tried, and are left out then.
func mended(r *rand.Rand, p api.Program) api.Program {
	for tries := 10; ; tries-- {
		l, _ := judge.Faults(p)
		if len(l) == 0 {
			return p
		}
		p = without(r, p, l, tries > 0)
	}
}

// without these faults: a program in which their commands go elsewhere, if that is tried, or are left out.
func without(r *rand.Rand, p api.Program, l []api.Fault, tries bool) api.Program {
	m := mender{maker{Rand: r, p: p}, l, tries, 0}
	p.Funcs = slices.Clone(p.Funcs)
	for i, f := range p.Funcs {
		p.Funcs[i].Body = m.stmts(f.Body)
	}
	p.Main = m.stmts(p.Main)
	return p
}

type mender struct {
	maker
	faults []api.Fault
	tries  bool
	at     int // the number of the next command
}

func (m *mender) stmts(l []api.Stmt) []api.Stmt {
	var out []api.Stmt
	for _, s := range l {
		at := m.at
		m.at++
		s.Then, s.Else = m.stmts(s.Then), m.stmts(s.Else)
		isFaulty := slices.ContainsFunc(m.faults, func(f api.Fault) bool { return f.At == at })
		switch {
		case isFaulty && m.tries && s.Kind == api.StmtPut:
			s.Other = m.Intn(len(m.p.Outs))
		case isFaulty && m.tries:
			s.Var = m.variable()
		}
		if !isFaulty || m.tries {
			out = append(out, s)
		}
	}
	return out
}

// likewise: other inputs, but for channels that one sees, or can't touch.
func likewise(r *rand.Rand, g given) [][]int {
	same, _ := view.Inputs(g.Program, g.Who, g.Touch, slices.Repeat([][]int{{1}}, len(g.Ins)))
	out := makeInputs(r, g.Program)
	for i, l := range same {
		if len(l) > 0 {
			out[i] = g.Ins[i]
		}
	}
	return out
}

// both: what is seen, or can't be touched, of two runs, and whether both are done.
func both(g given, others [][]int) (l, m []api.Event, done bool) {
	x, _ := run.Run(g.Program, g.Ins, g.Fuel)
	y, _ := run.Run(g.Program, others, g.Fuel)
	l, _ = view.Events(g.Program, g.Who, g.Touch, x.Events)
	m, _ = view.Events(g.Program, g.Who, g.Touch, y.Events)
	return l, m, x.End == api.EndDone && y.End == api.EndDone
}

// I1, J1: of a program without faults nobody learns more than is revealed, and nobody has a say in what it can't touch but by what is trusted.
func TestNothingIsTold(t *testing.T) {
	t.Parallel()
	r := rand.New(rand.NewSource(15))
	seen := map[string]int{}
	for range 8000 {
		g := makeGiven(r)
		g.Program = mended(r, opened(r, g.Program))
		others := likewise(r, g)
		l, m, done := both(g, others)
		kind := map[bool]int{false: api.EventReveal, true: api.EventTrust}[g.Touch]
		at := view.Apart(l, m)
		switch {
		case at < 0 && len(l) > 0 && !alike(g.Ins, others):
			seen["same"]++
		case at >= min(len(l), len(m)):
			seen["more"]++
			if done {
				t.Fatalf("I1, J1: %+v and %v: %v and %v, and both are done", g, others, l, m)
			}
		case at >= 0:
			seen["told"]++
			if l[at].Kind != kind || m[at].Kind != kind || l[at].At != m[at].At {
				t.Fatalf("I1, J1: %+v and %v: %v and %v are apart at %d", g, others, l, m, at)
			}
		}
	}
	if seen["same"] < 300 || seen["told"] < 25 {
		t.Errorf("too little was seen: %v", seen)
	}
}
