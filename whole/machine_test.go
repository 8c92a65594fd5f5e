package whole

import (
	"math/big"
	"math/rand"
	"slices"
	"testing"

	"veilwork/api"
	"veilwork/run"
)

// order of a machine: a program is laid out as a list of them, with jumps.
type order struct {
	do   func(m *machine)
	step bool // it is a step
}

// machine goes through orders one by one.
type machine struct {
	api.Run
	orders []order
	next   int   // which order
	back   []int // where calls go on
}

// layout of a program as orders.
type layout struct {
	p      api.Program
	ins    [][]int
	at     int // the number of the next command
	starts []int
	list   []order
}

// machineRun: a run of a program that is fine, as G2 says.
func machineRun(p api.Program, ins [][]int, fuel int) api.Run {
	l := &layout{p: p, ins: ins}
	for _, f := range p.Funcs {
		l.starts = append(l.starts, len(l.list))
		l.stmts(f.Body)
		l.free(func(m *machine) {
			m.next = m.back[len(m.back)-1]
			m.back = m.back[:len(m.back)-1]
		})
	}
	main := len(l.list)
	l.stmts(p.Main)
	m := &machine{orders: l.list, next: main}
	m.Vars, m.Taken = make([]int, len(p.Vars)), make([]int, len(p.Ins))
	for m.End = api.EndDone; m.next < len(m.orders); {
		o := m.orders[m.next]
		if o.step && m.Steps == fuel {
			m.End = api.EndFuel
			break
		}
		if o.step {
			m.Steps++
		}
		m.next++
		o.do(m)
	}
	return m.Run
}

// free order, which is no step.
func (l *layout) free(do func(m *machine)) { l.list = append(l.list, order{do, false}) }

func (l *layout) step(do func(m *machine)) { l.list = append(l.list, order{do, true}) }

func (l *layout) stmts(list []api.Stmt) {
	for _, s := range list {
		at := l.at
		l.at++
		switch s.Kind {
		case api.StmtSet:
			l.step(func(m *machine) { m.Vars[s.Var] = m.reckon(s.Expr) })
		case api.StmtCall:
			l.call(s)
		case api.StmtGet:
			l.step(func(m *machine) {
				left := append(slices.Clone(l.ins[s.Other]), make([]int, api.MaxFuel)...)
				m.Vars[s.Var] = left[m.Taken[s.Other]]
				m.Taken[s.Other]++
			})
		case api.StmtPut:
			l.step(func(m *machine) { m.event(api.Event{Kind: 1, At: at, Which: s.Other}, s.Expr) })
		case api.StmtReveal, api.StmtTrust:
			kind := s.Kind - api.StmtReveal + api.EventReveal
			l.step(func(m *machine) { m.Vars[s.Var] = m.event(api.Event{Kind: kind, At: at, Which: s.Var}, s.Expr) })
		default:
			l.branches(s)
		}
	}
}

func (l *layout) call(s api.Stmt) {
	f := l.p.Funcs[s.Other]
	l.step(func(m *machine) {
		was := slices.Clone(m.Vars)
		for i, v := range f.Params {
			m.Vars[v] = int(reckoned(s.Args[i], was).Int64())
		}
		m.back = append(m.back, m.next)
		m.next = l.starts[s.Other]
	})
	l.free(func(m *machine) { m.Vars[s.Var] = m.reckon(f.Result) })
}

// branches: to look is a step, each time.
func (l *layout) branches(s api.Stmt) {
	look, other := len(l.list), 0
	l.step(func(m *machine) {
		if m.reckon(s.Expr) == 0 {
			m.next = other
		}
	})
	l.stmts(s.Then)
	end := 0
	l.free(func(m *machine) {
		if m.next = end; s.Kind == api.StmtWhile {
			m.next = look
		}
	})
	other = len(l.list)
	l.stmts(s.Else)
	end = len(l.list)
}

func (m *machine) event(x api.Event, e api.Expr) int {
	x.Value = m.reckon(e)
	m.Events = append(m.Events, x)
	return x.Value
}

func (m *machine) reckon(e api.Expr) int { return int(reckoned(e, m.Vars).Int64()) }

// reckoned: an expression, with numbers as great as may be.
func reckoned(e api.Expr, vars []int) *big.Int {
	var x [2]*big.Int
	for i, a := range e.Args {
		x[i] = reckoned(a, vars)
	}
	z := new(big.Int)
	switch e.Kind {
	case api.ExprNumber:
		z.SetInt64(int64(e.N))
	case api.ExprName:
		z.SetInt64(int64(vars[e.N]))
	case api.ExprAdd:
		z.Add(x[0], x[1])
	case api.ExprSub:
		z.Sub(x[0], x[1])
	case api.ExprMul:
		z.Mul(x[0], x[1])
	case api.ExprLess:
		z.SetInt64(map[int]int64{-1: 1}[x[0].Cmp(x[1])])
	case api.ExprSame:
		z.SetInt64(map[int]int64{0: 1}[x[0].Cmp(x[1])])
	}
	half := big.NewInt(1 << 31)
	return z.Sub(z.Mod(z.Add(z, half), big.NewInt(1<<32)), half)
}

// G2: runs are as those of the machine.
func TestRuns(t *testing.T) {
	r := rand.New(rand.NewSource(1))
	ends := map[int]int{}
	events := 0
	for range 4000 {
		p := makeProgram(r)
		ins, fuel := makeInputs(r, p), makeFuel(r)
		x, e := run.Run(p, ins, fuel)
		if want := machineRun(p, ins, fuel); e != api.OK || !alike(x, want) {
			t.Fatalf("G2: %+v with %v and fuel %d: %v (%d), want %v", p, ins, fuel, x, e, want)
		}
		ends[x.End]++
		events += len(x.Events)
	}
	// Else hardly anything was tried.
	if ends[api.EndDone] < 500 || ends[api.EndFuel] < 500 || events < 10000 {
		t.Errorf("too few ends %v, or events %d", ends, events)
	}
}

// beginsWith: does a list begin with another one?
func beginsWith[T comparable](l, m []T) bool { return len(m) <= len(l) && slices.Equal(l[:len(m)], m) }

// G3: with more fuel all that happened happens.
func TestMoreFuel(t *testing.T) {
	r := rand.New(rand.NewSource(2))
	for range 1000 {
		p := makeProgram(r)
		ins, fuel := makeInputs(r, p), r.Intn(60)
		x, _ := run.Run(p, ins, fuel)
		y, e := run.Run(p, ins, fuel+r.Intn(100))
		if e != api.OK || !beginsWith(y.Events, x.Events) || y.Steps < x.Steps || x.End == api.EndDone && !alike(x, y) {
			t.Fatalf("G3: %+v with %v: %v, with more fuel %v (%d)", p, ins, x, y, e)
		}
		for i, n := range x.Taken {
			if y.Taken[i] < n {
				t.Fatalf("G3: %+v with %v: taken %v, with more fuel %v", p, ins, x.Taken, y.Taken)
			}
		}
		if x.End == api.EndFuel && x.Steps != fuel {
			t.Fatalf("G2: %+v with %v: %d steps, and fuel %d", p, ins, x.Steps, fuel)
		}
	}
}

// G3: what is not taken does not matter.
func TestNotTaken(t *testing.T) {
	r := rand.New(rand.NewSource(3))
	for range 1000 {
		p := makeProgram(r)
		ins, fuel := makeInputs(r, p), makeFuel(r)
		x, _ := run.Run(p, ins, fuel)
		others := makeInputs(r, p)
		for i, n := range x.Taken {
			// Noughts are what is taken where there is none any more.
			came := append(slices.Clone(ins[i]), make([]int, api.MaxFuel)...)
			others[i] = append(came[:min(n, api.MaxInput)], others[i]...)
			others[i] = others[i][:min(len(others[i]), api.MaxInput)]
		}
		y, e := run.Run(p, others, fuel)
		if e != api.OK || !alike(x, y) {
			t.Fatalf("G3: %+v: %v with %v, %v with %v (%d)", p, x, ins, y, others, e)
		}
	}
}
