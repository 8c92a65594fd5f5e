package whole

import (
	"math/rand"
	"slices"
	"testing"

	"veilwork/api"
	"veilwork/judge"
	"veilwork/view"
)

// trial: a program, all that is told of it by chapter 8, and who acts for whom.
type trial struct {
	*graph
	levels []api.Level // of the graph's things
	outs   []api.Level
	acts   [][]bool
	faults []api.Fault
	at     int // the number of the next command
}

func makeTrial(p api.Program) *trial {
	x := &trial{graph: makeGraph(p)}
	x.levels = x.all(x.least(bottom(p)))
	x.acts = closure(p.Actors)
	for _, l := range p.Outs {
		x.outs = append(x.outs, api.Level{Readers: x.allowed(l.Read), Writers: x.allowed(l.Write)})
	}
	for i, f := range p.Funcs {
		x.commands(f.Body, []int{len(p.Vars) + i})
	}
	x.commands(p.Main, nil)
	return x
}

// closure of grants: who acts for whom, by way of each one in turn.
func closure(a api.Actors) [][]bool {
	acts := make([][]bool, a.Many)
	for who := range acts {
		acts[who] = make([]bool, a.Many)
		acts[who][who] = true
	}
	for _, g := range a.Grants {
		acts[g.Who][g.For] = true
	}
	for way := range acts {
		for who := range acts {
			for other := range acts {
				acts[who][other] = acts[who][other] || acts[who][way] && acts[way][other]
			}
		}
	}
	return acts
}

// allowed: who may, by these policies.
func (x *trial) allowed(l []api.Policy) []bool {
	may := make([]bool, x.Actors.Many)
	for who := range may {
		may[who] = !slices.ContainsFunc(l, func(p api.Policy) bool {
			return !slices.ContainsFunc(append([]int{p.Owner}, p.Names...), func(other int) bool { return x.acts[who][other] })
		})
	}
	return may
}

// leaks: is there somebody who may read this, but not one of those things?
func (x *trial) leaks(from []int, to api.Level) bool {
	for who := range x.Actors.Many {
		if to.Readers[who] && slices.ContainsFunc(from, func(thing int) bool { return !x.levels[thing].Readers[who] }) {
			return true
		}
	}
	return false
}

// spoils: is there somebody who may have written one of those things, but not this?
func (x *trial) spoils(from []int, to []bool) bool {
	for _, thing := range from {
		for who, is := range x.levels[thing].Writers {
			if is && !to[who] {
				return true
			}
		}
	}
	return false
}

// breaks: one of those things does not flow to this.
func (x *trial) breaks(from []int, to api.Level) bool {
	return x.leaks(from, to) || x.spoils(from, to.Writers)
}

// commands, and those in them, each with the things that it stands in.
func (x *trial) commands(l []api.Stmt, around []int) {
	for _, s := range l {
		for kind := api.FaultSet; kind <= api.FaultRobust; kind++ {
			if x.has(kind, s, around) {
				x.faults = append(x.faults, api.Fault{At: x.at, Kind: kind})
			}
		}
		x.at++
		x.commands(s.Then, slices.Concat(around, named(s.Expr)))
		x.commands(s.Else, slices.Concat(around, named(s.Expr)))
	}
}

// has a command a fault of a kind, as I1 says?
func (x *trial) has(kind int, s api.Stmt, around []int) bool {
	in := named(s.Expr)
	isTold := s.Kind == api.StmtReveal || s.Kind == api.StmtTrust
	switch kind {
	case api.FaultSet:
		return s.Kind == api.StmtSet && x.breaks(slices.Concat(in, around), x.levels[s.Var])
	case api.FaultCall:
		return s.Kind == api.StmtCall && x.hasCall(s, around)
	case api.FaultGet:
		channel := len(x.Vars) + len(x.Funcs) + s.Other
		return s.Kind == api.StmtGet && (x.breaks(append([]int{channel}, around...), x.levels[s.Var]) || x.breaks(around, x.levels[channel]))
	case api.FaultPut:
		return s.Kind == api.StmtPut && x.breaks(slices.Concat(around, in), x.outs[s.Other])
	case api.FaultPlace:
		return isTold && x.breaks(around, x.levels[s.Var])
	case api.FaultSpeak:
		return isTold && slices.ContainsFunc(x.owners(s), func(who int) bool { return !x.isSpokenFor(who) })
	case api.FaultHidden:
		isHidden := func(v int) bool { return !x.Vars[v].Known }
		return s.Kind == api.StmtReveal && slices.ContainsFunc(in, isHidden) || s.Kind == api.StmtTrust && isHidden(s.Var)
	case api.FaultValue:
		return s.Kind == api.StmtReveal && x.spoils(in, x.levels[s.Var].Writers) || s.Kind == api.StmtTrust && x.leaks(in, x.levels[s.Var])
	}
	return s.Kind == api.StmtReveal && x.spoils(slices.Concat(in, around), x.speakers())
}

func (x *trial) hasCall(s api.Stmt, around []int) bool {
	f := x.Funcs[s.Other]
	for i, e := range s.Args {
		if x.breaks(slices.Concat(named(e), around), x.levels[f.Params[i]]) {
			return true
		}
	}
	return x.breaks(slices.Concat(named(f.Result), around), x.levels[s.Var])
}

// owners who must be spoken for, for a command that reveals or trusts.
func (x *trial) owners(s api.Stmt) []int {
	policies := x.Vars[s.Var].Label.Write
	if s.Kind == api.StmtReveal {
		policies = nil
		for _, v := range named(s.Expr) {
			policies = slices.Concat(policies, x.Vars[v].Label.Read)
		}
	}
	var l []int
	for _, p := range policies {
		l = append(l, p.Owner)
	}
	return l
}

func (x *trial) isSpokenFor(who int) bool {
	for _, speaker := range x.Speak {
		if x.acts[speaker][who] {
			return true
		}
	}
	return false
}

// speakers: for each actor, whether it acts for one who speaks.
func (x *trial) speakers() []bool {
	l := make([]bool, x.Actors.Many)
	for who := range l {
		for _, speaker := range x.Speak {
			l[who] = l[who] || x.acts[who][speaker]
		}
	}
	return l
}

// I1, I2: faults are those that I1 tells of, each actor and each variable by itself.
func TestFaults(t *testing.T) {
	r := rand.New(rand.NewSource(11))
	seen := map[int]int{}
	for range 5000 {
		p := makeProgram(r)
		want := makeTrial(p).faults
		l, e := judge.Faults(p)
		if e != api.OK || !slices.Equal(l, want) {
			t.Fatalf("I1: %+v: %v (%d), want %v", p, l, e, want)
		}
		fine, e := judge.Fine(p)
		if e != api.OK || fine != (len(want) == 0) {
			t.Fatalf("I2: %+v: %v (%d), and its faults are %v", p, fine, e, want)
		}
		for _, f := range want {
			seen[f.Kind]++
		}
		if fine && len(p.Main) > 1 {
			seen[0]++
		}
	}
	for kind := range api.FaultRobust + 1 {
		if seen[kind] < 100 {
			t.Errorf("too few of kind %d: %v", kind, seen)
		}
	}
}

// I1: with more who speak no fault is new; and who speaks does not matter but for FaultSpeak and FaultRobust.
func TestMoreSpeak(t *testing.T) {
	r := rand.New(rand.NewSource(12))
	for range 2000 {
		p := makeProgram(r)
		p.Speak = p.Speak[:r.Intn(len(p.Speak)+1)]
		l, _ := judge.Faults(p)
		for who := range p.Actors.Many {
			if !slices.Contains(p.Speak, who) && r.Intn(2) == 0 && len(p.Speak) < p.Actors.Many {
				p.Speak = append(slices.Clone(p.Speak), who)
			}
		}
		m, e := judge.Faults(p)
		isGone := func(f api.Fault) bool {
			return (f.Kind == api.FaultSpeak || f.Kind == api.FaultRobust) && !slices.Contains(m, f)
		}
		if e != api.OK || !slices.Equal(slices.DeleteFunc(slices.Clone(l), isGone), m) {
			t.Fatalf("I1: %+v: %v (%d), and with fewer who speak %v", p, m, e, l)
		}
	}
}

// J1: what one sees, and what it can't touch, is told by the same levels.
func TestViews(t *testing.T) {
	r := rand.New(rand.NewSource(13))
	kept, left := 0, 0
	for range 3000 {
		g := makeGiven(r)
		x := makeTrial(g.Program)
		has := func(l api.Level) bool {
			return map[bool]bool{false: l.Readers[g.Who], true: !l.Writers[g.Who]}[g.Touch]
		}
		ins := make([][]int, len(g.Ins))
		for i, l := range x.levels[len(x.Vars)+len(x.Funcs):] {
			if has(l) {
				ins[i] = g.Ins[i]
			}
		}
		if l, e := view.Inputs(g.Program, g.Who, g.Touch, g.Ins); e != api.OK || !alike(l, ins) {
			t.Fatalf("J1: %+v: %v (%d), want %v", g, l, e, ins)
		}
		var events []api.Event
		for _, v := range g.Events {
			if v.Kind == api.EventPut && has(x.outs[v.Which]) || v.Kind != api.EventPut && has(x.levels[v.Which]) {
				events = append(events, v)
			}
		}
		if l, e := view.Events(g.Program, g.Who, g.Touch, g.Events); e != api.OK || !slices.Equal(l, events) {
			t.Fatalf("J1: %+v: %v (%d), want %v", g, l, e, events)
		}
		kept, left = kept+len(events), left+len(g.Events)-len(events)
	}
	if kept < 3000 || left < 3000 {
		t.Errorf("too few events: %d were seen, %d not", kept, left)
	}
}

// J2: lists are the same ahead of where they are apart, and not there.
func TestAparts(t *testing.T) {
	r := rand.New(rand.NewSource(14))
	for range 3000 {
		l := makeGiven(r).Events
		m := slices.Clone(l)
		for range r.Intn(3) {
			if len(m) > 0 {
				m[r.Intn(len(m))].Value += r.Intn(2)
			}
		}
		m = m[:len(m)-r.Intn(min(len(m), 2)+1)]
		n := view.Apart(l, m)
		if n < 0 {
			if !slices.Equal(l, m) {
				t.Fatalf("J2: %v and %v: %d", l, m, n)
			}
			continue
		}
		isSame := n < len(l) && n < len(m) && l[n] == m[n]
		if n >= max(len(l), len(m)) || !slices.Equal(l[:n], m[:n]) || isSame {
			t.Fatalf("J2: %v and %v: %d", l, m, n)
		}
	}
}
