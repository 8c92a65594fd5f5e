package whole

import (
	"fmt"
	"math/rand"
	"slices"
	"testing"

	"veilwork/api"
	"veilwork/run"
	"veilwork/slice"
)

// hanging: what hangs on what in a program. Its things are variables, then channels of Ins, then commands.
type hanging struct {
	api.Program
	ways [][]int // from each thing to those that are needed, if it is
	at   int     // the number of the next command
	body [][]int // the commands of each function
}

func makeHanging(p api.Program) *hanging {
	h := &hanging{Program: p, ways: make([][]int, len(p.Vars)+len(p.Ins)+len(commandsOf(p)))}
	for _, f := range p.Funcs {
		from := h.at
		h.stmts(f.Body, nil)
		var body []int
		for at := from; at < h.at; at++ {
			body = append(body, h.command(at))
		}
		h.body = append(h.body, body)
	}
	h.stmts(p.Main, nil)
	return h
}

// command of a number, and channel of Ins, as things.
func (h *hanging) command(at int) int { return len(h.Vars) + len(h.Ins) + at }

func (h *hanging) channel(i int) int { return len(h.Vars) + i }

func (h *hanging) add(from int, to ...int) { h.ways[from] = append(h.ways[from], to...) }

// stmts that stand in others.
func (h *hanging) stmts(l []api.Stmt, around []int) {
	for _, s := range l {
		c := h.command(h.at)
		h.at++
		h.add(c, around...)
		h.add(c, named(s.Expr)...)
		switch s.Kind {
		case api.StmtSet, api.StmtReveal, api.StmtTrust:
			h.add(s.Var, c)
		case api.StmtGet:
			h.add(s.Var, c)
			h.add(h.channel(s.Other), c)
			h.add(c, h.channel(s.Other))
		case api.StmtCall:
			f := h.Funcs[s.Other]
			h.add(s.Var, c)
			h.add(s.Var, named(f.Result)...)
			for i, v := range f.Params {
				h.add(v, c)
				h.add(v, named(s.Args[i])...)
			}
			for _, inside := range h.body[s.Other] {
				h.add(inside, c)
			}
		}
		h.stmts(s.Then, slices.Concat(around, []int{c}))
		h.stmts(s.Else, slices.Concat(around, []int{c}))
	}
}

// needed for a channel of Outs: all things that ways lead to.
func (h *hanging) needed(channel int) []bool {
	out := make([]bool, len(h.ways))
	var reach func(thing int)
	reach = func(thing int) {
		if !out[thing] {
			out[thing] = true
			for _, x := range h.ways[thing] {
				reach(x)
			}
		}
	}
	for at, s := range commandsOf(h.Program) {
		if s.Kind == api.StmtPut && s.Other == channel {
			reach(h.command(at))
		}
	}
	return out
}

// L1: what is needed is what ways lead to.
func TestNeeds(t *testing.T) {
	r := rand.New(rand.NewSource(19))
	seen := map[bool]int{}
	for range 5000 {
		p := makeProgram(r)
		h := makeHanging(p)
		for channel := range p.Outs {
			v, in, s, e := slice.Needs(p, channel)
			want := h.needed(channel)
			if e != api.OK || !slices.Equal(slices.Concat(v, in, s), want) || len(v) != len(p.Vars) || len(in) != len(p.Ins) {
				t.Fatalf("L1: %+v, channel %d: %v %v %v (%d), want %v", p, channel, v, in, s, e, want)
			}
			for _, is := range want {
				seen[is]++
			}
		}
	}
	if seen[true] < 10000 || seen[false] < 10000 {
		t.Errorf("too few that are needed, or are not: %v", seen)
	}
}

// spot of a command: those that it stands in, by their numbers, with the branch, and itself without those in it.
type spot struct {
	Around string
	Stmt   api.Stmt
}

// spotsOf the commands of a program that are asked for, by their numbers among these.
func spotsOf(p api.Program, asked []bool) []spot {
	var out []spot
	at := 0
	var list func(l []api.Stmt, around string)
	list = func(l []api.Stmt, around string) {
		for _, s := range l {
			is := asked[at]
			at++
			bare := s
			bare.Then, bare.Else = nil, nil
			if is {
				out = append(out, spot{around, bare})
			}
			inside := fmt.Sprint(around, " ", len(out)-1)
			list(s.Then, inside+" then")
			list(s.Else, inside+" else")
		}
	}
	for i, f := range p.Funcs {
		list(f.Body, fmt.Sprint("function ", i))
	}
	list(p.Main, "main")
	return out
}

// bare program: without its commands.
func bare(p api.Program) api.Program {
	p.Funcs = slices.Clone(p.Funcs)
	for i := range p.Funcs {
		p.Funcs[i].Body = nil
	}
	p.Main = nil
	return p
}

// L2, L3: a slice has the commands that are needed where they were, and all else; what is sliced twice is sliced once.
func TestSlices(t *testing.T) {
	r := rand.New(rand.NewSource(20))
	for range 3000 {
		p := makeProgram(r)
		for channel := range p.Outs {
			_, _, needed, _ := slice.Needs(p, channel)
			q, e := slice.Slice(p, channel)
			all := slices.Repeat([]bool{true}, len(commandsOf(q)))
			if e != api.OK || !alike(spotsOf(q, all), spotsOf(p, needed)) || !alike(bare(q), bare(p)) {
				t.Fatalf("L2: %+v, channel %d: %+v (%d)", p, channel, q, e)
			}
			if twice, e := slice.Slice(q, channel); e != api.OK || !alike(twice, q) {
				t.Fatalf("L3: %+v, channel %d: %+v, sliced twice %+v (%d)", p, channel, q, twice, e)
			}
			if _, _, s, _ := slice.Needs(q, channel); !slices.Equal(s, all) {
				t.Fatalf("L3: %+v, channel %d: of the slice %v are needed", p, channel, s)
			}
		}
	}
}

// putOn a channel: the events, with numbers of commands that are told.
func putOn(channel int, l []api.Event, number func(at int) int) []api.Event {
	var out []api.Event
	for _, x := range l {
		if x.Kind == api.EventPut && x.Which == channel {
			x.At = number(x.At)
			out = append(out, x)
		}
	}
	return out
}

// L3: sliced, as much goes out on a channel, and the same; all that went out with as many steps goes out by then.
func TestSlicedRuns(t *testing.T) {
	r := rand.New(rand.NewSource(21))
	same, more := 0, 0
	for range 20000 {
		g := makeGiven(r)
		if len(g.Program.Outs) == 0 {
			continue
		}
		_, _, needed, _ := slice.Needs(g.Program, g.Channel)
		var numbers []int // of commands that are left, as they were
		for at, is := range needed {
			if is {
				numbers = append(numbers, at)
			}
		}
		q, e := slice.Slice(g.Program, g.Channel)
		x, _ := run.Run(g.Program, g.Ins, g.Fuel)
		y, f := run.Run(q, g.Ins, g.Fuel)
		if e != api.OK || f != api.OK {
			t.Fatalf("L2: %+v: errors %d and %d", g, e, f)
		}
		l := putOn(g.Channel, x.Events, func(at int) int { return at })
		m := putOn(g.Channel, y.Events, func(at int) int { return numbers[at] })
		if !beginsWith(m, l) || x.End == api.EndDone && (y.End != api.EndDone || len(m) > len(l)) {
			t.Fatalf("L3: %+v: %v, sliced %v", g, x, y)
		}
		if len(l) > 0 && len(commandsOf(q)) < len(needed) {
			same++
		}
		if len(m) > len(l) {
			more++
		}
	}
	if same < 300 || more < 100 {
		t.Errorf("too few: %d went out, of %d more", same, more)
	}
}
