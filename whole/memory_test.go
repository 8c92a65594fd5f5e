package whole

import (
	"cmp"
	"fmt"
	"math/rand"
	"reflect"
	"slices"
	"sync"
	"testing"

	"veilwork/api"
	"veilwork/infer"
	"veilwork/judge"
	"veilwork/run"
	"veilwork/scope"
	"veilwork/slice"
	"veilwork/sure"
	"veilwork/view"
	"veilwork/watch"
)

// given: all that a call may be handed.
type given struct {
	Program api.Program
	Ins     [][]int
	Fuel    int
	Levels  api.Levels
	Expr    api.Expr
	Vars    []int
	Who     int
	Touch   bool
	Events  []api.Event
	Others  []api.Event
	Channel int
	Again   [][]int
	Text    string
}

// calls: each answers what it was told, and an error.
func calls() map[string]func(g given) (any, api.Errno) {
	return map[string]func(g given) (any, api.Errno){
		"Eval": func(g given) (any, api.Errno) {
			n, e := run.Eval(g.Expr, g.Vars)
			return n, e
		},
		"Run": func(g given) (any, api.Errno) {
			x, e := run.Run(g.Program, g.Ins, g.Fuel)
			return x, e
		},
		"Of": func(g given) (any, api.Errno) {
			x, e := infer.Of(g.Program, g.Levels, g.Expr)
			return x, e
		},
		"Infer": func(g given) (any, api.Errno) {
			l, e := infer.Infer(g.Program)
			return l, e
		},
		"Fits": func(g given) (any, api.Errno) {
			ok, e := infer.Fits(g.Program, g.Levels)
			return ok, e
		},
		"Faults": func(g given) (any, api.Errno) {
			l, e := judge.Faults(g.Program)
			return l, e
		},
		"Fine": func(g given) (any, api.Errno) {
			ok, e := judge.Fine(g.Program)
			return ok, e
		},
		"Inputs": func(g given) (any, api.Errno) {
			l, e := view.Inputs(g.Program, g.Who, g.Touch, g.Ins)
			return l, e
		},
		"Events": func(g given) (any, api.Errno) {
			l, e := view.Events(g.Program, g.Who, g.Touch, g.Events)
			return l, e
		},
		"Apart": func(g given) (any, api.Errno) {
			return view.Apart(g.Events, g.Others), api.OK
		},
		"Watch": func(g given) (any, api.Errno) {
			x, l, e := watch.Watch(g.Program, g.Ins, g.Fuel)
			return struct {
				Run    api.Run
				Levels []api.Level
			}{x, l}, e
		},
		"Needs": func(g given) (any, api.Errno) {
			v, in, s, e := slice.Needs(g.Program, g.Channel)
			return struct{ Vars, Ins, Stmts []bool }{v, in, s}, e
		},
		"Slice": func(g given) (any, api.Errno) {
			p, e := slice.Slice(g.Program, g.Channel)
			return p, e
		},
		"Both": func(g given) (any, api.Errno) {
			l, m, at, e := sure.Both(g.Program, g.Who, g.Touch, g.Ins, g.Again, g.Fuel)
			return struct {
				Events, Others []api.Event
				At             int
			}{l, m, at}, e
		},
		"Report": func(g given) (any, api.Errno) {
			s, e := sure.Report(g.Text)
			return s, e
		},
	}
}

// wants: which error each call must have, as G1, G2, H1 to H3, I2, J1, K2, L1, M1 and M2 name them in their order.
func wants(g given) map[string]api.Errno {
	p := scope.Check(g.Program)
	beyond := func(l []int) bool {
		return slices.ContainsFunc(l, func(n int) bool { return n > 1<<31-1 || n < -1<<31 })
	}
	levels := when(len(g.Levels.Vars) != len(g.Program.Vars) || len(g.Levels.Funcs) != len(g.Program.Funcs), api.ErrForm)
	for _, l := range slices.Concat(g.Levels.Vars, g.Levels.Funcs) {
		many := g.Program.Actors.Many
		levels = cmp.Or(levels, when(len(l.Readers) != many || len(l.Writers) != many, api.ErrForm))
	}
	ins := when(len(g.Ins) != len(g.Program.Ins), api.ErrForm)
	isLong := func(l []int) bool { return len(l) >= 101 }
	runsWith := func(ins [][]int) api.Errno {
		return cmp.Or(p,
			when(len(ins) != len(g.Program.Ins), api.ErrForm),
			when(slices.ContainsFunc(ins, isLong), api.ErrMany),
			when(slices.ContainsFunc(ins, beyond) || g.Fuel < 0 || g.Fuel >= 2001, api.ErrRange))
	}
	who := when(g.Who < 0 || g.Who >= g.Program.Actors.Many, api.ErrNone)
	channel := when(g.Channel < 0 || g.Channel >= len(g.Program.Outs), api.ErrNone)
	return map[string]api.Errno{
		"Eval":   cmp.Or(formOf(g.Expr, len(g.Vars)), when(beyond(g.Vars), api.ErrRange)),
		"Run":    runsWith(g.Ins),
		"Of":     cmp.Or(p, levels, formOf(g.Expr, len(g.Program.Vars))),
		"Infer":  p,
		"Fits":   cmp.Or(p, levels),
		"Faults": p,
		"Fine":   p,
		"Inputs": cmp.Or(p, who, ins),
		"Events": cmp.Or(p, who, formOfEvents(g.Events, g.Program)),
		"Apart":  api.OK,
		"Watch":  runsWith(g.Ins),
		"Needs":  cmp.Or(p, channel),
		"Slice":  cmp.Or(p, channel),
		"Both":   cmp.Or(runsWith(g.Ins), runsWith(g.Again), who),
		"Report": when(len(g.Text) >= 6001, api.ErrMany),
	}
}

// formOfEvents of a program.
func formOfEvents(l []api.Event, p api.Program) api.Errno {
	var kind, none api.Errno
	for _, x := range l {
		many, ok := map[int]int{1: len(p.Outs), 2: len(p.Vars), 3: len(p.Vars)}[x.Kind]
		kind = cmp.Or(kind, when(!ok, api.ErrKind))
		none = cmp.Or(none, when(x.Which < 0 || x.Which >= many, api.ErrNone))
	}
	return cmp.Or(kind, none)
}

func when(is bool, why api.Errno) api.Errno {
	if is {
		return why
	}
	return api.OK
}

// formOf an expression of a program with so many variables.
func formOf(e api.Expr, vars int) api.Errno {
	l := parts(e)
	why := when(len(l) >= 16, api.ErrMany)
	for _, x := range l {
		args := map[int]int{1: 0, 2: 0, 3: 2, 4: 2, 5: 2, 6: 2, 7: 2}
		many, ok := args[x.Kind]
		why = cmp.Or(why,
			when(!ok, api.ErrKind),
			when(len(x.Args) != many, api.ErrForm),
			when(x.Kind == 1 && max(x.N, -x.N) >= 10000000 || x.Kind >= 3 && x.N != 0, api.ErrRange),
			when(x.Kind == 2 && (x.N < 0 || x.N >= vars), api.ErrNone))
	}
	return why
}

// parts of an expression, each ahead of its Args.
func parts(e api.Expr) []api.Expr {
	out := []api.Expr{e}
	for _, a := range e.Args {
		out = append(out, parts(a)...)
	}
	return out
}

// makeGiven: what all calls take.
func makeGiven(r *rand.Rand) given {
	p := makeProgram(r)
	m := maker{Rand: r, p: p}
	return given{
		Program: p, Ins: makeInputs(r, p), Fuel: makeFuel(r),
		Levels: makeLevels(r, p), Expr: m.expr(3), Vars: make([]int, len(p.Vars)),
		Who: m.actor(), Touch: r.Intn(2) == 0, Events: makeEvents(r, p), Others: makeEvents(r, p),
		Channel: r.Intn(max(len(p.Outs), 1)), Again: makeInputs(r, p), Text: textOf(p),
	}
}

// eachPart of a value: all fields and elements.
func eachPart(v reflect.Value, see func(v reflect.Value)) {
	see(v)
	switch v.Kind() {
	case reflect.Struct:
		for i := range v.NumField() {
			eachPart(v.Field(i), see)
		}
	case reflect.Slice:
		for i := range v.Len() {
			eachPart(v.Index(i), see)
		}
	}
}

func eachList(x any, see func(v reflect.Value)) {
	eachPart(reflect.ValueOf(x), func(v reflect.Value) {
		if v.Kind() == reflect.Slice {
			see(v)
		}
	})
}

// alike: are two values the same, be their empty lists nil or not?
func alike(x, y any) bool { return fmt.Sprintf("%+v", x) == fmt.Sprintf("%+v", y) }

// withRoom: all lists of what a call is handed get some room behind.
func withRoom(g *given) {
	eachPart(reflect.ValueOf(g).Elem(), func(v reflect.Value) {
		if v.Kind() == reflect.Slice {
			list := reflect.MakeSlice(v.Type(), 0, v.Len()+2)
			v.Set(reflect.AppendSlice(list, v))
		}
	})
}

// isRoomEmpty behind all lists?
func isRoomEmpty(x any) bool {
	empty := true
	eachList(x, func(v reflect.Value) {
		for i := v.Len(); i < v.Cap(); i++ {
			empty = empty && v.Slice(0, v.Cap()).Index(i).IsZero()
		}
	})
	return empty
}

// share: do two lists of some values have memory in common, the room behind them too?
func share(values ...any) bool {
	type span struct{ from, to uintptr }
	var l []span
	for _, x := range values {
		eachList(x, func(v reflect.Value) {
			if v.Cap() > 0 {
				l = append(l, span{v.Pointer(), v.Pointer() + uintptr(v.Cap())*v.Type().Elem().Size()})
			}
		})
	}
	slices.SortFunc(l, func(x, y span) int { return cmp.Compare(x.from, y.from) })
	for i := 1; i < len(l); i++ {
		if l[i].from < l[i-1].to {
			return true
		}
	}
	return false
}

// spoil one field or list of what a call is handed.
func spoil(r *rand.Rand, g *given) {
	var l []reflect.Value
	eachPart(reflect.ValueOf(g).Elem(), func(v reflect.Value) {
		if v.Kind() != reflect.Struct {
			l = append(l, v)
		}
	})
	// Of fields of all, rather than of the program, which has most of them.
	if r.Intn(2) == 0 {
		l = l[len(l)*2/3:]
	}
	switch v := l[r.Intn(len(l))]; v.Kind() {
	case reflect.Int:
		n := []int{-1, 0, 1, 2, 3, 7, 8, 9, 16, api.MaxNumber + 1, api.Most, api.Most + 1, api.Least, api.Least - 1, api.MaxFuel + 1}
		v.SetInt(int64(n[r.Intn(len(n))]))
	case reflect.Bool:
		v.SetBool(!v.Bool())
	case reflect.String:
		v.SetString(spoiltText(r, v.String()))
	case reflect.Slice:
		if v.Len() > 0 && r.Intn(2) == 0 {
			v.SetLen(v.Len() - 1)
			return
		}
		more := reflect.MakeSlice(v.Type(), []int{1, 2, 17, 101}[r.Intn(4)], 101)
		v.Set(reflect.AppendSlice(v.Slice3(0, v.Len(), v.Len()), more))
	}
}

// P1: calls answer the errors that their promises name, the first of them, and with one nothing else.
func TestErrors(t *testing.T) {
	t.Parallel()
	r := rand.New(rand.NewSource(8))
	seen := map[string]int{}
	for range 20000 {
		g := makeGiven(r)
		for range r.Intn(4) {
			spoil(r, &g)
		}
		if r.Intn(10) == 0 {
			g.Text = spoiltText(r, g.Text)
		}
		want := wants(g)
		for name, call := range calls() {
			x, e := call(g)
			if e != want[name] {
				t.Fatalf("P1: %s of %+v: error %d, want %d", name, g, e, want[name])
			}
			if e != api.OK && !reflect.ValueOf(x).IsZero() {
				t.Fatalf("P1: %s of %+v: error %d, and %v", name, g, e, x)
			}
			seen[fmt.Sprint(name, e)]++
		}
	}
	for _, s := range []string{"Eval1", "Eval2", "Eval3", "Eval5", "Eval7", "Run1", "Run2", "Run3", "Of1", "Of2", "Of3", "Of5", "Of7", "Infer1", "Infer5", "Infer7", "Fits1", "Fits5",
		"Faults1", "Faults5", "Faults7", "Fine1", "Fine5", "Fine7", "Inputs1", "Inputs5", "Events5", "Events7",
		"Watch1", "Watch2", "Watch3", "Watch5", "Watch7", "Needs1", "Needs2", "Needs5", "Needs7", "Slice1", "Slice2", "Slice5", "Slice7",
		"Both1", "Both2", "Both3", "Both5", "Both7", "Report2"} {
		if seen[s] < 20 {
			t.Errorf("only %d of %s, in %v", seen[s], s, seen)
		}
	}
}

// P2: what comes in is only read, the room behind lists too; an answer is new memory, and no two lists of it share any.
func TestMemory(t *testing.T) {
	t.Parallel()
	r := rand.New(rand.NewSource(9))
	for range 1000 {
		g := makeGiven(r)
		if r.Intn(3) == 0 {
			spoil(r, &g)
		}
		withRoom(&g)
		was := fmt.Sprintf("%+v", g)
		for name, call := range calls() {
			x, _ := call(g)
			y, _ := call(g)
			if fmt.Sprintf("%+v", g) != was || !isRoomEmpty(g) {
				t.Fatalf("P2: %s: %s became %+v", name, was, g)
			}
			if share(g, x, y) {
				t.Fatalf("P2: %s of %s: lists of %v share memory", name, was, x)
			}
		}
	}
}

// P3: the same each time, whoever asks at the same time.
func TestSameEachTime(t *testing.T) {
	r := rand.New(rand.NewSource(10))
	for range 100 {
		g := makeGiven(r)
		var all sync.WaitGroup
		for name, call := range calls() {
			want, why := call(g)
			for range 3 {
				all.Go(func() {
					call(given{})
					if x, e := call(g); !alike(x, want) || e != why {
						t.Errorf("P3: %s of %+v: %v (%d), and %v (%d) ahead of it", name, g, x, e, want, why)
					}
				})
			}
		}
		all.Wait()
	}
}
