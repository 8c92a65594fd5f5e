package infer

import (
	"slices"

	"veilwork/api"
	"veilwork/walk"
)

// walker looks for what levels must flow to, as it goes through commands.
type walker struct{ walk.Walker }

func walkerOf(p api.Program, l api.Levels) walker {
	return walker{walk.Walker{Program: p, Levels: l}}
}

// leastWalker has the least levels that may be, whatever the commands ask.
func leastWalker(p api.Program) walker {
	w := walkerOf(p, api.Levels{})
	for _, v := range p.Vars {
		l := w.Bottom()
		if v.Known {
			l = w.Level(v.Label)
		}
		w.Levels.Vars = append(w.Levels.Vars, l)
	}
	for range p.Funcs {
		w.Levels.Funcs = append(w.Levels.Funcs, w.Bottom())
	}
	return w
}

// knownHold: have variables that are Known the levels of their labels?
func (w walker) knownHold() bool {
	for i, v := range w.Vars {
		if v.Known && !same(w.Level(v.Label), w.Levels.Vars[i]) {
			return false
		}
	}
	return true
}

func same(l, m api.Level) bool {
	return slices.Equal(l.Readers, m.Readers) && slices.Equal(l.Writers, m.Writers)
}

// asked: all that must flow somewhere, for levels to fit.
func (w walker) asked(flow func(from api.Level, to *api.Level)) {
	toVar := func(from api.Level, v int) {
		if !w.Vars[v].Known {
			flow(from, &w.Levels.Vars[v])
		}
	}
	w.Each(func(_ int, s api.Stmt, place api.Level) {
		all := w.With(place, s.Expr)
		switch s.Kind {
		case api.StmtSet:
			toVar(all, s.Var)
		case api.StmtCall:
			f := w.Funcs[s.Other]
			for i, v := range f.Params {
				toVar(w.With(place, s.Args[i]), v)
			}
			toVar(w.With(place, f.Result), s.Var)
			flow(place, &w.Levels.Funcs[s.Other])
		case api.StmtGet:
			toVar(w.Join(place, w.Level(w.Ins[s.Other])), s.Var)
		case api.StmtReveal:
			toVar(api.Level{Readers: place.Readers, Writers: all.Writers}, s.Var)
		case api.StmtTrust:
			toVar(api.Level{Readers: all.Readers, Writers: place.Writers}, s.Var)
		}
	})
}
