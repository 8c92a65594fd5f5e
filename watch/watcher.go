package watch

import (
	"slices"

	"veilwork/api"
	"veilwork/judge"
	"veilwork/step"
	"veilwork/walk"
)

// watcher runs a program, and keeps the levels that variables have now: they are those of the Walker, which is here for its levels alone, as the Runner goes through the commands.
type watcher struct {
	*step.Runner
	walk.Walker
	places []api.Level // by how deep a command stands now
	faults []api.Fault
}

// newWatcher of a program that passed Check, ahead of its first step.
func newWatcher(p api.Program, r *step.Runner) *watcher {
	w := &watcher{Runner: r, Walker: walk.Walker{Program: p}}
	for range p.Vars {
		w.Levels.Vars = append(w.Levels.Vars, w.Bottom())
	}
	w.places = []api.Level{w.Bottom()}
	w.faults, _ = judge.Faults(p) // its errors are those of Check
	return w
}

// levels of variables now, in lists that share no memory: in a run several variables and places may have one.
func (w *watcher) levels() []api.Level {
	var out []api.Level
	for _, l := range w.Levels.Vars {
		out = append(out, api.Level{Readers: slices.Clone(l.Readers), Writers: slices.Clone(l.Writers)})
	}
	return out
}

// may what is to be done at a moment be done? If so, levels become what they are then.
func (w *watcher) may(m step.Moment) bool {
	place, s := w.places[m.Deep], m.Stmt
	switch {
	case m.Kind == step.Again:
		w.enter(m.Deep, w.With(w.places[m.Deep+1], s.Expr))
		return true
	case m.Kind == step.Back:
		return w.become(place, s.Var, w.With(place, w.Funcs[s.Other].Result))
	case s.Kind == api.StmtIf || s.Kind == api.StmtWhile:
		w.enter(m.Deep, w.With(place, s.Expr))
		return true
	}
	return w.mayDo(s, m.At, place)
}

// enter a command that stands so deep: what stands in it has this place from now on.
func (w *watcher) enter(deep int, place api.Level) {
	w.places = append(w.places[:deep+1], place)
}

// mayDo: may a command that has none in it be done at a place? If so, levels become what they are then.
func (w *watcher) mayDo(s api.Stmt, at int, place api.Level) bool {
	all := w.With(place, s.Expr)
	switch s.Kind {
	case api.StmtCall:
		return w.mayCall(s, place)
	case api.StmtGet:
		channel := w.Level(w.Ins[s.Other])
		return w.Flows(place, channel) && w.become(place, s.Var, w.Join(channel, place))
	case api.StmtPut:
		return w.Flows(all, w.Level(w.Outs[s.Other]))
	case api.StmtReveal:
		all.Readers = w.bound(s.Var).Readers
		return w.mayTell(s, at) && w.become(place, s.Var, all)
	case api.StmtTrust:
		all.Writers = w.bound(s.Var).Writers
		return w.mayTell(s, at) && w.become(place, s.Var, all)
	}
	return w.become(place, s.Var, all)
}

// mayCall: may all parameters become their arguments? None does, if another one may not.
func (w *watcher) mayCall(s api.Stmt, place api.Level) bool {
	params := w.Funcs[s.Other].Params
	args := make([]api.Level, len(params))
	for i, v := range params {
		args[i] = w.With(place, s.Args[i])
		if !w.mayBecome(place, v, args[i]) {
			return false
		}
	}
	for i, v := range params {
		w.Levels.Vars[v] = args[i]
	}
	return true
}

// mayTell: may a command reveal or trust, wherever it stands?
func (w *watcher) mayTell(s api.Stmt, at int) bool {
	bars := func(f api.Fault) bool {
		return f.At == at && (f.Kind == api.FaultSpeak || f.Kind == api.FaultHidden)
	}
	return w.Program.Vars[s.Var].Known && !slices.ContainsFunc(w.faults, bars)
}

// become: a variable gets a level at a place, if it may.
func (w *watcher) become(place api.Level, v int, l api.Level) bool {
	if !w.mayBecome(place, v, l) {
		return false
	}
	w.Levels.Vars[v] = l
	return true
}

// mayBecome: may a variable get a level at a place?
func (w *watcher) mayBecome(place api.Level, v int, l api.Level) bool {
	return w.Flows(place, w.Levels.Vars[v]) && (!w.Program.Vars[v].Known || w.Flows(l, w.bound(v)))
}

// bound of what a variable that is Known may become.
func (w *watcher) bound(v int) api.Level { return w.Level(w.Program.Vars[v].Label) }
