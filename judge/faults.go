package judge

import (
	"slices"

	"veilwork/actors"
	"veilwork/api"
	"veilwork/expr"
	"veilwork/walk"
)

// judge goes through commands, and keeps the faults of those that it came to.
type judge struct {
	walk.Walker
	acts   [][]bool // for each actor, whom it acts for
	faults []api.Fault
}

// newJudge of a program that passed Check, with the levels of Infer.
func newJudge(p api.Program, l api.Levels) *judge {
	acts, _ := actors.For(p.Actors) // its errors are among those of Check
	return &judge{Walker: walk.Walker{Program: p, Levels: l}, acts: acts}
}

// stmt is a command: its faults, by kind.
func (j *judge) stmt(at int, s api.Stmt, place api.Level) {
	blame := func(kind int, is bool) {
		if is {
			j.faults = append(j.faults, api.Fault{At: at, Kind: kind})
		}
	}
	switch s.Kind {
	case api.StmtSet:
		blame(api.FaultSet, !j.reaches(j.With(place, s.Expr), s.Var))
	case api.StmtCall:
		blame(api.FaultCall, !j.callFlows(s, place))
	case api.StmtGet:
		channel := j.Level(j.Ins[s.Other])
		blame(api.FaultGet, !j.reaches(j.Join(channel, place), s.Var) || !j.Flows(place, channel))
	case api.StmtPut:
		blame(api.FaultPut, !j.Flows(j.With(place, s.Expr), j.Level(j.Outs[s.Other])))
	case api.StmtReveal:
		j.reveal(s, place, blame)
	case api.StmtTrust:
		j.trust(s, place, blame)
	}
}

// reaches: does a level flow to that of a variable?
func (j *judge) reaches(l api.Level, v int) bool { return j.Flows(l, j.Levels.Vars[v]) }

// callFlows: does all that a call hands on flow to where it comes?
func (j *judge) callFlows(s api.Stmt, place api.Level) bool {
	f := j.Funcs[s.Other]
	for i, v := range f.Params {
		if !j.reaches(j.With(place, s.Args[i]), v) {
			return false
		}
	}
	return j.reaches(j.With(place, f.Result), s.Var)
}

func (j *judge) reveal(s api.Stmt, place api.Level, blame func(kind int, is bool)) {
	told, to := j.With(j.Bottom(), s.Expr), j.Levels.Vars[s.Var]
	mute, hidden := false, false
	for v := range expr.Vars(s.Expr) {
		mute = mute || j.isMute(j.Vars[v].Label.Read)
		hidden = hidden || !j.Vars[v].Known
	}
	blame(api.FaultPlace, !j.Flows(place, to))
	blame(api.FaultSpeak, mute)
	blame(api.FaultHidden, hidden)
	blame(api.FaultValue, j.somebody(func(who int) bool { return told.Writers[who] && !to.Writers[who] }))
	blame(api.FaultRobust, j.somebody(func(who int) bool {
		return (told.Writers[who] || place.Writers[who]) && !j.actsForSpeaker(who)
	}))
}

func (j *judge) trust(s api.Stmt, place api.Level, blame func(kind int, is bool)) {
	told, to := j.With(j.Bottom(), s.Expr), j.Levels.Vars[s.Var]
	v := j.Vars[s.Var]
	blame(api.FaultPlace, !j.Flows(place, to))
	blame(api.FaultSpeak, j.isMute(v.Label.Write))
	blame(api.FaultHidden, !v.Known)
	blame(api.FaultValue, j.somebody(func(who int) bool { return to.Readers[who] && !told.Readers[who] }))
}

// isMute: is there an owner of one of these policies for whom nobody who speaks acts?
func (j *judge) isMute(l []api.Policy) bool {
	return slices.ContainsFunc(l, func(p api.Policy) bool {
		return !slices.ContainsFunc(j.Speak, func(who int) bool { return j.acts[who][p.Owner] })
	})
}

// actsForSpeaker: does one act for somebody who speaks?
func (j *judge) actsForSpeaker(who int) bool {
	return slices.ContainsFunc(j.Speak, func(other int) bool { return j.acts[who][other] })
}

// somebody: is there an actor of whom this holds?
func (j *judge) somebody(is func(who int) bool) bool {
	for who := range j.Actors.Many {
		if is(who) {
			return true
		}
	}
	return false
}
