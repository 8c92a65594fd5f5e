package view

import (
	"veilwork/api"
	"veilwork/infer"
	"veilwork/label"
)

// viewer: an actor of a program that passed Check, and whether what it can't touch is asked for, rather than what it sees. The calls of other layers, which may fail on other programs, do not fail here.
type viewer struct {
	program api.Program
	who     int
	touch   bool
}

// has: is what has this level asked for?
func (v viewer) has(l api.Level) bool {
	if v.touch {
		return !l.Writers[v.who]
	}
	return l.Readers[v.who]
}

// channels with these labels: which are asked for?
func (v viewer) channels(labels []api.Label) []bool {
	out := make([]bool, len(labels))
	for i, x := range labels {
		l, _ := label.Level(v.program.Actors, x)
		out[i] = v.has(l)
	}
	return out
}

// vars: which variables are asked for?
func (v viewer) vars() []bool {
	levels, _ := infer.Infer(v.program)
	out := make([]bool, len(levels.Vars))
	for i, l := range levels.Vars {
		out[i] = v.has(l)
	}
	return out
}
