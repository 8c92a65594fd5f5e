package whole

import (
	"fmt"
	"math/rand"
	"slices"
	"strings"
	"testing"

	"veilwork/api"
	"veilwork/run"
	"veilwork/scope"
	"veilwork/sure"
	"veilwork/view"
)

// M1: both lists are what is told by levels of what a machine does, and they are apart where the first events that are not the same stand.
func TestBoth(t *testing.T) {
	r := rand.New(rand.NewSource(24))
	seen := map[string]int{}
	for range 3000 {
		g := makeGiven(r)
		g.Program = opened(r, g.Program)
		if r.Intn(3) == 0 {
			g.Again = slices.Clone(g.Ins)
		}
		x := makeTrial(g.Program)
		want := [2][]api.Event{x.kept(g, g.Ins), x.kept(g, g.Again)}
		l, m, at, e := sure.Both(g.Program, g.Who, g.Touch, g.Ins, g.Again, g.Fuel)
		if e != api.OK || !slices.Equal(l, want[0]) || !slices.Equal(m, want[1]) || at != firstApart(l, m) {
			t.Fatalf("M1: %+v: %v and %v, apart at %d (%d), want %v", g, l, m, at, e, want)
		}
		switch {
		case at < 0 && len(l) > 0:
			seen["same"]++
		case at >= 0 && at < min(len(l), len(m)):
			seen["apart"]++
		case at >= 0:
			seen["more"]++
		}
	}
	for _, s := range []string{"same", "apart", "more"} {
		if seen[s] < 25 {
			t.Errorf("too few of %s: %v", s, seen)
		}
	}
}

// kept: what one sees, or can't touch, of a run.
func (x *trial) kept(g given, ins [][]int) []api.Event {
	var out []api.Event
	for _, v := range machineRun(g.Program, ins, g.Fuel).Events {
		levels := x.levels
		if v.Kind == api.EventPut {
			levels = x.outs
		}
		l := levels[v.Which]
		if g.Touch && !l.Writers[g.Who] || !g.Touch && l.Readers[g.Who] {
			out = append(out, v)
		}
	}
	return out
}

func firstApart(l, m []api.Event) int {
	for i := range max(len(l), len(m)) {
		if fmt.Sprint(l[i:min(i+1, len(l))]) != fmt.Sprint(m[i:min(i+1, len(m))]) {
			return i
		}
	}
	return -1
}

// verdict on what is seen of both runs: the same, more of one, told (the first difference is of that kind, by the same command), or a leak.
func verdict(l, m []api.Event, kind int) string {
	at := view.Apart(l, m)
	switch {
	case at < 0 && len(l) == 0:
		return "nothing"
	case at < 0:
		return "same"
	case at >= min(len(l), len(m)):
		return "more"
	case l[at].Kind == kind && m[at].Kind == kind && l[at].At == m[at].At:
		return "told"
	}
	return "leak"
}

// M3, M4: of a program that is fine nobody learns more than is revealed, and nobody has a say in what it can't touch but by what is trusted.
func TestSure(t *testing.T) {
	t.Parallel()
	r := rand.New(rand.NewSource(22))
	seen := map[string]int{}
	for g, others := range eachFine(r, 800) {
		l, m, _, e := sure.Both(g.Program, g.Who, g.Touch, g.Ins, others, g.Fuel)
		promise, kind := "M3", api.EventReveal
		if g.Touch {
			promise, kind = "M4", api.EventTrust
		}
		x, y, done := runs(g, others)
		v := verdict(l, m, kind)
		if e != api.OK || v == "leak" || v == "more" && done {
			t.Fatalf("%s: %+v and %v: %v and %v (%d)", promise, g, others, l, m, e)
		}
		if !alike(x, y) {
			seen[promise+" "+v]++
		}
	}
	for _, s := range []string{"M3 same", "M3 told", "M4 same", "M4 told"} {
		if seen[s] < 200 {
			t.Errorf("too few of %s: %v", s, seen)
		}
	}
}

// runs with both inputs, and whether both are done.
func runs(g given, others [][]int) (x, y api.Run, done bool) {
	x, _ = run.Run(g.Program, g.Ins, g.Fuel)
	y, _ = run.Run(g.Program, others, g.Fuel)
	return x, y, x.End == api.EndDone && y.End == api.EndDone
}

// M4: who acts for nobody who speaks has no say in what is revealed, whoever may have written the variable.
func TestNobodyElseReveals(t *testing.T) {
	t.Parallel()
	r := rand.New(rand.NewSource(23))
	seen := map[string]int{}
	for g, others := range eachFine(r, 800) {
		if !g.Touch {
			continue
		}
		x, y, done := runs(g, others)
		if alike(x, y) {
			continue
		}
		l, n := withReveals(g, x.Events)
		m, _ := withReveals(g, y.Events)
		v := verdict(l, m, api.EventTrust)
		if makeTrial(g.Program).speakers()[g.Who] {
			seen["speaker "+v]++
			continue
		}
		if v == "leak" || v == "more" && done {
			t.Fatalf("M4: %+v and %v: %v and %v", g, others, l, m)
		}
		if n > 0 {
			seen[v]++
		}
	}
	// One who acts for somebody who speaks may have a say there.
	for _, s := range []string{"same", "told", "speaker leak"} {
		if seen[s] < 100 {
			t.Errorf("too few of %s: %v", s, seen)
		}
	}
}

// withReveals: what one can't touch of some events, and all that is revealed; and how much of that it could touch.
func withReveals(g given, l []api.Event) ([]api.Event, int) {
	var out []api.Event
	n := 0
	left, _ := view.Events(g.Program, g.Who, true, l)
	for _, v := range l {
		if len(left) > 0 && left[0] == v {
			left = left[1:]
			out = append(out, v)
		} else if v.Kind == api.EventReveal {
			out = append(out, v)
			n++
		}
	}
	return out, n
}

// M2: reports tell the faults of the program that was written as a text.
func TestReports(t *testing.T) {
	t.Parallel()
	r := rand.New(rand.NewSource(25))
	words := strings.Fields("fine set call get put place speak hidden value robust")
	seen := map[string]int{}
	for range 4000 {
		p := makeProgram(r)
		if r.Intn(5) == 0 {
			p = makeFine(r)
		}
		text := textOf(p)
		if len(text) > api.MaxText {
			continue
		}
		if q, _, e := scope.Program(text); e != api.OK {
			seen["text"]++
			continue
		} else if hasParams(p) {
			p = q // parameters of texts are variables of their own
		}
		want := ""
		for _, f := range makeTrial(p).faults {
			want += fmt.Sprintf("%d %s\n", f.At, words[f.Kind])
			seen[words[f.Kind]]++
		}
		if want == "" {
			want = "fine\n"
			seen["fine"]++
		}
		if s, e := sure.Report(text); s != want || e != api.OK {
			t.Fatalf("M2: %q: %q (%d), want %q", text, s, e, want)
		}
	}
	for _, s := range words {
		if seen[s] < 100 {
			t.Errorf("too few of %s: %v", s, seen)
		}
	}
}

func hasParams(p api.Program) bool {
	return slices.ContainsFunc(p.Funcs, func(f api.Func) bool { return len(f.Params) > 0 })
}

// M2: texts that are spoilt somewhere: the place is that of Program.
func TestReportsOfSpoiltTexts(t *testing.T) {
	r := rand.New(rand.NewSource(26))
	seen := map[string]int{}
	for range 4000 {
		text := spoiltText(r, textOf(makeProgram(r)))
		want, why := "", api.OK
		switch _, at, e := scope.Program(text); {
		case len(text) >= 6001:
			why = api.ErrMany
			seen["long"]++
		case e != api.OK:
			want = fmt.Sprintf("text %d\n", at)
			seen[fmt.Sprint("text ", e)]++
		default:
			continue
		}
		if s, e := sure.Report(text); s != want || e != why {
			t.Fatalf("M2: %q: %q (%d), want %q (%d)", text, s, e, want, why)
		}
	}
	for _, s := range []string{"long", "text 1", "text 2", "text 5", "text 6", "text 7"} {
		if seen[s] < 10 {
			t.Errorf("too few of %s: %v", s, seen)
		}
	}
}
