package step_test

import (
	"fmt"
	"strings"
	"testing"

	"veilwork/api"
	"veilwork/scope"
	"veilwork/step"
)

// runner of a text.
func runner(t *testing.T, s string, fuel int) *step.Runner {
	t.Helper()
	p, at, e := scope.Program("actor a; in i {}; out o {}; var x; var y; " + s)
	if e != api.OK {
		t.Fatalf("%q has error %d at %d", s, e, at)
	}
	r, e := step.New(p, [][]int{{3}}, fuel)
	if e != api.OK {
		t.Fatalf("%q: error %d", s, e)
	}
	return r
}

const text = `func f(n) { if n { put o n; } return (n - 1); }
	main { x = 1; while x { x = f(x); } if x {} else { get y i; if y { put o y; } } put o 9; }`

// moments of a text, up to one, each with all that is done ahead of it.
func moments(t *testing.T, r *step.Runner, many int) string {
	t.Helper()
	var l []string
	r.Do(func(m step.Moment) bool {
		kind := []string{"", "come", "again", "back"}[m.Kind]
		l = append(l, fmt.Sprintf("%s %d in %d (%d, %d)", kind, m.At, m.Deep, r.Vars[0], len(r.Events)))
		if m.Kind == step.Again && m.Stmt.Kind != api.StmtWhile || m.Kind == step.Back && m.Stmt.Kind != api.StmtCall {
			t.Errorf("%s of a command of kind %d", kind, m.Stmt.Kind)
		}
		return len(l) < many
	})
	return strings.Join(l, ", ")
}

// all moments of text.
func all() []string {
	return []string{
		"come 2 in 0 (0, 0)", "come 3 in 0 (1, 0)", "come 4 in 1 (1, 0)", "come 0 in 1 (1, 0)", "come 1 in 2 (1, 0)", "back 4 in 1 (1, 1)", "again 3 in 0 (0, 1)",
		"come 5 in 0 (0, 1)", "come 6 in 1 (0, 1)", "come 7 in 1 (0, 1)", "come 8 in 2 (0, 1)", "come 9 in 0 (0, 2)",
	}
}

// Each moment comes ahead of what is done then, with how deep it is, in calls too.
func TestMoments(t *testing.T) {
	r := runner(t, text, 99)
	if s, want := moments(t, r, 99), strings.Join(all(), ", "); s != want {
		t.Errorf("moments\n%s, want\n%s", s, want)
	}
	if r.End != api.EndDone || r.Steps != len(all())-1 || len(r.Events) != 3 || r.Stop != 0 {
		t.Errorf("%v", r.Run)
	}
}

// Who says no stops the run there, and is asked nothing more.
func TestStops(t *testing.T) {
	for i, last := range all() {
		r := runner(t, text, 99)
		if s, want := moments(t, r, i+1), strings.Join(all()[:i+1], ", "); s != want {
			t.Errorf("moments\n%s, want\n%s", s, want)
		}
		var at int
		fmt.Sscanf(strings.Fields(last)[1], "%d", &at)
		if told := fmt.Sprintf("(%d, %d)", r.Vars[0], len(r.Events)); r.End != api.EndStop || r.Stop != at || !strings.HasSuffix(last, told) {
			t.Errorf("%v, stopped at %s", r.Run, last)
		}
	}
}

// Without fuel for a step nobody is asked about it.
func TestFuel(t *testing.T) {
	for fuel := range len(all()) - 1 {
		r := runner(t, text, fuel)
		many := fuel
		if fuel >= 5 {
			many++ // a call's way back is no step
		}
		if s, want := moments(t, r, 99), strings.Join(all()[:many], ", "); s != want {
			t.Errorf("fuel %d: moments\n%s, want\n%s", fuel, s, want)
		}
		if r.End != api.EndFuel || r.Steps != fuel || r.Stop != 0 {
			t.Errorf("fuel %d: %v", fuel, r.Run)
		}
	}
}
