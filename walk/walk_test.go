package walk_test

import (
	"fmt"
	"slices"
	"strings"
	"testing"

	"veilwork/api"
	"veilwork/scope"
	"veilwork/walk"
)

// walker of a text, in which each variable may be read by one actor less than all, and be written by one: that of its number.
func walker(t *testing.T, s string) walk.Walker {
	t.Helper()
	p, at, e := scope.Program("actor a; actor b; actor c; out o {}; var x; var y; var z; " + s)
	if e != api.OK {
		t.Fatalf("%q has error %d at %d", s, e, at)
	}
	w := walk.Walker{Program: p}
	for who := range p.Vars {
		l := w.Bottom()
		l.Readers[who%3], l.Writers[who%3] = false, true
		w.Levels.Vars = append(w.Levels.Vars, l)
	}
	for range p.Funcs {
		w.Levels.Funcs = append(w.Levels.Funcs, w.Bottom())
	}
	return w
}

// told: who may read, a stroke, who may have written.
func told(l api.Level) string {
	s := ""
	for i, list := range [][]bool{l.Readers, l.Writers} {
		s += "/"[:i]
		for who, is := range list {
			if is {
				s += "abc"[who : who+1]
			}
		}
	}
	return s
}

// Each command comes once, in the order of the numbers, with the place where it stands.
func TestEach(t *testing.T) {
	w := walker(t, `
		func f() { put o 0; if x { put o 2; } else { while y { put o 4; } put o 5; } return 0; }
		func g() { return 0; }
		func h() { put o 6; return 0; }
		main { while (x + z) { if 1 { put o 9; } put o 10; } if y {} else { put o 12; } put o 13; }`)
	w.Levels.Funcs[0].Writers[2] = true
	w.Levels.Funcs[2].Readers[0] = false
	var l []string
	w.Each(func(at int, s api.Stmt, place api.Level) {
		if s.Kind == api.StmtPut && s.Expr.N != at {
			t.Errorf("command %d comes as %d", s.Expr.N, at)
		}
		l = append(l, fmt.Sprint(at, " ", told(place)))
	})
	want := "0 abc/c, 1 abc/c, 2 bc/ac, 3 bc/ac, 4 c/abc, 5 bc/ac, " + "6 bc/, " +
		"7 abc/, 8 b/ac, 9 b/ac, 10 b/ac, 11 abc/, 12 ac/b, 13 abc/"
	if s := strings.Join(l, ", "); s != want {
		t.Errorf("commands\n%s, want\n%s", s, want)
	}
}

// With: all variables of an expression count, and the level itself, which stays as it is.
func TestWith(t *testing.T) {
	w := walker(t, "main { put o 1; put o x; put o ((x + 2) * (y < x)); put o (x == (y - z)); }")
	from := w.Bottom()
	from.Writers[2] = true
	for i, want := range []string{"abc/c", "bc/ac", "c/abc", "/abc"} {
		if s := told(w.With(from, w.Main[i].Expr)); s != want {
			t.Errorf("expression %d has level %s, want %s", i, s, want)
		}
	}
	if told(from) != "abc/c" {
		t.Errorf("the level became %s", told(from))
	}
}

// Levels are those of package label.
func TestLevels(t *testing.T) {
	w := walker(t, "main {}")
	l := w.Level(api.Label{Read: []api.Policy{{Owner: 0}}, Write: []api.Policy{{Owner: 1, Names: []int{2}}}})
	m := w.Join(l, w.Levels.Vars[0])
	if told(l) != "a/bc" || told(m) != "/abc" || !w.Flows(l, m) || w.Flows(m, l) || told(w.Bottom()) != "abc/" {
		t.Errorf("levels %s and %s", told(l), told(m))
	}
	one := w.Bottom()
	one.Writers[0] = true
	if slices.Contains(w.Bottom().Writers, true) {
		t.Errorf("the bottom is not the same each time")
	}
}
