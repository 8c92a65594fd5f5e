package sure

import (
	"testing"

	"veilwork/api"
	"veilwork/view"
)

// leaky: a program that has nothing but what is said, with secrets of a coming in on i, and what b may have written on j. Faults that it has; and where the runs with and without a secret, or something that b wrote, are apart for b.
type leaky struct {
	text   string
	faults string
	at     int
}

// among: all that leaky programs declare: x, g and p are a's alone.
const among = `actor a; actor b; speak a;
in i {a: ; a!}; in j {};
out o {}; out p {a!}; out q {a: ; a!};
var x {a: ; a!}; var g {a!}; var y {}; var w {}; var u; var v;
`

// M3: what would be learned, each in a way of its own, and the fault by which the program is not fine.
func TestLearnedWithFaults(t *testing.T) {
	for _, c := range []leaky{
		{"main { get x i; put o x; }", "1 put\n", 0},
		{"main { get x i; if x { put o 1; } }", "2 put\n", 0},
		{"main { get x i; if x { u = 1; } else { put o 2; } put o 3; }", "3 put\n", 0},
		{"main { get x i; while (0 < x) { x = (x - 1); put o 1; } }", "3 put\n", 0},
		{"main { get x i; put o 5; while (0 < x) { x = (x - 1); put o 5; } }", "4 put\n", 1},
		{"main { get x i; u = x; v = (u + 1); put o v; }", "3 put\n", 0},
		{"main { get x i; if x { u = 1; } put o u; }", "3 put\n", 0},
		{"main { get x i; y = x; put o y; }", "1 set\n", 0},
		{"main { get x i; if x { y = 1; } put o y; }", "2 set\n", 0},
		{"main { get y i; put o y; }", "0 get\n", 0},
		{"main { get x i; if x { get u j; } get y j; put o y; }", "2 get\n", 0},
		{"main { get x i; if x { get y j; } put o y; }", "2 get\n", 0},
		{"func f(n) { return n; } main { get x i; y = f(x); put o y; }", "1 call\n", 0},
		{"func f() { return 1; } main { get x i; if x { y = f(); } put o y; }", "2 call\n", 0},
		{"func f() { put o 1; return 0; } main { get x i; if x { u = f(); } }", "0 put\n", 0},
		{"func f() { u = 1; return 0; } func h() { v = f(); return 0; } main { get x i; while x { x = h(); } put o u; }", "5 put\n", 0},
		{"func f(n) { u = n; return 0; } main { get x i; v = f(x); put o u; }", "3 put\n", 0},
		{"main { get x i; if x { reveal y 1; } }", "2 place\n", 0},
		{"main { get x i; trust g x; }", "1 value\n", 0},
		{"main { get x i; trust u x; put o u; }", "1 hidden\n2 put\n", 0},
	} {
		c.try(t, "M3", false, [][]int{{1}, {7, 8}}, [][]int{{0}, {7, 8}})
	}
}

// M4: what b would have a say in, each in a way of its own.
func TestTouchedWithFaults(t *testing.T) {
	for _, c := range []leaky{
		{"main { get w j; put p w; }", "1 put\n", 0},
		{"main { get w j; if w { put p 1; } }", "2 put\n", 0},
		{"main { get w j; put q 5; while (0 < w) { w = (w - 1); put q 5; } }", "4 put\n", 1},
		{"main { get w j; u = w; put p u; }", "2 put\n", 0},
		{"main { get w j; g = w; put p g; }", "1 set\n", 0},
		{"main { get w j; if w { g = 1; } put p g; }", "2 set\n", 0},
		{"main { get g j; put p g; }", "0 get\n", 0},
		{"main { get w j; if w { get u i; } get x i; put q x; }", "2 get\n", 0},
		{"func f(n) { return n; } main { get w j; g = f(w); put p g; }", "1 call\n", 0},
		{"func f() { return 1; } main { get w j; if w { g = f(); } put p g; }", "2 call\n", 0},
		{"func f() { put p 1; return 0; } main { get w j; while w { w = f(); } }", "0 put\n", 0},
		{"main { get w j; if w { trust g 1; } }", "2 place\n", 0},
		{"main { get w j; reveal g w; }", "1 value\n1 robust\n", 0},
	} {
		c.try(t, "M4", true, [][]int{{7, 8}, {1}}, [][]int{{7, 8}, {0}})
	}
}

// M4: what b would have a say in of what is revealed, though it may have written the variable.
func TestRevealedWithFaults(t *testing.T) {
	for text, faults := range map[string]string{
		"main { get w j; reveal y w; }":                                                  "1 robust\n",
		"main { get w j; if w { reveal y 1; } }":                                         "2 robust\n",
		"main { get w j; while (0 < w) { w = (w - 1); reveal y 1; } }":                   "3 robust\n",
		"func f() { reveal y 1; return 0; } main { get w j; if w { u = f(); } }":         "0 robust\n",
		"main { get w j; get x i; reveal y (x + w); }":                                   "2 robust\n",
		"main { get w j; u = w; reveal y u; }":                                           "2 hidden\n2 robust\n",
		"main { get w j; if w { reveal u 3; } else { reveal u 4; } }":                    "2 robust\n3 robust\n",
		"main { get w j; if (w < 1) { if w { u = 1; } else { v = 1; reveal u 2; } } }":   "5 robust\n",
		"func f(n) { if n { reveal u 2; } return 0; } main { get w j; v = f((w - 1)); }": "1 robust\n",
	} {
		p := programOf(t, among+text)
		ins, others := [][]int{{7}, {1}}, [][]int{{7}, {0}}
		if s, e := Report(among + text); s != faults || e != api.OK {
			t.Errorf("M4: %q: %q (%d), want %q", text, s, e, faults)
		}
		if l, m, at, e := Both(p, 1, true, ins, others, 50); e != api.OK || at != -1 {
			t.Errorf("M1: %q: %v and %v, apart at %d (%d)", text, l, m, at, e)
		}
		l, m := withReveals(p, 1, ins, 50), withReveals(p, 1, others, 50)
		if at := view.Apart(l, m); at != 0 {
			t.Errorf("M4: %q: %v and %v, apart at %d", text, l, m, at)
		}
	}
}

// try a program: it is not fine, and what is seen is apart, not by what is told.
func (c leaky) try(t *testing.T, promise string, touch bool, ins, others [][]int) {
	t.Helper()
	if s, e := Report(among + c.text); s != c.faults || e != api.OK {
		t.Errorf("%s: %q: %q (%d), want %q", promise, c.text, s, e, c.faults)
	}
	l, m, at, e := Both(programOf(t, among+c.text), 1, touch, ins, others, 50)
	if e != api.OK || at != c.at {
		t.Errorf("M1: %q: %v and %v, apart at %d (%d), want %d", c.text, l, m, at, e, c.at)
	}
}
