package watch_test

import (
	"fmt"
	"strings"
	"testing"

	"veilwork/api"
	"veilwork/run"
	"veilwork/scope"
	"veilwork/watch"
)

// head of texts: a speaks. Names end in what their labels are: public or secret (a alone may read), and trusted (a alone may have written) or untrusted.
const head = `actor a; actor b; speak a;
	in ipt {a!}; in ist {a: ; a!}; in ipu {}; in isu {a:};
	out opt {a!}; out ost {a: ; a!}; out opu {}; out osu {a:};
	var pt {a!}; var st {a: ; a!}; var pu {}; var su {a:};
	var x; var y; var z; `

// names of the variables of head; others are told by their numbers.
func names() []string { return []string{"pt", "st", "pu", "su", "x", "y", "z"} }

func program(t *testing.T, s string) api.Program {
	t.Helper()
	p, at, e := scope.Program(s)
	if e != api.OK {
		t.Fatalf("%q has error %d at %d", s, e, at)
	}
	return p
}

// told: a run as a text, and who may read and who may have written variables, but those at the bottom.
func told(r api.Run, levels []api.Level) string {
	end := map[int]string{api.EndDone: "done", api.EndFuel: "fuel", api.EndStop: "stopped at " + fmt.Sprint(r.Stop)}[r.End]
	if r.End != api.EndStop && r.Stop != 0 {
		end += ", with a stop"
	}
	s := ""
	for _, x := range r.Events {
		s += fmt.Sprintf("%s %d at %d, ", []string{"", "put", "reveal", "trust"}[x.Kind], x.Value, x.At)
	}
	s += fmt.Sprintf("%d steps, %s", r.Steps, end)
	for i, l := range levels {
		name := fmt.Sprint(i)
		if i < len(names()) {
			name = names()[i]
		}
		if s1 := level(l); s1 != "ab/" {
			s += "; " + name + " " + s1
		}
	}
	return s
}

// level as a text: who may read, a stroke, who may have written.
func level(l api.Level) string {
	s := ""
	for i, list := range [][]bool{l.Readers, l.Writers} {
		s += "/"[:i]
		for who, is := range list {
			if is {
				s += "ab"[who : who+1]
			}
		}
	}
	return s
}

// ins: the same numbers on all four channels.
func ins(l ...int) [][]int { return [][]int{l, l, l, l} }

func expect(t *testing.T, what string, p api.Program, in [][]int, fuel int, want string) {
	t.Helper()
	r, l, e := watch.Watch(p, in, fuel)
	if s := told(r, l); s != want || e != api.OK {
		t.Errorf("K1: %s, with %v and fuel %d:\n%s (%d), want\n%s", what, in, fuel, s, e, want)
	}
}

// expectAll texts behind head, with 1, 2, 3 coming in on each channel.
func expectAll(t *testing.T, cases [][2]string) {
	t.Helper()
	for _, c := range cases {
		expect(t, c[0], program(t, head+c[0]), ins(1, 2, 3), api.MaxFuel, c[1])
	}
}

// K1: what levels variables have, if nothing is stopped.
func TestLevels(t *testing.T) {
	expectAll(t, [][2]string{
		{"main {}", "0 steps, done"},
		{"main { x = 1; pt = (2 * 3); put opt x; put ost pt; }", "put 1 at 2, put 6 at 3, 4 steps, done"},
		{"main { get x ist; y = (x + 1); z = (x - y); put ost z; }", "put -1 at 3, 4 steps, done; x a/a; y a/a; z a/a"},
		{"main { get x ipt; get y ist; get z ipu; get su isu; }", "4 steps, done; su a/ab; x ab/a; y a/a; z ab/ab"},
		{"main { get x ist; get y ipu; z = (x + (1 * y)); put osu z; }", "put 2 at 3, 4 steps, done; x a/a; y ab/ab; z a/ab"},
		// What is Known has a level of its own, too: not that of its label, but what it holds.
		{"main { su = 1; put opt su; }", "put 1 at 1, 2 steps, done"},
		{"main { get su ipt; x = su; put opt su; }", "put 1 at 2, 3 steps, done; su ab/a; x ab/a"},
		// What a variable was is of no weight, if the place is not.
		{"main { get x isu; x = 1; put opt x; }", "put 1 at 2, 3 steps, done"},
		{"main { get x isu; get x ipt; put opt x; }", "put 1 at 2, 3 steps, done; x ab/a"},
		{"main { get x ist; x = (x * 0); }", "2 steps, done; x a/a"},
	})
}

// K1: StmtSet is stopped.
func TestStopSet(t *testing.T) {
	expectAll(t, [][2]string{
		// what it would be, and its label
		{"main { get x ist; pt = x; }", "2 steps, stopped at 1; x a/a"},
		{"main { get x ipu; st = (x + 1); }", "2 steps, stopped at 1; x ab/ab"},
		{"main { get x ist; su = x; st = su; pu = st; }", "4 steps, stopped at 3; st a/a; su a/a; x a/a"},
		// the place, and its level now
		{"main { get x ist; if x { y = 1; } }", "3 steps, stopped at 2; x a/a"},
		{"main { get x ipu; if x { y = 1; } }", "3 steps, stopped at 2; x ab/ab"},
		{"main { get x ist; if x { st = 1; } }", "3 steps, stopped at 2; x a/a"},
		{"main { get x ist; if 0 {} else { if x { y = 1; } } }", "4 steps, stopped at 3; x a/a"},
		{"main { get x ist; if (x == 0) {} else { y = x; } }", "3 steps, stopped at 2; x a/a"},
		{"main { get x ist; get y isu; if x { y = 1; } }", "4 steps, done; x a/a; y a/a"},
		{"main { get x isu; get y ist; if x { y = 1; } }", "4 steps, stopped at 3; x a/ab; y a/a"},
		{"main { get x ist; get st ist; if x { st = 5; } }", "4 steps, done; st a/a; x a/a"},
		// both at once: the place with the expression
		{"main { get x ist; get su isu; get y ipu; if x { su = y; } put osu su; }", "put 1 at 5, 6 steps, done; su a/ab; x a/a; y ab/ab"},
		{"main { get x ist; get st ist; get y ipu; if x { st = y; } }", "5 steps, stopped at 4; st a/a; x a/a; y ab/ab"},
	})
}

// K1: StmtGet is stopped, and takes nothing then.
func TestStopGet(t *testing.T) {
	expectAll(t, [][2]string{
		{"main { get pu ist; }", "1 steps, stopped at 0"},
		{"main { get pt ipu; }", "1 steps, stopped at 0"},
		{"main { get x ist; get y ist; if x { get y ist; } }", "4 steps, done; x a/a; y a/a"},
		{"main { get x ist; get y ist; if x { get y isu; } put osu y; }", "put 1 at 4, 5 steps, done; x a/a; y a/ab"},
		{"main { get x ist; if x { get y ist; } }", "3 steps, stopped at 2; x a/a"},
		{"main { get x ist; get y ist; if x { get y ipt; } }", "4 steps, stopped at 3; x a/a; y a/a"},
		{"main { get x ipu; get y isu; if x { get y ist; } }", "4 steps, stopped at 3; x ab/ab; y a/ab"},
		{"main { get x ist; get st ist; if x { get st isu; } }", "4 steps, stopped at 3; st a/a; x a/a"},
	})
	p := program(t, head+"main { get x ist; get y ist; if x { get y ipt; } }")
	r, _, _ := watch.Watch(p, ins(7, 8), 9)
	if s := fmt.Sprint(r.Taken, r.Vars); s != "[0 2 0 0] [0 0 0 0 7 8 0]" {
		t.Errorf("K1: a StmtGet that is stopped: %s", s)
	}
}

// K1: StmtPut is stopped, and nothing goes out then.
func TestStopPut(t *testing.T) {
	expectAll(t, [][2]string{
		{"main { get x ist; put ost x; put opt x; }", "put 1 at 1, 3 steps, stopped at 2; x a/a"},
		{"main { get x ipu; put opu x; put ost x; }", "put 1 at 1, 3 steps, stopped at 2; x ab/ab"},
		{"main { get x ist; put osu (1 + x); put opu (x * 0); }", "put 2 at 1, 3 steps, stopped at 2; x a/a"},
		{"main { get x ist; if x { put ost 1; put osu 2; put opt 3; } }", "put 1 at 2, put 2 at 3, 5 steps, stopped at 4; x a/a"},
		{"main { get x ipu; if x { put osu 1; put ost 2; } }", "put 1 at 2, 4 steps, stopped at 3; x ab/ab"},
		{"main { get x ipu; get y ist; if x { put osu y; put opu y; } }", "put 1 at 3, 5 steps, stopped at 4; x ab/ab; y a/a"},
	})
}

// K1: StmtReveal: what it is stopped by, and what its variable is.
func TestReveal(t *testing.T) {
	expectAll(t, [][2]string{
		{"main { get st ist; reveal pt st; put opt pt; }", "reveal 1 at 1, put 1 at 2, 3 steps, done; pt ab/a; st a/a"},
		{"main { get st ist; reveal pu (st + 1); }", "reveal 2 at 1, 2 steps, done; st a/a; pu ab/a"},
		{"main { reveal pt 1; reveal st 2; }", "reveal 1 at 0, reveal 2 at 1, 2 steps, done; st a/"},
		{"main { st = 1; reveal st st; reveal pt st; }", "reveal 1 at 1, reveal 1 at 2, 3 steps, done; st a/"},
		// a variable that is not Known, there or in the expression
		{"main { reveal x 1; }", "1 steps, stopped at 0"},
		{"main { reveal pt x; }", "1 steps, stopped at 0"},
		{"main { reveal pt (st + x); }", "1 steps, stopped at 0"},
		// who wrote it, and its label
		{"main { get pu ipu; reveal pt pu; }", "2 steps, stopped at 1; pu ab/ab"},
		{"main { pu = 3; reveal pt pu; }", "reveal 3 at 1, 2 steps, done"},
		{"main { get su isu; reveal st su; }", "2 steps, stopped at 1; su a/ab"},
		// the place, and its level now
		{"main { get x ist; if x { reveal pt 1; } }", "3 steps, stopped at 2; x a/a"},
		{"main { get x ist; if x { reveal su 1; } }", "3 steps, stopped at 2; x a/a"},
		{"main { get x ist; get su ist; if x { reveal su 1; } }", "reveal 1 at 3, 4 steps, done; su a/a; x a/a"},
		{"main { get x ipu; get pu ipu; if x { reveal pu 1; } }", "reveal 1 at 3, 4 steps, done; pu ab/ab; x ab/ab"},
		{"main { get x isu; get st ist; if x { reveal st 1; } }", "4 steps, stopped at 3; st a/a; x a/ab"},
		// FaultRobust does not stop it.
		{"main { get pu ipu; reveal pu pu; }", "reveal 1 at 1, 2 steps, done; pu ab/ab"},
	})
}

// K1: StmtTrust: what it is stopped by, and what its variable is.
func TestTrust(t *testing.T) {
	expectAll(t, [][2]string{
		{"main { get pu ipu; trust pt pu; put opt pt; }", "trust 1 at 1, put 1 at 2, 3 steps, done; pt ab/a; pu ab/ab"},
		{"main { trust pt 1; trust st 2; trust su 3; }", "trust 1 at 0, trust 2 at 1, trust 3 at 2, 3 steps, done; pt ab/a; st ab/a; su ab/ab"},
		{"main { get x isu; trust st (x + 1); put ost st; }", "trust 2 at 1, put 2 at 2, 3 steps, done; st a/a; x a/ab"},
		{"main { get st ist; trust su st; }", "trust 1 at 1, 2 steps, done; st a/a; su a/ab"},
		// a variable that is not Known
		{"main { trust x 1; }", "1 steps, stopped at 0"},
		{"main { trust pt x; }", "trust 0 at 0, 1 steps, done; pt ab/a"},
		// who may read it, and its label
		{"main { get x ist; trust pt x; }", "2 steps, stopped at 1; x a/a"},
		{"main { get x isu; trust pu (1 * x); }", "2 steps, stopped at 1; x a/ab"},
		{"main { st = 4; trust pt st; }", "trust 4 at 1, 2 steps, done; pt ab/a"},
		// the place, and its level now
		{"main { get x ipu; if x { trust pt 1; } }", "3 steps, stopped at 2; x ab/ab"},
		{"main { get x ipu; get pu ipu; if x { trust pu 1; } }", "trust 1 at 3, 4 steps, done; pu ab/ab; x ab/ab"},
		{"main { get x ist; if x { trust su 1; } }", "3 steps, stopped at 2; x a/a"},
		{"main { get x ist; get su ist; if x { trust su 1; } }", "trust 1 at 3, 4 steps, done; su a/ab; x a/a"},
		{"main { get x ist; get st ist; if x { trust st 1; } }", "trust 1 at 3, 4 steps, done; st a/a; x a/a"},
	})
}

// K1: nobody speaks for an owner; for all others somebody does.
func TestSpeak(t *testing.T) {
	const vars = "var sa {a:}; var sb {b:}; var ta {a!}; var tb {b!}; var p {}; "
	for _, c := range [][3]string{
		{"speak a; ", "main { reveal p sa; reveal p sb; }", "reveal 0 at 0, 2 steps, stopped at 1"},
		{"speak b; ", "main { reveal p sb; reveal p sa; }", "reveal 0 at 0, 2 steps, stopped at 1"},
		{"speak a; ", "main { reveal p (sa + sb); }", "1 steps, stopped at 0"},
		{"speak a; grant a b; ", "main { reveal p (sa + sb); }", "reveal 0 at 0, 1 steps, done"},
		{"speak a; grant b a; ", "main { reveal sb sa; reveal p sb; }", "reveal 0 at 0, 2 steps, stopped at 1; st b/"},
		{"speak a; ", "main { trust ta 1; trust tb 1; }", "trust 1 at 0, 2 steps, stopped at 1; pu ab/a"},
		{"", "main { trust p 1; trust ta 1; }", "trust 1 at 0, 2 steps, stopped at 1; x ab/ab"},
		{"", "main { reveal p 1; reveal p sa; }", "reveal 1 at 0, 2 steps, stopped at 1"},
		// What a command that is not come to has does not matter.
		{"", "main { if 0 { reveal p sa; } else { reveal sa p; } }", "reveal 0 at 2, 2 steps, done; pt a/"},
	} {
		// In these texts variables 0, 1, 2 are sa, sb, ta, and 4 is p.
		expect(t, c[0]+c[1], program(t, "actor a; actor b; "+c[0]+vars+c[1]), nil, 99, c[2])
	}
}

// K1: places are as they were when looked at, and end with their commands.
func TestPlaces(t *testing.T) {
	expectAll(t, [][2]string{
		{"main { x = 1; if x { get x ist; put opt 1; } }", "put 1 at 3, 4 steps, done; x a/a"},
		{"main { get x ist; get y ist; if x { if y { y = 1; } } put opt 2; }", "put 2 at 5, 6 steps, done; x a/a; y a/a"},
		{"main { get x ist; get y ipu; if y { if x { put osu 1; } put opu 2; } put opt 3; }", "put 1 at 4, put 2 at 5, put 3 at 6, 7 steps, done; x a/a; y ab/ab"},
		{"main { get x ist; get y ipu; if y { if x { put opu 1; } } }", "5 steps, stopped at 4; x a/a; y ab/ab"},
		{"main { get x ist; get y ipu; if y { if x { put ost 1; } } }", "5 steps, stopped at 4; x a/a; y ab/ab"},
		{"main { get x ist; if x {} if x {} else {} while (x < 0) {} put opt 1; }", "put 1 at 4, 5 steps, done; x a/a"},
		{"main { get x ist; if (x + 1) { put ost 1; } if 1 { put opt 2; } }", "put 1 at 2, put 2 at 4, 5 steps, done; x a/a"},
	})
}

// K1: a StmtWhile looks again and again.
func TestLoops(t *testing.T) {
	// The first time x is known to all, then it is secret.
	text := "main { x = 1; while x { put opt 5; get x ist; } put opt 9; }"
	p := program(t, head+text)
	expect(t, text, p, ins(0), 99, "put 5 at 2, put 9 at 4, 6 steps, done; x a/a")
	expect(t, text, p, ins(1), 99, "put 5 at 2, 6 steps, stopped at 2; x a/a")
	expectAll(t, [][2]string{
		{"main { get x ist; while x { x = (x - 1); } put opt 1; }", "put 1 at 3, 5 steps, done; x a/a"},
		{"main { get x ist; while x { x = 0; y = 1; } }", "4 steps, stopped at 3; x a/a"},
		// x was looked at when it was secret; what it becomes is at least as secret.
		{"main { get x isu; y = 2; while (x < 3) { x = (x + 1); put osu x; } while y { y = (y - 1); put opt y; } }",
			"put 2 at 4, put 3 at 4, put 1 at 7, put 0 at 7, 16 steps, done; x a/ab"},
		// Each time that it is come to, it is as if for the first time.
		{"main { y = 3; while y { y = (y - 1); if (y == 1) { get x ist; x = (x * 0); } else { x = 1; } while x { put opt y; x = 0; } } }",
			"put 2 at 8, put 0 at 8, 24 steps, done"},
	})
	// The same within a function, which is called with what is secret, then with what is not.
	text = "func f(n) { while n { put osu n; n = 0; } put opt n; return 0; } main { get x ist; y = f((x * 0)); y = f(4); }"
	expect(t, text, program(t, head+text), ins(1), 99, "4 steps, stopped at 3; x a/a; 7 a/a")
	text = "func f(n) { while n { put ost n; n = 0; } put opt 5; return 0; } main { get x ist; y = f(x); y = f(4); }"
	expect(t, text, program(t, head+text), ins(1), 99, "put 1 at 1, put 5 at 3, put 4 at 1, put 5 at 3, 13 steps, done; x a/a")
	// Around a call that is in a loop: the loop's place is there, then not any more.
	text = "func f() { put ost 1; return 1; } main { get x ist; get y ist; while x { x = 0; y = f(); } x = f(); put opt x; }"
	expect(t, text, program(t, head+text), ins(1), 99, "put 1 at 0, put 1 at 0, put 1 at 7, 10 steps, done; y a/a")
}

// K1: calls: the place around them holds in their functions, too.
func TestPlacesOfCalls(t *testing.T) {
	expectAll(t, [][2]string{
		{"func f() { put opt 1; return 2; } main { x = f(); put opt x; }", "put 1 at 0, put 2 at 2, 3 steps, done"},
		{"func f() { put opt 1; return 2; } main { get x ist; get y ist; if x { y = f(); } }", "5 steps, stopped at 0; x a/a; y a/a"},
		{"func f() { z = 1; return 2; } main { get x ist; get y ist; if x { y = f(); } }", "5 steps, stopped at 0; x a/a; y a/a"},
		{"func f() { put ost 1; return 2; } func g() { y = f(); put opt 3; return y; } main { get x ist; get y ist; while x { y = g(); } }",
			"put 1 at 0, 7 steps, stopped at 2; x a/a; y a/a"},
		{"func f() { if y { put osu 1; put ost 2; } return 3; } main { get x ipu; get y ist; get z isu; if x { z = f(); } }",
			"put 1 at 1, 8 steps, stopped at 2; x ab/ab; y a/a; z a/ab"},
		// Within the function a place is added; it is not left over behind.
		{"func f() { if y { put ost 1; } put opt 2; return 3; } main { get y ist; x = f(); put opt x; }",
			"put 1 at 1, put 2 at 2, put 3 at 5, 6 steps, done; y a/a"},
	})
}

// K1: parameters get the levels of arguments, with the place; at the end the variable that of the Result.
func TestCalls(t *testing.T) {
	expectAll(t, [][2]string{
		{"func f(n, m) { return (n + m); } main { get x ist; get y ipu; z = f(x, y); }", "3 steps, done; x a/a; y ab/ab; z a/ab; 7 a/a; 8 ab/ab"},
		{"func f(n, m) { return m; } main { get x ist; z = f(x, 2); put opt z; }", "put 2 at 2, 3 steps, done; x a/a; 7 a/a"},
		{"func f(n) { n = 1; return n; } main { get x ist; z = f(x); put opt z; }", "put 1 at 3, 4 steps, done; x a/a"},
		{"func f(n) { get n ist; return n; } main { z = f(1); put opt z; }", "3 steps, stopped at 2; z a/a; 7 a/a"},
		// What parameters were is of no weight, if the place is not.
		{"func f(n) { return n; } main { get x ist; y = f(x); z = f(1); put opt z; }", "put 1 at 3, 4 steps, done; x a/a; y a/a"},
		// the place, and a parameter's level now
		{"func f(n) { return n; } main { get x ist; get y ist; if x { y = f(1); } }", "4 steps, stopped at 3; x a/a; y a/a"},
		{"func f(n) { return n; } main { get x ist; y = f(x); if x { y = f(1); } }", "4 steps, done; x a/a; y a/a; 7 a/a"},
		{"func f(n, m) { return 0; } main { get x ist; y = f(x, 1); if x { y = f(1, 1); } }", "4 steps, stopped at 3; x a/a; 7 a/a"},
		// at the end: the place, and the variable's level now
		{"func f() { put ost 1; return 2; } main { get x ist; if x { y = f(); } }", "put 1 at 0, 4 steps, stopped at 3; x a/a"},
		{"func f() { get y ist; y = (y * 0); return 2; } main { get x ist; if x { y = f(); } }", "4 steps, stopped at 0; x a/a"},
		// at the end: what it would be, and its label
		{"func f() { put opt 1; return st; } main { get st ist; pt = f(); put opt 2; }", "put 1 at 0, 3 steps, stopped at 2; st a/a"},
		{"func f(n) { return n; } main { get x ipu; st = f(x); }", "2 steps, stopped at 1; x ab/ab; 7 ab/ab"},
		// The level of the Result is that of the end.
		{"func f() { get x ist; x = 3; return x; } main { pt = f(); put opt pt; }", "put 3 at 3, 4 steps, done"},
		{"func f() { get pt ipt; return (pt + st); } main { get st ist; x = f(); }", "3 steps, done; pt ab/a; st a/a; x a/a"},
		// Calls in one another.
		{"func f(n) { return n; } func g(m) { z = f(m); return z; } main { get x ist; y = g(x); put ost y; put opt y; }",
			"put 1 at 3, 5 steps, stopped at 4; x a/a; y a/a; z a/a; 7 a/a; 8 a/a"},
		{"func f() { return st; } func g() { pt = f(); return 1; } main { get st ist; x = g(); }", "3 steps, stopped at 0; st a/a"},
	})
}

// withParams: a program of which these variables are the parameters of its first function, whatever their labels.
func withParams(t *testing.T, text string, params ...int) api.Program {
	t.Helper()
	p := program(t, head+text)
	p.Funcs[0].Params = params
	return p
}

// K1: parameters that are Known; all are looked at ahead of the first one.
func TestKnownParameters(t *testing.T) {
	const pt, st, pu, x, y = 0, 1, 2, 4, 5
	text := "func f(n, m) { put opu 1; return 2; } main { get su isu; get z ist; z = f(z, su); }"
	expect(t, "z and su to x and y", withParams(t, text, x, y), ins(5), 99,
		"put 1 at 0, 4 steps, done; su a/ab; x a/a; y a/ab")
	expect(t, "z and su to st and y", withParams(t, text, st, y), ins(5), 99,
		"put 1 at 0, 4 steps, done; st a/a; su a/ab; y a/ab")
	// Nothing of the call is done, whichever parameter it is.
	expect(t, "z and su to x and st", withParams(t, text, x, st), ins(5), 99, "3 steps, stopped at 3; su a/ab; z a/a")
	expect(t, "z and su to pt and x", withParams(t, text, pt, x), ins(5), 99, "3 steps, stopped at 3; su a/ab; z a/a")
	r, _, _ := watch.Watch(withParams(t, text, x, st), ins(5), 99)
	if s := fmt.Sprint(r.Vars); s != "[0 0 0 5 0 0 5 0 0]" {
		t.Errorf("K1: variables %s behind a call that was stopped", s)
	}
	// The arguments are looked at ahead of the first parameter, which is one of them.
	swap := "func f(n, m) { return 0; } main { get x ist; get y ipu; z = f(y, x); }"
	expect(t, "y and x to x and y", withParams(t, swap, x, y), ins(5), 99, "3 steps, done; x ab/ab; y a/a")
	expect(t, "y and x to x and pu", withParams(t, swap, x, pu), ins(5), 99, "3 steps, stopped at 2; x a/a; y ab/ab")
	// The place counts for what it would be, too.
	place := "func f(n, m) { return 0; } main { get x ist; get st ist; get pu ipu; get y ipu; if x { st = f(1, pu); } }"
	expect(t, "1 and pu to st and y", withParams(t, place, st, y), ins(5), 99,
		"6 steps, stopped at 5; st a/a; pu ab/ab; x a/a; y ab/ab")
	expect(t, "1 and pu to st and su", withParams(t, strings.Replace(place, "y ipu", "su isu", 1), st, 3), ins(5), 99,
		"6 steps, done; st a/a; pu ab/ab; su a/ab; x a/a")
	// The variable of a call may be one of its parameters: it is both, one behind the other.
	own := "func f(n, m) { return y; } main { get z ist; x = f(z, 1); put opt x; }"
	expect(t, "z and 1 to y and x", withParams(t, own, y, x), ins(5), 99, "3 steps, stopped at 2; x a/a; y a/a; z a/a")
	expect(t, "z and 1 to x and y", withParams(t, own, x, y), ins(5), 99, "put 1 at 2, 3 steps, done; z a/a")
}

// K1: where a run is after so many steps; what is stopped counts as a step, what is not come to for want of fuel is not stopped.
func TestFuel(t *testing.T) {
	p := program(t, head+"func f(n) { z = n; return (z * 2); } main { get x ist; y = f(x); while (y < 9) { y = (y + 4); } if 1 { put opt y; } }")
	for fuel, want := range []string{
		"0 steps, fuel",
		"1 steps, fuel; x a/a",
		"2 steps, fuel; x a/a; 7 a/a",
		"3 steps, fuel; x a/a; y a/a; z a/a; 7 a/a",
		"4 steps, fuel; x a/a; y a/a; z a/a; 7 a/a",
		"5 steps, fuel; x a/a; y a/a; z a/a; 7 a/a",
		"6 steps, fuel; x a/a; y a/a; z a/a; 7 a/a",
		"7 steps, fuel; x a/a; y a/a; z a/a; 7 a/a",
		"8 steps, stopped at 6; x a/a; y a/a; z a/a; 7 a/a",
		"8 steps, stopped at 6; x a/a; y a/a; z a/a; 7 a/a",
	} {
		expect(t, "step by step", p, ins(3), fuel, want)
	}
	// The end of a call is no step: it is stopped even if there is no fuel any more.
	p = program(t, head+"func f() { z = 1; return st; } main { get st ist; pt = f(); }")
	expect(t, "a call's end", p, ins(3), 2, "2 steps, fuel; st a/a")
	expect(t, "a call's end", p, ins(3), 3, "3 steps, stopped at 2; st a/a")
	// A loop that goes on as long as there is fuel.
	p = program(t, head+"main { while 1 { get x ist; put ost x; } }")
	r, l, e := watch.Watch(p, ins(3), api.MaxFuel)
	if e != api.OK || r.Steps != api.MaxFuel || r.End != api.EndFuel || len(r.Events) != 666 || level(l[4]) != "a/a" {
		t.Errorf("K1: %s (%d)", told(r, l), e)
	}
}

// K2: what is not stopped is a run as of chapter 7, all of it; what is stopped is its beginning.
func TestBeginning(t *testing.T) {
	text := "func f(n) { put osu n; return (n - 1); } main { z = 3; while z { z = f(z); reveal pt 7; get x ipu; } trust pt x; get y ist; put opt 1; if y { put opt 2; } put opt 3; }"
	p := program(t, head+text)
	for y := range 2 {
		in := [][]int{nil, {y}, {5, 6}, nil}
		whole, _ := run.Run(p, in, 99)
		r, l, e := watch.Watch(p, in, 99)
		if y == 0 && (e != api.OK || fmt.Sprint(r) != fmt.Sprint(whole)) {
			t.Errorf("K2: %s (%d), and unwatched %s", told(r, l), e, told(whole, nil))
		}
		n := len(whole.Events) - 2
		if y == 1 && (e != api.OK || r.End != api.EndStop || r.Stop != 10 || fmt.Sprint(r.Events) != fmt.Sprint(whole.Events[:n])) {
			t.Errorf("K2: %s (%d), and unwatched %s", told(r, l), e, told(whole, nil))
		}
	}
}

// K1: levels are told by the actors, and their grants.
func TestGrants(t *testing.T) {
	const text = "in i {a: ; b!}; out o {b: }; var x; main { get x i; put o x; put o 1; }"
	for _, c := range [][2]string{
		{"", "2 steps, stopped at 1; pt a/b"},
		{"grant b a; ", "put 6 at 1, put 1 at 2, 3 steps, done; pt ab/b"},
		{"grant a b; ", "2 steps, stopped at 1; pt a/ab"},
	} {
		expect(t, c[0]+text, program(t, "actor a; actor b; "+c[0]+text), [][]int{{6}}, 9, c[1])
	}
}
