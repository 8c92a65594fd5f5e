package slice_test

import (
	"fmt"
	"slices"
	"strconv"
	"strings"
	"testing"

	"veilwork/api"
	"veilwork/run"
	"veilwork/scope"
	"veilwork/slice"
)

// head of texts: two channels of each kind, and variables.
const head = "actor a; actor b; grant a b; speak b; in i {a:}; in j {b: a; a! b}; out o {}; out p {b: a; a! b}; var x {a: b}; var y; var z; var w {b!}; "

// names of the variables of head; others are told by their numbers.
func names() []string { return []string{"x", "y", "z", "w"} }

func program(t *testing.T, s string) api.Program {
	t.Helper()
	p, at, e := scope.Program(head + s)
	if e != api.OK {
		t.Fatalf("%q has error %d at %d", s, e, at-len(head))
	}
	return p
}

// those of a list that hold, by their names, or numbers.
func those(l []bool, names ...string) string {
	var out []string
	for i, is := range l {
		name := strconv.Itoa(i)
		if i < len(names) {
			name = names[i]
		}
		if is {
			out = append(out, name)
		}
	}
	return strings.Join(out, " ")
}

// expect needs of channel o: variables, channels, commands, with strokes between.
func expect(t *testing.T, what string, p api.Program, want string) {
	t.Helper()
	v, in, s, e := slice.Needs(p, 0)
	got := those(v, names()...) + "/" + those(in, "i", "j") + "/" + those(s)
	if got != want || e != api.OK {
		t.Errorf("L1: %s: needs %s (%d), want %s", what, got, e, want)
	}
	if len(v) != len(p.Vars) || len(in) != len(p.Ins) {
		t.Errorf("L1: %s: %d variables and %d channels, of %d and %d", what, len(v), len(in), len(p.Vars), len(p.Ins))
	}
}

// expectSlice of channel o. Sliced once more, it is the same.
func expectSlice(t *testing.T, what string, p, want api.Program) {
	t.Helper()
	for _, from := range []api.Program{p, want} {
		q, e := slice.Slice(from, 0)
		if e != api.OK || fmt.Sprintf("%+v", q) != fmt.Sprintf("%+v", want) {
			t.Errorf("L2: %s: slice\n%+v (%d), want\n%+v", what, q, e, want)
		}
		if e := scope.Check(q); e != api.OK {
			t.Errorf("L2: %s: the slice has error %d", what, e)
		}
	}
}

// expectAll texts: what is needed, and the text of what is left.
func expectAll(t *testing.T, cases [][3]string) {
	t.Helper()
	for _, c := range cases {
		p := program(t, c[0])
		expect(t, c[0], p, c[1])
		expectSlice(t, c[0], p, program(t, c[2]))
	}
}

// L1, L2: commands that have none in them.
func TestCommands(t *testing.T) {
	expectAll(t, [][3]string{
		{"main {}", "//", "main {}"},
		{"main { put o 1; put p 2; put o 3; }", "//0 2", "main { put o 1; put o 3; }"},
		{"main { x = 1; y = 2; z = 3; put p x; }", "//", "main {}"},
		{"main { x = 1; y = x; z = y; put o y; put p z; }", "x y//0 1 3", "main { x = 1; y = x; put o y; }"},
		{"main { put o ((x + 2) * (y < x)); }", "x y//0", "main { put o ((x + 2) * (y < x)); }"},
		{"main { reveal x y; trust w z; put o x; }", "x y//0 2", "main { reveal x y; put o x; }"},
		{"main { reveal x y; trust w z; put o w; }", "z w//1 2", "main { trust w z; put o w; }"},
		// What stands behind is needed all the same: there may be something around that comes back.
		{"main { put o x; x = y; y = (z - 1); }", "x y z//0 1 2", "main { put o x; x = y; y = (z - 1); }"},
		{"main { x = (x + 1); put o x; }", "x//0 1", "main { x = (x + 1); put o x; }"},
		{"main { x = y; y = x; z = x; put o 1; }", "//3", "main { put o 1; }"},
	})
}

// L1, L2: a channel that is needed is so wherever something is taken from it.
func TestChannels(t *testing.T) {
	expectAll(t, [][3]string{
		{"main { get x i; put o 1; }", "//1", "main { put o 1; }"},
		{"main { get x i; put o x; }", "x/i/0 1", "main { get x i; put o x; }"},
		{"main { get x i; get y i; get z j; put o y; }", "y/i/0 1 3", "main { get x i; get y i; put o y; }"},
		{"main { get x j; get y i; get x i; put o x; }", "x/i j/0 1 2 3", "main { get x j; get y i; get x i; put o x; }"},
		// The variable of a StmtGet that is needed for its channel is not.
		{"main { get x i; get y i; x = z; put o y; put p x; }", "y/i/0 1 3", "main { get x i; get y i; put o y; }"},
		{"main { if z { get x i; } get y i; put o y; }", "y z/i/0 1 2 3", "main { if z { get x i; } get y i; put o y; }"},
		{"func f() { get x i; return x; } main { z = f(); get y i; put o y; }", "y/i/0 1 2 3", "func f() { get x i; return x; } main { z = f(); get y i; put o y; }"},
	})
}

// L1, L2: commands in one another.
func TestInOneAnother(t *testing.T) {
	expectAll(t, [][3]string{
		{"main { if x { put o 1; } }", "x//0 1", "main { if x { put o 1; } }"},
		{"main { if x { put p 1; } else { put o 2; } }", "x//0 2", "main { if x {} else { put o 2; } }"},
		{"main { if x { y = 1; } else { y = 2; } put o 3; }", "//3", "main { put o 3; }"},
		{"main { if x { y = 1; z = 1; } else { z = 2; } put o y; }", "x y//0 1 4", "main { if x { y = 1; } put o y; }"},
		{"main { while (x < y) { x = (x + 1); z = x; } put o x; }", "x y//0 1 3", "main { while (x < y) { x = (x + 1); } put o x; }"},
		{"main { while x { y = 1; } put o z; }", "z//2", "main { put o z; }"},
		{"main { while 1 { if x { while y { put o 1; } z = 2; } w = 3; } }", "x y//0 1 2 3", "main { while 1 { if x { while y { put o 1; } } } }"},
		{"main { while x { if y { z = 1; } if z { x = w; } } put o x; }", "x y z w//0 1 2 3 4 5", "main { while x { if y { z = 1; } if z { x = w; } } put o x; }"},
		{"main { while x { if y { put p y; } get x i; } put o x; }", "x/i/0 3 4", "main { while x { get x i; } put o x; }"},
		// Numbers behind commands that go with all that is in them.
		{"main { if 1 { if 2 { y = 3; } } else { while 4 { y = 5; } z = 6; } if 7 { x = 8; y = 9; } else { x = 10; } put o x; }", "x//6 7 9 10",
			"main { if 7 { x = 8; } else { x = 10; } put o x; }"},
	})
}

// L1, L2: calls.
func TestCalls(t *testing.T) {
	expectAll(t, [][3]string{
		// for the variable: the Result, and arguments that come to what that needs
		{"func f() { return x; } main { x = 1; y = f(); put o y; }", "x y//0 1 2", "func f() { return x; } main { x = 1; y = f(); put o y; }"},
		{"func f() { return x; } main { x = 1; y = f(); put o z; }", "z//2", "func f() { return x; } main { put o z; }"},
		{"func f(n, m) { return m; } main { x = 1; z = 2; y = f(x, z); put o y; }", "y z 5//1 2 3", "func f(n, m) { return m; } main { z = 2; y = f(x, z); put o y; }"},
		{"func f(n, m) { return n; } main { x = 1; z = 2; y = f((x + 1), z); put o y; }", "x y 4//0 2 3", "func f(n, m) { return n; } main { x = 1; y = f((x + 1), z); put o y; }"},
		{"func f(n, m) { m = n; return m; } main { y = f(x, z); put o y; }", "x y z 4 5//0 1 2", "func f(n, m) { m = n; return m; } main { y = f(x, z); put o y; }"},
		{"func f(n) { z = n; return 0; } main { y = f(x); put o z; }", "x z 4//0 1 2", "func f(n) { z = n; return 0; } main { y = f(x); put o z; }"},
		// for a command of the function: the Result is not needed, nor is the variable
		{"func f() { put o x; return y; } main { y = 2; z = f(); put p z; }", "x//0 2", "func f() { put o x; return y; } main { z = f(); }"},
		{"func f(n) { if n { put o 1; } put p 2; return n; } main { z = f(x); }", "x 4//0 1 3", "func f(n) { if n { put o 1; } return n; } main { z = f(x); }"},
		{"func f(n) { put o 1; return n; } main { z = f(x); }", "//0 1", "func f(n) { put o 1; return n; } main { z = f(x); }"},
		{"func f() { put o 1; return 0; } main { if x { z = f(); } while y { w = 1; } }", "x//0 1 2", "func f() { put o 1; return 0; } main { if x { z = f(); } }"},
		// through calls of calls
		{"func f(n) { put o n; return 0; } func g(m) { x = f(m); y = f(1); return 2; } main { z = g(w); }", "w 4 5//0 1 2 3",
			"func f(n) { put o n; return 0; } func g(m) { x = f(m); y = f(1); return 2; } main { z = g(w); }"},
		{"func f(n) { return (n + x); } func g(m) { y = f(m); z = 3; return y; } main { get w j; w = g(w); put o w; }", "x y w 4 5/j/0 2 3 4",
			"func f(n) { return (n + x); } func g(m) { y = f(m); return y; } main { get w j; w = g(w); put o w; }"},
		// one of two functions, and one that nobody calls
		{"func f() { x = 1; return 2; } func g() { y = 3; return 4; } main { z = f(); z = g(); put o y; }", "y//1 3 4",
			"func f() { return 2; } func g() { y = 3; return 4; } main { z = g(); put o y; }"},
		{"func f() { put o x; return y; } func g() { put p x; return z; } main { x = 1; y = 2; }", "x//0 2",
			"func f() { put o x; return y; } func g() { return z; } main { x = 1; }"},
	})
}

// L1: a parameter that is needed, wherever: all calls of its function are, and what comes to it there.
func TestParameters(t *testing.T) {
	const x, z, w = 0, 2, 3
	with := func(text string, params ...int) api.Program {
		p := program(t, text)
		p.Funcs[0].Params = params
		return p
	}
	text := "func f(n, m) { return 0; } main { w = f(1, y); put o x; }"
	expect(t, "1 to x", with(text, x, z), "x//0 1")
	expect(t, "y to x", with(text, z, x), "x y//0 1")
	expect(t, "none to x", with(text, z, w), "x//1")
	q, e := slice.Slice(with(text, z, w), 0)
	if e != api.OK || len(q.Main) != 1 || fmt.Sprint(q.Funcs[0].Params) != "[2 3]" {
		t.Errorf("L2: none to x: %+v (%d)", q, e)
	}
	text = "func f(n, m) { return 0; } main { w = f(z, y); if w { x = 1; } y = f(z, y); put o x; }"
	expect(t, "z to w, which is the call's variable, too", with(text, w, 4), "x z w//0 1 2 3 4")
	expectAll(t, [][3]string{
		{"func f(n) { x = n; return 0; } func g(n) { return n; } main { y = f(z); y = g(w); put o x; }", "x z 4//0 1 3",
			"func f(n) { x = n; return 0; } func g(n) { return n; } main { y = f(z); put o x; }"},
	})
}

// L1, L2: the other channel of Outs has needs of its own.
func TestOtherChannel(t *testing.T) {
	p := program(t, "main { get x i; get y j; put o x; put p (y + 1); }")
	v, in, s, e := slice.Needs(p, 1)
	if e != api.OK || those(v, names()...) != "y" || those(in) != "1" || those(s) != "1 3" {
		t.Errorf("L1: %v %v %v (%d)", v, in, s, e)
	}
	q, e := slice.Slice(p, 1)
	if want := program(t, "main { get y j; put p (y + 1); }"); e != api.OK || fmt.Sprintf("%+v", q) != fmt.Sprintf("%+v", want) {
		t.Errorf("L2: %+v (%d), want %+v", q, e, want)
	}
}

// put: what goes out on channel o.
func put(r api.Run) []int {
	var l []int
	for _, x := range r.Events {
		if x.Kind == api.EventPut && x.Which == 0 {
			l = append(l, x.Value)
		}
	}
	return l
}

// L3: what goes out, sliced or not.
func TestRuns(t *testing.T) {
	ins := [][]int{{1, 2, 3, 4}, {5, 6, 7}}
	for _, c := range []struct {
		text string
		want []int
	}{
		{"main { get x i; get y i; get z j; put p z; put o y; }", []int{2}},
		{"func f(n, m) { z = (z + n); y = m; put p m; return (n * 2); } main { while (z < 5) { get x i; get w j; x = f(x, w); put o x; } put o z; }", []int{2, 4, 6, 6}},
		{"func f() { get x i; put p x; return x; } main { y = f(); get z i; put o z; get y j; if (y == 5) { y = f(); } get z i; put o z; }", []int{2, 4}},
		{"main { while y { put o 1; } reveal x 2; trust w x; reveal z w; put o w; put p z; }", []int{2}},
	} {
		p := program(t, c.text)
		q, _ := slice.Slice(p, 0)
		r, _ := run.Run(p, ins, 99)
		sliced, e := run.Run(q, ins, 99)
		if e != api.OK || !slices.Equal(put(sliced), c.want) || !slices.Equal(put(r), c.want) || sliced.Steps > r.Steps || sliced.End != api.EndDone {
			t.Errorf("L3: %s: %v, sliced %v (%d), want %v", c.text, r, sliced, e, c.want)
		}
	}
	// What never ends, and is not needed, holds nothing up any more.
	p := program(t, "main { put o 1; while 1 {} put o 2; }")
	expect(t, "while 1 {}", p, "//0 2")
	q, _ := slice.Slice(p, 0)
	if r, e := run.Run(q, ins, 2); e != api.OK || !slices.Equal(put(r), []int{1, 2}) {
		t.Errorf("L3: %v (%d)", r, e)
	}
}
