package judge_test

import (
	"slices"
	"strconv"
	"strings"
	"testing"

	"veilwork/api"
	"veilwork/judge"
	"veilwork/scope"
)

// head of texts: a speaks. Names end in what their labels are: public or secret (a alone may read), and trusted (a alone may have written) or untrusted.
const head = "actor a; actor b; actor c; speak a; " + things

const things = `
	in ipt {a!}; in ist {a: ; a!}; in ipu {}; in isu {a:};
	out opt {a!}; out ost {a: ; a!}; out opu {}; out osu {a:};
	var pt {a!}; var st {a: ; a!}; var pu {}; var su {a:};
	var x; var y; var z; `

func program(t *testing.T, s string) api.Program {
	t.Helper()
	p, at, e := scope.Program(s)
	if e != api.OK {
		t.Fatalf("%q has error %d at %d", s, e, at)
	}
	return p
}

// told: faults as a text.
func told(l []api.Fault) string {
	words := []string{"nothing", "set", "call", "get", "put", "place", "speak", "hidden", "value", "robust"}
	var out []string
	for _, f := range l {
		out = append(out, strconv.Itoa(f.At)+" "+words[f.Kind])
	}
	return strings.Join(out, ", ")
}

// expect faults of a program; it is Fine, if there are none.
func expect(t *testing.T, what string, p api.Program, want string) {
	t.Helper()
	l, e := judge.Faults(p)
	if s := told(l); s != want || e != api.OK {
		t.Errorf("I1: %s: faults %s (%d), want %s", what, s, e, want)
	}
	if fine, e := judge.Fine(p); fine != (want == "") || e != api.OK {
		t.Errorf("I2: %s: fine %v (%d), and its faults are %s", what, fine, e, want)
	}
}

func expectAll(t *testing.T, head string, cases [][2]string) {
	t.Helper()
	for _, c := range cases {
		expect(t, c[0], program(t, head+c[0]), c[1])
	}
}

// I1, I2: programs without faults.
func TestFine(t *testing.T) {
	expectAll(t, head, [][2]string{
		{"main {}", ""},
		{"main { pt = 1; put opt 2; if 3 { put opt 4; } while 0 { st = 5; } reveal pt 6; trust pt 7; }", ""},
		{"main { get st ist; su = (st + pu); put osu su; put ost (st * pt); }", ""},
		{"main { get x ist; y = (x + 1); put ost y; if y { put osu 1; get z isu; } put osu z; }", ""},
		{"main { get st ist; reveal pt st; put opt pt; }", ""},
		{"main { get pu ipu; trust pt pu; put opt pt; reveal pu pt; }", ""},
		{"func f(n) { x = (n + 1); return x; } main { get y ist; z = f(y); st = f(2); put ost z; }", ""},
		{"func f() { put opu 1; return 2; } main { while pu { pu = f(); } }", ""},
	})
}

// I1: each kind of fault by itself.
func TestKinds(t *testing.T) {
	expectAll(t, head, [][2]string{
		{"main { pu = su; }", "0 set"},
		{"main { st = (1 + pu); }", "0 set"},
		{"main { if st { pt = 1; } }", "1 set"},
		{"func f(n) { return 1; } main { pt = f(su); }", ""},
		{"func f(n) { return n; } main { pt = f(pu); }", "0 call"},
		{"func f() { return st; } main { pt = f(); }", "0 call"},
		{"func f() { return 1; } main { while pu { pt = f(); } }", "1 call"},
		{"main { get pu ist; }", "0 get"},
		{"main { get pt ipu; }", "0 get"},
		{"main { if st { get st ipt; } }", "1 get"},
		{"main { if pu { get pt ipu; } }", "1 get"},
		{"main { put opu st; }", "0 put"},
		{"main { put opt pu; }", "0 put"},
		{"main { while su { put osu 1; put opu 2; } }", "2 put"},
		{"main { if st { reveal pt 1; } }", "1 place"},
		{"main { if st { trust pt 1; } }", "1 place"},
		{"main { if pu { trust pt 1; } }", "1 place"},
		{"main { x = st; reveal pt x; }", "1 hidden"},
		{"main { trust x pu; }", "0 hidden"},
		{"main { trust pt st; }", "0 value"},
		{"main { reveal pu pu; }", "0 robust"},
		{"main { if pu { reveal pu 1; } }", "1 robust"},
	})
	expectAll(t, "actor a; actor b; speak b; var s {a: ; b!}; var t {a!}; var u {a: ; a!}; var p {b!}; var q; ", [][2]string{
		{"main { reveal p s; }", "0 speak"},
		{"main { trust t 1; }", "0 speak"},
		{"main { trust u u; }", "0 speak"},
		{"main { reveal t p; }", "0 value"},
		{"main { reveal q u; }", "0 speak, 0 robust"},
	})
}

// I1: a command that has several faults, by kind; commands in their order; one of a kind, however often it is so.
func TestOrder(t *testing.T) {
	expectAll(t, head, [][2]string{
		{"main { put opt su; pt = su; get pt isu; put opt su; }", "0 put, 1 set, 2 get, 3 put"},
		{"main { if su { reveal pt pu; trust pt su; } }", "1 place, 1 value, 1 robust, 2 place, 2 value"},
		{"main { get x ipu; if su { reveal pt (x + pu); trust x su; trust y su; } }", "2 place, 2 hidden, 2 value, 2 robust, 3 hidden, 4 hidden"},
		{"main { if su { get pt isu; } }", "1 get"},
		{"func f(n, m) { return (n + m); } main { if su { pt = f(su, pu); pu = f(1, 2); } }", "1 call, 2 call"},
	})
	expectAll(t, "actor a; actor b; actor c; speak c; "+things, [][2]string{
		{"main { get x isu; if su { reveal pt (x + st); trust pt su; } }", "2 place, 2 speak, 2 hidden, 2 value, 2 robust, 3 place, 3 speak, 3 value"},
		{"main { reveal pu (st * (su - st)); trust x su; }", "0 speak, 0 robust, 1 hidden"},
	})
}

// I1: numbers of commands: those of functions first, each ahead of those in it, Then ahead of Else.
func TestNumbers(t *testing.T) {
	expectAll(t, head, [][2]string{
		{`func f() { put opt pu; if 1 { put opt pu; } else { put opt pu; while 1 { put opt pu; } } put opt pu; return 0; }
		  func g() { return 0; }
		  func h() { put opt pu; x = f(); return 0; }
		  main { put opt pu; if 1 {} else { put opt pu; } if 1 { put opt pu; } put opt pu; }`,
			"0 put, 2 put, 3 put, 5 put, 6 put, 7 put, 9 put, 11 put, 13 put, 14 put"},
	})
}

// I1: the place is all that a command stands in, and the function's level; not what is beside it.
func TestPlace(t *testing.T) {
	expectAll(t, head, [][2]string{
		{"main { if st {} else { put opt 1; } put opt 2; }", "1 put"},
		{"main { if st { if 1 { while 0 { put opt 1; } } } put opt 2; }", "3 put"},
		{"main { if 1 { if st { if pu { put ost 1; } else { put osu 2; } put ost 3; } put opt 4; } }", "3 put"},
		{"main { while (1 + (2 * st)) { put opt 1; } }", "1 put"},
		// A function's place is that of all calls of it, also of calls in other functions.
		{"func f() { put opt 1; return 0; } main { x = f(); }", ""},
		{"func f() { put opt 1; return 0; } main { x = f(); if st { y = f(); } }", "0 put"},
		{"func f() { put opt 1; return 0; } func g() { x = f(); return 0; } main { if pu { y = g(); } }", "0 put"},
		{"func f() { put opt 1; return 0; } func g() { if st { x = f(); } return 0; } main {}", "0 put"},
		{"func f() { if st { put opt 1; } put opt 2; return 0; } main {}", "1 put"},
		{"func f() { return st; } main { x = f(); put opt 1; put opt x; }", "2 put"},
		{"func f() { get pu ipu; get pt ipt; return 0; } main { if st { x = f(); } }", "0 get, 1 get"},
		{"func f() { reveal pt st; trust pt pt; return 0; } main { if pu { x = f(); } }", "0 place, 0 robust, 1 place"},
	})
}

// I1: levels are those of Infer: what comes to a variable that is not Known counts wherever it goes on.
func TestInferred(t *testing.T) {
	expectAll(t, head, [][2]string{
		{"main { put opt x; get x isu; }", "0 put"},
		{"main { x = st; y = x; z = (y + 1); put ost z; put opt z; }", "4 put"},
		{"main { get x ist; if x { y = 1; } put opt y; }", "3 put"},
		{"func f(n) { y = n; return 1; } main { x = f(pu); pt = x; pt = y; }", "3 set"},
		{"main { reveal x st; pt = x; pu = x; reveal y st; st = y; }", ""},
		{"main { x = st; reveal y x; put opt y; }", "1 hidden"},
		{"main { trust x pu; pt = x; }", "0 hidden"},
	})
}

// I1: a function with a parameter that is Known, which no text has.
func TestKnownParameter(t *testing.T) {
	p := program(t, head+"func f(n, m) { return 1; } main { x = f(su, 1); y = f(1, su); z = f(pt, pu); if st { z = f(1, 2); } }")
	expect(t, "parameters not Known", p, "")
	n, m := p.Funcs[0].Params[0], p.Funcs[0].Params[1]
	p.Vars[n] = p.Vars[0]
	expect(t, "n as pt", p, "0 call, 4 call")
	p.Vars[m] = p.Vars[2]
	expect(t, "n as pt, m as pu", p, "0 call, 1 call, 4 call")
	p.Vars[n], p.Vars[m] = p.Vars[1], p.Vars[3]
	expect(t, "n as st, m as su", p, "0 call")
}

// I1: the place must flow to each parameter, and to the variable, even if there is nothing else to flow.
func TestCallPlace(t *testing.T) {
	p := program(t, head+"func f(n) { return 1; } main { if st { su = f(2); } }")
	p.Vars[p.Funcs[0].Params[0]] = p.Vars[0]
	expect(t, "n as pt", p, "1 call")
	p.Vars[p.Funcs[0].Params[0]] = p.Vars[1]
	expect(t, "n as st", p, "")
	p.Main[0].Then[0].Var = 2
	expect(t, "n as st, to pu", p, "1 call")
}

// I1: those who act for one who speaks, and those for whom one who speaks acts.
func TestSpeak(t *testing.T) {
	const vars = "var sa {a: ; a!}; var sb {b: ; a!}; var ab {a: ; b: ; a!}; var named {c: a; a!}; var tb {b!}; var tab {a! ; b!}; var wb {b! c}; var p {}; var none {a!}; "
	const text = "main { reveal none sa; reveal none sb; reveal none (sa + ab); reveal none named; trust tb 1; trust tab 1; trust wb 1; reveal none 1; }"
	for _, c := range [][2]string{
		{"", "0 speak, 0 robust, 1 speak, 1 robust, 2 speak, 2 robust, 3 speak, 3 robust, 4 speak, 5 speak, 6 speak"},
		{"speak a; ", "1 speak, 2 speak, 3 speak, 4 speak, 5 speak, 6 speak"},
		{"speak b; ", "0 speak, 0 robust, 1 robust, 2 speak, 2 robust, 3 speak, 3 robust, 5 speak"},
		{"speak a; speak b; ", "3 speak"},
		{"speak b; speak a; speak c; ", ""},
		// Who speaks acts for the owner; it is not enough that the owner acts for who speaks.
		{"speak a; grant a b; ", "3 speak"},
		// b may have written what a may have, too; but it acts for a, who speaks.
		{"speak a; grant b a; ", "1 speak, 2 speak, 3 speak, 4 speak, 5 speak, 6 speak"},
		{"speak a; grant a c; grant c b; ", ""},
		{"speak c; grant c a; grant c b; ", "0 robust, 1 robust, 2 robust, 3 robust"},
		{"speak c; grant a c; grant b c; ", "0 speak, 1 speak, 2 speak, 4 speak, 5 speak, 6 speak"},
		{"speak b; grant a b; ", "0 speak, 2 speak, 3 speak, 5 speak"},
	} {
		expect(t, c[0], program(t, "actor a; actor b; actor c; "+c[0]+vars+text), c[1])
	}
}

// I1: nobody wrote a number, so nobody need speak for that; and all speak as one does.
func TestNobodySpeaks(t *testing.T) {
	const text = "actor a; actor b; var p {}; var q {a!}; var x; main { reveal p 1; reveal q (1 + 2); trust p 3; reveal x 4; reveal p p; }"
	p := program(t, text)
	expect(t, "nobody speaks", p, "4 robust")
	p.Speak = []int{0}
	expect(t, "a speaks", p, "4 robust")
	p.Speak = []int{1, 0}
	expect(t, "both speak", p, "")
	p.Speak = []int{0, 0}
	expect(t, "a speaks twice", p, "4 robust")
	p.Actors.Grants = []api.Grant{{Who: 1, For: 0}}
	expect(t, "a speaks, for whom b acts", p, "")
}

// I1: what a variable that is not Known hides.
func TestHidden(t *testing.T) {
	expectAll(t, head, [][2]string{
		{"main { reveal x 1; reveal y st; }", ""},
		{"main { reveal pt x; }", "0 hidden"},
		{"main { reveal pt (st + (x * 2)); reveal pt (x + st); }", "0 hidden, 1 hidden"},
		{"main { trust pt x; trust x pt; trust x x; }", "1 hidden, 2 hidden"},
		{"func f(n) { reveal pt n; return 0; } main {}", "0 hidden"},
	})
	// Known, with a label that has no policies, is not hidden.
	expectAll(t, "actor a; speak a; var k {}; var h; ", [][2]string{
		{"main { reveal k k; trust k k; trust k h; }", ""},
		{"main { reveal k h; trust h k; }", "0 hidden, 1 hidden"},
	})
}

// I2: one fault, wherever it stands, is enough.
func TestNotFine(t *testing.T) {
	p := program(t, head+"main { get st ist; if 1 { if 1 { while 1 { if 0 {} else { put opt 3; } } } } put ost st; }")
	expect(t, "fine", p, "")
	p.Main[1].Then[0].Then[0].Then[0].Else[0].Expr = api.Expr{Kind: api.ExprName, N: 1}
	expect(t, "put opt st", p, "5 put")
}

// I1: as many faults as there may be commands.
func TestManyFaults(t *testing.T) {
	p := program(t, "actor a; actor b; speak b; var s {a:}; var t {a!}; var h; var p {b!}; main { if s { reveal t (s + h); } }")
	p.Main[0].Then = slices.Repeat(p.Main[0].Then, api.MaxStmts-1)
	var want []api.Fault
	for at := 1; at < api.MaxStmts; at++ {
		for _, kind := range []int{api.FaultPlace, api.FaultSpeak, api.FaultHidden, api.FaultValue, api.FaultRobust} {
			want = append(want, api.Fault{At: at, Kind: kind})
		}
	}
	expect(t, "faults of all", p, told(want))
}
