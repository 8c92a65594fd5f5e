package sure

import (
	"fmt"
	"slices"
	"strings"
	"testing"

	"veilwork/api"
	"veilwork/judge"
	"veilwork/run"
	"veilwork/scope"
	"veilwork/view"
)

// Actors of the market, and of all texts here that have them.
const (
	alice = iota
	bob
	carl
	dora
)

// market: alice speaks, and dora acts for her; bob and carl do not. What alice bids is revealed, what bob offers is trusted.
const market = `
actor alice; actor bob; actor carl; actor dora;
grant dora alice;
speak alice;
in bid {alice: ; alice!};
in offer {bob: alice};
in word {};
out news {};
out safe {alice: ; alice!};
var high {alice: ; alice!};
var low {bob: alice};
var said;
var told {alice!};
var open {};
var good {alice: ; alice!};
main {
  get high bid;
  get low offer;
  get said word;
  put news said;
  reveal told high;
  put news told;
  trust good low;
  put safe (good + high);
  reveal open (high * 2);
  put news open;
}
`

// Events of the market.
func news(at, n int) api.Event { return api.Event{Kind: api.EventPut, At: at, Value: n} }

func told(n int) api.Event { return api.Event{Kind: api.EventReveal, At: 4, Which: 3, Value: n} }

func good(n int) api.Event { return api.Event{Kind: api.EventTrust, At: 6, Which: 5, Value: n} }

func safe(n int) api.Event { return api.Event{Kind: api.EventPut, At: 7, Which: 1, Value: n} }

func open(n int) api.Event { return api.Event{Kind: api.EventReveal, At: 8, Which: 4, Value: n} }

func programOf(t *testing.T, text string) api.Program {
	t.Helper()
	p, at, e := scope.Program(text)
	if e != api.OK {
		t.Fatalf("%q has error %d at %d", text, e, at)
	}
	return p
}

// M1: what actors see, and what they can't touch, of two runs, and where these are apart.
func TestBoth(t *testing.T) {
	p := programOf(t, market)
	all := func(bid, offer, word int) []api.Event {
		return []api.Event{news(3, word), told(bid), news(5, bid), good(offer), safe(bid + offer), open(2 * bid), news(9, 2*bid)}
	}
	seen := func(bid, word int) []api.Event {
		return []api.Event{news(3, word), told(bid), news(5, bid), open(2 * bid), news(9, 2*bid)}
	}
	untouched := func(bid, offer int) []api.Event { return []api.Event{told(bid), good(offer), safe(bid + offer)} }
	for _, c := range []struct {
		who         int
		touch       bool
		ins, others [][]int
		l, m        []api.Event
		at          int
	}{
		{alice, false, [][]int{{5}, {6}, {7}}, [][]int{{5}, {6}, {7}}, all(5, 6, 7), all(5, 6, 7), -1},
		{alice, false, [][]int{{5}, {6}, {7}}, [][]int{{5}, {9}, {7}}, all(5, 6, 7), all(5, 9, 7), 3},
		{dora, false, [][]int{{5}, {6}, {7}}, [][]int{{4}, {6}, {7}}, all(5, 6, 7), all(4, 6, 7), 1},
		{bob, false, [][]int{{5}, {6}, {7}}, [][]int{{4}, {6}, {7}}, seen(5, 7), seen(4, 7), 1},
		{bob, false, [][]int{{5}, {6}, {7}}, [][]int{{5}, {6}, {8}}, seen(5, 7), seen(5, 8), 0},
		{carl, false, [][]int{{5}, {6}, {7}}, [][]int{{5}, {9}, {7}}, seen(5, 7), seen(5, 7), -1},
		{alice, true, [][]int{{5}, {6}, {7}}, [][]int{{4}, {9}, {8}}, nil, nil, -1},
		{dora, true, [][]int{{5}, {6}, {7}}, [][]int{{4}, {9}, {8}}, nil, nil, -1},
		{bob, true, [][]int{{5}, {6}, {7}}, [][]int{{5}, {9}, {8}}, untouched(5, 6), untouched(5, 9), 1},
		{carl, true, [][]int{{5}, {6}, {7}}, [][]int{{5}, {6}, {8}}, untouched(5, 6), untouched(5, 6), -1},
		{carl, true, [][]int{{5}, {6}, {7}}, [][]int{{-5}, {6}, {7}}, untouched(5, 6), untouched(-5, 6), 0},
		{carl, true, [][]int{{}, {}, {}}, [][]int{nil, {0}, {1, 2}}, untouched(0, 0), untouched(0, 0), -1},
	} {
		l, m, at, e := Both(p, c.who, c.touch, c.ins, c.others, 100)
		if e != api.OK || !slices.Equal(l, c.l) || !slices.Equal(m, c.m) || at != c.at {
			t.Errorf("M1: %d %v with %v and %v: %v and %v, apart at %d (%d), want %v and %v, at %d", c.who, c.touch, c.ins, c.others, l, m, at, e, c.l, c.m, c.at)
		}
	}
}

// M1: each run has the fuel by itself; and one may have more than the other one.
func TestBothFuel(t *testing.T) {
	p := programOf(t, "actor a; in i {}; out o {}; var x; main { get x i; while x { put o x; x = (x - 1); } put o 9; }")
	put := func(at, n int) api.Event { return api.Event{Kind: api.EventPut, At: at, Value: n} }
	for _, c := range []struct {
		fuel int
		l, m []api.Event
		at   int
	}{
		{0, nil, nil, -1},
		{2, nil, nil, -1},
		{3, []api.Event{put(4, 9)}, []api.Event{put(2, 1)}, 0},
		{6, []api.Event{put(4, 9)}, []api.Event{put(2, 1), put(4, 9)}, 0},
		{api.MaxFuel, []api.Event{put(4, 9)}, []api.Event{put(2, 1), put(4, 9)}, 0},
	} {
		l, m, at, e := Both(p, 0, false, [][]int{{0}}, [][]int{{1}}, c.fuel)
		if e != api.OK || !slices.Equal(l, c.l) || !slices.Equal(m, c.m) || at != c.at {
			t.Errorf("M1: fuel %d: %v and %v, apart at %d (%d), want %v and %v, at %d", c.fuel, l, m, at, e, c.l, c.m, c.at)
		}
	}
	// One list is the beginning of the other one, whichever is first.
	long := [][]int{{1, 1, 1}}
	p = programOf(t, "actor a; in i {}; out o {}; var x; main { get x i; while x { put o 7; get x i; } }")
	for _, c := range [][2][][]int{{{{1}}, long}, {long, {{1}}}} {
		if l, m, at, e := Both(p, 0, false, c[0], c[1], 50); e != api.OK || at != 1 || len(l) != len(c[0][0]) || len(m) != len(c[1][0]) {
			t.Errorf("M1: %v: %v and %v, apart at %d (%d)", c, l, m, at, e)
		}
	}
}

// M1: errors of the run with ins come first, then those with others, and then that there is no such actor.
func TestBothErrors(t *testing.T) {
	p := programOf(t, market)
	fine := [][]int{{1}, {2}, {3}}
	few, many, great := [][]int{{1}, {2}}, [][]int{{1}, make([]int, api.MaxInput+1), {3}}, [][]int{{1}, {2}, {api.Most + 1}}
	least, lesser := [][]int{{api.Least}, {2}, make([]int, api.MaxInput)}, [][]int{{1}, {api.Least - 1}, {3}}
	for _, c := range []struct {
		who         int
		ins, others [][]int
		fuel        int
		want        api.Errno
	}{
		{bob, fine, least, 0, api.OK},
		{bob, few, fine, 9, api.ErrForm},
		{bob, many, fine, 9, api.ErrMany},
		{bob, great, fine, 9, api.ErrRange},
		{bob, fine, few, 9, api.ErrForm},
		{bob, fine, many, 9, api.ErrMany},
		{bob, fine, lesser, 9, api.ErrRange},
		{bob, fine, nil, 9, api.ErrForm},
		{bob, nil, fine, 9, api.ErrForm},
		{bob, fine, append(fine, nil), 9, api.ErrForm},
		{bob, great, few, 9, api.ErrRange},
		{bob, many, few, 9, api.ErrMany},
		{bob, few, many, 9, api.ErrForm},
		{bob, fine, few, -1, api.ErrRange},
		{bob, fine, fine, api.MaxFuel + 1, api.ErrRange},
		{bob, fine, fine, api.MaxFuel, api.OK},
		{-1, fine, fine, 9, api.ErrNone},
		{dora + 1, fine, fine, 9, api.ErrNone},
		{dora, fine, fine, 9, api.OK},
		{-1, few, fine, 9, api.ErrForm},
		{-1, fine, many, 9, api.ErrMany},
		{-1, fine, great, 9, api.ErrRange},
		{dora + 1, fine, fine, -1, api.ErrRange},
	} {
		for _, touch := range []bool{false, true} {
			l, m, at, e := Both(p, c.who, touch, c.ins, c.others, c.fuel)
			if e != c.want {
				t.Errorf("M1: %d with %v and %v, fuel %d: error %d, want %d", c.who, c.ins, c.others, c.fuel, e, c.want)
			}
			if e != api.OK && (l != nil || m != nil || at != 0) {
				t.Errorf("P1: error %d, and %v, %v, %d", e, l, m, at)
			}
		}
	}
}

// M1: errors of the program come ahead of all others.
func TestBothWrongPrograms(t *testing.T) {
	for i, c := range []struct {
		spoil func(p *api.Program)
		want  api.Errno
	}{
		{func(p *api.Program) { p.Actors.Many = 0 }, api.ErrRange},
		{func(p *api.Program) { p.Speak = []int{dora + 1} }, api.ErrNone},
		{func(p *api.Program) { p.Vars[2].Label.Read = []api.Policy{{}} }, api.ErrForm},
		{func(p *api.Program) { p.Main[3].Kind = 9 }, api.ErrKind},
		{func(p *api.Program) { p.Main = slices.Repeat(p.Main, 6) }, api.ErrMany},
		{func(p *api.Program) { p.Main[9].Expr.N = 99 }, api.ErrNone},
	} {
		p := programOf(t, market)
		c.spoil(&p)
		l, m, at, e := Both(p, -1, true, nil, nil, -1)
		if e != c.want || l != nil || m != nil || at != 0 {
			t.Errorf("M1: program %d: %v, %v, %d (%d), want error %d", i, l, m, at, e, c.want)
		}
	}
	if l, m, at, e := Both(api.Program{}, 0, false, nil, nil, 0); e != api.ErrRange || l != nil || m != nil || at != 0 {
		t.Errorf("M1: no program at all: %v, %v, %d (%d)", l, m, at, e)
	}
}

// withReveals: what one can't touch of a run, and all that is revealed.
func withReveals(p api.Program, who int, ins [][]int, fuel int) []api.Event {
	x, _ := run.Run(p, ins, fuel)
	return slices.DeleteFunc(x.Events, func(v api.Event) bool {
		l, _ := view.Events(p, who, true, []api.Event{v})
		return v.Kind != api.EventReveal && len(l) == 0
	})
}

// M3: who sees the same coming in sees the same, but that the first difference may be what is revealed.
func TestLearned(t *testing.T) {
	p := programOf(t, market)
	if fine, e := judge.Fine(p); !fine || e != api.OK {
		t.Fatalf("I2: the market is not fine (%d)", e)
	}
	ins := [][]int{{5}, {6}, {7}}
	for _, c := range []struct {
		who    int
		others [][]int
		at     int
	}{
		{bob, [][]int{{4, 1}, {6}, {7}}, 1},
		{carl, [][]int{{4}, {9}, {7}}, 1},
		{carl, [][]int{{5}, {}, {7}}, -1},
		{bob, [][]int{{5, 9}, {6}, {7}}, -1},
	} {
		l, m, at, e := Both(p, c.who, false, ins, c.others, 100)
		if e != api.OK || at != c.at || at >= 0 && (l[at].Kind != api.EventReveal || m[at].Kind != api.EventReveal || l[at].At != m[at].At) {
			t.Errorf("M3: %d with %v: %v and %v, apart at %d (%d), want %d", c.who, c.others, l, m, at, e, c.at)
		}
	}
}

// M4: who has a say in what it can't touch has it by what is trusted.
func TestTouched(t *testing.T) {
	p := programOf(t, market)
	ins := [][]int{{5}, {6}, {7}}
	for _, c := range []struct {
		who    int
		others [][]int
		at     int
	}{
		{bob, [][]int{{5}, {9}, {7}}, 1},
		{carl, [][]int{{5}, {9, 1}, {}}, 1},
		{carl, [][]int{{5}, {6}, {8}}, -1},
	} {
		l, m, at, e := Both(p, c.who, true, ins, c.others, 100)
		if e != api.OK || at != c.at || at >= 0 && (l[at].Kind != api.EventTrust || m[at].Kind != api.EventTrust || l[at].At != m[at].At) {
			t.Errorf("M4: %d with %v: %v and %v, apart at %d (%d), want %d", c.who, c.others, l, m, at, e, c.at)
		}
	}
}

// M4: who acts for nobody who speaks has no say in what is revealed, whoever may have written the variable; who acts for one may have.
func TestNobodyElseReveals(t *testing.T) {
	p := programOf(t, market)
	ins := [][]int{{5}, {6}, {7}}
	for _, who := range []int{bob, carl} {
		l, m := withReveals(p, who, ins, 100), withReveals(p, who, [][]int{{5}, {6}, {8}}, 100)
		if want := []api.Event{told(5), good(6), safe(11), open(10)}; !slices.Equal(l, want) || !slices.Equal(m, want) {
			t.Errorf("M4: %d: %v and %v, want %v", who, l, m, want)
		}
		l, m = withReveals(p, who, ins, 100), withReveals(p, who, [][]int{{5}, {9}, {8}}, 100)
		if at := view.Apart(l, m); at != 1 || l[at].Kind != api.EventTrust || m[at].Kind != api.EventTrust {
			t.Errorf("M4: %d: %v and %v, apart at %d", who, l, m, at)
		}
	}
	for _, who := range []int{alice, dora} {
		l, m := withReveals(p, who, ins, 100), withReveals(p, who, [][]int{{4}, {6}, {7}}, 100)
		if at := view.Apart(l, m); at != 0 || l[at] != told(5) || m[at] != told(4) {
			t.Errorf("M4: %d: %v and %v, apart at %d", who, l, m, at)
		}
	}
	// With this word somebody else would have a say, and so it is no program that is fine.
	for text, want := range map[string]string{
		strings.Replace(market, "get high bid", "get high word", 1):                            "0 get\n",
		strings.Replace(market, "(high * 2)", "(high + low)", 1):                               "8 speak\n8 robust\n",
		strings.Replace(market, "reveal open (high * 2);", "if said { reveal open high; }", 1): "9 robust\n",
	} {
		if s, e := Report(text); s != want || e != api.OK {
			t.Errorf("M4: %q: %q (%d), want %q", text, s, e, want)
		}
	}
}

// head of texts with faults: a speaks, b does not.
const head = `actor a; actor b; speak a;
in i {a:}; out o {};
var x {a: ; a!}; var y {}; var z {b!}; var s {b: ; a!}; var w {a:}; var g {a!}; var h {b:}; var u;
`

// M2: each kind of fault, and none.
func TestReportFaults(t *testing.T) {
	for _, c := range []struct{ text, want string }{
		{"main {}", "fine\n"},
		{"main { reveal y x; put o y; trust g y; u = g; }", "fine\n"},
		{"main { y = x; }", "0 set\n"},
		{"func f(n) { return n; } main { y = f(x); }", "0 call\n"},
		{"main { get y i; }", "0 get\n"},
		{"main { put o x; }", "0 put\n"},
		{"main { if x { reveal y 1; } }", "1 place\n"},
		{"main { reveal y s; }", "0 speak\n"},
		{"main { reveal y u; }", "0 hidden\n"},
		{"main { reveal z x; }", "0 value\n"},
		{"main { reveal y w; }", "0 robust\n"},
		{"main { if w { trust g y; } }", "1 place\n"},
		{"main { trust z y; }", "0 speak\n"},
		{"main { trust u y; }", "0 hidden\n"},
		{"main { trust g w; }", "0 value\n"},
		{"main { if h { reveal z (h + (x + u)); } }", "1 place\n1 speak\n1 hidden\n1 value\n1 robust\n"},
		{"main { if h { trust z w; } }", "1 place\n1 speak\n1 value\n"},
		{"func f(n) { y = 1; y = x; return n; } main { while u { put o w; } y = f(w); reveal y w; }", "1 set\n3 put\n4 call\n5 robust\n"},
		{"main {" + strings.Repeat("y = 1; ", 49) + "y = x; }", "49 set\n"},
		{"main {" + strings.Repeat("put o x; ", 50) + "}", lines(50, "put")},
	} {
		if s, e := Report(head + c.text); s != c.want || e != api.OK {
			t.Errorf("M2: %q: %q (%d), want %q", c.text, s, e, c.want)
		}
	}
}

// lines of a report: each of so many commands has this fault.
func lines(many int, fault string) string {
	out := ""
	for at := range many {
		out += fmt.Sprint(at, " ", fault, "\n")
	}
	return out
}

// M2: the report on the market, and on the document's example.
func TestReport(t *testing.T) {
	example := `    actor alice;
    actor bob;
    speak alice;
    in bid {alice: ; alice! };
    in offer {bob: alice};
    out news {};
    var high {alice: ; alice! };
    var told {alice: bob};
    var x;
    func more(a, b) {
      return (a < b);
    }
    main {
      get high bid;
      get x offer;
      x = more(high, x);
      reveal told high;
      if 1 {
        put news 1;
      }
    }
`
	for _, text := range []string{market, example} {
		if s, e := Report(text); s != "fine\n" || e != api.OK {
			t.Errorf("M2: %q: %q (%d)", text, s, e)
		}
	}
}

// M2: texts that have an error: of tokens, of trees, of names, and of programs, the last ones at 0.
func TestReportTexts(t *testing.T) {
	for text, want := range map[string]string{
		"":                                       "text 0\n",
		"?":                                      "text 0\n",
		"actor a; ?":                             "text 9\n",
		"actor abcdefghijklm; main {}":           "text 6\n",
		"actor a; var x; main { x = 01; }":       "text 27\n",
		"actor a; var x; main { x = 12345678; }": "text 27\n",
		"actor a; main {":                        "text 15\n",
		"actor a; main {} main {}":               "text 17\n",
		"actor a; main { x = 1; }":               "text 16\n",
		"actor a; actor a; main {}":              "text 9\n",
		"actor a; main { put a 1; }":             "text 16\n",
		"actor a; out o {b:}; main {}":           "text 16\n",
		"main {}":                                "text 0\n",
		"actor a; " + strings.Repeat("speak a; ", 2) + "main {}":               "text 0\n",
		"actor a; var x; main {" + strings.Repeat("x = 1; ", 51) + "}":         "text 0\n",
		"actor a; out o {}; main { put o " + strings.Repeat("(1 + ", 61) + "1": "text 332\n",
	} {
		if s, e := Report(text); s != want || e != api.OK {
			t.Errorf("M2: %q: %q (%d), want %q", text, s, e, want)
		}
	}
}

// M2: as many bytes as a text may have, and more, whatever they are.
func TestReportLongTexts(t *testing.T) {
	long := func(text string, many int) string { return text + strings.Repeat(" ", many-len(text)) }
	for _, c := range []struct {
		text, want string
		why        api.Errno
	}{
		{long("actor a; main {}", api.MaxText), "fine\n", api.OK},
		{long("actor a; main {}", api.MaxText+1), "", api.ErrMany},
		{long("actor a; actor b; out o {}; var x {a:}; main { put o x; }", api.MaxText), "0 put\n", api.OK},
		{long("actor a; actor b; out o {}; var x {a:}; main { put o x; }", api.MaxText+1), "", api.ErrMany},
		{long("actor a; main {", api.MaxText), "text 6000\n", api.OK},
		{long("?", api.MaxText+1), "", api.ErrMany},
		{strings.Repeat("\x00", 100*api.MaxText), "", api.ErrMany},
	} {
		if s, e := Report(c.text); s != c.want || e != c.why {
			t.Errorf("M2: %d bytes: %q (%d), want %q (%d)", len(c.text), s, e, c.want, c.why)
		}
	}
}
