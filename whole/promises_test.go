package whole

import (
	"math/rand"
	"slices"
	"testing"

	"veilwork/actors"
	"veilwork/api"
	"veilwork/infer"
	"veilwork/label"
	"veilwork/run"
	"veilwork/scope"
	"veilwork/show"
	"veilwork/slice"
	"veilwork/sure"
	"veilwork/token"
	"veilwork/tree"
	"veilwork/view"
	"veilwork/watch"
)

// eachText of programs that are made up, with the program that scope makes of it, and two inputs. Each sentence of 'What the whole promises' is tried so, from texts on.
func eachText(t *testing.T, seed int64, many int, try func(text string, g given)) {
	t.Parallel()
	r := rand.New(rand.NewSource(seed))
	tried := 0
	for i := range many {
		text := textOf(makeProgram(r))
		if i%2 == 0 {
			text = textOf(makeFine(r))
		}
		p, _, e := scope.Program(text)
		if e != api.OK {
			continue // as there are too many variables, parameters among them
		}
		tried++
		try(text, given{Program: p, Ins: makeFew(r, p), Again: makeFew(r, p), Fuel: r.Intn(100)})
	}
	if tried < many/2 {
		t.Errorf("only %d texts were tried", tried)
	}
}

// What is joined is scanned as it was.
func TestWholeJoined(t *testing.T) {
	eachText(t, 31, 400, func(text string, _ given) {
		l, _, e := token.Scan(text)
		s, f := token.Join(l)
		m, _, h := token.Scan(s)
		if f == api.ErrMany {
			return // it is longer, with all the blanks
		}
		for i := range min(len(l), len(m)) {
			m[i].At = l[i].At
		}
		if e != api.OK || f != api.OK || h != api.OK || !slices.Equal(l, m) {
			t.Fatalf("A3: %q: %v (%d), joined %q (%d), and scanned %v (%d)", text, l, e, s, f, m, h)
		}
	})
}

// What is shown is parsed to the same tree, and so it is the same program.
func TestWholeShown(t *testing.T) {
	eachText(t, 32, 400, func(text string, g given) {
		x, _, e := tree.Parse(text)
		s, f := show.Show(x)
		y, _, h := tree.Parse(s)
		if len(s) > api.MaxText {
			return
		}
		p, _, k := scope.Program(s)
		if e != api.OK || f != api.OK || h != api.OK || k != api.OK || !show.Same(x, y) || !alike(p, g.Program) {
			t.Fatalf("C3: %q is shown as %q, of another tree", text, s)
		}
	})
}

// Who acts for one who acts for another one acts for that one.
func TestWholeActs(t *testing.T) {
	eachText(t, 33, 400, func(text string, g given) {
		acts, e := actors.For(g.Program.Actors)
		if e != api.OK {
			t.Fatalf("D2: %q: error %d", text, e)
		}
		for who := range acts {
			for way := range acts {
				for other := range acts {
					if acts[who][way] && acts[way][other] && !acts[who][other] {
						t.Fatalf("D3: %q: %d acts for %d, who acts for %d, in %v", text, who, way, other, acts)
					}
				}
			}
		}
	})
}

// Levels are ordered, with a least one above and a greatest one below.
func TestWholeLevels(t *testing.T) {
	eachText(t, 34, 200, func(text string, g given) {
		a := g.Program.Actors
		inferred, _ := infer.Infer(g.Program)
		flows := func(l, m api.Level) bool {
			is, e := label.Flows(a, l, m)
			return is && e == api.OK
		}
		for _, l := range inferred.Vars {
			for _, m := range inferred.Vars {
				above, e := label.Join(a, l, m)
				below, f := label.Meet(a, l, m)
				isBetween := flows(l, above) && flows(m, above) && flows(below, l) && flows(below, m)
				if e != api.OK || f != api.OK || !isBetween || flows(l, m) && flows(m, l) != alike(l, m) {
					t.Fatalf("E4: %q: %v and %v: %v above, %v below", text, l, m, above, below)
				}
				for _, n := range inferred.Vars {
					isLeast := flows(above, n) == (flows(l, n) && flows(m, n))
					isGreatest := flows(n, below) == (flows(n, l) && flows(n, m))
					goesOn := !flows(l, m) || !flows(m, n) || flows(l, n)
					if !isLeast || !isGreatest || !goesOn {
						t.Fatalf("E4: %q: %v and %v: %v above, %v below, and %v", text, l, m, above, below, n)
					}
				}
			}
		}
	})
}

// With more fuel all that happened happens; what is not taken does not matter.
func TestWholeFuel(t *testing.T) {
	eachText(t, 35, 400, func(text string, g given) {
		x, e := run.Run(g.Program, g.Ins, g.Fuel)
		y, f := run.Run(g.Program, g.Ins, api.MaxFuel)
		if e != api.OK || f != api.OK || !beginsWith(y.Events, x.Events) || x.End == api.EndDone && !alike(x, y) {
			t.Fatalf("G3: %q with %v: %v, with more fuel %v", text, g.Ins, x, y)
		}
		others := slices.Clone(g.Ins)
		for i, n := range x.Taken {
			if n <= len(others[i]) {
				others[i] = append(slices.Clone(others[i][:n]), g.Again[i]...)
			}
		}
		if z, f := run.Run(g.Program, others, g.Fuel); f != api.OK || !alike(x, z) {
			t.Fatalf("G3: %q: %v with %v, %v with %v", text, x, g.Ins, z, others)
		}
	})
}

// What is inferred fits, and flows to whatever fits.
func TestWholeInferred(t *testing.T) {
	r := rand.New(rand.NewSource(36))
	eachText(t, 36, 400, func(text string, g given) {
		l, e := infer.Infer(g.Program)
		above := makeGraph(g.Program).least(makeLevels(r, g.Program))
		fits, f := infer.Fits(g.Program, l)
		also, h := infer.Fits(g.Program, above)
		if e != api.OK || f != api.OK || h != api.OK || !fits || !also || !flow(g.Program, l, above) {
			t.Fatalf("H4: %q: %v (%v), and %v (%v)", text, l, fits, above, also)
		}
	})
}

// Watched, whatever the program is, nobody learns more than is revealed; and what happens is the beginning of what happens unwatched.
func TestWholeWatched(t *testing.T) {
	eachText(t, 37, 400, func(text string, g given) {
		for g.Who = range g.Program.Actors.Many {
			others := slices.Clone(g.Again)
			keepSame(g, others)
			x, _, e := watch.Watch(g.Program, g.Ins, g.Fuel)
			y, _, f := watch.Watch(g.Program, others, g.Fuel)
			l, _ := view.Events(g.Program, g.Who, false, x.Events)
			m, _ := view.Events(g.Program, g.Who, false, y.Events)
			if e != api.OK || f != api.OK || verdict(l, m, api.EventReveal) == "leak" {
				t.Fatalf("K2: %q with %v and %v: %v and %v", text, g.Ins, others, l, m)
			}
			if z, _ := run.Run(g.Program, g.Ins, g.Fuel); !beginsWith(z.Events, x.Events) {
				t.Fatalf("K2: %q with %v: %v, unwatched %v", text, g.Ins, x, z)
			}
		}
	})
}

// Sliced, as much goes out on a channel, and the same.
func TestWholeSliced(t *testing.T) {
	values := func(p api.Program, g given, channel int) (out []int, done bool) {
		x, _ := run.Run(p, g.Ins, api.MaxFuel)
		for _, v := range x.Events {
			if v.Kind == api.EventPut && v.Which == channel {
				out = append(out, v.Value)
			}
		}
		return out, x.End == api.EndDone
	}
	eachText(t, 38, 400, func(text string, g given) {
		for channel := range g.Program.Outs {
			q, e := slice.Slice(g.Program, channel)
			l, done := values(g.Program, g, channel)
			m, _ := values(q, g, channel)
			if e != api.OK || !beginsWith(m, l) || done && len(m) > len(l) {
				t.Fatalf("L3: %q with %v: on %d go %v, sliced %v", text, g.Ins, channel, l, m)
			}
		}
	})
}

// Of a program that is fine nobody learns more than is revealed; nobody has a say in what it can't touch but by what is trusted; and who acts for nobody who speaks has no say in what is revealed.
func TestWholeSure(t *testing.T) {
	fine := 0
	eachText(t, 39, 800, func(text string, g given) {
		if s, e := sure.Report(text); s != "fine\n" || e != api.OK {
			return
		}
		fine++
		speakers := makeTrial(g.Program).speakers()
		for i := range 2 * g.Program.Actors.Many {
			g.Who, g.Touch = i/2, i%2 == 1
			others := slices.Clone(g.Again)
			keepSame(g, others)
			kind := map[bool]int{false: api.EventReveal, true: api.EventTrust}[g.Touch]
			l, m, _, e := sure.Both(g.Program, g.Who, g.Touch, g.Ins, others, g.Fuel)
			x, y, done := runs(g, others)
			v := verdict(l, m, kind)
			if e != api.OK || v == "leak" || v == "more" && done {
				t.Fatalf("M3, M4: %q: %d (%v) with %v and %v: %v and %v (%d)", text, g.Who, g.Touch, g.Ins, others, l, m, e)
			}
			if !g.Touch || speakers[g.Who] {
				continue
			}
			l, _ = withReveals(g, x.Events)
			m, _ = withReveals(g, y.Events)
			if v := verdict(l, m, kind); v == "leak" || v == "more" && done {
				t.Fatalf("M4: %q: %d with %v and %v: %v and %v", text, g.Who, g.Ins, others, l, m)
			}
		}
	})
	if fine < 200 {
		t.Errorf("only %d programs were fine", fine)
	}
}
