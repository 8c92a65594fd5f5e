package label_test

import (
	"math/rand"
	"reflect"
	"slices"
	"sync"
	"testing"

	"veilwork/actors"
	"veilwork/api"
	"veilwork/label"
)

// bools of a text, in which 1 is true.
func bools(s string) []bool {
	l := []bool{}
	for _, c := range s {
		l = append(l, c == '1')
	}
	return l
}

func level(readers, writers string) api.Level {
	return api.Level{Readers: bools(readers), Writers: bools(writers)}
}

func same(l, m api.Level) bool {
	return slices.Equal(l.Readers, m.Readers) && slices.Equal(l.Writers, m.Writers)
}

// E2: ordinary labels.
func TestLevel(t *testing.T) {
	alone := api.Actors{Many: 3}
	chain := api.Actors{Many: 3, Grants: []api.Grant{{Who: 0, For: 1}, {Who: 1, For: 2}}}
	for _, c := range []struct {
		a    api.Actors
		l    api.Label
		want api.Level
	}{
		{alone, api.Label{}, level("111", "111")},
		{api.Actors{Many: 1}, api.Label{}, level("1", "1")},
		{api.Actors{Many: 1}, api.Label{Write: policies(policy(0))}, level("1", "1")},
		{api.Actors{Many: 6}, api.Label{Write: policies(policy(0, 5))}, level("111111", "100001")},
		{alone, api.Label{Read: policies(policy(1))}, level("010", "111")},
		{alone, api.Label{Write: policies(policy(1))}, level("111", "010")},
		{alone, api.Label{Read: policies(policy(1, 1))}, level("010", "111")},
		{alone, api.Label{Read: policies(policy(1, 0, 2))}, level("111", "111")},
		{alone, api.Label{Read: policies(policy(1), policy(0))}, level("000", "111")},
		{alone, api.Label{Read: policies(policy(1, 2), policy(0, 2)), Write: policies(policy(0, 1), policy(0))}, level("001", "100")},
		{chain, api.Label{Read: policies(policy(2)), Write: policies(policy(1))}, level("111", "110")},
		{chain, api.Label{Read: policies(policy(0)), Write: policies(policy(0, 1))}, level("100", "110")},
		{chain, api.Label{Read: policies(policy(2), policy(1), policy(0))}, level("100", "111")},
	} {
		if x, e := label.Level(c.a, c.l); e != api.OK || !same(x, c.want) {
			t.Errorf("E2: Level(%v, %v): %v %d, want %v", c.a, c.l, x, e, c.want)
		}
	}
}

// lists of at most two policies of three actors, all of them.
func lists() [][]api.Policy {
	var each []api.Policy
	for owner := range 3 {
		for set := range 1 << 3 {
			p := policy(owner)
			for n := range 3 {
				if set>>n&1 == 1 {
					p.Names = append(p.Names, n)
				}
			}
			each = append(each, p)
		}
	}
	out := [][]api.Policy{nil}
	for _, p := range each {
		out = append(out, policies(p))
		for _, q := range each {
			out = append(out, policies(p, q))
		}
	}
	return out
}

// passes: how many of some policies one passes, as it acts for somebody who is named there.
func passes(a api.Actors, who int, l []api.Policy) int {
	many := 0
	for _, p := range l {
		one := 0
		for _, other := range append([]int{p.Owner}, p.Names...) {
			if is, _ := actors.Acts(a, who, other); is {
				one = 1
			}
		}
		many += one
	}
	return many
}

// E2: all labels of two policies that three actors can have, with all grants.
func TestLevelAllOfThree(t *testing.T) {
	all := lists()
	pairs := []api.Grant{{Who: 0, For: 1}, {Who: 0, For: 2}, {Who: 1, For: 0}, {Who: 1, For: 2}, {Who: 2, For: 0}, {Who: 2, For: 1}}
	for set := range 1 << len(pairs) {
		a := api.Actors{Many: 3}
		for i, g := range pairs {
			if set>>i&1 == 1 {
				a.Grants = append(a.Grants, g)
			}
		}
		for i := range all {
			l := api.Label{Read: all[i], Write: all[(i*7+set)%len(all)]}
			x, e := label.Level(a, l)
			if e != api.OK || len(x.Readers) != 3 || len(x.Writers) != 3 {
				t.Fatalf("E2: Level(%v, %v): %v %d", a, l, x, e)
			}
			for who := range 3 {
				if x.Readers[who] != (passes(a, who, l.Read) == len(l.Read)) || x.Writers[who] != (passes(a, who, l.Write) == len(l.Write)) {
					t.Fatalf("E2: Level(%v, %v): %v", a, l, x)
				}
			}
		}
	}
}

// expectPair: of two levels the error of Flows, Join and Meet, with nothing else.
func expectPair(t *testing.T, a api.Actors, l, m api.Level, want api.Errno) {
	t.Helper()
	flows, e := label.Flows(a, l, m)
	join, f := label.Join(a, l, m)
	meet, g := label.Meet(a, l, m)
	if e != want || f != want || g != want {
		t.Errorf("E3: of %v %v %v: %d %d %d, want %d", a, l, m, e, f, g, want)
	}
	if want != api.OK && (flows || !isZero(join) || !isZero(meet)) {
		t.Errorf("P1: of %v %v %v: %v %v %v", a, l, m, flows, join, meet)
	}
}

// E3: what is no level.
func TestRight(t *testing.T) {
	sizes := []string{"", "1", "01", "011", "0110", "01101", "011010", "0110100"}
	for many := 1; many <= api.MaxActors; many++ {
		a := api.Actors{Many: many}
		fine := level(sizes[many], sizes[many])
		for _, readers := range sizes {
			for _, writers := range sizes {
				l := level(readers, writers)
				want := api.ErrForm
				if len(readers) == many && len(writers) == many {
					want = api.OK
				}
				if e := label.Right(a, l); e != want {
					t.Errorf("E3: Right(%v, %v): %d, want %d", a, l, e, want)
				}
				expectPair(t, a, l, fine, want)
				expectPair(t, a, fine, l, want)
				expectPair(t, a, l, l, want)
			}
		}
		if e := label.Right(a, api.Level{}); e != api.ErrForm {
			t.Errorf("E3: Right(%v, nothing): %d", a, e)
		}
	}
}

// E3: that of chapter 4 comes first.
func TestRightActors(t *testing.T) {
	for _, a := range wrongActors {
		want := actors.Check(a)
		for _, l := range []api.Level{{}, level("111", "111"), level("1", "111"), level("1111111", "1111111")} {
			if e := label.Right(a, l); e != want {
				t.Errorf("E3: Right(%v, %v): %d, want %d", a, l, e, want)
			}
			expectPair(t, a, l, level("111", "111"), want)
			expectPair(t, a, level("111", "111"), l, want)
		}
	}
}

// E3: ordinary levels.
func TestFlowsJoinMeet(t *testing.T) {
	a := api.Actors{Many: 3, Grants: []api.Grant{{Who: 0, For: 1}}}
	for _, c := range []struct {
		l, m       api.Level
		to, from   bool
		join, meet api.Level
	}{
		{level("111", "000"), level("000", "111"), true, false, level("000", "111"), level("111", "000")},
		{level("110", "100"), level("100", "100"), true, false, level("100", "100"), level("110", "100")},
		{level("110", "100"), level("110", "101"), true, false, level("110", "101"), level("110", "100")},
		{level("110", "101"), level("100", "100"), false, false, level("100", "101"), level("110", "100")},
		{level("110", "010"), level("011", "001"), false, false, level("010", "011"), level("111", "000")},
		{level("101", "010"), level("101", "010"), true, true, level("101", "010"), level("101", "010")},
	} {
		to, _ := label.Flows(a, c.l, c.m)
		from, _ := label.Flows(a, c.m, c.l)
		join, _ := label.Join(a, c.l, c.m)
		meet, _ := label.Meet(a, c.l, c.m)
		if to != c.to || from != c.from || !same(join, c.join) || !same(meet, c.meet) {
			t.Errorf("E3: %v and %v: %v %v %v %v", c.l, c.m, to, from, join, meet)
		}
		expectPair(t, a, c.l, c.m, api.OK)
	}
}

// every level of so many actors.
func every(many int) []api.Level {
	var out []api.Level
	for set := range 1 << (2 * many) {
		l := api.Level{Readers: make([]bool, many), Writers: make([]bool, many)}
		for i := range many {
			l.Readers[i], l.Writers[i] = set>>(2*i)&1 == 1, set>>(2*i+1)&1 == 1
		}
		out = append(out, l)
	}
	return out
}

// mustFlow: whether one flows to another one, by what E3 says of each actor.
func mustFlow(l, m api.Level) bool {
	for who := range l.Readers {
		if m.Readers[who] && !l.Readers[who] || l.Writers[who] && !m.Writers[who] {
			return false
		}
	}
	return true
}

func flows(t *testing.T, a api.Actors, l, m api.Level) bool {
	t.Helper()
	is, e := label.Flows(a, l, m)
	if e != api.OK || is != mustFlow(l, m) {
		t.Fatalf("E3: Flows(%v, %v, %v): %v %d", a, l, m, is, e)
	}
	return is
}

// holdPair: what is told of two levels, held against all others.
func holdPair(t *testing.T, a api.Actors, l, m api.Level, all []api.Level) {
	t.Helper()
	join, e := label.Join(a, l, m)
	meet, f := label.Meet(a, l, m)
	if e != api.OK || f != api.OK || label.Right(a, join) != api.OK || label.Right(a, meet) != api.OK {
		t.Fatalf("E3: of %v %v: %v %d, %v %d", l, m, join, e, meet, f)
	}
	if flows(t, a, l, m) && flows(t, a, m, l) != same(l, m) {
		t.Fatalf("E4: %v and %v", l, m)
	}
	for _, n := range all {
		if (flows(t, a, l, n) && flows(t, a, m, n)) != flows(t, a, join, n) {
			t.Fatalf("E3, E4: Join(%v, %v): %v, and %v", l, m, join, n)
		}
		if (flows(t, a, n, l) && flows(t, a, n, m)) != flows(t, a, n, meet) {
			t.Fatalf("E3, E4: Meet(%v, %v): %v, and %v", l, m, meet, n)
		}
		if flows(t, a, l, m) && flows(t, a, m, n) && !flows(t, a, l, n) {
			t.Fatalf("E4: %v, %v and %v", l, m, n)
		}
	}
}

// E3, E4: every level of few actors; grants do not matter there.
func TestOrder(t *testing.T) {
	for many := 1; many <= 3; many++ {
		a := api.Actors{Many: many, Grants: []api.Grant{{Who: 0, For: many - 1}}}
		all := every(many)
		for _, l := range all {
			if !flows(t, a, l, l) {
				t.Fatalf("E4: %v does not flow to itself", l)
			}
			for _, m := range all {
				holdPair(t, a, l, m, all)
			}
		}
	}
}

// E3, E4: some levels of as many actors as there can be.
func TestOrderOfMany(t *testing.T) {
	r := rand.New(rand.NewSource(3))
	a := api.Actors{Many: api.MaxActors}
	all := every(api.MaxActors)
	for range 40 {
		holdPair(t, a, all[r.Intn(len(all))], all[r.Intn(len(all))], all)
	}
}

// roomy: a copy of a list, with room behind it that is filled.
func roomy[T any](l []T, fill T) []T { return append(slices.Clone(l), fill, fill)[:len(l)] }

func whole[T any](l []T) []T { return l[:cap(l)] }

// spoil all memory of a level.
func spoil(l api.Level) {
	for _, list := range [][]bool{whole(l.Readers), whole(l.Writers)} {
		for i := range list {
			list[i] = !list[i]
		}
	}
}

// P2: levels and actors that come in are only read, the room behind them too, and answers are new memory.
func TestLevelsMemory(t *testing.T) {
	a := api.Actors{Many: 3, Grants: roomy([]api.Grant{{Who: 0, For: 1}}, api.Grant{Who: 8, For: 9})}
	l := api.Level{Readers: roomy(bools("110"), true), Writers: roomy(bools("010"), true)}
	m := api.Level{Readers: roomy(bools("011"), true), Writers: roomy(bools("110"), true)}
	memory := func() []any {
		return []any{slices.Clone(whole(a.Grants)), slices.Clone(whole(l.Readers)), slices.Clone(whole(l.Writers)), slices.Clone(whole(m.Readers)), slices.Clone(whole(m.Writers))}
	}
	was := memory()
	for _, do := range []func(a api.Actors, l, m api.Level) (api.Level, api.Errno){label.Join, label.Meet} {
		for _, second := range []api.Level{l, m} {
			x, _ := do(a, l, second)
			want := api.Level{Readers: slices.Clone(x.Readers), Writers: slices.Clone(x.Writers)}
			y, _ := do(a, l, second)
			spoil(y)
			if !same(x, want) {
				t.Errorf("P2: %v became %v", want, x)
			}
			spoil(api.Level{Readers: x.Readers})
			if !slices.Equal(x.Writers, want.Writers) {
				t.Errorf("P2: lists of an answer share memory")
			}
			label.Flows(a, l, second)
			label.Right(a, second)
			if now := memory(); !reflect.DeepEqual(now, was) {
				t.Errorf("P2: %v became %v", was, now)
			}
		}
	}
}

// P2: labels that come in are only read, and a level does not hang on a later change of one.
func TestLabelMemory(t *testing.T) {
	names := roomy([]int{0, 2}, 7)
	list := roomy(policies(api.Policy{Owner: 1, Names: names}), policy(9, 9))
	l := api.Label{Read: list, Write: list}
	a := api.Actors{Many: 3}
	label.Check(a, l)
	x, _ := label.Level(a, l)
	if !slices.Equal(whole(names)[:4], []int{0, 2, 7, 7}) || list[0].Owner != 1 || list[:2][1].Owner != 9 {
		t.Errorf("P2: %v %v", whole(names), whole(list))
	}
	list[0].Owner, names[0] = 0, 2
	if !same(x, level("111", "111")) {
		t.Errorf("P2: the level became %v", x)
	}
	spoil(api.Level{Readers: x.Readers})
	if !slices.Equal(x.Writers, bools("111")) {
		t.Errorf("P2: lists of an answer share memory")
	}
}

// P3: the same each time, whoever asks at the same time.
func TestSameEachTime(t *testing.T) {
	a := api.Actors{Many: 3, Grants: []api.Grant{{Who: 0, For: 1}}}
	l := api.Label{Read: policies(policy(1)), Write: policies(policy(0, 2))}
	other := level("011", "010")
	var all sync.WaitGroup
	for range 8 {
		all.Go(func() {
			for range 100 {
				x, _ := label.Level(a, l)
				join, _ := label.Join(a, x, other)
				meet, _ := label.Meet(a, x, other)
				is, _ := label.Flows(a, meet, join)
				if !same(x, level("110", "101")) || !same(join, level("010", "111")) || !same(meet, level("111", "000")) || !is {
					t.Errorf("P3: %v %v %v %v", x, join, meet, is)
				}
				spoil(x)
				spoil(join)
				spoil(meet)
			}
		})
	}
	all.Wait()
}
