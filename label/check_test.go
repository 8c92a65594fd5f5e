package label_test

import (
	"math"
	"math/rand"
	"slices"
	"testing"

	"veilwork/actors"
	"veilwork/api"
	"veilwork/label"
)

func policy(owner int, names ...int) api.Policy { return api.Policy{Owner: owner, Names: names} }

func policies(l ...api.Policy) []api.Policy { return l }

// wrongActors: one for each error that chapter 4 has.
var wrongActors = []api.Actors{
	{},
	{Many: -1},
	{Many: api.MaxActors + 1},
	{Many: 3, Grants: make([]api.Grant, api.MaxGrants+1)},
	{Many: 3, Grants: []api.Grant{{Who: 3}}},
	{Many: 3, Grants: []api.Grant{{For: -1}}},
}

// expect an error of Check, and the same one of Level, with nothing else.
func expect(t *testing.T, a api.Actors, l api.Label, want api.Errno) {
	t.Helper()
	if e := label.Check(a, l); e != want {
		t.Errorf("E1: Check(%v, %v): %d, want %d", a, l, e, want)
	}
	x, e := label.Level(a, l)
	if e != want || want != api.OK && !isZero(x) {
		t.Errorf("E2: Level(%v, %v): %v %d, want %d", a, l, x, e, want)
	}
}

func isZero(l api.Level) bool { return len(l.Readers) == 0 && len(l.Writers) == 0 }

// expectBoth: of policies, be they of reading or of writing.
func expectBoth(t *testing.T, many int, want api.Errno, l ...api.Policy) {
	t.Helper()
	a := api.Actors{Many: many}
	fine := policies(policy(0, 0), policy(many-1))
	expect(t, a, api.Label{Read: l}, want)
	expect(t, a, api.Label{Read: l, Write: fine}, want)
	expect(t, a, api.Label{Write: l}, want)
	expect(t, a, api.Label{Read: fine, Write: l}, want)
}

// E1: ordinary labels.
func TestCheck(t *testing.T) {
	for many := 1; many <= api.MaxActors; many++ {
		expectBoth(t, many, api.OK)
		expect(t, api.Actors{Many: many}, api.Label{Read: []api.Policy{}, Write: []api.Policy{}}, api.OK)
		expectBoth(t, many, api.OK, policy(0))
		expectBoth(t, many, api.OK, api.Policy{Owner: many - 1, Names: []int{}})
		expectBoth(t, many, api.OK, policy(0, 0), policy(0, 0), policy(0, many-1))
	}
	expectBoth(t, 4, api.OK, policy(2, 0, 1, 3), policy(0, 1, 2), policy(3, 3))
}

// E1: that of chapter 4 comes first.
func TestCheckActors(t *testing.T) {
	for _, a := range wrongActors {
		for _, l := range []api.Label{
			{},
			{Read: policies(policy(0, 1))},
			{Read: make([]api.Policy, api.MaxPolicies+1)},
			{Write: policies(policy(9))},
			{Write: policies(policy(0, 1, 1))},
		} {
			expect(t, a, l, actors.Check(a))
		}
	}
}

// E1: how many policies and names there may be.
func TestCheckLimits(t *testing.T) {
	for many := range api.MaxPolicies + 1 {
		expectBoth(t, 2, api.OK, make([]api.Policy, many)...)
	}
	expectBoth(t, 2, api.ErrMany, make([]api.Policy, api.MaxPolicies+1)...)
	expectBoth(t, 2, api.ErrMany, make([]api.Policy, 1<<16)...)
	full := make([]api.Policy, api.MaxPolicies)
	expect(t, api.Actors{Many: 2}, api.Label{Read: full, Write: full}, api.OK)
	names := []int{0, 1, 2, 3, 4, 5, 6}
	expectBoth(t, api.MaxActors, api.OK, policy(5, names[:api.MaxNames]...))
	expectBoth(t, api.MaxActors, api.ErrMany, policy(5, names...))
	expectBoth(t, api.MaxActors, api.ErrMany, policy(5, make([]int, api.MaxNames+1)...))
	expectBoth(t, api.MaxActors, api.ErrMany, policy(5, make([]int, 1<<16)...))
}

// E1: who may be an owner, or a name.
func TestCheckNone(t *testing.T) {
	for many := 1; many <= api.MaxActors; many++ {
		for _, n := range []int{math.MinInt, -1 << 32, -1, 0, many - 1, many, many + 1, 1 << 32, math.MaxInt} {
			want := api.OK
			if n < 0 || n >= many {
				want = api.ErrNone
			}
			expectBoth(t, many, want, policy(n))
			expectBoth(t, many, want, policy(n, 0))
			expectBoth(t, many, want, policy(0, n))
			expectBoth(t, many, want, policy(0), policy(0), policy(0), policy(0, n))
			if n != 0 {
				expectBoth(t, many, want, policy(0, 0, n))
			}
		}
	}
}

// E1: names must rise.
func TestCheckRise(t *testing.T) {
	for _, l := range [][]int{{0, 0}, {1, 0}, {2, 2}, {0, 1, 1}, {0, 2, 1}, {1, 0, 2}, {0, 1, 2, 3, 4, 4}, {0, 1, 2, 3, 5, 4}, {0, 0, 0, 0, 0, 0}} {
		expectBoth(t, 6, api.ErrState, policy(0, l...))
		expectBoth(t, 6, api.ErrState, policy(3), policy(2, l...))
	}
	for _, l := range [][]int{{0, 1}, {0, 5}, {1, 3, 5}, {0, 1, 2, 3, 4, 5}} {
		expectBoth(t, 6, api.OK, policy(0, l...))
	}
}

// E1: of several errors the first one that the promise names.
func TestCheckOrder(t *testing.T) {
	none, rise := policy(9), policy(0, 1, 1)
	long := policy(0, 7, 7, 7, 7, 7, 7, 7)
	a := api.Actors{Many: 3}
	expectBoth(t, 3, api.ErrMany, none, rise, none, rise, none)
	expectBoth(t, 3, api.ErrNone, policy(9, long.Names...))
	expectBoth(t, 3, api.ErrNone, policy(-1, 1, 1))
	expectBoth(t, 3, api.ErrMany, long)
	expectBoth(t, 3, api.ErrNone, policy(0, 1, 1, 9))
	expectBoth(t, 3, api.ErrNone, policy(0, 2, 1, -1))
	// Policy by policy.
	expectBoth(t, 3, api.ErrState, rise, none)
	expectBoth(t, 3, api.ErrState, rise, long)
	expectBoth(t, 3, api.ErrNone, none, rise)
	expectBoth(t, 3, api.ErrNone, none, long)
	expectBoth(t, 3, api.ErrMany, long, none)
	// All of Read ahead of Write.
	expect(t, a, api.Label{Read: policies(rise), Write: make([]api.Policy, 5)}, api.ErrState)
	expect(t, a, api.Label{Read: make([]api.Policy, 5), Write: policies(none)}, api.ErrMany)
	expect(t, a, api.Label{Read: policies(none), Write: policies(rise)}, api.ErrNone)
	expect(t, a, api.Label{Read: policies(policy(0), rise), Write: policies(none)}, api.ErrState)
}

// finding is something wrong, and where it stands in the order that E1 gives.
type finding struct {
	rank []int
	why  api.Errno
}

// findings: all that is wrong with a label of some actors.
func findings(many int, l api.Label) []finding {
	var out []finding
	add := func(is bool, why api.Errno, rank ...int) {
		if is {
			out = append(out, finding{rank, why})
		}
	}
	isNone := func(n int) bool { return n < 0 || n > many-1 }
	for half, list := range [][]api.Policy{l.Read, l.Write} {
		add(len(list) >= 5, api.ErrMany, half, -1)
		for i, p := range list {
			add(isNone(p.Owner), api.ErrNone, half, i, 0)
			add(len(p.Names) >= 7, api.ErrMany, half, i, 1)
			add(len(p.Names) > 0 && (isNone(slices.Min(p.Names)) || isNone(slices.Max(p.Names))), api.ErrNone, half, i, 2)
			sorted := slices.Compact(slices.Sorted(slices.Values(p.Names)))
			add(!slices.Equal(sorted, p.Names), api.ErrState, half, i, 3)
		}
	}
	return out
}

// randomLabel of some actors, in which something may be wrong.
func randomLabel(r *rand.Rand, many int) api.Label {
	number := func() int {
		if r.Intn(25) == 0 {
			return r.Intn(many+3) - 1
		}
		return r.Intn(many)
	}
	list := func() []api.Policy {
		var l []api.Policy
		for range r.Intn(4 + r.Intn(3)) {
			p := policy(number())
			for range r.Intn(2 + r.Intn(7)) {
				p.Names = append(p.Names, number())
			}
			if r.Intn(6) > 0 {
				slices.Sort(p.Names)
				p.Names = slices.Compact(p.Names)
			}
			l = append(l, p)
		}
		return l
	}
	return api.Label{Read: list(), Write: list()}
}

// E1: labels of all sorts, held against all that is wrong with them.
func TestCheckFindings(t *testing.T) {
	r := rand.New(rand.NewSource(1))
	seen := map[api.Errno]int{}
	for range 50000 {
		many := 1 + r.Intn(api.MaxActors)
		l := randomLabel(r, many)
		all := findings(many, l)
		want := api.OK
		if len(all) > 0 {
			want = slices.MinFunc(all, func(x, y finding) int { return slices.Compare(x.rank, y.rank) }).why
		}
		seen[want]++
		expect(t, api.Actors{Many: many}, l, want)
	}
	for _, e := range []api.Errno{api.OK, api.ErrMany, api.ErrNone, api.ErrState} {
		if seen[e] < 1000 {
			t.Errorf("E1: %d labels with %d", seen[e], e)
		}
	}
}
