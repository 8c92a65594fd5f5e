package actors_test

import (
	"math"
	"math/rand"
	"reflect"
	"slices"
	"sync"
	"testing"
	"unsafe"

	"veilwork/actors"
	"veilwork/api"
)

func grant(who, other int) api.Grant { return api.Grant{Who: who, For: other} }

func of(many int, l ...api.Grant) api.Actors { return api.Actors{Many: many, Grants: l} }

// places that are asked for: all actors there can be, and numbers that are none of any.
var places = []int{math.MinInt, -1 << 32, -2, -1, 0, 1, 2, 3, 4, 5, 6, 7, 1 << 32, math.MaxInt}

// expect the error of Check, and that it is the one of the other calls.
func expect(t *testing.T, a api.Actors, want api.Errno) {
	t.Helper()
	if e := actors.Check(a); e != want {
		t.Errorf("D1: Check(%+v): %d, want %d", a, e, want)
	}
	l, e := actors.For(a)
	if e != want || want != api.OK && len(l) != 0 {
		t.Errorf("D2: For(%+v): %v %d, want %d", a, l, e, want)
	}
	for _, who := range places {
		for _, other := range places {
			is, e := actors.Acts(a, who, other)
			switch {
			case want != api.OK && (is || e != want):
				t.Errorf("D2: Acts(%+v, %d, %d): %v %d, want %d", a, who, other, is, e, want)
			case want == api.OK:
				expectActs(t, a, who, other, is, e)
			}
		}
	}
}

// expectActs of one to be what For says of it; ErrNone, if it is none.
func expectActs(t *testing.T, a api.Actors, who, other int, is bool, e api.Errno) {
	t.Helper()
	if who < 0 || who >= a.Many || other < 0 || other >= a.Many {
		if is || e != api.ErrNone {
			t.Errorf("D2: Acts(%+v, %d, %d): %v %d", a, who, other, is, e)
		}
		return
	}
	if l, _ := actors.For(a); e != api.OK || is != l[who][other] {
		t.Errorf("D2: Acts(%+v, %d, %d): %v %d, and For says %v", a, who, other, is, e, l)
	}
}

// D1: how many there may be, at the bounds and past them.
func TestCheckMany(t *testing.T) {
	for _, many := range places {
		want := api.ErrRange
		if many >= 1 && many <= api.MaxActors {
			want = api.OK
		}
		expect(t, of(many), want)
		expect(t, api.Actors{Many: many, Grants: []api.Grant{}}, want)
	}
}

// D1: how many grants there may be.
func TestCheckGrants(t *testing.T) {
	for many := 1; many <= api.MaxActors; many++ {
		expect(t, of(many, make([]api.Grant, api.MaxGrants-1)...), api.OK)
		expect(t, of(many, make([]api.Grant, api.MaxGrants)...), api.OK)
		expect(t, of(many, make([]api.Grant, api.MaxGrants+1)...), api.ErrMany)
		expect(t, of(many, make([]api.Grant, 1<<16)...), api.ErrMany)
	}
}

// D1: whom a grant may speak of, wherever it stands.
func TestCheckWhoIsNone(t *testing.T) {
	for many := 1; many <= api.MaxActors; many++ {
		for _, n := range places {
			want := api.ErrNone
			if n >= 0 && n < many {
				want = api.OK
			}
			for _, g := range []api.Grant{grant(n, 0), grant(0, n), grant(n, n)} {
				expect(t, of(many, g), want)
				expect(t, of(many, grant(0, 0), g), want)
				expect(t, of(many, append(make([]api.Grant, api.MaxGrants-1), g)...), want)
			}
		}
	}
}

// D1: of several errors the first one that the promise names.
func TestCheckOrder(t *testing.T) {
	wrong := slices.Repeat([]api.Grant{grant(-1, 9)}, api.MaxGrants+1)
	for _, many := range []int{math.MinInt, -1, 0, 7, math.MaxInt} {
		expect(t, of(many, wrong...), api.ErrRange)
		expect(t, of(many, wrong[:1]...), api.ErrRange)
		expect(t, of(many, make([]api.Grant, api.MaxGrants+1)...), api.ErrRange)
	}
	expect(t, of(2, wrong...), api.ErrMany)
	expect(t, of(2, wrong[1:]...), api.ErrNone)
	// Actors that are wrong come ahead of one that is asked for and is none.
	if is, e := actors.Acts(of(0), -1, 8); is || e != api.ErrRange {
		t.Errorf("D2: %v %d", is, e)
	}
}

// D2: ordinary actors.
func TestFor(t *testing.T) {
	for _, c := range []struct {
		a    api.Actors
		want []string
	}{
		{of(1), []string{"1"}},
		{of(1, grant(0, 0)), []string{"1"}},
		{of(2, grant(0, 1)), []string{"11", "01"}},
		{of(2, grant(1, 0)), []string{"10", "11"}},
		{of(3, grant(0, 1), grant(1, 2)), []string{"111", "011", "001"}},
		{of(3, grant(1, 2), grant(0, 1)), []string{"111", "011", "001"}},
		{of(3, grant(0, 2), grant(1, 2)), []string{"101", "011", "001"}},
		{of(3, grant(2, 0), grant(0, 2), grant(1, 1)), []string{"101", "010", "101"}},
		{of(6), []string{"100000", "010000", "001000", "000100", "000010", "000001"}},
		{of(6, grant(4, 5), grant(3, 4), grant(2, 3), grant(1, 2), grant(0, 1)), []string{"111111", "011111", "001111", "000111", "000011", "000001"}},
		{of(6, grant(5, 0), grant(4, 5), grant(3, 4), grant(2, 3), grant(1, 2), grant(0, 1)), slices.Repeat([]string{"111111"}, 6)},
		{of(6, grant(0, 1), grant(1, 0), grant(1, 0), grant(4, 3), grant(3, 0)), []string{"110000", "110000", "001000", "110100", "110110", "000001"}},
	} {
		l, e := actors.For(c.a)
		if got := texts(l); e != api.OK || !slices.Equal(got, c.want) {
			t.Errorf("D2: For(%+v): %v %d, want %v", c.a, got, e, c.want)
		}
		expect(t, c.a, api.OK)
	}
}

func texts(l [][]bool) []string {
	var out []string
	for _, row := range l {
		s := ""
		for _, is := range row {
			s += map[bool]string{true: "1", false: "0"}[is]
		}
		out = append(out, s)
	}
	return out
}

// reached: whether a way leads from one to another one, by at most so many grants.
func reached(a api.Actors, who, other, most int) bool {
	if who == other {
		return true
	}
	return most > 0 && slices.ContainsFunc(a.Grants, func(g api.Grant) bool { return g.Who == who && reached(a, g.For, other, most-1) })
}

// hold For against ways that are gone one by one.
func hold(t *testing.T, a api.Actors) [][]bool {
	t.Helper()
	l, e := actors.For(a)
	if e != api.OK || len(l) != a.Many {
		t.Fatalf("D2: For(%+v): %v %d", a, l, e)
	}
	for who := range a.Many {
		if len(l[who]) != a.Many {
			t.Fatalf("D2: For(%+v): %v", a, l)
		}
		for other := range a.Many {
			want := reached(a, who, other, a.Many-1)
			if is, e := actors.Acts(a, who, other); l[who][other] != want || is != want || e != api.OK {
				t.Fatalf("D2: does %d act for %d by %+v? %v, %v %d", who, other, a, l, is, e)
			}
		}
	}
	return l
}

// D2: all grants that three can have.
func TestForAllOfThree(t *testing.T) {
	for set := range 1 << 9 {
		a := of(3)
		for i := range 9 {
			if set>>i&1 == 1 {
				a.Grants = append(a.Grants, grant(i/3, i%3))
			}
		}
		hold(t, a)
		slices.Reverse(a.Grants)
		hold(t, a)
	}
}

func random(r *rand.Rand, grants int) api.Actors {
	a := of(1 + r.Intn(api.MaxActors))
	for range grants {
		a.Grants = append(a.Grants, grant(r.Intn(a.Many), r.Intn(a.Many)))
	}
	return a
}

// D2, D3: who acts for one who acts for another one acts for that one; with more grants nobody acts for fewer.
func TestForGoesOn(t *testing.T) {
	r := rand.New(rand.NewSource(1))
	for range 2000 {
		a := random(r, r.Intn(9))
		l := hold(t, a)
		for i := range a.Many {
			for k := range a.Many {
				for n := range a.Many {
					if l[i][k] && l[k][n] && !l[i][n] {
						t.Fatalf("D3: %+v: %v", a, l)
					}
				}
			}
		}
		more := a
		more.Grants = slices.Insert(slices.Clone(a.Grants), r.Intn(len(a.Grants)+1), grant(r.Intn(a.Many), r.Intn(a.Many)))
		m := hold(t, more)
		for i := range a.Many {
			for k := range a.Many {
				if l[i][k] && !m[i][k] {
					t.Fatalf("D3: %+v: %v; %+v: %v", a, l, more, m)
				}
			}
		}
	}
}

// P2: actors are only read, the room behind their grants too, and are not kept; no two lists of an answer share memory.
func TestForMemory(t *testing.T) {
	r := rand.New(rand.NewSource(2))
	for range 300 {
		a := random(r, r.Intn(api.MaxGrants))
		room := append(slices.Clone(a.Grants), grant(7, 8), grant(9, 7))
		was := slices.Clone(room)
		a.Grants = room[:len(room)-2]
		actors.Check(a)
		actors.Acts(a, 0, a.Many-1)
		l, _ := actors.For(a)
		if !slices.Equal(room, was) {
			t.Fatalf("P2: %v became %v", was, room)
		}
		want := texts(l)
		clear(room)
		if !slices.Equal(texts(l), want) {
			t.Fatalf("P2: %v became %v", want, texts(l))
		}
		for i, row := range l {
			for k, other := range l {
				if i != k && share(row, other) {
					t.Fatalf("P2: %d and %d of %v share memory", i, k, l)
				}
			}
		}
	}
}

// share: do two lists have a byte of memory in common, with the room behind them?
func share(l, m []bool) bool {
	from := func(l []bool) uintptr { return uintptr(unsafe.Pointer(unsafe.SliceData(l))) }
	return from(l) < from(m)+uintptr(cap(m)) && from(m) < from(l)+uintptr(cap(l))
}

// P3: the same each time, whoever asks at the same time.
func TestForSameEachTime(t *testing.T) {
	a := of(6, grant(0, 1), grant(1, 2), grant(5, 0))
	want, _ := actors.For(a)
	var all sync.WaitGroup
	for range 8 {
		all.Add(1)
		go func() {
			defer all.Done()
			for range 100 {
				l, e := actors.For(a)
				is, f := actors.Acts(a, 5, 2)
				if !reflect.DeepEqual(l, want) || e != api.OK || !is || f != api.OK || actors.Check(a) != api.OK {
					t.Errorf("P3: %v %d %v %d", l, e, is, f)
				}
				l[0][0] = false
			}
		}()
	}
	all.Wait()
}
