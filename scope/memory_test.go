package scope_test

import (
	"cmp"
	"math/rand"
	"reflect"
	"slices"
	"sync"
	"testing"

	"veilwork/api"
	"veilwork/scope"
	"veilwork/tree"
)

// span of memory, with the room behind a list.
type span struct{ from, to uintptr }

// spans of all lists in some values.
func spans(values ...any) []span {
	var out []span
	for _, x := range values {
		visit(reflect.ValueOf(x), func(v reflect.Value) {
			if v.Kind() == reflect.Slice && v.Cap() > 0 {
				from := v.Pointer()
				out = append(out, span{from, from + uintptr(v.Cap())*v.Type().Elem().Size()})
			}
		})
	}
	return out
}

// share: do two of some lists have memory in common?
func share(l []span) bool {
	slices.SortFunc(l, func(x, y span) int { return cmp.Compare(x.from, y.from) })
	for i := 1; i < len(l); i++ {
		if l[i].from < l[i-1].to {
			return true
		}
	}
	return false
}

// roomIsEmpty: is nothing in the room behind all lists?
func roomIsEmpty(x any) bool {
	empty := true
	visit(reflect.ValueOf(x), func(v reflect.Value) {
		if v.Kind() == reflect.Slice {
			for i := v.Len(); i < v.Cap(); i++ {
				empty = empty && v.Slice(0, v.Cap()).Index(i).IsZero()
			}
		}
	})
	return empty
}

// P2: what comes in is only read, the room behind lists too; an answer is new memory, and no two lists of it share any.
func TestMemory(t *testing.T) {
	r := rand.New(rand.NewSource(9))
	for range 300 {
		s, p := makeProgram(r)
		u, _, e := tree.Parse(s)
		if e != api.OK {
			continue
		}
		if r.Intn(3) == 0 {
			rename(r, &u)
			spoil(r, &p)
		}
		p, u = copied(p, 2), copied(u, 2)
		wasP, wasU := copied(p, 0), copied(u, 0)
		scope.Check(p)
		x, _, _ := scope.Resolve(u)
		y, _, _ := scope.Program(s)
		z, _, _ := scope.Program(s)
		if !alike(p, wasP) || !alike(u, wasU) || !roomIsEmpty(p) || !roomIsEmpty(u) {
			t.Fatalf("P2: %+v became %+v, or %+v %+v", wasP, p, wasU, u)
		}
		if share(spans(p, u, x, y, z)) {
			t.Fatalf("P2: lists of %+v share memory", x)
		}
	}
}

// P3: the same each time, whoever asks at the same time.
func TestSameEachTime(t *testing.T) {
	r := rand.New(rand.NewSource(10))
	s, want := makeProgram(r)
	for len(s) > api.MaxText || len(want.Funcs) < 2 {
		s, want = makeProgram(r)
	}
	var all sync.WaitGroup
	for range 8 {
		all.Go(func() {
			for range 50 {
				p, at, e := scope.Program(s)
				if !alike(p, want) || at != 0 || e != api.OK || scope.Check(p) != api.OK {
					t.Errorf("P3: %+v %d %d", p, at, e)
				}
				p.Actors.Many, p.Main = 0, nil
				if _, at, e := scope.Program("actor a; var x; main { x = y; }"); at != 27 || e != api.ErrNone {
					t.Errorf("P3: %d %d", at, e)
				}
			}
		})
	}
	all.Wait()
}
