package label

import (
	"slices"

	"veilwork/api"
)

func checkPolicies(a api.Actors, l []api.Policy) api.Errno {
	if len(l) > api.MaxPolicies {
		return api.ErrMany
	}
	for _, p := range l {
		if e := checkPolicy(a, p); e != api.OK {
			return e
		}
	}
	return api.OK
}

func checkPolicy(a api.Actors, p api.Policy) api.Errno {
	isNone := func(who int) bool { return who < 0 || who >= a.Many }
	switch {
	case isNone(p.Owner):
		return api.ErrNone
	case len(p.Names) > api.MaxNames:
		return api.ErrMany
	case slices.ContainsFunc(p.Names, isNone):
		return api.ErrNone
	case !rise(p.Names):
		return api.ErrState
	}
	return api.OK
}

// rise: is each number greater than the one ahead of it?
func rise(l []int) bool {
	for i := 1; i < len(l); i++ {
		if l[i] <= l[i-1] {
			return false
		}
	}
	return true
}

// mayByAll: does one who acts for these act, for each policy, for its owner or one of its names?
func mayByAll(acts []bool, l []api.Policy) bool {
	actsFor := func(other int) bool { return acts[other] }
	for _, p := range l {
		if !actsFor(p.Owner) && !slices.ContainsFunc(p.Names, actsFor) {
			return false
		}
	}
	return true
}
