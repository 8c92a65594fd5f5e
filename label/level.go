package label

import (
	"veilwork/actors"
	"veilwork/api"
)

// allRight: are all of them levels of these actors?
func allRight(a api.Actors, levels ...api.Level) api.Errno {
	if e := actors.Check(a); e != api.OK {
		return e
	}
	for _, l := range levels {
		if len(l.Readers) != a.Many || len(l.Writers) != a.Many {
			return api.ErrForm
		}
	}
	return api.OK
}

// those actors who may, in a list that shares memory with no other one.
func those(a api.Actors, may func(who int) bool) []bool {
	l := make([]bool, a.Many)
	for who := range l {
		l[who] = may(who)
	}
	return l
}

// within: is each one of a list one of another list, too? (They are equally long.)
func within(l, m []bool) bool {
	for who, is := range l {
		if is && !m[who] {
			return false
		}
	}
	return true
}
