package scope

import "veilwork/api"

// wrong is what is given up with: why, and at which place.
type wrong struct {
	at  int
	why api.Errno
}

// caught does something that may give up, and answers what it gave up with; its results have names, so that they can still be set then.
func caught(do func()) (at int, e api.Errno) {
	defer func() {
		if why := recover(); why != nil {
			w := why.(wrong)
			at, e = w.at, w.why
		}
	}()
	do()
	return 0, api.OK
}

// mustAt gives up at a place, if something does not hold.
func mustAt(at int, holds bool, why api.Errno) {
	if !holds {
		panic(wrong{at, why})
	}
}

// must is mustAt of what has no place.
func must(holds bool, why api.Errno) { mustAt(0, holds, why) }

// pass on what another call says, if that is an error.
func pass(e api.Errno) { must(e == api.OK, e) }
