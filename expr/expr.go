// Package expr: what holds for an expression of a program wherever it stands: its form (doc/06-scope.md), and which variables are in it.
package expr

import (
	"iter"

	"veilwork/api"
)

// Check the form of an expression of a program with so many variables.
func Check(e api.Expr, vars int) api.Errno {
	if left(e, api.MaxExpr) < 0 {
		return api.ErrMany
	}
	return checkPart(e, vars)
}

// left: how many parts there may be behind an expression, if there may be so many with it; below 0, if it has too many itself. It goes on no further than that, so that it ends even on lists that hold themselves.
func left(e api.Expr, may int) int {
	may--
	for _, a := range e.Args {
		if may < 0 {
			break
		}
		may = left(a, may)
	}
	return may
}

// checkPart of an expression, and those in it.
func checkPart(e api.Expr, vars int) api.Errno {
	switch {
	case e.Kind < api.ExprNumber || e.Kind > api.ExprSame:
		return api.ErrKind
	case len(e.Args) != args(e.Kind):
		return api.ErrForm
	case e.Kind == api.ExprNumber && (e.N < -api.MaxNumber || e.N > api.MaxNumber):
		return api.ErrRange
	case len(e.Args) > 0 && e.N != 0:
		return api.ErrRange
	case e.Kind == api.ExprName && (e.N < 0 || e.N >= vars):
		return api.ErrNone
	}
	for _, a := range e.Args {
		if e := checkPart(a, vars); e != api.OK {
			return e
		}
	}
	return api.OK
}

// args: how many an expression of a kind must have.
func args(kind int) int {
	if kind == api.ExprNumber || kind == api.ExprName {
		return 0
	}
	return 2
}

// Vars of an expression of the right form, from the left, each as often as it is there.
func Vars(e api.Expr) iter.Seq[int] {
	return func(yield func(v int) bool) { eachVar(e, yield) }
}

// eachVar is handed on, as long as more are asked for; are they still?
func eachVar(e api.Expr, yield func(v int) bool) bool {
	if e.Kind == api.ExprName {
		return yield(e.N)
	}
	for _, a := range e.Args {
		if !eachVar(a, yield) {
			return false
		}
	}
	return true
}
