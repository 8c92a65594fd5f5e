package step

import "veilwork/api"

// Value of an expression of the right form.
func Value(e api.Expr, vars []int) int {
	switch e.Kind {
	case api.ExprNumber:
		return e.N
	case api.ExprName:
		return vars[e.N]
	}
	return reckon(e.Kind, Value(e.Args[0], vars), Value(e.Args[1], vars))
}

// reckon with two numbers of a run. Those of 32 bits wrap round where a run's do.
func reckon(kind, x, y int) int {
	switch kind {
	case api.ExprAdd:
		return int(int32(x) + int32(y))
	case api.ExprSub:
		return int(int32(x) - int32(y))
	case api.ExprMul:
		return int(int32(x) * int32(y))
	case api.ExprLess:
		return oneIf(x < y)
	}
	return oneIf(x == y)
}

func oneIf(holds bool) int {
	if holds {
		return 1
	}
	return 0
}
