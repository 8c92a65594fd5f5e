package expr_test

import (
	"slices"
	"testing"

	"veilwork/api"
	"veilwork/expr"
)

func number(n int) api.Expr { return api.Expr{Kind: api.ExprNumber, N: n} }

func variable(n int) api.Expr { return api.Expr{Kind: api.ExprName, N: n} }

func add(x, y api.Expr) api.Expr { return api.Expr{Kind: api.ExprAdd, Args: []api.Expr{x, y}} }

// F1: the form of an expression, of programs with as many variables as there are.
func TestCheck(t *testing.T) {
	for i, c := range []struct {
		e    api.Expr
		vars int
		want api.Errno
	}{
		{number(api.MaxNumber), 0, api.OK},
		{number(-api.MaxNumber - 1), 0, api.ErrRange},
		{variable(0), 1, api.OK},
		{variable(0), 0, api.ErrNone},
		{variable(99), 100, api.OK},
		{variable(-1), 100, api.ErrNone},
		{add(variable(1), variable(2)), 3, api.OK},
		{add(variable(1), variable(3)), 3, api.ErrNone},
		{add(number(1), api.Expr{Kind: api.ExprSame + 1}), 3, api.ErrKind},
		{api.Expr{Kind: api.ExprSame, Args: []api.Expr{number(1)}}, 3, api.ErrForm},
		{api.Expr{Kind: api.ExprSame, N: 1, Args: []api.Expr{number(1), number(1)}}, 3, api.ErrRange},
		{api.Expr{Kind: api.ExprSame, Args: slices.Repeat([]api.Expr{number(1)}, api.MaxExpr-1)}, 3, api.ErrForm},
		{api.Expr{Kind: api.ExprSame, Args: slices.Repeat([]api.Expr{number(1)}, api.MaxExpr)}, 3, api.ErrMany},
	} {
		if e := expr.Check(c.e, c.vars); e != c.want {
			t.Errorf("F1: %d: %v with %d variables: %d, want %d", i, c.e, c.vars, e, c.want)
		}
	}
}

// Vars come from the left, each as often as it is there, and no more than are asked for.
func TestVars(t *testing.T) {
	e := add(add(variable(4), number(9)), add(add(variable(0), variable(4)), variable(2)))
	want := []int{4, 0, 4, 2}
	if l := slices.Collect(expr.Vars(e)); !slices.Equal(l, want) {
		t.Errorf("variables %v, want %v", l, want)
	}
	for most := 1; most <= len(want); most++ {
		var l []int
		for v := range expr.Vars(e) {
			if l = append(l, v); len(l) == most {
				break
			}
		}
		if !slices.Equal(l, want[:most]) {
			t.Errorf("the first %d variables are %v", most, l)
		}
	}
	for _, e := range []api.Expr{number(4), {}, add(number(1), number(2))} {
		for v := range expr.Vars(e) {
			t.Errorf("%v has variable %d", e, v)
		}
	}
}
