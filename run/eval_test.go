package run_test

import (
	"math"
	"math/big"
	"math/rand"
	"slices"
	"testing"

	"veilwork/api"
	"veilwork/run"
)

func number(n int) api.Expr { return api.Expr{Kind: api.ExprNumber, N: n} }

func variable(n int) api.Expr { return api.Expr{Kind: api.ExprName, N: n} }

func pair(kind int, x, y api.Expr) api.Expr { return api.Expr{Kind: kind, Args: []api.Expr{x, y}} }

// chain is an expression of so many parts, which is an odd number.
func chain(parts int) api.Expr {
	e := variable(0)
	for ; parts > 1; parts -= 2 {
		e = pair(api.ExprAdd, e, number(1))
	}
	return e
}

func expectEval(t *testing.T, e api.Expr, vars []int, want int, why api.Errno) {
	t.Helper()
	if n, f := run.Eval(e, vars); n != want || f != why {
		t.Errorf("G1: Eval(%v, %v): %d %d, want %d %d", e, vars, n, f, want, why)
	}
}

// G1: what expressions are.
func TestEval(t *testing.T) {
	vars := []int{7, -3, 0}
	for _, c := range []struct {
		e    api.Expr
		want int
	}{
		{number(5), 5},
		{number(api.MaxNumber), api.MaxNumber},
		{number(-api.MaxNumber), -api.MaxNumber},
		{variable(0), 7},
		{variable(1), -3},
		{variable(2), 0},
		{pair(api.ExprAdd, variable(0), variable(1)), 4},
		{pair(api.ExprSub, variable(0), variable(1)), 10},
		{pair(api.ExprSub, variable(1), variable(0)), -10},
		{pair(api.ExprMul, variable(0), variable(1)), -21},
		{pair(api.ExprLess, variable(0), variable(1)), 0},
		{pair(api.ExprLess, variable(1), variable(0)), 1},
		{pair(api.ExprLess, variable(1), variable(1)), 0},
		{pair(api.ExprSame, variable(1), variable(0)), 0},
		{pair(api.ExprSame, variable(1), number(-3)), 1},
		{pair(api.ExprMul, pair(api.ExprAdd, number(2), number(3)), pair(api.ExprSub, number(1), variable(0))), -30},
		{chain(api.MaxExpr), 14},
	} {
		expectEval(t, c.e, vars, c.want, api.OK)
	}
	expectEval(t, number(-1), nil, -1, api.OK)
	expectEval(t, number(1), []int{}, 1, api.OK)
}

// G1: beyond Least and Most numbers are taken over 2 to the power of 32, part by part.
func TestEvalBeyond(t *testing.T) {
	for _, c := range []struct{ kind, x, y, want int }{
		{api.ExprAdd, api.Most, 0, api.Most},
		{api.ExprAdd, api.Most, 1, api.Least},
		{api.ExprAdd, api.Most, api.Most, -2},
		{api.ExprAdd, api.Least, -1, api.Most},
		{api.ExprAdd, api.Least, api.Least, 0},
		{api.ExprSub, api.Least, 0, api.Least},
		{api.ExprSub, api.Least, 1, api.Most},
		{api.ExprSub, 0, api.Least, api.Least},
		{api.ExprSub, api.Most, api.Least, -1},
		{api.ExprMul, api.Least, -1, api.Least},
		{api.ExprMul, api.Least, api.Least, 0},
		{api.ExprMul, api.Most, api.Most, 1},
		{api.ExprMul, 65536, 65536, 0},
		{api.ExprMul, 65536, 32768, api.Least},
		{api.ExprMul, 46341, 46341, 46341*46341 - 1<<32},
		{api.ExprLess, api.Least, api.Most, 1},
		{api.ExprLess, api.Most, api.Least, 0},
		{api.ExprSame, api.Least, api.Most, 0},
	} {
		expectEval(t, pair(c.kind, variable(0), variable(1)), []int{c.x, c.y}, c.want, api.OK)
	}
	// What is beyond in the middle is not so any more when it is held against something.
	more := pair(api.ExprAdd, variable(0), number(1))
	expectEval(t, pair(api.ExprLess, more, variable(0)), []int{api.Most}, 1, api.OK)
	expectEval(t, pair(api.ExprSame, pair(api.ExprMul, variable(0), number(65536)), number(0)), []int{65536}, 1, api.OK)
}

// G1: whatever numbers there are, and however many variables.
func TestEvalRandom(t *testing.T) {
	r := rand.New(rand.NewSource(1))
	for range 5000 {
		vars := make([]int, 1+r.Intn(40))
		for i := range vars {
			vars[i] = anyNumber(r)
		}
		e := anyExpr(r, len(vars), 3)
		expectEval(t, e, vars, int(wrapped(e, vars).Int64()), api.OK)
	}
}

// anyNumber of a run; often one that is near to a bound.
func anyNumber(r *rand.Rand) int {
	switch r.Intn(3) {
	case 0:
		return r.Intn(20) - 10
	case 1:
		return []int{api.Least, api.Most, 1 << 16, -1 << 16}[r.Intn(4)]
	}
	return int(int32(r.Uint32()))
}

// anyExpr of at most 15 parts.
func anyExpr(r *rand.Rand, vars, deep int) api.Expr {
	switch {
	case deep > 0 && r.Intn(4) > 0:
		return pair(api.ExprAdd+r.Intn(5), anyExpr(r, vars, deep-1), anyExpr(r, vars, deep-1))
	case r.Intn(3) > 0:
		return variable(r.Intn(vars))
	}
	return number(r.Intn(2*api.MaxNumber+1) - api.MaxNumber)
}

// wrapped: what an expression is, reckoned with numbers as great as may be.
func wrapped(e api.Expr, vars []int) *big.Int {
	switch e.Kind {
	case api.ExprNumber:
		return big.NewInt(int64(e.N))
	case api.ExprName:
		return big.NewInt(int64(vars[e.N]))
	}
	x, y, z := wrapped(e.Args[0], vars), wrapped(e.Args[1], vars), new(big.Int)
	switch e.Kind {
	case api.ExprAdd:
		z.Add(x, y)
	case api.ExprSub:
		z.Sub(x, y)
	case api.ExprMul:
		z.Mul(x, y)
	case api.ExprLess:
		return big.NewInt(map[int]int64{-1: 1}[x.Cmp(y)])
	case api.ExprSame:
		return big.NewInt(map[int]int64{0: 1}[x.Cmp(y)])
	}
	half := big.NewInt(1 << 31)
	z.Mod(z.Add(z, half), big.NewInt(1<<32))
	return z.Sub(z, half)
}

// within: an expression, wherever it can stand within another one.
func within(e api.Expr) []api.Expr {
	out := []api.Expr{e}
	for kind := api.ExprAdd; kind <= api.ExprSame; kind++ {
		out = append(out, pair(kind, e, number(1)), pair(kind, number(1), e))
	}
	return append(out, pair(api.ExprSub, pair(api.ExprMul, number(2), e), number(3)))
}

// G1: errors of form, wherever they are, ahead of those of numbers.
func TestEvalForm(t *testing.T) {
	for _, c := range []struct {
		e    api.Expr
		want api.Errno
	}{
		{api.Expr{}, api.ErrKind},
		{api.Expr{Kind: api.ExprSame + 1, Args: []api.Expr{number(1), number(1)}}, api.ErrKind},
		{api.Expr{Kind: -1}, api.ErrKind},
		{api.Expr{Kind: math.MaxInt}, api.ErrKind},
		{api.Expr{Kind: api.ExprNumber, Args: []api.Expr{number(1)}}, api.ErrForm},
		{api.Expr{Kind: api.ExprName, Args: []api.Expr{number(1), number(1)}}, api.ErrForm},
		{api.Expr{Kind: api.ExprAdd}, api.ErrForm},
		{api.Expr{Kind: api.ExprMul, Args: []api.Expr{number(1)}}, api.ErrForm},
		{api.Expr{Kind: api.ExprSame, Args: []api.Expr{number(1), number(1), number(1)}}, api.ErrForm},
		{number(api.MaxNumber + 1), api.ErrRange},
		{number(-api.MaxNumber - 1), api.ErrRange},
		{number(math.MinInt), api.ErrRange},
		{api.Expr{Kind: api.ExprLess, N: 1, Args: []api.Expr{number(1), number(1)}}, api.ErrRange},
		{api.Expr{Kind: api.ExprAdd, N: -1, Args: []api.Expr{number(1), number(1)}}, api.ErrRange},
		{variable(-1), api.ErrNone},
		{variable(2), api.ErrNone},
		{variable(math.MaxInt), api.ErrNone},
		{variable(math.MinInt), api.ErrNone},
	} {
		for _, e := range within(c.e) {
			expectEval(t, e, []int{1, 2}, 0, c.want)
			expectEval(t, e, []int{api.Most + 1, 2}, 0, c.want)
		}
	}
	expectEval(t, variable(0), nil, 0, api.ErrNone)
}

// G1: of several errors of form that of chapter 6 that comes first.
func TestEvalOrder(t *testing.T) {
	long := pair(api.ExprAdd, chain(api.MaxExpr), api.Expr{})
	expectEval(t, chain(api.MaxExpr+2), []int{1}, 0, api.ErrMany)
	expectEval(t, long, []int{1}, 0, api.ErrMany)
	expectEval(t, api.Expr{Kind: 9, Args: []api.Expr{long}}, nil, 0, api.ErrMany)
	expectEval(t, api.Expr{Kind: 9, Args: slices.Repeat([]api.Expr{number(1)}, api.MaxExpr)}, nil, 0, api.ErrMany)
	expectEval(t, api.Expr{Kind: 9, Args: slices.Repeat([]api.Expr{number(1)}, api.MaxExpr-1)}, nil, 0, api.ErrKind)
	expectEval(t, api.Expr{Kind: api.ExprAdd, N: 1, Args: []api.Expr{{}}}, nil, 0, api.ErrForm)
	expectEval(t, api.Expr{Kind: api.ExprAdd, N: 1, Args: []api.Expr{{}, {}}}, nil, 0, api.ErrRange)
	expectEval(t, pair(api.ExprAdd, variable(0), api.Expr{}), nil, 0, api.ErrNone)
	expectEval(t, pair(api.ExprAdd, pair(api.ExprAdd, number(1), variable(0)), number(api.MaxNumber+1)), nil, 0, api.ErrNone)
	expectEval(t, pair(api.ExprAdd, number(api.MaxNumber+1), variable(0)), nil, 0, api.ErrRange)
}

// G1: variables at their bounds, and beyond; those that are not in the expression, too.
func TestEvalVars(t *testing.T) {
	for _, n := range []int{api.Least, api.Most} {
		expectEval(t, variable(1), []int{0, n}, n, api.OK)
	}
	for _, n := range []int{api.Least - 1, api.Most + 1, math.MinInt, math.MaxInt} {
		for _, e := range []api.Expr{number(1), variable(0), variable(1)} {
			expectEval(t, e, []int{0, n}, 0, api.ErrRange)
			expectEval(t, e, []int{n, 0}, 0, api.ErrRange)
		}
	}
	// A program may have MaxVars variables, but what is handed in may be more of them.
	many := make([]int, 1000)
	many[999] = 5
	expectEval(t, variable(999), many, 5, api.OK)
	expectEval(t, variable(1000), many, 0, api.ErrNone)
	many[998] = api.Most + 1
	expectEval(t, variable(999), many, 0, api.ErrRange)
}

// P1: expressions that are very deep, very long, or hold themselves.
func TestEvalEnds(t *testing.T) {
	self := pair(api.ExprAdd, number(1), number(1))
	self.Args[0].Kind, self.Args[0].Args = api.ExprAdd, self.Args
	both := pair(api.ExprAdd, number(1), number(1))
	both.Args[0], both.Args[1] = both, both
	for i, e := range []api.Expr{
		chain(1<<17 + 1),
		{Kind: api.ExprAdd, Args: make([]api.Expr, 1<<22)},
		self,
		both,
	} {
		if n, f := run.Eval(e, []int{1}); n != 0 || f != api.ErrMany {
			t.Errorf("P1: %d: %d %d", i, n, f)
		}
	}
}
