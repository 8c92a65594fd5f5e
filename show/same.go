package show

import (
	"slices"

	"veilwork/api"
)

// pair of lists of the same length, by their first elements.
type pair[T any] struct {
	first, second *T
	many          int
}

// matcher holds trees against each other, and knows which lists it has come to. So it ends even on lists that hold themselves, and is quick where a list stands in many places.
type matcher struct {
	stmts map[pair[api.TreeStmt]]struct{}
	exprs map[pair[api.TreeExpr]]struct{}
}

func (m matcher) trees(t, u api.Tree) bool {
	return slices.EqualFunc(t.Decls, u.Decls, m.sameDecl) && m.sameStmts(t.Main, u.Main)
}

func (m matcher) sameDecl(a, b api.TreeDecl) bool {
	return a.Kind == b.Kind && a.Name == b.Name && a.Other == b.Other && a.Given == b.Given &&
		slices.EqualFunc(a.Label, b.Label, samePolicy) &&
		slices.Equal(a.Params, b.Params) &&
		m.sameStmts(a.Body, b.Body) && m.sameExpr(a.Result, b.Result)
}

func samePolicy(a, b api.TreePolicy) bool {
	return a.Owner == b.Owner && a.Write == b.Write && slices.Equal(a.Names, b.Names)
}

func (m matcher) sameStmts(l, k []api.TreeStmt) bool { return sameLists(m.stmts, l, k, m.sameStmt) }

func (m matcher) sameStmt(a, b api.TreeStmt) bool {
	return a.Kind == b.Kind && a.Name == b.Name && a.Other == b.Other &&
		m.sameExpr(a.Expr, b.Expr) && m.sameExprs(a.Args, b.Args) &&
		m.sameStmts(a.Then, b.Then) && m.sameStmts(a.Else, b.Else)
}

func (m matcher) sameExprs(l, k []api.TreeExpr) bool { return sameLists(m.exprs, l, k, m.sameExpr) }

func (m matcher) sameExpr(a, b api.TreeExpr) bool {
	return a.Kind == b.Kind && a.N == b.N && a.Name == b.Name && m.sameExprs(a.Args, b.Args)
}

// sameLists: but where two lists were come to once, whether they are the same is found out there.
func sameLists[T any](met map[pair[T]]struct{}, l, k []T, same func(a, b T) bool) bool {
	if len(l) != len(k) || len(l) == 0 {
		return len(l) == len(k)
	}
	p := pair[T]{first: &l[0], second: &k[0], many: len(l)}
	if _, ok := met[p]; ok {
		return true
	}
	met[p] = struct{}{}
	return slices.EqualFunc(l, k, same)
}
