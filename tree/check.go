package tree

import (
	"veilwork/api"
	"veilwork/shape"
	"veilwork/token"
)

// tooMany: is a limit passed somewhere? It goes on no further than the limits, so that it ends even on lists that hold themselves.
func tooMany(t api.Tree) bool {
	if len(t.Decls) > api.MaxDecls {
		return true
	}
	left := api.MaxStmts
	for _, d := range t.Decls {
		if tooManyOfDecl(d) {
			return true
		}
		left = stmtsLeft(d.Body, 1, left)
	}
	return stmtsLeft(t.Main, 1, left) < 0
}

// tooManyOfDecl: of a declaration, but for its commands.
func tooManyOfDecl(d api.TreeDecl) bool {
	if len(d.Label) > api.MaxPolicies || len(d.Params) > api.MaxParams || tooLong(d.Result) {
		return true
	}
	return !all(d.Label, func(p api.TreePolicy) bool { return len(p.Names) <= api.MaxNames })
}

// stmtsLeft: how many commands there may still be behind these, which stand so deep; below 0, if a limit is passed.
func stmtsLeft(l []api.TreeStmt, deep, left int) int {
	for _, s := range l {
		left--
		if left < 0 || deep > api.MaxDeep || tooManyOfStmt(s) {
			return -1
		}
		left = stmtsLeft(s.Then, deep+1, left)
		left = stmtsLeft(s.Else, deep+1, left)
	}
	return left
}

// tooManyOfStmt: of a command, but for those in it.
func tooManyOfStmt(s api.TreeStmt) bool {
	if len(s.Args) > api.MaxParams || tooLong(s.Expr) {
		return true
	}
	return !all(s.Args, func(e api.TreeExpr) bool { return !tooLong(e) })
}

func tooLong(e api.TreeExpr) bool { return partsLeft(e, api.MaxExpr) < 0 }

// partsLeft: how many parts there may still be behind those of an expression; below 0, if there are too many.
func partsLeft(e api.TreeExpr, left int) int {
	left--
	for _, a := range e.Args {
		if left < 0 {
			break
		}
		left = partsLeft(a, left)
	}
	return left
}

func declFine(d api.TreeDecl) bool {
	if d.Kind < api.DeclActor || d.Kind > api.DeclFunc {
		return false
	}
	return isName(d.Name) &&
		nameFine(d.Other, d.Kind == api.DeclGrant) &&
		labelFine(d) &&
		functionFine(d)
}

// labelFine: has a declaration just the label that its kind has?
func labelFine(d api.TreeDecl) bool {
	if !d.Given && len(d.Label) > 0 {
		return false
	}
	switch d.Kind {
	case api.DeclIn, api.DeclOut:
		return d.Given && all(d.Label, policyFine)
	case api.DeclVar:
		return all(d.Label, policyFine)
	}
	return !d.Given
}

func policyFine(p api.TreePolicy) bool { return isName(p.Owner) && all(p.Names, isName) }

// functionFine: has a declaration what a function has just if it is one?
func functionFine(d api.TreeDecl) bool {
	if d.Kind == api.DeclFunc {
		return all(d.Params, isName) && all(d.Body, stmtFine) && exprFine(d.Result)
	}
	return len(d.Params) == 0 && len(d.Body) == 0 && noExpr(d.Result)
}

func stmtFine(s api.TreeStmt) bool {
	has, ok := shape.OfStmt(s.Kind)
	if !ok || !nameFine(s.Name, has.Var) || !nameFine(s.Other, has.Other) {
		return false
	}
	if has.Expr && !exprFine(s.Expr) || !has.Expr && !noExpr(s.Expr) {
		return false
	}
	return listFine(s.Args, has.Args, exprFine) &&
		listFine(s.Then, has.Then, stmtFine) &&
		listFine(s.Else, has.Else, stmtFine)
}

func exprFine(e api.TreeExpr) bool {
	if e.Kind < api.ExprNumber || e.Kind > api.ExprSame {
		return false
	}
	least, most, args := 0, 0, 2
	switch e.Kind {
	case api.ExprNumber:
		least, most, args = -api.MaxNumber, api.MaxNumber, 0
	case api.ExprName:
		args = 0
	}
	return least <= e.N && e.N <= most &&
		nameFine(e.Name, e.Kind == api.ExprName) &&
		len(e.Args) == args && all(e.Args, exprFine)
}

// noExpr: is nothing there? (Where it is does not count.)
func noExpr(e api.TreeExpr) bool {
	return e.Kind == 0 && e.N == 0 && e.Name == "" && len(e.Args) == 0
}

// nameFine: is there a name, if there must be one, and else nothing?
func nameFine(s string, must bool) bool {
	if must {
		return isName(s)
	}
	return s == ""
}

// isName: is it a name of chapter 1, and none of the words?
func isName(s string) bool {
	_, e := token.Join([]api.Token{{Kind: api.TokenName, Text: s}})
	return e == api.OK && !isWord(s)
}

// listFine: is each of a list fine, and nothing in it, if there may be nothing?
func listFine[T any](l []T, may bool, fine func(T) bool) bool {
	return (may || len(l) == 0) && all(l, fine)
}

func all[T any](l []T, fine func(T) bool) bool {
	for _, x := range l {
		if !fine(x) {
			return false
		}
	}
	return true
}
