// Package shape: what commands have, by their kinds. It is the same in trees (doc/02-tree.md) and in programs (doc/06-scope.md).
package shape

import "veilwork/api"

// Stmt: what a command has; Var is the variable, in a tree its name.
type Stmt struct{ Var, Other, Expr, Args, Then, Else bool }

// OfStmt: what a command of a kind has, and whether there is such a kind.
func OfStmt(kind int) (Stmt, bool) {
	switch kind {
	case api.StmtSet, api.StmtReveal, api.StmtTrust:
		return Stmt{Var: true, Expr: true}, true
	case api.StmtCall:
		return Stmt{Var: true, Other: true, Args: true}, true
	case api.StmtGet:
		return Stmt{Var: true, Other: true}, true
	case api.StmtPut:
		return Stmt{Other: true, Expr: true}, true
	case api.StmtIf:
		return Stmt{Expr: true, Then: true, Else: true}, true
	case api.StmtWhile:
		return Stmt{Expr: true, Then: true}, true
	}
	return Stmt{}, false
}
