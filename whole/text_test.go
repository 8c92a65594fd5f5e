package whole

import (
	"fmt"
	"math/rand"
	"slices"
	"strings"

	"veilwork/api"
)

// textOf a program, but that parameters are variables of their own.
func textOf(p api.Program) string {
	w := textWriter{p: p}
	for who := range p.Actors.Many {
		w.say("actor a%d;", who)
	}
	for _, g := range p.Actors.Grants {
		w.say("grant a%d a%d;", g.Who, g.For)
	}
	for _, who := range p.Speak {
		w.say("speak a%d;", who)
	}
	for i, l := range p.Ins {
		w.say("in i%d %s;", i, labelText(l))
	}
	for i, l := range p.Outs {
		w.say("out o%d %s;", i, labelText(l))
	}
	for i, v := range p.Vars {
		if v.Known {
			w.say("var v%d %s;", i, labelText(v.Label))
		} else {
			w.say("var v%d;", i)
		}
	}
	for i, f := range p.Funcs {
		w.params = f.Params
		var names []string
		for _, v := range f.Params {
			names = append(names, w.name(v))
		}
		w.say("func f%d(%s) {", i, strings.Join(names, ", "))
		w.stmts(f.Body)
		w.say("return %s; }", w.expr(f.Result))
	}
	w.params = nil
	w.say("main {")
	w.stmts(p.Main)
	w.say("}")
	return w.String()
}

type textWriter struct {
	strings.Builder
	p      api.Program
	params []int // of the function that is being written
}

func (w *textWriter) say(format string, a ...any) { fmt.Fprintf(w, format+"\n", a...) }

func (w *textWriter) name(v int) string {
	if slices.Contains(w.params, v) {
		return fmt.Sprint("p", v)
	}
	return fmt.Sprint("v", v)
}

func labelText(l api.Label) string {
	var policies []string
	add := func(sign string, list []api.Policy) {
		for _, x := range list {
			var names []string
			for _, who := range x.Names {
				names = append(names, fmt.Sprint("a", who))
			}
			policies = append(policies, fmt.Sprintf("a%d%s %s", x.Owner, sign, strings.Join(names, ", ")))
		}
	}
	add(":", l.Read)
	add("!", l.Write)
	return "{" + strings.Join(policies, "; ") + "}"
}

func (w *textWriter) expr(e api.Expr) string {
	switch e.Kind {
	case api.ExprNumber:
		return fmt.Sprint(e.N)
	case api.ExprName:
		return w.name(e.N)
	}
	sign := map[int]string{api.ExprAdd: "+", api.ExprSub: "-", api.ExprMul: "*", api.ExprLess: "<", api.ExprSame: "=="}[e.Kind]
	return fmt.Sprintf("(%s %s %s)", w.expr(e.Args[0]), sign, w.expr(e.Args[1]))
}

func (w *textWriter) stmts(l []api.Stmt) {
	for _, s := range l {
		switch s.Kind {
		case api.StmtSet:
			w.say("%s = %s;", w.name(s.Var), w.expr(s.Expr))
		case api.StmtCall:
			var args []string
			for _, e := range s.Args {
				args = append(args, w.expr(e))
			}
			w.say("%s = f%d(%s);", w.name(s.Var), s.Other, strings.Join(args, ", "))
		case api.StmtGet:
			w.say("get %s i%d;", w.name(s.Var), s.Other)
		case api.StmtPut:
			w.say("put o%d %s;", s.Other, w.expr(s.Expr))
		case api.StmtReveal:
			w.say("reveal %s %s;", w.name(s.Var), w.expr(s.Expr))
		case api.StmtTrust:
			w.say("trust %s %s;", w.name(s.Var), w.expr(s.Expr))
		default:
			w.branches(s)
		}
	}
}

func (w *textWriter) branches(s api.Stmt) {
	word := map[int]string{api.StmtIf: "if", api.StmtWhile: "while"}[s.Kind]
	w.say("%s %s {", word, w.expr(s.Expr))
	w.stmts(s.Then)
	if len(s.Else) > 0 {
		w.say("} else {")
		w.stmts(s.Else)
	}
	w.say("}")
}

// spoiltText: something is gone, or twice, or wrong, or there is much more of it.
func spoiltText(r *rand.Rand, text string) string {
	words := strings.SplitAfter(text, " ")
	i := r.Intn(len(words))
	switch r.Intn(6) {
	case 0:
		words = slices.Delete(words, i, i+1)
	case 1:
		words = slices.Insert(words, i, words[r.Intn(len(words))])
	case 2:
		words[i], words[r.Intn(len(words))] = words[r.Intn(len(words))], words[i]
	case 3:
		words[i] = []string{"? ", "a0 ", "v9 ", "12345678 ", "\x80 ", "f0 ", "o1 "}[r.Intn(7)]
	case 4:
		lines := strings.SplitAfter(text, "\n")
		k := r.Intn(len(lines))
		return strings.Join(slices.Insert(lines, k, lines[r.Intn(len(lines))]), "")
	case 5:
		return text + strings.Repeat([]string{" ", "\n", "# "}[r.Intn(3)], r.Intn(7000))
	}
	return strings.Join(words, "")
}
