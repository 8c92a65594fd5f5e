package scope_test

import (
	"math/rand"
	"reflect"
	"slices"
	"strconv"
	"strings"

	"veilwork/api"
)

// named is something that was declared, with its number.
type named struct {
	name   string
	number int
}

// maker makes a text and its program, side by side.
type maker struct {
	r *rand.Rand
	strings.Builder
	p        api.Program
	declared []string        // all names that can't be declared here
	known    map[int][]named // by the kind of their declaration, what can be used here
	left     int             // commands that there may still be
}

// makeProgram: a text and its program.
func makeProgram(r *rand.Rand) (string, api.Program) {
	half := r.Intn(api.MaxStmts/2 + 1)
	m := &maker{r: r, known: map[int][]named{}, left: half}
	m.decl(api.DeclActor)
	for range r.Intn(api.MaxDecls) {
		m.decl(1 + r.Intn(7))
	}
	m.put("main {")
	m.left += half
	m.p.Main = m.stmts(1)
	m.put("}")
	return m.String(), m.p
}

// put texts, with something behind each.
func (m *maker) put(texts ...string) {
	for _, s := range texts {
		m.WriteString(s + []string{" ", "\n", "\t", "# a;\n"}[m.r.Intn(4)])
	}
}

// fresh name, which is declared by that.
func (m *maker) fresh() string {
	for {
		name := "n" + strconv.Itoa(m.r.Intn(50))
		if !slices.Contains(m.declared, name) {
			m.declared = append(m.declared, name)
			m.put(name)
			return name
		}
	}
}

// knows whether something of a kind is declared.
func (m *maker) knows(kind int) bool { return len(m.known[kind]) > 0 }

// use something of a kind, and answer its number.
func (m *maker) use(kind int) int {
	x := m.known[kind][m.r.Intn(len(m.known[kind]))]
	m.put(x.name)
	return x.number
}

// declare a fresh name.
func (m *maker) declare(kind, number int) {
	m.known[kind] = append(m.known[kind], named{m.fresh(), number})
}

// decl of a kind, if there may be one more.
func (m *maker) decl(kind int) {
	p := &m.p
	full := map[int]bool{
		api.DeclActor: p.Actors.Many == api.MaxActors,
		api.DeclGrant: len(p.Actors.Grants) == api.MaxGrants,
		api.DeclSpeak: len(p.Speak) == p.Actors.Many,
		api.DeclIn:    len(p.Ins) == api.MaxChannels,
		api.DeclOut:   len(p.Outs) == api.MaxChannels,
		api.DeclVar:   len(p.Vars) == api.MaxVars,
		api.DeclFunc:  len(p.Funcs) == api.MaxFuncs,
	}
	if full[kind] {
		return
	}
	m.put([]string{"", "actor", "grant", "speak", "in", "out", "var", "func"}[kind])
	switch kind {
	case api.DeclActor:
		m.declare(kind, p.Actors.Many)
		p.Actors.Many++
	case api.DeclGrant:
		p.Actors.Grants = append(p.Actors.Grants, api.Grant{Who: m.use(api.DeclActor), For: m.use(api.DeclActor)})
	case api.DeclSpeak:
		p.Speak = append(p.Speak, m.use(api.DeclActor))
	case api.DeclIn:
		m.declare(kind, len(p.Ins))
		p.Ins = append(p.Ins, m.label())
	case api.DeclOut:
		m.declare(kind, len(p.Outs))
		p.Outs = append(p.Outs, m.label())
	case api.DeclVar:
		m.declare(kind, len(p.Vars))
		v := api.Var{Known: m.r.Intn(2) == 0}
		if v.Known {
			v.Label = m.label()
		}
		p.Vars = append(p.Vars, v)
	case api.DeclFunc:
		m.function()
		return
	}
	m.put(";")
}

func (m *maker) label() api.Label {
	var l api.Label
	m.put("{")
	for i := range m.r.Intn(api.MaxPolicies + 1) {
		if i > 0 {
			m.put(";")
		}
		p := api.Policy{Owner: m.use(api.DeclActor)}
		write := m.r.Intn(2) == 0
		m.put(map[bool]string{true: "!", false: ":"}[write])
		for k := range m.r.Intn(api.MaxNames + 1) {
			if k > 0 {
				m.put(",")
			}
			if n := m.use(api.DeclActor); !slices.Contains(p.Names, n) {
				p.Names = append(p.Names, n)
			}
		}
		slices.Sort(p.Names)
		if write {
			l.Write = append(l.Write, p)
		} else {
			l.Read = append(l.Read, p)
		}
	}
	m.put("}")
	return l
}

func (m *maker) function() {
	name := m.fresh()
	declared, known := len(m.declared), len(m.known[api.DeclVar])
	var f api.Func
	m.put("(")
	for i := range m.r.Intn(min(api.MaxParams, api.MaxVars-len(m.p.Vars)) + 1) {
		if i > 0 {
			m.put(",")
		}
		f.Params = append(f.Params, len(m.p.Vars))
		m.declare(api.DeclVar, len(m.p.Vars))
		m.p.Vars = append(m.p.Vars, api.Var{})
	}
	m.put(")", "{")
	f.Body = m.stmts(1)
	m.put("return")
	f.Result = m.expr(3)
	m.put(";", "}")
	// Its parameters end with it, and its own name can be used now.
	m.declared, m.known[api.DeclVar] = m.declared[:declared], m.known[api.DeclVar][:known]
	m.known[api.DeclFunc] = append(m.known[api.DeclFunc], named{name, len(m.p.Funcs)})
	m.p.Funcs = append(m.p.Funcs, f)
}

func (m *maker) stmts(deep int) []api.Stmt {
	var l []api.Stmt
	for deep <= api.MaxDeep && m.left > 0 && m.r.Intn(5) > 0 {
		m.left--
		l = append(l, m.stmt(deep))
	}
	return l
}

func (m *maker) stmt(deep int) api.Stmt {
	s := api.Stmt{Kind: 1 + m.r.Intn(8)}
	needs := map[int][]int{
		api.StmtSet: {api.DeclVar}, api.StmtReveal: {api.DeclVar}, api.StmtTrust: {api.DeclVar},
		api.StmtCall: {api.DeclVar, api.DeclFunc}, api.StmtGet: {api.DeclVar, api.DeclIn}, api.StmtPut: {api.DeclOut},
	}
	for _, kind := range needs[s.Kind] {
		if !m.knows(kind) {
			s.Kind = api.StmtIf
		}
	}
	switch s.Kind {
	case api.StmtSet:
		s.Var = m.use(api.DeclVar)
		m.put("=")
		s.Expr = m.expr(3)
	case api.StmtCall:
		m.call(&s)
	case api.StmtGet:
		m.put("get")
		s.Var, s.Other = m.use(api.DeclVar), m.use(api.DeclIn)
	case api.StmtPut:
		m.put("put")
		s.Other, s.Expr = m.use(api.DeclOut), m.expr(3)
	case api.StmtReveal:
		m.put("reveal")
		s.Var, s.Expr = m.use(api.DeclVar), m.expr(3)
	case api.StmtTrust:
		m.put("trust")
		s.Var, s.Expr = m.use(api.DeclVar), m.expr(3)
	default:
		m.branches(&s, deep)
		return s
	}
	m.put(";")
	return s
}

func (m *maker) call(s *api.Stmt) {
	s.Var = m.use(api.DeclVar)
	m.put("=")
	s.Other = m.use(api.DeclFunc)
	m.put("(")
	for i := range m.p.Funcs[s.Other].Params {
		if i > 0 {
			m.put(",")
		}
		s.Args = append(s.Args, m.expr(2))
	}
	m.put(")")
}

func (m *maker) branches(s *api.Stmt, deep int) {
	m.put(map[int]string{api.StmtIf: "if", api.StmtWhile: "while"}[s.Kind])
	s.Expr = m.expr(2)
	m.put("{")
	s.Then = m.stmts(deep + 1)
	m.put("}")
	if s.Kind == api.StmtIf && m.r.Intn(2) == 0 {
		m.put("else", "{")
		s.Else = m.stmts(deep + 1)
		m.put("}")
	}
}

// expr of at most 15 parts.
func (m *maker) expr(deep int) api.Expr {
	switch {
	case deep > 0 && m.r.Intn(2) == 0:
		e := api.Expr{Kind: api.ExprAdd + m.r.Intn(5)}
		m.put("(")
		first := m.expr(deep - 1)
		m.put(strings.Fields("+ - * < ==")[e.Kind-api.ExprAdd])
		e.Args = []api.Expr{first, m.expr(deep - 1)}
		m.put(")")
		return e
	case m.knows(api.DeclVar) && m.r.Intn(3) > 0:
		return api.Expr{Kind: api.ExprName, N: m.use(api.DeclVar)}
	}
	e := api.Expr{Kind: api.ExprNumber, N: []int{0, 1, -1, 42, api.MaxNumber, -api.MaxNumber}[m.r.Intn(6)]}
	m.put(strconv.Itoa(e.N))
	return e
}

// visit all fields and elements of a value.
func visit(v reflect.Value, see func(v reflect.Value)) {
	see(v)
	switch v.Kind() {
	case reflect.Struct:
		for i := range v.NumField() {
			visit(v.Field(i), see)
		}
	case reflect.Slice:
		for i := range v.Len() {
			visit(v.Index(i), see)
		}
	}
}

// alike: are two values the same, be their empty lists nil or not?
func alike(x, y any) bool { return reflect.DeepEqual(copied(x, 0), copied(y, 0)) }

// copied: a value with lists of its own, with so much room behind each; without room empty lists are nil.
func copied[T any](x T, room int) T { return copyOf(reflect.ValueOf(x), room).Interface().(T) }

func copyOf(v reflect.Value, room int) reflect.Value {
	out := reflect.New(v.Type()).Elem()
	switch v.Kind() {
	case reflect.Struct:
		for i := range v.NumField() {
			out.Field(i).Set(copyOf(v.Field(i), room))
		}
	case reflect.Slice:
		if v.Len()+room == 0 {
			return out
		}
		out.Set(reflect.MakeSlice(v.Type(), v.Len(), v.Len()+room))
		for i := range v.Len() {
			out.Index(i).Set(copyOf(v.Index(i), room))
		}
	default:
		out.Set(v)
	}
	return out
}

// spoil one field or list somewhere in a program.
func spoil(r *rand.Rand, p *api.Program) {
	var l []reflect.Value
	visit(reflect.ValueOf(p).Elem(), func(v reflect.Value) {
		if v.Kind() != reflect.Struct {
			l = append(l, v)
		}
	})
	switch v := l[r.Intn(len(l))]; v.Kind() {
	case reflect.Int:
		n := []int{-1, 0, 1, 2, 3, 4, 5, 6, 7, 8, 9, 16, api.MaxNumber + 1, -api.MaxNumber - 1}
		v.SetInt(int64(n[r.Intn(len(n))]))
	case reflect.Bool:
		v.SetBool(!v.Bool())
	case reflect.Slice:
		spoilList(r, v)
	}
}

func spoilList(r *rand.Rand, v reflect.Value) {
	n := v.Len()
	switch more := reflect.MakeSlice(v.Type(), 1+r.Intn(3)*r.Intn(3), 16); {
	case n > 0 && r.Intn(2) == 0:
		v.Set(v.Slice(0, n-1))
	case n > 0 && r.Intn(2) == 0:
		v.Set(reflect.Append(v.Slice3(0, n, n), copyOf(v.Index(r.Intn(n)), 0)))
	default:
		v.Set(reflect.AppendSlice(v.Slice3(0, n, n), more))
	}
}
