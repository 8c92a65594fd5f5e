package show_test

import (
	"math/rand"
	"reflect"
	"slices"
	"strings"

	"veilwork/api"
	"veilwork/token"
)

// rules by which texts are made: what has none stands for itself. The first way is the one that ends.
var rules = map[string][]string{
	"Text":     {"Decls main { Stmts }"},
	"Decls":    {"", "Decl Decls", "Decl Decls", "Decl Decls"},
	"Decl":     {"actor N ;", "grant N N ;", "speak N ;", "in N Label ;", "out N Label ;", "var N ;", "var N Label ;", "func N ( Some ) { Stmts return E ; }"},
	"Some":     {"", "Names", "Names"},
	"Names":    {"N", "N , Names"},
	"Label":    {"{ }", "{ Policies }", "{ Policies }"},
	"Policies": {"Policy", "Policy ; Policies"},
	"Policy":   {"N : Some", "N ! Some"},
	"Stmts":    {"", "Stmt Stmts", "Stmt Stmts", "Stmt Stmts"},
	"Stmt": {"N = E ;", "N = N ( Args ) ;", "get N N ;", "put N E ;", "reveal N E ;", "trust N E ;",
		"if E { Stmts }", "if E { Stmts } else { Stmts }", "while E { Stmts }"},
	"Args": {"", "Es", "Es"},
	"Es":   {"E", "E , Es"},
	"E":    {"0", "1", "N", "- 1", "- 9999999", "42", "( E Op E )", "( E Op E )", "( E Op E )"},
	"Op":   {"+", "-", "*", "<", "=="},
	"N":    {"a", "b", "x", "y1", "iff", "mainly", "abcdefghijkl"},
}

// maker makes texts; left is how often it may still choose.
type maker struct {
	r    *rand.Rand
	left int
	strings.Builder
}

func (m *maker) make(what string) {
	ways := rules[what]
	if len(ways) == 0 {
		between := []string{" ", "\n", "\t", "  ", "# x;}\n"}
		m.WriteString(what + between[m.r.Intn(len(between))])
		return
	}
	way := ways[0]
	if m.left > 0 {
		m.left--
		way = ways[m.r.Intn(len(ways))]
	}
	for _, w := range strings.Fields(way) {
		m.make(w)
	}
}

func makeText(r *rand.Rand) string {
	m := &maker{r: r, left: r.Intn(400)}
	m.make("Text")
	return m.String()
}

// oneOf: is it one of some texts with blanks between?
func oneOf(s, texts string) bool { return slices.Contains(strings.Fields(texts), s) }

// layout makes of a text, from its tokens alone, what Show must make of its tree.
type layout struct {
	strings.Builder
	line     []string // what is in the line so far
	deep     int
	brackets int
	label    bool
}

func laidOut(text string) string {
	var words []string
	list, _, _ := token.Scan(text)
	for i := 0; i < len(list); i++ {
		if list[i].Text == "else" && list[i+2].Text == "}" {
			i += 2 // an else that is empty is none
			continue
		}
		words = append(words, list[i].Text)
	}
	l := &layout{}
	for i, s := range words {
		l.word(s, i+1 < len(words) && words[i+1] == "else")
	}
	return l.String()
}

func (l *layout) word(s string, elseNext bool) {
	if s == "}" && !l.label {
		l.deep--
	}
	if s == "{" && len(l.line) > 0 && oneOf(l.line[0], "in out var") {
		l.label = true
	}
	l.put(s)
	switch {
	case l.label:
		l.label = s != "}"
	case s == "{":
		l.deep++
		l.end()
	case s == ";", s == "}" && !elseNext && l.line[0] == "}":
		l.end()
	}
}

// put something into the line, with a blank ahead, if there must be one.
func (l *layout) put(s string) {
	if len(l.line) == 0 {
		l.WriteString(strings.Repeat("  ", l.deep))
	} else if l.blank(s) {
		l.WriteString(" ")
	}
	l.WriteString(s)
	if s == "-" && (l.brackets == 0 || oneOf(l.line[len(l.line)-1], "( , + - * < ==")) {
		s = "minus"
	}
	l.brackets += strings.Count(s, "(") - strings.Count(s, ")")
	l.line = append(l.line, s)
}

func (l *layout) blank(s string) bool {
	many := len(l.line)
	last := l.line[many-1]
	if s == "(" && (many == 2 && l.line[0] == "func" || many == 3 && l.line[1] == "=") {
		return false
	}
	return !oneOf(last, "( { minus") && !oneOf(s, "; , ) : ! }")
}

func (l *layout) end() {
	l.WriteString("\n")
	l.line = nil
}

// visit all fields and elements of a value that can be set.
func visit(v reflect.Value, name string, see func(v reflect.Value, name string)) {
	see(v, name)
	switch v.Kind() {
	case reflect.Struct:
		for i := range v.NumField() {
			visit(v.Field(i), v.Type().Field(i).Name, see)
		}
	case reflect.Slice:
		for i := range v.Len() {
			visit(v.Index(i), name, see)
		}
	}
}

// alike: are two values the same, but for fields At, and for whether a list without elements is nil?
func alike(v, w reflect.Value) bool {
	switch v.Kind() {
	case reflect.Struct:
		for i := range v.NumField() {
			if v.Type().Field(i).Name != "At" && !alike(v.Field(i), w.Field(i)) {
				return false
			}
		}
		return true
	case reflect.Slice:
		for i := range min(v.Len(), w.Len()) {
			if !alike(v.Index(i), w.Index(i)) {
				return false
			}
		}
		return v.Len() == w.Len()
	}
	return v.Equal(w)
}

func alikeTrees(t, u api.Tree) bool { return alike(reflect.ValueOf(t), reflect.ValueOf(u)) }

// copied: a value with lists of its own, and with room behind each.
func copied(v reflect.Value, room int) reflect.Value {
	out := reflect.New(v.Type()).Elem()
	out.Set(v)
	switch v.Kind() {
	case reflect.Struct:
		for i := range v.NumField() {
			out.Field(i).Set(copied(v.Field(i), room))
		}
	case reflect.Slice:
		out.Set(reflect.MakeSlice(v.Type(), v.Len(), v.Len()+room))
		for i := range v.Len() {
			out.Index(i).Set(copied(v.Index(i), room))
		}
	}
	return out
}

func copyTree(t api.Tree) api.Tree { return copied(reflect.ValueOf(t), 0).Interface().(api.Tree) }
