package judge_test

import (
	"strings"
	"testing"
)

// labels of head by their names.
func labels() []string { return []string{"pt", "st", "pu", "su"} }

func isSecret(l string) bool { return l[0] == 's' }

func isUntrusted(l string) bool { return l[1] == 'u' }

// flows: does one label of head flow to another one?
func flows(l, m string) bool {
	return (!isSecret(l) || isSecret(m)) && (!isUntrusted(l) || isUntrusted(m))
}

// each three labels: where a command stands, what flows, where it goes.
func each(do func(place, from, to string)) {
	for _, place := range labels() {
		for _, from := range labels() {
			for _, to := range labels() {
				do(place, from, to)
			}
		}
	}
}

// fill PLACE, FROM and TO of a text.
func fill(text, place, from, to string) string {
	return strings.NewReplacer("PLACE", place, "FROM", from, "TO", to).Replace(text)
}

// words of faults at a command, of those that are so.
func words(at string, l ...string) string {
	var out []string
	for _, w := range l {
		if w != "" {
			out = append(out, at+" "+w)
		}
	}
	return strings.Join(out, ", ")
}

func when(is bool, word string) string {
	if is {
		return word
	}
	return ""
}

// I1: what goes from a label to another one, at a place with any label.
func TestPairs(t *testing.T) {
	each(func(place, from, to string) {
		isFlow := flows(from, to) && flows(place, to)
		for _, c := range [][3]string{
			{"main { if PLACE { TO = FROM; } }", "1", when(!isFlow, "set")},
			{"main { if 1 {} else { while PLACE { TO = (1 + FROM); } } }", "2", when(!isFlow, "set")},
			{"main { if PLACE { put oTO FROM; } }", "1", when(!isFlow, "put")},
			{"main { while (PLACE < 1) { put oTO (FROM * FROM); } }", "1", when(!isFlow, "put")},
			{"main { if PLACE { get TO iFROM; } }", "1", when(!isFlow || !flows(place, from), "get")},
			{"func f() { return FROM; } main { if PLACE { TO = f(); } }", "1", when(!isFlow, "call")},
			{"func f(n) { return n; } main { if PLACE { TO = f(FROM); } }", "1", when(!isFlow, "call")},
			{"func f(n, m) { return m; } main { if PLACE { TO = f(su, FROM); } }", "1", when(!isFlow, "call")},
			{"func f() { TO = FROM; return 0; } main { if PLACE { x = f(); } }", "0", when(!isFlow, "set")},
		} {
			text := fill(c[0], place, from, to)
			expect(t, text, program(t, head+text), words(c[1], c[2]))
		}
		p := program(t, head+fill("func f(n) { return 0; } main { if PLACE { x = f(FROM); } }", place, from, to))
		for i, l := range labels() {
			if l == to {
				p.Vars[p.Funcs[0].Params[0]] = p.Vars[i]
			}
		}
		expect(t, fill("FROM to a parameter TO at PLACE", place, from, to), p, words("1", when(!isFlow, "call")))
	})
}

// I1: what is revealed and trusted; a speaks, or somebody else does.
func TestTold(t *testing.T) {
	each(func(place, from, to string) {
		isPlace := when(!flows(place, to), "place")
		dares := isUntrusted(from) || isUntrusted(place)
		text := fill("main { if PLACE { reveal TO FROM; } }", place, from, to)
		value := when(isUntrusted(from) && !isUntrusted(to), "value")
		expect(t, text, program(t, head+text), words("1", isPlace, value, when(dares, "robust")))
		other := strings.Replace(head, "speak a", "speak b", 1)
		expect(t, "b speaks: "+text, program(t, other+text), words("1", isPlace, when(isSecret(from), "speak"), value, "robust"))

		text = fill("main { if PLACE { trust TO FROM; } }", place, from, to)
		value = when(!isSecret(to) && isSecret(from), "value")
		expect(t, text, program(t, head+text), words("1", isPlace, value))
		expect(t, "b speaks: "+text, program(t, other+text), words("1", isPlace, when(!isUntrusted(to), "speak"), value))
	})
}
