package code

import (
	"fmt"
	"slices"
	"strings"
	"testing"

	"trident/api"
	"trident/internal/listing"
	"trident/lint"
	"trident/syntax"
	"trident/unparse"
)

// parse returns the tree of a text that has no fault.
func parse[T any](t *testing.T, s string, read func(string) (T, api.Fault)) T {
	t.Helper()
	tree, fault := read(s)
	if fault != (api.Fault{}) {
		t.Fatalf("%.3000s\nhas the fault %v", s, fault)
	}
	return tree
}

// program returns the program with that listing.
func program(t *testing.T, text string) api.Program {
	t.Helper()
	p, ok := listing.Program(text)
	if !ok {
		t.Fatalf("%q is no listing", text)
	}
	return p
}

// shown writes a value. An empty list is written as nil is.
func shown(v any) string {
	return fmt.Sprintf("%+v", v)
}

// checkProgram checks a program.
func checkProgram(t *testing.T, what string, got, want api.Program) {
	t.Helper()
	if shown(got) != shown(want) {
		t.Errorf("%.3000s\nhas the program\n%.3000s, want\n%.3000s", what, shown(got), shown(want))
	}
}

// fileOf returns a file with a rule of a card or, if place is true, of a location.
func fileOf(place bool, r api.Rule) api.File {
	if place {
		return api.File{Places: []api.Place{{Name: "A", Rules: []api.Rule{r}}}}
	}
	return api.File{Cards: []api.Card{{Name: "A", Rules: []api.Rule{r}}}}
}

// ruled returns the rules with those acts that lint accepts, of cards and of locations.
func ruled(acts []api.Act) []api.Rule {
	var list []api.Rule
	for when := api.WReveal; when <= api.WEnter; when++ {
		for _, place := range []bool{false, true} {
			r := api.Rule{When: when, Line: 3, Col: 4, Acts: acts}
			if when == api.WAlways {
				r.Stratum = 2
			}
			if lint.Check(fileOf(place, r)) == (api.Fault{}) {
				list = append(list, r)
			}
		}
	}
	return list
}

// checkActs checks the program of acts, as acts and as those of each rule that lint accepts,
// and reports whether there is such a rule.
func checkActs(t *testing.T, s string, want api.Program) bool {
	t.Helper()
	acts := parse(t, s, syntax.Acts)
	rules := ruled(acts)
	if len(rules) == 0 {
		return false
	}
	before := shown(acts)
	checkProgram(t, s, Acts(acts), want)
	bare := unparse.Strip(fileOf(false, api.Rule{Acts: acts})).Cards[0].Rules[0]
	checkProgram(t, s+", without positions,", Acts(bare.Acts), want)
	for _, r := range rules {
		checkProgram(t, s+", as a rule,", Rule(r), want)
		if got, size := len(Rule(r).Code), lint.Size(r); got != size {
			t.Errorf("%.3000s\nhas %d instructions and is of size %d", s, got, size)
		}
	}
	checkProgram(t, s+", twice,", Acts(slices.Concat(acts, acts)), listing.Join(want, want))
	if shown(acts) != before {
		t.Errorf("of %s\nthe calls made %s", before, shown(acts))
	}
	return true
}

// context is a text around acts, and the listings before and behind their program. What
// these name is counted from their own beginnings.
type context struct{ before, behind, first, last string }

// contexts returns texts around acts whose program has so many instructions.
func contexts(size int) []context {
	text := fmt.Sprintf
	return []context{
		{"", "", "", ""},
		{"destroy me;", "draw mine 1;", "destroy me", "push 1; draw 1"},
		{"spawn \"B\" both here count (both away all);", "spawn \"B\" both lane 3 2;", "count (both away all); spawn \"B\" 3 8", "push 2; spawn \"B\" 3 35"},
		{"shield (both here all);", "aura (both here all) 1;", "shield (both here all)", "push 1; aura (both here all)"},
		{"if 1 < round {", "}", text("push 1; round; test 1 %d", size+3), ""},
		{"if count (both here all) >= 2 {", "} else { }", text("count (both here all); push 2; test 5 %d", size+3), ""},
		{"if 3 = 4 {", "} else { if 5 < 6 { } }", text("push 3; push 4; test 3 %d", size+4), "jump 4; push 5; push 6; test 1 4"},
		{"if 3 != 4 { } else {", "}", text("push 3; push 4; test 4 4; jump %d", size+4), ""},
		{"if 3 != 4 { if 5 < 6 { } } else {", "}", text("push 3; push 4; test 4 7; push 5; push 6; test 1 6; jump %d", size+7), ""},
		{"each (both anywhere first) {", "}", text("each (both anywhere first) %d", size+2), text("next %d", -size)},
		{
			"each (both anywhere first) { return it;", "destroy it; } return (both here all);",
			text("each (both anywhere first) %d; return it", size+4), text("destroy it; next %d; return (both here all)", -size-1),
		},
	}
}

// checkEverywhere checks the program of acts alone, between others, and in blocks, where
// lint accepts them; it must do so somewhere.
func checkEverywhere(t *testing.T, s, listed string) {
	t.Helper()
	want := program(t, listed)
	accepted := 0
	for _, c := range contexts(len(want.Code)) {
		if checkActs(t, c.before+s+c.behind, listing.Join(program(t, c.first), want, program(t, c.last))) {
			accepted++
		}
	}
	if accepted == 0 {
		t.Errorf("lint accepts %s nowhere", s)
	}
}

// continuous reports whether an act is one of continuous effects, in which there is no "it".
func continuous(act string) bool {
	return strings.HasPrefix(act, "aura") || strings.HasPrefix(act, "shield")
}

// speaksOfIt reports whether a sel or an expr speaks of "it".
func speaksOfIt(s string) bool {
	return slices.Contains(strings.FieldsFunc(s, func(r rune) bool { return strings.ContainsRune(" ()", r) }), "it")
}

// checkExpr checks the program of an expr alone, as an operand, and in acts.
func checkExpr(t *testing.T, s, listed string) {
	t.Helper()
	want := program(t, listed)
	whole := func(s string, parts ...api.Program) {
		t.Helper()
		checkProgram(t, s, Expr(parse(t, s, syntax.Expr)), listing.Join(parts...))
	}
	whole(s, want)
	for sign, op := range map[string]string{"+": "add", "-": "sub", "*": "mul"} {
		last := program(t, op)
		whole("("+s+") "+sign+" hand both", want, program(t, "hand 3"), last)
		whole("count it "+sign+" ("+s+")", program(t, "count it"), want, last)
		whole("("+s+") "+sign+" ("+s+")", want, want, last)
		whole("1 - (("+s+") "+sign+" ("+s+")) * 2", program(t, "push 1"), want, want, last, program(t, "push 2; mul; sub"))
	}
	for _, c := range [][2]string{
		{"power me %s;", "power me"},
		{"set (mine here all) %s;", "set (mine here all)"},
		{"spawn \"Hound\" mine left %s;", "spawn \"Hound\" 1 16"},
		{"draw mine %s;", "draw 1"},
		{"energy theirs %s;", "energy 2"},
		{"aura (both lane 2 not me all) %s;", "aura (both lane 2 not me all)"},
	} {
		if !continuous(c[0]) || !speaksOfIt(s) {
			checkEverywhere(t, strings.Replace(c[0], "%s", s, 1), listed+";"+c[1])
		}
	}
	n := len(want.Code)
	checkEverywhere(t, "if "+s+" != 7 { }", listed+fmt.Sprintf("; push 7; test 4 %d", n+2))
	checkEverywhere(t, "if 7 > "+s+" { }", "push 7;"+listed+fmt.Sprintf("; test 6 %d", n+2))
	checkEverywhere(t, "if "+s+" < "+s+" { }", listed+";"+listed+fmt.Sprintf("; test 1 %d", 2*n+1))
}

// The chapter's example.
func TestExample(t *testing.T) {
	want := api.Program{
		Code: []api.Ins{{Op: api.IPush, A: 1}, {Op: api.IPush, A: 2}, {Op: api.IAdd}, {Op: api.IPower, A: 0}},
		Sels: []api.Sel{{Kind: api.SelMe}},
	}
	checkProgram(t, "the example", Acts(parse(t, "power me 1 + 2;", syntax.Acts)), want)
	checkEverywhere(t, "power me 1 + 2;", "push 1; push 2; add; power me")
}

// P14.1: acts that are none, and a rule without acts.
func TestNothing(t *testing.T) {
	empty := api.Program{}
	checkProgram(t, "no acts", Acts(nil), empty)
	checkProgram(t, "an empty list", Acts([]api.Act{}), empty)
	checkProgram(t, "no rule", Rule(api.Rule{}), empty)
	for when := api.WReveal; when <= api.WEnter; when++ {
		checkProgram(t, "a rule without acts", Rule(api.Rule{When: when, Stratum: 1, Line: 2, Col: 3, Acts: []api.Act{}}), empty)
	}
	if !checkActs(t, "# none", empty) {
		t.Error("lint does not accept a rule without acts")
	}
}

// The words of whose something is, of lanes, of which card of a hand and of comparisons, at
// their numbers.
var (
	sides = []string{api.Mine: "mine", api.Theirs: "theirs", api.Both: "both"}
	hows  = []string{api.HFirst: "first", api.HLast: "last", api.HCheapest: "cheapest", api.HCostliest: "costliest"}
	signs = []string{api.Lt: "<", api.Le: "<=", api.Eq: "=", api.Ne: "!=", api.Ge: ">=", api.Gt: ">"}
	// Of a lane there are also B and C, where these are its kind and its number, and the
	// one number that it is where a card is spawned.
	lanes = []struct {
		text, fields string
		number       int
	}{
		{"here", "1", 8}, {"left", "2", 16}, {"right", "3", 24}, {"lane 1", "4 1", 33}, {"lane 2", "4 2", 34}, {"lane 3", "4 3", 35},
	}
)

// each calls f with the words of a list and their numbers.
func each(words []string, f func(n int, word string)) {
	for n, word := range words {
		if word != "" {
			f(n, word)
		}
	}
}

// sels are sels, all of which may stand in an "each" of a card's rule.
var sels = []string{
	"me", "it", "(mine here all)", "(theirs away first)", "(both lane 1 last)", "(both anywhere weakest)", "(mine lane 3 strongest)",
	"(theirs lane 2 cost <= 3 power != -2 named \"Dust Cat\" not it weakest)", "(both here not me cost > 0 all)",
}

// P14.1: the code of an expr.
func TestExprs(t *testing.T) {
	for _, n := range []string{"0", "1", "7", "99", "-1", "-99"} {
		checkExpr(t, n, "push "+n)
	}
	checkExpr(t, "-0", "push 0")
	checkExpr(t, "(3)", "push 3")
	for _, s := range sels {
		checkExpr(t, "count "+s, "count "+s)
		checkExpr(t, "sum "+s, "sum "+s)
	}
	checkExpr(t, "round", "round")
	each(sides, func(side int, whose string) {
		checkExpr(t, "hand "+whose, fmt.Sprint("hand ", side))
		for _, lane := range lanes {
			checkExpr(t, "free "+whose+" "+lane.text, fmt.Sprint("free ", side, " ", lane.fields))
		}
	})
}

// P14.1: operands on the left and on the right.
func TestOperands(t *testing.T) {
	for _, c := range [][2]string{
		{"1 + 2", "push 1; push 2; add"},
		{"1 - 2", "push 1; push 2; sub"},
		{"1 * 2", "push 1; push 2; mul"},
		{"1 - -2", "push 1; push -2; sub"},
		{"1 + 2 * 3", "push 1; push 2; push 3; mul; add"},
		{"(1 + 2) * 3", "push 1; push 2; add; push 3; mul"},
		{"1 - 2 - 3", "push 1; push 2; sub; push 3; sub"},
		{"1 - (2 - 3)", "push 1; push 2; push 3; sub; sub"},
		{"1 * 2 - 3 * 4 + 5", "push 1; push 2; mul; push 3; push 4; mul; sub; push 5; add"},
		{"(1 - (2 + 3) * 4) * 5", "push 1; push 2; push 3; add; push 4; mul; sub; push 5; mul"},
		{"count me - sum (mine here all) * count it", "count me; sum (mine here all); count it; mul; sub"},
		{"sum me * round + free both left - hand theirs", "sum me; round; mul; free 3 2; add; hand 2; sub"},
		{"count me + (count me + (count me + count me))", "count me; count me; count me; count me; add; add; add"},
	} {
		checkExpr(t, c[0], c[1])
	}
}

// P14.1: the code of an act, with each field of its instruction.
func TestActs(t *testing.T) {
	for _, s := range sels {
		for _, word := range []string{"power", "set", "aura"} {
			if !continuous(word) || !speaksOfIt(s) {
				checkEverywhere(t, word+" "+s+" 7;", "push 7;"+word+" "+s)
				checkEverywhere(t, word+" "+s+" count (mine anywhere all) - sum "+s+";", "count (mine anywhere all); sum "+s+"; sub;"+word+" "+s)
			}
		}
		for _, word := range []string{"destroy", "return", "shield"} {
			if !continuous(word) || !speaksOfIt(s) {
				checkEverywhere(t, word+" "+s+";", word+" "+s)
			}
		}
		for _, lane := range lanes {
			checkEverywhere(t, "move "+s+" "+lane.text+";", "move "+s+" "+lane.fields)
		}
	}
	each(sides, func(side int, whose string) {
		checkEverywhere(t, "draw "+whose+" 2;", fmt.Sprint("push 2; draw ", side))
		checkEverywhere(t, "energy "+whose+" -3;", fmt.Sprint("push -3; energy ", side))
		each(hows, func(how int, which string) {
			checkEverywhere(t, "discard "+whose+" "+which+";", fmt.Sprint("discard ", side, " ", how))
		})
		for _, lane := range lanes {
			checkEverywhere(t, "double "+whose+" "+lane.text+";", fmt.Sprint("double ", side, " ", lane.fields))
			checkEverywhere(t, "bar "+whose+" "+lane.text+";", fmt.Sprint("bar ", side, " ", lane.fields))
			for _, name := range []string{"\"Hound\"", "\"7\"", "\"O'Dea-7\"", "\"Éé\"", "\"me\""} {
				checkEverywhere(t, "spawn "+name+" "+whose+" "+lane.text+" 4;", fmt.Sprint("push 4; spawn ", name, " ", side, " ", lane.number))
			}
		}
	})
}

// P14.1: conditions.
func TestComparisons(t *testing.T) {
	each(signs, func(op int, sign string) {
		checkEverywhere(t, "if 1 "+sign+" 2 { }", fmt.Sprintf("push 1; push 2; test %d 3", op))
		checkEverywhere(t, "if count me "+sign+" sum it * 2 { destroy it; }", fmt.Sprintf("count me; sum it; push 2; mul; test %d 6; destroy it", op))
	})
}

// P14.1: blocks, with the indices of their instructions.
func TestBlocks(t *testing.T) {
	for _, c := range [][2]string{
		{"if 1 < 2 { }", "push 1; push 2; test 1 3"},
		{"if 1 < 2 { } else { }", "push 1; push 2; test 1 3"},
		{"if 1 < 2 { destroy me; }", "push 1; push 2; test 1 4; destroy me"},
		{"if 1 < 2 { destroy me; } else { }", "push 1; push 2; test 1 4; destroy me"},
		{"if 1 < 2 { } else { destroy me; }", "push 1; push 2; test 1 4; jump 5; destroy me"},
		{"if 1 < 2 { destroy me; } else { return me; }", "push 1; push 2; test 1 5; destroy me; jump 6; return me"},
		{"if 1 + 2 < 3 { draw mine 1; draw both 2; } else { return me; draw theirs 4; }",
			"push 1; push 2; add; push 3; test 1 10; push 1; draw 1; push 2; draw 3; jump 13; return me; push 4; draw 2"},
		{"each me { }", "each me 2; next 1"},
		{"each me { destroy it; }", "each me 3; destroy it; next 1"},
		{"each (mine here all) { power it 1; return it; } destroy me;", "each (mine here all) 5; push 1; power it; return it; next 1; destroy me"},
		{"each me { } each me { }", "each me 2; next 1; each me 4; next 3"},
		{"if 1 < 2 { if 3 < 4 { } }", "push 1; push 2; test 1 6; push 3; push 4; test 1 6"},
		{"if 1 < 2 { if 3 < 4 { } else { if 5 < 6 { } } } else { if 7 < 8 { } }",
			"push 1; push 2; test 1 11; push 3; push 4; test 1 7; jump 10; push 5; push 6; test 1 10; jump 14; push 7; push 8; test 1 14"},
		{"if 1 < 2 { } else { if 3 < 4 { } else { if 5 < 6 { } else { destroy me; } } }",
			"push 1; push 2; test 1 4; jump 13; push 3; push 4; test 1 8; jump 13; push 5; push 6; test 1 12; jump 13; destroy me"},
		{"if 1 < 2 { each me { } } else { each me { destroy it; } }", "push 1; push 2; test 1 6; each me 5; next 4; jump 9; each me 9; destroy it; next 7"},
		{"each me { if 1 < 2 { } else { return it; } }", "each me 7; push 1; push 2; test 1 5; jump 6; return it; next 1"},
		{"each me { if 1 < 2 { return it; } }", "each me 6; push 1; push 2; test 1 5; return it; next 1"},
		{"if 1 < 2 { shield me; } else { bar mine here; }", "push 1; push 2; test 1 5; shield me; jump 6; bar 1 1"},
		{"if 1 < 2 { double mine left; aura me 3; }", "push 1; push 2; test 1 6; double 1 2; push 3; aura me"},
	} {
		checkEverywhere(t, c[0], c[1])
	}
}
