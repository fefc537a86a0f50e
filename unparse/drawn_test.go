package unparse

import (
	"fmt"
	"math/rand"
	"slices"
	"strings"
	"testing"

	"trident/api"
	"trident/internal/grammar"
	"trident/syntax"
	"trident/tokens"
)

// shown writes a tree. An empty list is written as nil is.
func shown(tree any) string {
	return fmt.Sprintf("%+v", tree)
}

// P12.1: all exprs of operators at most three inside each other.

// trees returns all trees of operators at most that many inside each other. Their leaves
// are zero.
func trees(height int) []api.Expr {
	list := []api.Expr{{}}
	if height == 0 {
		return list
	}
	kids := trees(height - 1)
	for sign := api.Plus; sign <= api.Times; sign++ {
		for _, l := range kids {
			for _, r := range kids {
				list = append(list, bin(sign, l, r))
			}
		}
	}
	return list
}

// leaves are exprs without operators.
var leaves = []string{"1", "-2", "round", "-3", "hand mine", "4", "free both lane 1", "count (mine here all)"}

// told returns the tree with leaves, and its form. That is found by trial: with none, one
// and both of the operands in parentheses, the first text that is read as the tree.
func told(t *testing.T, e api.Expr, next *int) (api.Expr, string) {
	t.Helper()
	if e.Kind != api.EBin {
		s := leaves[*next%len(leaves)]
		*next++
		return parse(t, "a leaf", s, syntax.Expr), s
	}
	l, left := told(t, e.Kids[0], next)
	r, right := told(t, e.Kids[1], next)
	e = bin(e.N, l, r)
	sign := []string{" + ", " - ", " * "}[e.N-1]
	for _, s := range []string{
		left + sign + right, "(" + left + ")" + sign + right, left + sign + "(" + right + ")", "(" + left + ")" + sign + "(" + right + ")",
	} {
		if shown(parse(t, "an expr", s, syntax.Expr)) == shown(e) {
			return e, s
		}
	}
	t.Fatalf("%q and %q make no expr", left, right)
	return e, ""
}

func TestAllExprsOfThreeLevels(t *testing.T) {
	all := trees(3)
	if len(all) != 1+3*49*49 {
		t.Fatalf("there are %d trees", len(all))
	}
	for i, tree := range all {
		next := i
		e, want := told(t, tree, &next)
		checkText(t, "an expr", Expr(e), want)
		if t.Failed() {
			return
		}
	}
}

// P12.1: texts that are drawn as their own forms.

// canonical is the grammar of the forms: its exprs have the parentheses that they need,
// its ifs no empty else, its numbers no mark - before 0, and it has locations behind
// cards alone.
func canonical() grammar.Grammar {
	text := strings.Replace(grammar.Cards, `[ "else" block ]`, `[ "else" < "{" act { act } "}" > ]`, 1)
	return grammar.Read(text + `
file = { card } { place } ;
expr = product { "+" term | "-" term } ;
term = product | < "(" sum ")" > ;
sum = product "+" term { "+" term | "-" term } | product "-" term { "+" term | "-" term } ;
product = leaf | leaf "*" tail { "*" tail } | < "(" sum ")" > "*" tail { "*" tail } ;
tail = leaf | < "(" sum ")" > | < "(" many ")" > ;
many = leaf "*" tail { "*" tail } | < "(" sum ")" > "*" tail { "*" tail } ;
leaf = signed | "count" sel | "sum" sel | "round" | "hand" side | "free" side to ;
signed = INT | NEGATIVE ;
`)
}

// spaced returns the text of tokens with the spaces of a form.
func spaced(list []string) string {
	return strings.NewReplacer(" ;", ";", " )", ")", "( ", "(").Replace(strings.Join(list, " "))
}

// checkOwn checks that a text is its own form, and reports whether it could: not if it is
// too deep to be parsed.
func checkOwn[T any](t *testing.T, s string, read func(string) (T, api.Fault), write func(T) string) bool {
	t.Helper()
	tree, fault := read(s)
	switch fault.E {
	case api.OK:
		checkText(t, "a drawn text", write(tree), s)
		return true
	case api.ErrDepth:
		return false
	default:
		t.Fatalf("%q has the fault %v", s, fault)
		return false
	}
}

func TestDrawnForms(t *testing.T) {
	g := canonical()
	draws := rand.New(rand.NewSource(12))
	exprs, acts := 0, 0
	for n := range 6000 {
		room, deep := n%60, n%5
		if checkOwn(t, spaced(g.Draw("expr", draws.Intn, room, deep)), syntax.Expr, Expr) {
			exprs++
		}
		if checkOwn(t, spaced(g.Draw("acts", draws.Intn, room, deep)), syntax.Acts, Acts) {
			acts++
		}
		if t.Failed() {
			return
		}
	}
	if exprs < 3000 || acts < 4000 {
		t.Errorf("only %d exprs and %d acts are not too deep", exprs, acts)
	}
}

func TestDrawnFormsOfFiles(t *testing.T) {
	g := canonical()
	draws := rand.New(rand.NewSource(121))
	own := 0
	for n := range 3000 {
		var lines strings.Builder
		for range n % 4 {
			lines.WriteString(spaced(g.Draw("card", draws.Intn, n%100, n%4)) + "\n")
		}
		for range n % 3 {
			lines.WriteString(spaced(g.Draw("place", draws.Intn, n%100, n%4)) + "\n")
		}
		if checkOwn(t, lines.String(), syntax.Parse, File) {
			own++
		}
		if t.Failed() {
			return
		}
	}
	if own < 1500 {
		t.Errorf("only %d files are not too deep", own)
	}
}

// P12.3: drawn texts.

// fileOf returns a file with the acts.
func fileOf(acts []api.Act) api.File {
	return api.File{Cards: []api.Card{{Rules: []api.Rule{{Acts: acts}}}}}
}

// actsOf returns acts with the expr.
func actsOf(e api.Expr) []api.Act {
	return []api.Act{{Num: e}}
}

// checkBack checks that a form is parsed to the same tree, except for positions, whose
// form is the same text; in a file the tree is what file makes of it.
func checkBack[T any](t *testing.T, tree T, read func(string) (T, api.Fault), write func(T) string, file func(T) api.File) {
	t.Helper()
	s := write(tree)
	again := parse(t, "a form", s, read)
	if got, want := shown(Strip(file(again))), shown(Strip(file(tree))); got != want {
		t.Fatalf("the form %q is parsed to\n%s, want\n%s", s, got, want)
	}
	checkText(t, "the form of a form", write(again), s)
	checkSpaces(t, s)
	checkParentheses(t, s, shown(Strip(file(tree))), func(s string) string {
		tree, _ := read(s)
		return shown(Strip(file(tree)))
	})
}

// toks returns the tokens of a text, but not the end, each as it stands there.
func toks(t *testing.T, s string) []string {
	t.Helper()
	list, fault := tokens.Scan(s)
	if fault.E != api.OK {
		t.Fatalf("%q has the fault %v", s, fault)
	}
	var texts []string
	for _, tok := range list[:len(list)-1] {
		if tok.Kind == api.TName {
			tok.Text = "\"" + tok.Text + "\""
		}
		texts = append(texts, tok.Text)
	}
	return texts
}

// checkSpaces checks the spaces of a form, but not those behind a mark -, which may be a
// sign.
func checkSpaces(t *testing.T, s string) {
	t.Helper()
	want := strings.ReplaceAll(spaced(toks(t, s)), "- ", "-")
	checkText(t, "the spaces of a form", strings.ReplaceAll(strings.TrimSuffix(strings.ReplaceAll(s, "\n", " "), " "), "- ", "-"), want)
}

// checkParentheses checks that a form needs each of its parentheses to be read as the tree
// that it is of, and that no else of it is empty.
func checkParentheses(t *testing.T, s, tree string, read func(string) string) {
	t.Helper()
	if strings.Contains(s, "else { }") {
		t.Errorf("%q has an empty else", s)
	}
	list := toks(t, s)
	var open []int
	for i, text := range list {
		switch text {
		case "(":
			open = append(open, i)
		case ")":
			first := open[len(open)-1]
			open = open[:len(open)-1]
			if slices.Contains(sides, list[first+1]) {
				continue // these belong to a sel
			}
			without := slices.Concat(list[:first], list[first+1:i], list[i+1:])
			if read(strings.Join(without, " ")) == tree {
				t.Errorf("%q does not need the parentheses of its tokens %d and %d", s, first, i)
			}
		}
	}
}

func TestDrawnTextsAndBack(t *testing.T) {
	g := grammar.Read(grammar.Cards)
	draws := rand.New(rand.NewSource(122))
	parsed := map[string]int{}
	for n := range 3000 {
		room, deep := n%50, n%8
		draw := func(symbol string) string {
			return strings.Join(g.Draw(symbol, draws.Intn, room, deep), " ")
		}
		if e, fault := syntax.Expr(draw("expr")); fault.E == api.OK {
			parsed["exprs"]++
			checkBack(t, e, syntax.Expr, Expr, func(e api.Expr) api.File { return fileOf(actsOf(e)) })
		}
		if list, fault := syntax.Acts(draw("acts")); fault.E == api.OK {
			parsed["acts"]++
			checkBack(t, list, syntax.Acts, Acts, fileOf)
		}
		if f, fault := syntax.Parse(draw("file")); fault.E == api.OK {
			parsed["files"]++
			checkBack(t, f, syntax.Parse, File, func(f api.File) api.File { return f })
		}
		if t.Failed() {
			return
		}
	}
	if parsed["exprs"] < 2000 || parsed["acts"] < 2000 || parsed["files"] < 2000 {
		t.Errorf("of the drawn texts these numbers have no fault: %v", parsed)
	}
}

// P12.3: the texts of the other tests.
func TestTextsAndBack(t *testing.T) {
	for _, c := range exprs {
		checkBack(t, parse(t, c.what, c.s, syntax.Expr), syntax.Expr, Expr, func(e api.Expr) api.File { return fileOf(actsOf(e)) })
	}
	for _, c := range acts {
		checkBack(t, parse(t, c.what, c.s, syntax.Acts), syntax.Acts, Acts, fileOf)
	}
	for _, c := range files {
		checkBack(t, parse(t, c.what, c.s, syntax.Parse), syntax.Parse, File, func(f api.File) api.File { return f })
	}
}
