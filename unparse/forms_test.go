package unparse

import (
	"fmt"
	"strconv"
	"strings"
	"testing"

	"trident/api"
	"trident/syntax"
)

// parse returns the tree of a text that has no fault.
func parse[T any](t *testing.T, what, s string, read func(string) (T, api.Fault)) T {
	t.Helper()
	tree, fault := read(s)
	if fault != (api.Fault{}) {
		t.Fatalf("%s: %.300q has the fault %v", what, s, fault)
	}
	return tree
}

// checkText checks a text that was written.
func checkText(t *testing.T, what, got, want string) {
	t.Helper()
	if got != want {
		t.Errorf("%s: it is\n%.3000s\nwant\n%.3000s", what, got, want)
	}
}

// checkExpr checks the form of an expr, that it is its own form, and that it stands so in
// what has an expr.
func checkExpr(t *testing.T, what, s, form string) {
	t.Helper()
	checkText(t, what, Expr(parse(t, what, s, syntax.Expr)), form)
	checkText(t, what+", from its form", Expr(parse(t, what, form, syntax.Expr)), form)
	line := s + "\n" // s may end with a comment
	checkActs(t, what+", in acts", "power it "+line+";if "+line+"<"+line+"{}draw both "+line+";",
		"power it "+form+"; if "+form+" < "+form+" { } draw both "+form+";")
}

// checkActs checks the form of acts, that it is its own form, and that they stand so in
// what has acts.
func checkActs(t *testing.T, what, s, form string) {
	t.Helper()
	checkText(t, what, Acts(parse(t, what, s, syntax.Acts)), form)
	checkText(t, what+", from its form", Acts(parse(t, what, form, syntax.Acts)), form)
	line, block := s+"\n", "{ "+form+" }"
	if form == "" {
		block = "{ }"
	}
	checkFile(t, what+", in rules", "place\"A\"{end{"+line+"}}card\"B\"cost 1power 2{reveal{"+line+"}moved{"+line+"}}",
		"card \"B\" cost 1 power 2 { reveal "+block+" moved "+block+" }\nplace \"A\" { end "+block+" }\n")
}

// checkFile checks the form of a file, that it is its own form, and that it is made of the
// forms of its cards and locations.
func checkFile(t *testing.T, what, s, form string) {
	t.Helper()
	file := parse(t, what, s, syntax.Parse)
	checkText(t, what, File(file), form)
	checkText(t, what+", from its form", File(parse(t, what, form, syntax.Parse)), form)
	var lines strings.Builder
	for _, c := range file.Cards {
		lines.WriteString(Card(c) + "\n")
	}
	for _, p := range file.Places {
		lines.WriteString(Place(p) + "\n")
	}
	checkText(t, what+", card by card", lines.String(), form)
}

// P12.1: trees as they are, whoever made them.

var (
	me    = api.Sel{Kind: api.SelMe}
	it    = api.Sel{Kind: api.SelIt}
	here  = api.To{Kind: api.ToHere}
	left  = api.To{Kind: api.ToLeft}
	lane3 = api.To{Kind: api.ToLane, Lane: 3}
	round = api.Expr{Kind: api.ERound}
)

func num(n int) api.Expr {
	return api.Expr{Kind: api.ENum, N: n}
}

func bin(sign int, kids ...api.Expr) api.Expr {
	return api.Expr{Kind: api.EBin, N: sign, Kids: kids}
}

var someSel = api.Sel{Kind: api.SelAll, Side: api.Both, Where: api.InLane, Lane: 2, Pick: api.Weakest, Filters: []api.Filter{
	{Kind: api.FCost, Op: api.Le, N: 3}, {Kind: api.FPower, Op: api.Ne, N: -2}, {Kind: api.FNamed, Name: "Dust Cat"}, {Kind: api.FNotMe}, {Kind: api.FNotIt},
}}

func TestSelOfATree(t *testing.T) {
	for _, c := range []struct {
		sel  api.Sel
		want string
	}{
		{me, "me"},
		{it, "it"},
		{api.Sel{Kind: api.SelAll, Side: api.Mine, Where: api.Here, Pick: api.All}, "(mine here all)"},
		{someSel, "(both lane 2 cost <= 3 power != -2 named \"Dust Cat\" not me not it weakest)"},
	} {
		checkText(t, "a sel", Sel(c.sel), c.want)
		checkText(t, "a sel of an expr", Expr(api.Expr{Kind: api.ECount, Sel: c.sel}), "count "+c.want)
		checkText(t, "a sel of an act", Acts([]api.Act{{Kind: api.AShield, Sel: c.sel}}), "shield "+c.want+";")
	}
}

func TestExprOfATree(t *testing.T) {
	for _, c := range []struct {
		expr api.Expr
		want string
	}{
		{num(0), "0"},
		{num(-2), "-2"},
		{round, "round"},
		{api.Expr{Kind: api.ECount, Sel: me}, "count me"},
		{api.Expr{Kind: api.ESum, Sel: someSel}, "sum (both lane 2 cost <= 3 power != -2 named \"Dust Cat\" not me not it weakest)"},
		{api.Expr{Kind: api.EHand, Side: api.Theirs}, "hand theirs"},
		{api.Expr{Kind: api.EFree, Side: api.Mine, To: lane3}, "free mine lane 3"},
		{api.Expr{Kind: api.EFree, Side: api.Both, To: left}, "free both left"},
		{bin(api.Plus, num(1), num(-2)), "1 + -2"},
		{bin(api.Minus, num(-1), round), "-1 - round"},
		{bin(api.Times, round, num(2)), "round * 2"},
		{bin(api.Minus, num(1), bin(api.Times, bin(api.Minus, num(2), num(3)), num(4))), "1 - (2 - 3) * 4"},
		{bin(api.Minus, bin(api.Plus, num(1), num(2)), bin(api.Plus, num(3), num(4))), "1 + 2 - (3 + 4)"},
		{bin(api.Times, bin(api.Times, num(1), num(2)), bin(api.Times, num(3), num(4))), "1 * 2 * (3 * 4)"},
	} {
		checkText(t, "an expr", Expr(c.expr), c.want)
	}
}

func TestActsOfATree(t *testing.T) {
	list := []api.Act{
		{Kind: api.APower, Sel: me, Num: num(-2)},
		{Kind: api.ASet, Sel: it, Num: round},
		{Kind: api.ADestroy, Sel: me},
		{Kind: api.AMove, Sel: it, To: left},
		{Kind: api.AReturn, Sel: me},
		{Kind: api.ASpawn, Name: "Hound", Side: api.Mine, To: here, Num: num(3)},
		{Kind: api.ADraw, Side: api.Mine, Num: num(1)},
		{Kind: api.ADiscard, Side: api.Theirs, How: api.HCostliest},
		{Kind: api.AEnergy, Side: api.Both, Num: bin(api.Plus, num(1), num(2))},
		{Kind: api.AIf, Cond: api.Cond{Op: api.Lt, L: num(1), R: round}, Then: []api.Act{{Kind: api.ADestroy, Sel: it}}},
		{Kind: api.AIf, Cond: api.Cond{Op: api.Ge, L: num(1), R: round}, Else: []api.Act{{Kind: api.ADestroy, Sel: it}, {Kind: api.ADestroy, Sel: me}}},
		{Kind: api.AEach, Sel: someSel, Then: []api.Act{{Kind: api.AShield, Sel: it}, {Kind: api.AEach, Sel: me, Then: []api.Act{}}}},
		{Kind: api.AAura, Sel: me, Num: num(1)},
		{Kind: api.ADouble, Side: api.Mine, To: here},
		{Kind: api.AShield, Sel: me},
		{Kind: api.ABar, Side: api.Both, To: lane3},
	}
	want := []string{
		"power me -2;",
		"set it round;",
		"destroy me;",
		"move it left;",
		"return me;",
		"spawn \"Hound\" mine here 3;",
		"draw mine 1;",
		"discard theirs costliest;",
		"energy both 1 + 2;",
		"if 1 < round { destroy it; }",
		"if 1 >= round { } else { destroy it; destroy me; }",
		"each (both lane 2 cost <= 3 power != -2 named \"Dust Cat\" not me not it weakest) { shield it; each me { } }",
		"aura me 1;",
		"double mine here;",
		"shield me;",
		"bar both lane 3;",
	}
	for i := range list {
		checkText(t, "an act", Acts(list[i:i+1]), want[i])
	}
	checkText(t, "acts", Acts(list), strings.Join(want, " "))
	checkText(t, "no acts", Acts(nil), "")
	checkText(t, "an empty list of acts", Acts([]api.Act{}), "")
	card := api.Card{Name: "Wild Hunt", Cost: 5, Power: -5, Rules: []api.Rule{{When: api.WReveal, Acts: list}, {When: api.WAlways, Stratum: 3}}}
	checkText(t, "a card", Card(card), "card \"Wild Hunt\" cost 5 power -5 { reveal { "+strings.Join(want, " ")+" } always 3 { } }")
	place := api.Place{Name: "Old Mill", Rules: card.Rules[1:]}
	checkText(t, "a location", Place(place), "place \"Old Mill\" { always 3 { } }")
	checkText(t, "a file", File(api.File{Cards: []api.Card{card, {Name: "A"}}, Places: []api.Place{place, {Name: "B"}}}),
		Card(card)+"\ncard \"A\" cost 0 power 0 { }\n"+Place(place)+"\nplace \"B\" { }\n")
	checkText(t, "an empty file", File(api.File{}), "")
}

// Positions are in no form.
func TestPositionsAreNotWritten(t *testing.T) {
	act := api.Act{Kind: api.ADestroy, Line: 7, Col: 8, Sel: me}
	rules := []api.Rule{{When: api.WEnd, Line: 5, Col: 6, Acts: []api.Act{act}}}
	checkText(t, "an act", Acts([]api.Act{act}), "destroy me;")
	checkText(t, "a card", Card(api.Card{Name: "A", Line: 3, Col: 4, Rules: rules}), "card \"A\" cost 0 power 0 { end { destroy me; } }")
	checkText(t, "a location", Place(api.Place{Name: "A", Line: 3, Col: 4, Rules: rules}), "place \"A\" { end { destroy me; } }")
}

// P12.1: the forms of texts.

var exprs = []struct{ what, s, form string }{
	{"a number", "\t3 # so", "3"},
	{"0", "0", "0"},
	{"-0", "-0", "0"},
	{"the greatest number", "99", "99"},
	{"the least number", "- 99", "-99"},
	{"a negative number on two lines", "-\n7", "-7"},
	{"no blanks", "1+2", "1 + 2"},
	{"many blanks", " 1\n\n  +\t2 ", "1 + 2"},

	{"a negative number on the right of a difference", "1--2", "1 - -2"},
	{"on the right of a sum", "1+-2", "1 + -2"},
	{"on the right of a product", "1*-2", "1 * -2"},
	{"on the left of a difference", "-1-2", "-1 - 2"},
	{"on the left of a sum", "-1+2", "-1 + 2"},
	{"on the left of a product", "-1*2", "-1 * 2"},
	{"on both sides", "-1*-2--3+-4", "-1 * -2 - -3 + -4"},
	{"in parentheses", "1-(-2)", "1 - -2"},
	{"in parentheses that are needed", "1-(-2-3)", "1 - (-2 - 3)"},
	{"at the end of parentheses that are needed", "1-(2--3)", "1 - (2 - -3)"},

	{"the chapter's second example", "(1)", "1"},
	{"the chapter's first example", "1 - (2 - 3) * 4", "1 - (2 - 3) * 4"},
	{"parentheses around all", "((1+2))", "1 + 2"},
	{"as many parentheses as there may be", "((((((((1))))))))", "1"},
	{"parentheses around each operand", "(1)*(2)-(3)", "1 * 2 - 3"},

	{"a sum left of a sum", "(1 + 2) + 3", "1 + 2 + 3"},
	{"a sum left of a difference", "(1 + 2) - 3", "1 + 2 - 3"},
	{"a sum left of a product", "(1 + 2) * 3", "(1 + 2) * 3"},
	{"a difference left of a sum", "(1 - 2) + 3", "1 - 2 + 3"},
	{"a difference left of a difference", "(1 - 2) - 3", "1 - 2 - 3"},
	{"a difference left of a product", "(1 - 2) * 3", "(1 - 2) * 3"},
	{"a product left of a sum", "(1 * 2) + 3", "1 * 2 + 3"},
	{"a product left of a difference", "(1 * 2) - 3", "1 * 2 - 3"},
	{"a product left of a product", "(1 * 2) * 3", "1 * 2 * 3"},
	{"a sum right of a sum", "1 + (2 + 3)", "1 + (2 + 3)"},
	{"a sum right of a difference", "1 - (2 + 3)", "1 - (2 + 3)"},
	{"a sum right of a product", "1 * (2 + 3)", "1 * (2 + 3)"},
	{"a difference right of a sum", "1 + (2 - 3)", "1 + (2 - 3)"},
	{"a difference right of a difference", "1 - (2 - 3)", "1 - (2 - 3)"},
	{"a difference right of a product", "1 * (2 - 3)", "1 * (2 - 3)"},
	{"a product right of a sum", "1 + (2 * 3)", "1 + 2 * 3"},
	{"a product right of a difference", "1 - (2 * 3)", "1 - 2 * 3"},
	{"a product right of a product", "1 * (2 * 3)", "1 * (2 * 3)"},

	{"parentheses behind each other", "(1+2)*(3-4)", "(1 + 2) * (3 - 4)"},
	{"parentheses at the beginning of parentheses", "((1+2)*3+4)*5", "((1 + 2) * 3 + 4) * 5"},
	{"parentheses at the end of parentheses", "1*(2+3*(4+5))", "1 * (2 + 3 * (4 + 5))"},
	{"sums on the right, as deep as they may be", "1-(2-(3-(4-(5-(6-(7-(8-(9-10))))))))", "1 - (2 - (3 - (4 - (5 - (6 - (7 - (8 - (9 - 10))))))))"},
	{"products on the right", "1*(2*(3*4))", "1 * (2 * (3 * 4))"},
	{"sums on the left", "((1+2)*3+4)*5+6", "((1 + 2) * 3 + 4) * 5 + 6"},

	{"operands of all kinds", "count me+sum(mine here all)*round-hand both*free theirs lane 1*count it",
		"count me + sum (mine here all) * round - hand both * free theirs lane 1 * count it"},
	{"operands of all kinds in parentheses", "(count me)-(sum(mine here all))*(round)*(hand both)-(free theirs lane 1)",
		"count me - sum (mine here all) * round * hand both - free theirs lane 1"},
	{"a sel at the beginning of parentheses", "(count(mine here all)+1)*2", "(count (mine here all) + 1) * 2"},
	{"a sel at the end of parentheses", "2*(1+count(mine here all))", "2 * (1 + count (mine here all))"},
	{"parentheses behind a sel", "sum me*(1+2)", "sum me * (1 + 2)"},
	{"a number behind that of a lane", "free mine lane 3-2", "free mine lane 3 - 2"},
	{"a negative number behind that of a lane", "free mine lane 3*-2", "free mine lane 3 * -2"},
}

func TestFormsOfExprs(t *testing.T) {
	for _, c := range exprs {
		checkExpr(t, c.what, c.s, c.form)
	}
}

var acts = []struct{ what, s, form string }{
	{"no acts", "", ""},
	{"blanks and a comment alone", " # destroy me;\n", ""},
	{"an act", " destroy  me ;", "destroy me;"},
	{"acts", "destroy me;shield it ;\n\ndestroy me;", "destroy me; shield it; destroy me;"},
	{"a negative number behind a sel", "power me-2;set it - 3;aura(mine here all)-4;", "power me -2; set it -3; aura (mine here all) -4;"},
	{"a negative number behind a side and a lane", "draw mine-1;spawn\"A\"both lane 2-1;", "draw mine -1; spawn \"A\" both lane 2 -1;"},
	{"parentheses behind a sel", "power me(1+2)*3;set(mine here all)(1+2)*3;", "power me (1 + 2) * 3; set (mine here all) (1 + 2) * 3;"},
	{"parentheses at the end", "power me 3*(1+2);", "power me 3 * (1 + 2);"},
	{"parentheses that are not needed", "power me(-2);draw mine((1));", "power me -2; draw mine 1;"},
	{"a comment behind each token", "spawn#\n\"A\"# so\nmine#\nlane#\n1#\n-#\n2#\n;#", "spawn \"A\" mine lane 1 -2;"},

	{"an empty if", "if 1<2{}", "if 1 < 2 { }"},
	{"if", "if 1<2{destroy me;shield it;}", "if 1 < 2 { destroy me; shield it; }"},
	{"if and an empty else", "if 1<2{destroy me;}else{}", "if 1 < 2 { destroy me; }"},
	{"an empty if and an empty else", "if 1<2{}else{ # so\n}", "if 1 < 2 { }"},
	{"if and else", "if 1<2{destroy me;}else{shield it;destroy me;}", "if 1 < 2 { destroy me; } else { shield it; destroy me; }"},
	{"an empty if and else", "if 1<2{}else{shield it;}", "if 1 < 2 { } else { shield it; }"},
	{"an empty else behind an else", "if 1<2{if 3<4{}else{shield it;}}else{}", "if 1 < 2 { if 3 < 4 { } else { shield it; } }"},
	{"an else behind an empty else", "if 1<2{if 3<4{}else{}}else{shield it;}", "if 1 < 2 { if 3 < 4 { } } else { shield it; }"},
	{"an empty else in an else", "if 1<2{}else{if 3<4{}else{}}", "if 1 < 2 { } else { if 3 < 4 { } }"},
	{"else in else", "if 1<2{}else{if 3<4{}else{shield it;}shield me;}", "if 1 < 2 { } else { if 3 < 4 { } else { shield it; } shield me; }"},
	{"if behind if", "if 1<2{}if 3<4{}else{}if 5<6{}", "if 1 < 2 { } if 3 < 4 { } if 5 < 6 { }"},
	{"conds", "if-1<-2{}if(1+2)*3>=4-(5-6){}if(1)!=((2)){}", "if -1 < -2 { } if (1 + 2) * 3 >= 4 - (5 - 6) { } if 1 != 2 { }"},
	{"parentheses around a cond's exprs", "if(1+2)=(3*4){}", "if 1 + 2 = 3 * 4 { }"},

	{"an empty each", "each me{}", "each me { }"},
	{"each", "each(mine here all){power it 1;shield it;}", "each (mine here all) { power it 1; shield it; }"},
	{"each in each", "each me{each it{}each it{shield me;}}", "each me { each it { } each it { shield me; } }"},
	{"an act behind each", "each me{}destroy me;", "each me { } destroy me;"},
	{"blocks as deep as they may be", strings.Repeat("each it{", 8) + strings.Repeat("}", 8),
		strings.Repeat("each it { ", 8) + strings.TrimSuffix(strings.Repeat("} ", 8), " ")},
}

func TestFormsOfActs(t *testing.T) {
	for _, c := range acts {
		checkActs(t, c.what, c.s, c.form)
	}
}

var files = []struct{ what, s, form string }{
	{"the empty text", "", ""},
	{"a comment alone", "# card", ""},
	{"a card without rules", "card\"A\"cost 0power 0{}", "card \"A\" cost 0 power 0 { }\n"},
	{"a negative power", "card\"A\"cost 9power-20{}", "card \"A\" cost 9 power -20 { }\n"},
	{"a power of -0", "card\"A\"cost 9power-0{}", "card \"A\" cost 9 power 0 { }\n"},
	{"a location without rules", "place\"Old Mill\"{}", "place \"Old Mill\" { }\n"},
	{"cards and locations, in order", "place\"D\"{}card\"B\"cost 1power 2{}place\"C\"{}card\"A\"cost 3power 4{}card\"B\"cost 5power 6{}",
		"card \"B\" cost 1 power 2 { }\ncard \"A\" cost 3 power 4 { }\ncard \"B\" cost 5 power 6 { }\nplace \"D\" { }\nplace \"C\" { }\n"},
	{"rules without acts", "card\"A\"cost 1power 2{reveal{}death{}always 1{}}place\"B\"{enter{}end{}}",
		"card \"A\" cost 1 power 2 { reveal { } death { } always 1 { } }\nplace \"B\" { enter { } end { } }\n"},
	{"names", "card\"Éé-O'Dea 7\"cost 1power 2{}place\"place\"{}card\"card\"cost 1power 1{}",
		"card \"Éé-O'Dea 7\" cost 1 power 2 { }\ncard \"card\" cost 1 power 1 { }\nplace \"place\" { }\n"},
	{"the longest name", "place\"" + strings.Repeat("é", 24) + "\"{}", "place \"" + strings.Repeat("é", 24) + "\" { }\n"},
	{"the first example of the whole",
		"card \"Wild Hunt\" cost 5 power 5 {\n\treveal {\n\t\tspawn \"Hound\" mine left 3;\n\t\tspawn \"Hound\" mine here 3;\n\t\tspawn \"Hound\" mine right 3;\n\t}\n}\n",
		"card \"Wild Hunt\" cost 5 power 5 { reveal { spawn \"Hound\" mine left 3; spawn \"Hound\" mine here 3; spawn \"Hound\" mine right 3; } }\n"},
	{"what lint would not let be", "card\"A\"cost 99power-99{enter{bar mine lane 0;}always 0{draw mine 1;}always 99{}}card\"A\"cost 0power 0{}",
		"card \"A\" cost 99 power -99 { enter { bar mine lane 0; } always 0 { draw mine 1; } always 99 { } }\ncard \"A\" cost 0 power 0 { }\n"},
}

func TestFormsOfFiles(t *testing.T) {
	for _, c := range files {
		checkFile(t, c.what, c.s, c.form)
	}
}

// P12.1: every word and every number that stands in a text.

var (
	sides  = []string{"mine", "theirs", "both"}
	wheres = []string{"here", "away", "lane 2", "anywhere"}
	picks  = []string{"all", "first", "last", "weakest", "strongest"}
	ops    = []string{"<", "<=", "=", "!=", ">=", ">"}
	tos    = []string{"here", "left", "right", "lane 1"}
	hows   = []string{"first", "last", "cheapest", "costliest"}
)

// sels are the texts of sels of each kind, without and with filters.
func sels() []string {
	list := []string{"me", "it"}
	for _, side := range sides {
		for _, where := range wheres {
			for _, pick := range picks {
				list = append(list, "("+side+" "+where+" "+pick+")")
			}
		}
	}
	for _, op := range ops {
		list = append(list, "(mine here cost "+op+" 3 all)", "(both away power "+op+" -3 first)")
		list = append(list, "(theirs lane 3 power "+op+" 0 cost "+op+" -99 last)")
	}
	return append(list, "(mine here not me all)", "(mine here not it all)", "(mine here named \"Lamp Moth\" all)",
		"(mine anywhere not it power != -3 named \"me\" cost = 0 not me strongest)", "(both lane 0"+strings.Repeat(" not me", 40)+" all)")
}

func TestEverySel(t *testing.T) {
	for _, s := range sels() {
		checkText(t, "a sel", Sel(parse(t, "count", "count "+s, syntax.Expr).Sel), s)
		checkExpr(t, "count and sum", "count "+s+" - sum "+s, "count "+s+" - sum "+s)
		for _, word := range []string{"power", "set", "aura"} {
			own := word + " " + s + " -2; " + word + " " + s + " 2;"
			checkActs(t, word, own, own)
		}
		for _, word := range []string{"destroy", "return", "shield"} {
			checkActs(t, word, word+" "+s+";", word+" "+s+";")
		}
		checkActs(t, "move", "move "+s+" left;", "move "+s+" left;")
		checkActs(t, "each", "each "+s+" { }", "each "+s+" { }")
	}
}

func TestEverySideLaneAndHow(t *testing.T) {
	for _, side := range sides {
		own := "draw " + side + " hand " + side + "; energy " + side + " 1;"
		checkActs(t, "a side", own, own)
		for _, how := range hows {
			checkActs(t, "a how", "discard "+side+" "+how+";", "discard "+side+" "+how+";")
		}
		for _, to := range tos {
			own := "move me " + to + "; double " + side + " " + to + "; bar " + side + " " + to + "; spawn \"A\" " + side + " " + to + " free " + side + " " + to + ";"
			checkActs(t, "a lane", own, own)
		}
	}
}

func TestEveryOpAndWhen(t *testing.T) {
	for _, op := range ops {
		checkActs(t, "a cond", "if 1"+op+"2{}", "if 1 "+op+" 2 { }")
		checkActs(t, "a cond of negative numbers", "if -1"+op+"-2{}", "if -1 "+op+" -2 { }")
	}
	whens := []string{"reveal", "death", "moved", "end", "enter", "always 0", "always 1", "always 2", "always 3", "always 99"}
	for _, when := range whens {
		for _, next := range whens {
			rules := " { " + when + " { } " + next + " { shield it; } }\n"
			checkFile(t, "rules", "card \"A\" cost 1 power 2"+rules+"place \"A\""+rules, "card \"A\" cost 1 power 2"+rules+"place \"A\""+rules)
		}
	}
}

func TestEveryNumber(t *testing.T) {
	for n := range 100 {
		plus, minus := strconv.Itoa(n), strconv.Itoa(-n)
		checkExpr(t, "a number", plus, plus)
		checkExpr(t, "a negative number", minus, minus)
		checkExpr(t, "numbers of lanes", "free mine lane "+plus+" + sum (mine lane "+plus+" all)", "free mine lane "+plus+" + sum (mine lane "+plus+" all)")
		filters := fmt.Sprintf("count (mine here cost < %d power > %d cost = %d all)", n, -n, -n)
		checkExpr(t, "numbers of filters", filters, filters)
		card := fmt.Sprintf("card \"A\" cost %d power %d { always %d { } }\ncard \"A\" cost %d power %d { }\n", n, n, n, n, -n)
		checkFile(t, "numbers of a card", card, card)
	}
}

// P12.1: the forms of the longest texts; some of these are too long to be parsed again.
func TestFormsOfTheLongestTexts(t *testing.T) {
	const longest = 65536
	for _, c := range []struct{ s, form string }{
		{"1-", "1 - "}, {"1+", "1 + "}, {"1*", "1 * "}, {"round*2-", "round * 2 - "}, {"(1-2)*", "(1 - 2) * "}, {"2-(1-2)*", "2 - (1 - 2) * "},
	} {
		n := longest/len(c.s) - 1
		expr := parse(t, "a long expr", strings.Repeat(c.s, n)+"1", syntax.Expr)
		checkText(t, "a long expr", Expr(expr), strings.Repeat(c.form, n)+"1")
	}
	for _, c := range []struct{ s, form string }{
		{"draw mine 1;", "draw mine 1; "}, {"if 1<2{}else{shield it;}", "if 1 < 2 { } else { shield it; } "}, {"each it{}", "each it { } "},
	} {
		n := longest / len(c.s)
		list := parse(t, "long acts", strings.Repeat(c.s, n), syntax.Acts)
		checkText(t, "long acts", Acts(list), strings.TrimSuffix(strings.Repeat(c.form, n), " "))
	}
	n := longest / len("place\"A\"{}")
	file := parse(t, "a long file", strings.Repeat("place\"A\"{}", n), syntax.Parse)
	checkText(t, "a long file", File(file), strings.Repeat("place \"A\" { }\n", n))
}
