package syntax

import (
	"fmt"
	"slices"
	"strings"
	"testing"

	"trident/api"
)

// longest is the number of bytes of the longest text.
const longest = 65536

// deepest is the number of blocks and parentheses that may be inside each other.
const deepest = 8

// at returns the fault e at that position.
func at(e api.Errno, line, col int) api.Fault {
	return api.Fault{E: e, Line: line, Col: col}
}

// shown writes a tree. An empty list is written as nil is.
func shown(tree any) string {
	return fmt.Sprintf("%+v", tree)
}

// checkTree checks that a text is parsed to that tree.
func checkTree[T any](t *testing.T, what, s string, parse func(string) (T, api.Fault), want T) {
	t.Helper()
	got, fault := parse(s)
	if fault != (api.Fault{}) {
		t.Errorf("%s: %.200q has the fault %v", what, s, fault)
	} else if shown(got) != shown(want) {
		t.Errorf("%s: %.200q is\n%.2000s, want\n%.2000s", what, s, shown(got), shown(want))
	}
}

// checkFault checks that a text has that fault, and that the tree beside it is zero.
func checkFault[T any](t *testing.T, what, s string, parse func(string) (T, api.Fault), want api.Fault) {
	t.Helper()
	got, fault := parse(s)
	if fault != want {
		t.Errorf("%s: %.200q has the fault %v, want %v", what, s, fault, want)
	}
	var none T
	if want != (api.Fault{}) && shown(got) != shown(none) {
		t.Errorf("%s: beside the fault of %.200q is %.2000s", what, s, shown(got))
	}
}

// The trees, as the tests write them.

func num(n int) api.Expr {
	return api.Expr{Kind: api.ENum, N: n}
}

func count(sel api.Sel) api.Expr {
	return api.Expr{Kind: api.ECount, Sel: sel}
}

func sum(sel api.Sel) api.Expr {
	return api.Expr{Kind: api.ESum, Sel: sel}
}

func hand(side int) api.Expr {
	return api.Expr{Kind: api.EHand, Side: side}
}

func free(side int, to api.To) api.Expr {
	return api.Expr{Kind: api.EFree, Side: side, To: to}
}

func plus(left, right api.Expr) api.Expr {
	return api.Expr{Kind: api.EBin, N: api.Plus, Kids: []api.Expr{left, right}}
}

func minus(left, right api.Expr) api.Expr {
	return api.Expr{Kind: api.EBin, N: api.Minus, Kids: []api.Expr{left, right}}
}

func times(left, right api.Expr) api.Expr {
	return api.Expr{Kind: api.EBin, N: api.Times, Kids: []api.Expr{left, right}}
}

func cond(left api.Expr, op int, right api.Expr) api.Cond {
	return api.Cond{L: left, Op: op, R: right}
}

// some is a SelAll with these filters.
func some(side, where, pick int, filters ...api.Filter) api.Sel {
	return api.Sel{Kind: api.SelAll, Side: side, Where: where, Pick: pick, Filters: filters}
}

// inLane is a SelAll in a lane with these filters.
func inLane(side, lane, pick int, filters ...api.Filter) api.Sel {
	return api.Sel{Kind: api.SelAll, Side: side, Where: api.InLane, Lane: lane, Pick: pick, Filters: filters}
}

// lane is a To of a lane with a number.
func lane(n int) api.To {
	return api.To{Kind: api.ToLane, Lane: n}
}

var (
	me    = api.Sel{Kind: api.SelMe}
	it    = api.Sel{Kind: api.SelIt}
	round = api.Expr{Kind: api.ERound}
	here  = api.To{Kind: api.ToHere}
	left  = api.To{Kind: api.ToLeft}
	right = api.To{Kind: api.ToRight}
)

// Words, in the order of their constants, from 1 on.
var (
	sides  = []string{"mine", "theirs", "both"}
	wheres = []string{"here", "away", "lane", "anywhere"}
	picks  = []string{"all", "first", "last", "weakest", "strongest"}
	ops    = []string{"<", "<=", "=", "!=", ">=", ">"}
	tos    = []string{"here", "left", "right", "lane"}
	hows   = []string{"first", "last", "cheapest", "costliest"}
)

// The tests below take the words' constants from these lists.
func TestWordsHaveTheirConstants(t *testing.T) {
	for _, c := range []struct {
		what string
		got  []int
	}{
		{"sides", []int{api.Mine, api.Theirs, api.Both}},
		{"wheres", []int{api.Here, api.Away, api.InLane, api.Anywhere}},
		{"picks", []int{api.All, api.First, api.Last, api.Weakest, api.Strongest}},
		{"ops", []int{api.Lt, api.Le, api.Eq, api.Ne, api.Ge, api.Gt}},
		{"tos", []int{api.ToHere, api.ToLeft, api.ToRight, api.ToLane}},
		{"hows", []int{api.HFirst, api.HLast, api.HCheapest, api.HCostliest}},
	} {
		for i, n := range c.got {
			if n != i+1 {
				t.Errorf("%s: the constant at index %d is %d", c.what, i, n)
			}
		}
	}
}

// P11.1: exprs.

var exprs = []struct {
	what, s string
	want    api.Expr
}{
	{"a number", "3", num(3)},
	{"0", "0", num(0)},
	{"the greatest number", " 99 ", num(99)},
	{"a negative number", "-7", num(-7)},
	{"the least number", "-99", num(-99)},
	{"-0", "-0", num(0)},
	{"a mark - and a blank before a number", "- 3", num(-3)},
	{"a mark - and a comment before a number", "-# so\n\t3", num(-3)},

	{"count of me", "count me", count(me)},
	{"count of it", "count it", count(it)},
	{"count of all", "count (mine here all)", count(some(api.Mine, api.Here, api.All))},
	{"sum of me", "sum me", sum(me)},
	{"sum of it", "sum it", sum(it)},
	{"sum of some", "sum (theirs lane 2 not me weakest)", sum(inLane(api.Theirs, 2, api.Weakest, api.Filter{Kind: api.FNotMe}))},
	{"round", "round", round},
	{"hand mine", "hand mine", hand(api.Mine)},
	{"hand theirs", "hand theirs", hand(api.Theirs)},
	{"hand both", "hand both", hand(api.Both)},
	{"free here", "free mine here", free(api.Mine, here)},
	{"free left", "free theirs left", free(api.Theirs, left)},
	{"free right", "free both right", free(api.Both, right)},
	{"free in a lane", "free mine lane 3", free(api.Mine, lane(3))},

	{"a sum", "1 + 2", plus(num(1), num(2))},
	{"a difference", "1 - 2", minus(num(1), num(2))},
	{"a product", "1 * 2", times(num(1), num(2))},
	{"a difference without blanks", "1-2", minus(num(1), num(2))},
	{"a mark - after a number is a difference", "1 -2", minus(num(1), num(2))},
	{"the difference of a negative number", "1 - -2", minus(num(1), num(-2))},
	{"the same without blanks", "1--2", minus(num(1), num(-2))},
	{"the same with a comment between the marks", "1-#-\n- 2", minus(num(1), num(-2))},
	{"the sum of a negative number", "1 + - 2", plus(num(1), num(-2))},
	{"the product of a negative number", "1 * -2", times(num(1), num(-2))},
	{"a negative number first", "-1 - 2", minus(num(-1), num(2))},
	{"a negative number first in a product", "-1 * 2", times(num(-1), num(2))},

	{"differences are left-associative", "1 - 2 - 3", minus(minus(num(1), num(2)), num(3))},
	{"sums are left-associative", "1 + 2 + 3", plus(plus(num(1), num(2)), num(3))},
	{"products are left-associative", "1 * 2 * 3", times(times(num(1), num(2)), num(3))},
	{"a sum of a difference", "1 - 2 + 3", plus(minus(num(1), num(2)), num(3))},
	{"a difference of a sum", "1 + 2 - 3 + 4", plus(minus(plus(num(1), num(2)), num(3)), num(4))},
	{"a product before a sum, on the right", "1 + 2 * 3", plus(num(1), times(num(2), num(3)))},
	{"a product before a sum, on the left", "1 * 2 + 3", plus(times(num(1), num(2)), num(3))},
	{"a product in the middle", "1 - 2 * 3 - 4", minus(minus(num(1), times(num(2), num(3))), num(4))},
	{"products on both sides", "1 * 2 - 3 * 4 * 5", minus(times(num(1), num(2)), times(times(num(3), num(4)), num(5)))},

	{"parentheses", "(1)", num(1)},
	{"parentheses in parentheses", "((1))", num(1)},
	{"as many as there may be", "((((((((1))))))))", num(1)},
	{"a negative number in parentheses", "(-1)", num(-1)},
	{"a difference of a difference", "1 - (2 - 3)", minus(num(1), minus(num(2), num(3)))},
	{"a difference in parentheses first", "(1 - 2) - 3", minus(minus(num(1), num(2)), num(3))},
	{"a product of a product", "1 * (2 * 3)", times(num(1), times(num(2), num(3)))},
	{"a sum before a product", "(1 + 2) * 3", times(plus(num(1), num(2)), num(3))},
	{"a product of a sum", "1 * (2 + 3)", times(num(1), plus(num(2), num(3)))},
	{"a product of sums", "(1 + 2) * (3 - 4)", times(plus(num(1), num(2)), minus(num(3), num(4)))},
	{"a product in parentheses", "1 - (2 * 3)", minus(num(1), times(num(2), num(3)))},
	{"chapter 12's example", "1 - (2 - 3) * 4", minus(num(1), times(minus(num(2), num(3)), num(4)))},
	{"parentheses behind each other", "(1) + (2) + (3)", plus(plus(num(1), num(2)), num(3))},
	{"a negative number before parentheses", "-1 * (2)", times(num(-1), num(2))},
	{"a difference of parentheses", "1 -(2)", minus(num(1), num(2))},

	{"operands of all kinds", "count me + sum (both away cost >= -2 all) * round - hand mine * free theirs lane 1",
		minus(plus(count(me), times(sum(some(api.Both, api.Away, api.All, api.Filter{Kind: api.FCost, Op: api.Ge, N: -2})), round)),
			times(hand(api.Mine), free(api.Theirs, lane(1))))},
	{"a sel in parentheses", "(count (mine here all) + count it) * 2", times(plus(count(some(api.Mine, api.Here, api.All)), count(it)), num(2))},
	{"a number of a lane ends there", "free mine lane 3 - 2", minus(free(api.Mine, lane(3)), num(2))},
	{"round is an operand", "round * round", times(round, round)},
}

func TestExpr(t *testing.T) {
	for _, c := range exprs {
		checkTree(t, c.what, c.s, Expr, c.want)
	}
}

func TestEveryNumber(t *testing.T) {
	for n := range 100 {
		checkTree(t, "a number", fmt.Sprint(n), Expr, num(n))
		checkTree(t, "a negative number", fmt.Sprint(-n), Expr, num(-n))
		checkTree(t, "a number in a difference", fmt.Sprintf("%d-%d", n, n), Expr, minus(num(n), num(n)))
		checkTree(t, "a number of a lane", fmt.Sprintf("free mine lane %d", n), Expr, free(api.Mine, lane(n)))
		checkTree(t, "a number of a lane of a sel", fmt.Sprintf("count (mine lane %d all)", n), Expr, count(inLane(api.Mine, n, api.All)))
		checkTree(t, "a number of a filter", fmt.Sprintf("count (mine here cost < %d power > %d all)", n, -n), Expr,
			count(some(api.Mine, api.Here, api.All, api.Filter{Kind: api.FCost, Op: api.Lt, N: n}, api.Filter{Kind: api.FPower, Op: api.Gt, N: -n})))
		checkTree(t, "a cost, a power and a stratum", fmt.Sprintf("card \"A\" cost %d power %d {\n always %d { } }", n, -n, n), Parse,
			api.File{Cards: []api.Card{{Name: "A", Cost: n, Power: -n, Line: 1, Col: 1, Rules: []api.Rule{
				{When: api.WAlways, Stratum: n, Line: 2, Col: 2},
			}}}})
	}
}

// P11.1: sels, each in every act and expr that has one.

// sels returns sels and their texts.
func sels() map[string]api.Sel {
	list := map[string]api.Sel{"me": me, "it": it}
	for s, side := range sides {
		for w, where := range wheres {
			for p, pick := range picks {
				text := "(" + side + " " + where + " " + pick + ")"
				sel := api.Sel{Kind: api.SelAll, Side: s + 1, Where: w + 1, Pick: p + 1}
				if sel.Where == api.InLane {
					sel.Lane = 2
					text = "(" + side + " lane 2 " + pick + ")"
				}
				list[text] = sel
			}
		}
	}
	for text, filter := range filters() {
		list["(both anywhere "+text+" last)"] = some(api.Both, api.Anywhere, api.Last, filter)
		list["(mine lane 1 "+text+" "+text+" all)"] = inLane(api.Mine, 1, api.All, filter, filter)
	}
	list["(theirs away not it power != -3 named \"Lamp Moth\" cost = 0 not me first)"] = some(api.Theirs, api.Away, api.First,
		api.Filter{Kind: api.FNotIt}, api.Filter{Kind: api.FPower, Op: api.Ne, N: -3}, api.Filter{Kind: api.FNamed, Name: "Lamp Moth"},
		api.Filter{Kind: api.FCost, Op: api.Eq}, api.Filter{Kind: api.FNotMe})
	list["(mine here"+strings.Repeat(" not me", 50)+" all)"] = some(api.Mine, api.Here, api.All, slices.Repeat([]api.Filter{{Kind: api.FNotMe}}, 50)...)
	return list
}

// filters returns filters and their texts.
func filters() map[string]api.Filter {
	list := map[string]api.Filter{
		"not me":         {Kind: api.FNotMe},
		"not it":         {Kind: api.FNotIt},
		"named \"A\"":    {Kind: api.FNamed, Name: "A"},
		"named \"Éé-7\"": {Kind: api.FNamed, Name: "Éé-7"},
		"named \"me\"":   {Kind: api.FNamed, Name: "me"},
	}
	for o, op := range ops {
		for _, n := range []int{0, 5, 99, -1, -99} {
			list[fmt.Sprint("cost ", op, n)] = api.Filter{Kind: api.FCost, Op: o + 1, N: n}
			list[fmt.Sprint("power", op, n)] = api.Filter{Kind: api.FPower, Op: o + 1, N: n}
		}
		list["cost "+op+" -\n 4"] = api.Filter{Kind: api.FCost, Op: o + 1, N: -4}
		list["power "+op+" - # so\n 4"] = api.Filter{Kind: api.FPower, Op: o + 1, N: -4}
	}
	return list
}

// act returns an act at line 1, column 1.
func act(act api.Act) []api.Act {
	act.Line, act.Col = 1, 1
	return []api.Act{act}
}

func TestSel(t *testing.T) {
	for text, sel := range sels() {
		checkTree(t, "count", "count "+text, Expr, count(sel))
		checkTree(t, "sum", "sum "+text, Expr, sum(sel))
		for word, kind := range map[string]int{"power": api.APower, "set": api.ASet, "aura": api.AAura} {
			checkTree(t, word, word+" "+text+" -2;", Acts, act(api.Act{Kind: kind, Sel: sel, Num: num(-2)}))
		}
		for word, kind := range map[string]int{"destroy": api.ADestroy, "return": api.AReturn, "shield": api.AShield} {
			checkTree(t, word, word+" "+text+";", Acts, act(api.Act{Kind: kind, Sel: sel}))
		}
		checkTree(t, "move", "move "+text+" right;", Acts, act(api.Act{Kind: api.AMove, Sel: sel, To: right}))
		checkTree(t, "each", "each "+text+" { }", Acts, act(api.Act{Kind: api.AEach, Sel: sel}))
	}
}

// P11.1: sides, lanes, and which card of a hand, in everything that has them.

func TestSideAndTo(t *testing.T) {
	for i, side := range sides {
		s := i + 1
		checkTree(t, "hand", "hand "+side, Expr, hand(s))
		checkTree(t, "draw", "draw "+side+" 2;", Acts, act(api.Act{Kind: api.ADraw, Side: s, Num: num(2)}))
		checkTree(t, "energy", "energy "+side+" 2;", Acts, act(api.Act{Kind: api.AEnergy, Side: s, Num: num(2)}))
		for how, word := range hows {
			checkTree(t, "discard", "discard "+side+" "+word+";", Acts, act(api.Act{Kind: api.ADiscard, Side: s, How: how + 1}))
		}
		for k, word := range tos {
			to := api.To{Kind: k + 1}
			if to.Kind == api.ToLane {
				to.Lane = 3
				word += " 3"
			}
			checkTree(t, "free", "free "+side+" "+word, Expr, free(s, to))
			checkTree(t, "move", "move me "+word+";", Acts, act(api.Act{Kind: api.AMove, Sel: me, To: to}))
			checkTree(t, "double", "double "+side+" "+word+";", Acts, act(api.Act{Kind: api.ADouble, Side: s, To: to}))
			checkTree(t, "bar", "bar "+side+" "+word+";", Acts, act(api.Act{Kind: api.ABar, Side: s, To: to}))
			checkTree(t, "spawn", "spawn \"Hound\" "+side+" "+word+" 2;", Acts,
				act(api.Act{Kind: api.ASpawn, Name: "Hound", Side: s, To: to, Num: num(2)}))
		}
	}
}

// P11.1: every expr in every act that has one.

func TestExprOfAct(t *testing.T) {
	for _, c := range exprs {
		e := c.s
		checkTree(t, c.what+", power", "power me "+e+";", Acts, act(api.Act{Kind: api.APower, Sel: me, Num: c.want}))
		checkTree(t, c.what+", set", "set it "+e+";", Acts, act(api.Act{Kind: api.ASet, Sel: it, Num: c.want}))
		checkTree(t, c.what+", aura", "aura me "+e+";", Acts, act(api.Act{Kind: api.AAura, Sel: me, Num: c.want}))
		checkTree(t, c.what+", spawn", "spawn \"A\" both here "+e+";", Acts,
			act(api.Act{Kind: api.ASpawn, Name: "A", Side: api.Both, To: here, Num: c.want}))
		checkTree(t, c.what+", draw", "draw mine "+e+";", Acts, act(api.Act{Kind: api.ADraw, Side: api.Mine, Num: c.want}))
		checkTree(t, c.what+", energy", "energy theirs "+e+";", Acts, act(api.Act{Kind: api.AEnergy, Side: api.Theirs, Num: c.want}))
		for o, op := range ops {
			checkTree(t, c.what+", if", "if "+e+" "+op+" 1 { }", Acts, act(api.Act{Kind: api.AIf, Cond: cond(c.want, o+1, num(1))}))
			checkTree(t, c.what+", if", "if 1 "+op+" "+e+" { }", Acts, act(api.Act{Kind: api.AIf, Cond: cond(num(1), o+1, c.want)}))
		}
	}
}

// P11.1: acts with blocks.

// put returns an act at that position.
func put(line, col int, act api.Act) api.Act {
	act.Line, act.Col = line, col
	return act
}

// destroys, draws and shields are acts for blocks.
var (
	destroys = api.Act{Kind: api.ADestroy, Sel: me}
	draws    = api.Act{Kind: api.ADraw, Side: api.Mine, Num: num(1)}
	shields  = api.Act{Kind: api.AShield, Sel: it}
)

var blocks = []struct {
	what, s string
	want    []api.Act
}{
	{"no acts", "", nil},
	{"blanks and comments alone", " # destroy me;\n\t", nil},
	{"an act", "destroy me;", []api.Act{put(1, 1, destroys)}},
	{"acts, in order", "destroy me; draw mine 1;\n\tshield it;destroy me;", []api.Act{
		put(1, 1, destroys), put(1, 13, draws), put(2, 2, shields), put(2, 12, destroys),
	}},

	{"if with an empty block", "if 1 < 2 { }", []api.Act{put(1, 1, api.Act{Kind: api.AIf, Cond: cond(num(1), api.Lt, num(2))})}},
	{"if", "if round >= 3 { destroy me; draw mine 1; }", []api.Act{put(1, 1, api.Act{Kind: api.AIf, Cond: cond(round, api.Ge, num(3)),
		Then: []api.Act{put(1, 17, destroys), put(1, 29, draws)}})}},
	{"if and else", "if round != 3 { destroy me; } else { draw mine 1; shield it; }", []api.Act{put(1, 1, api.Act{Kind: api.AIf,
		Cond: cond(round, api.Ne, num(3)), Then: []api.Act{put(1, 17, destroys)}, Else: []api.Act{put(1, 38, draws), put(1, 51, shields)}})}},
	{"if and an empty else", "if 1=1{destroy me;}else{}", []api.Act{put(1, 1, api.Act{Kind: api.AIf, Cond: cond(num(1), api.Eq, num(1)),
		Then: []api.Act{put(1, 8, destroys)}})}},
	{"an empty if and else", "if 1=1{}else{destroy me;}", []api.Act{put(1, 1, api.Act{Kind: api.AIf, Cond: cond(num(1), api.Eq, num(1)),
		Else: []api.Act{put(1, 14, destroys)}})}},
	{"if in if", "if 1 > 2 { if 3 <= 4 { destroy me; } else { draw mine 1; } }", []api.Act{put(1, 1, api.Act{Kind: api.AIf,
		Cond: cond(num(1), api.Gt, num(2)), Then: []api.Act{put(1, 12, api.Act{Kind: api.AIf, Cond: cond(num(3), api.Le, num(4)),
			Then: []api.Act{put(1, 24, destroys)}, Else: []api.Act{put(1, 45, draws)}})}})}},
	{"if in if, and the else of the outer one", "if 1 > 2 { if 3 <= 4 { destroy me; } } else { draw mine 1; }", []api.Act{put(1, 1, api.Act{Kind: api.AIf,
		Cond: cond(num(1), api.Gt, num(2)), Then: []api.Act{put(1, 12, api.Act{Kind: api.AIf, Cond: cond(num(3), api.Le, num(4)),
			Then: []api.Act{put(1, 24, destroys)}})}, Else: []api.Act{put(1, 47, draws)}})}},
	{"if in the block of else", "if 1 > 2 { } else {\n\tif 3 = 4 { } else { destroy me; }\n\tshield it;\n}", []api.Act{put(1, 1, api.Act{Kind: api.AIf,
		Cond: cond(num(1), api.Gt, num(2)), Else: []api.Act{put(2, 2, api.Act{Kind: api.AIf, Cond: cond(num(3), api.Eq, num(4)),
			Else: []api.Act{put(2, 22, destroys)}}), put(3, 2, shields)}})}},
	{"if behind if", "if 1 = 1 { } if 2 = 2 { } else { }", []api.Act{
		put(1, 1, api.Act{Kind: api.AIf, Cond: cond(num(1), api.Eq, num(1))}), put(1, 14, api.Act{Kind: api.AIf, Cond: cond(num(2), api.Eq, num(2))}),
	}},
	{"conds of products and sums", "if 1 + 2 * 3 < (4 - 5) * 6 { }", []api.Act{put(1, 1, api.Act{Kind: api.AIf,
		Cond: cond(plus(num(1), times(num(2), num(3))), api.Lt, times(minus(num(4), num(5)), num(6)))})}},
	{"conds of negative numbers", "if -1 < -2 { } if 1 - -1 = - 2 { }", []api.Act{
		put(1, 1, api.Act{Kind: api.AIf, Cond: cond(num(-1), api.Lt, num(-2))}),
		put(1, 16, api.Act{Kind: api.AIf, Cond: cond(minus(num(1), num(-1)), api.Eq, num(-2))}),
	}},

	{"each with an empty block", "each (mine here all) { }", []api.Act{put(1, 1, api.Act{Kind: api.AEach, Sel: some(api.Mine, api.Here, api.All)})}},
	{"each", "each (theirs away last) { shield it; destroy me; }", []api.Act{put(1, 1, api.Act{Kind: api.AEach,
		Sel: some(api.Theirs, api.Away, api.Last), Then: []api.Act{put(1, 27, shields), put(1, 38, destroys)}})}},
	{"each in each", "each me { each it { draw mine 1; } }", []api.Act{put(1, 1, api.Act{Kind: api.AEach, Sel: me,
		Then: []api.Act{put(1, 11, api.Act{Kind: api.AEach, Sel: it, Then: []api.Act{put(1, 21, draws)}})}})}},
	{"if in each, and an act behind it", "each me {\n if 0 = 0 { draw mine 1; }\n} destroy me;", []api.Act{
		put(1, 1, api.Act{Kind: api.AEach, Sel: me, Then: []api.Act{put(2, 2, api.Act{Kind: api.AIf, Cond: cond(num(0), api.Eq, num(0)),
			Then: []api.Act{put(2, 13, draws)}})}}),
		put(3, 3, destroys),
	}},
	{"no blanks but those that are needed", "each(mine here not me all){power it-1;}if count(both lane 2cost<=3all)>0{set me 1*2;}", []api.Act{
		put(1, 1, api.Act{Kind: api.AEach, Sel: some(api.Mine, api.Here, api.All, api.Filter{Kind: api.FNotMe}),
			Then: []api.Act{put(1, 28, api.Act{Kind: api.APower, Sel: it, Num: num(-1)})}}),
		put(1, 40, api.Act{Kind: api.AIf,
			Cond: cond(count(inLane(api.Both, 2, api.All, api.Filter{Kind: api.FCost, Op: api.Le, N: 3})), api.Gt, num(0)),
			Then: []api.Act{put(1, 74, api.Act{Kind: api.ASet, Sel: me, Num: times(num(1), num(2))})}}),
	}},
	{"the chapter's example", "power me -2;", []api.Act{put(1, 1, api.Act{Kind: api.APower, Sel: me, Num: num(-2)})}},
	{"positions behind runes of several bytes", "spawn \"Éé\" mine here 1; destroy me; # €\n shield it;", []api.Act{
		put(1, 1, api.Act{Kind: api.ASpawn, Name: "Éé", Side: api.Mine, To: here, Num: num(1)}), put(1, 25, destroys), put(2, 2, shields),
	}},
}

func TestActs(t *testing.T) {
	for _, c := range blocks {
		checkTree(t, c.what, c.s, Acts, c.want)
	}
}

// P11.1: rules, cards, locations and files.

// whens are what rules begin with, with their When and Stratum.
var whens = []struct {
	s             string
	when, stratum int
}{
	{"reveal", api.WReveal, 0}, {"death", api.WDeath, 0}, {"moved", api.WMoved, 0}, {"end", api.WEnd, 0}, {"enter", api.WEnter, 0},
	{"always 0", api.WAlways, 0}, {"always 1", api.WAlways, 1}, {"always 2", api.WAlways, 2}, {"always 3", api.WAlways, 3}, {"always 99", api.WAlways, 99},
}

func TestWhen(t *testing.T) {
	for _, w := range whens {
		rules := []api.Rule{{When: w.when, Stratum: w.stratum, Line: 2, Col: 2, Acts: []api.Act{put(3, 1, destroys), put(3, 12, shields)}}}
		text := "{\n " + w.s + " {\ndestroy me;shield it; } }"
		checkTree(t, w.s+" of a card", "card \"A\" cost 1 power 2 "+text, Parse,
			api.File{Cards: []api.Card{{Name: "A", Cost: 1, Power: 2, Line: 1, Col: 1, Rules: rules}}})
		checkTree(t, w.s+" of a location", "place \"A\""+text, Parse,
			api.File{Places: []api.Place{{Name: "A", Line: 1, Col: 1, Rules: rules}}})
		for _, v := range whens {
			both := "place \"A\" { " + w.s + "{} " + v.s + "{} }"
			second := 13 + len(w.s) + 3
			checkTree(t, "rules of a location", both, Parse, api.File{Places: []api.Place{{Name: "A", Line: 1, Col: 1, Rules: []api.Rule{
				{When: w.when, Stratum: w.stratum, Line: 1, Col: 13}, {When: v.when, Stratum: v.stratum, Line: 1, Col: second},
			}}}})
		}
	}
}

var files = []struct {
	what, s string
	want    api.File
}{
	{"the empty text", "", api.File{}},
	{"blanks alone", " \t\n\n ", api.File{}},
	{"a comment alone", "# card \"A\" cost", api.File{}},
	{"blanks and comments alone", "\n# place\n\t # \"\n", api.File{}},

	{"a card without rules", "card \"A\" cost 0 power 0 { }", api.File{Cards: []api.Card{{Name: "A", Line: 1, Col: 1}}}},
	{"a card without blanks", "card\"A\"cost 9power-20{}", api.File{Cards: []api.Card{{Name: "A", Cost: 9, Power: -20, Line: 1, Col: 1}}}},
	{"a power with a comment behind the mark -", "\n\tcard \"A\" cost 1 power - # so\n 3 {}", api.File{Cards: []api.Card{{Name: "A", Cost: 1, Power: -3, Line: 2, Col: 2}}}},
	{"a location without rules", " place \"Old Mill\" { }", api.File{Places: []api.Place{{Name: "Old Mill", Line: 1, Col: 2}}}},
	{"names of keywords", "card \"card\" cost 1 power 1 { } place \"place\" { }", api.File{
		Cards: []api.Card{{Name: "card", Cost: 1, Power: 1, Line: 1, Col: 1}}, Places: []api.Place{{Name: "place", Line: 1, Col: 32}},
	}},

	{"cards, in order", "card \"B\" cost 2 power 3 {}\ncard \"A\" cost 1 power 4 {}\n card \"B\" cost 0 power 5 {}", api.File{Cards: []api.Card{
		{Name: "B", Cost: 2, Power: 3, Line: 1, Col: 1}, {Name: "A", Cost: 1, Power: 4, Line: 2, Col: 1}, {Name: "B", Power: 5, Line: 3, Col: 2},
	}}},
	{"locations, in order", "place \"B\"{}place \"A\"{}\n\n\tplace \"C\"{}", api.File{Places: []api.Place{
		{Name: "B", Line: 1, Col: 1}, {Name: "A", Line: 1, Col: 12}, {Name: "C", Line: 3, Col: 2},
	}}},
	{"cards and locations", "place \"D\" { }\ncard \"B\" cost 2 power 3 { }\nplace \"C\" { }\ncard \"A\" cost 1 power 4 { }\n", api.File{
		Cards:  []api.Card{{Name: "B", Cost: 2, Power: 3, Line: 2, Col: 1}, {Name: "A", Cost: 1, Power: 4, Line: 4, Col: 1}},
		Places: []api.Place{{Name: "D", Line: 1, Col: 1}, {Name: "C", Line: 3, Col: 1}},
	}},

	{"empty rules", "card \"A\" cost 1 power 1 { reveal { } death {} reveal { } }", api.File{Cards: []api.Card{{Name: "A", Cost: 1, Power: 1, Line: 1, Col: 1,
		Rules: []api.Rule{{When: api.WReveal, Line: 1, Col: 27}, {When: api.WDeath, Line: 1, Col: 38}, {When: api.WReveal, Line: 1, Col: 47}}}}}},
	{"the first example of the whole",
		"card \"Wild Hunt\" cost 5 power 5 { reveal { spawn \"Hound\" mine left 3; spawn \"Hound\" mine here 3; spawn \"Hound\" mine right 3; } }",
		api.File{Cards: []api.Card{{Name: "Wild Hunt", Cost: 5, Power: 5, Line: 1, Col: 1, Rules: []api.Rule{{When: api.WReveal, Line: 1, Col: 35, Acts: []api.Act{
			put(1, 44, api.Act{Kind: api.ASpawn, Name: "Hound", Side: api.Mine, To: left, Num: num(3)}),
			put(1, 71, api.Act{Kind: api.ASpawn, Name: "Hound", Side: api.Mine, To: here, Num: num(3)}),
			put(1, 98, api.Act{Kind: api.ASpawn, Name: "Hound", Side: api.Mine, To: right, Num: num(3)}),
		}}}}}}},
	{"chapter 13's example", "place \"Mill\" { end { draw mine 1; } }", api.File{Places: []api.Place{{Name: "Mill", Line: 1, Col: 1,
		Rules: []api.Rule{{When: api.WEnd, Line: 1, Col: 16, Acts: []api.Act{put(1, 22, draws)}}}}}}},
	{"what lint would not let be", "card \"A\" cost 99 power -99 { enter { bar mine lane 0; } always 0 { draw mine 1; } }", api.File{Cards: []api.Card{
		{Name: "A", Cost: 99, Power: -99, Line: 1, Col: 1, Rules: []api.Rule{
			{When: api.WEnter, Line: 1, Col: 30, Acts: []api.Act{put(1, 38, api.Act{Kind: api.ABar, Side: api.Mine, To: lane(0)})}},
			{When: api.WAlways, Line: 1, Col: 57, Acts: []api.Act{put(1, 68, draws)}},
		}}}}},
	{"a comment behind each token, on lines of their own",
		"# a\ncard # b\n\"A\" # c\ncost # d\n1 # e\npower # f\n- # g\n2 # h\n{ # i\nalways # j\n3 # k\n{ # l\ndestroy # m\nme # n\n; # o\n} # p\n} # q\nplace # r\n\"B\" # s\n{ # t\n} # u",
		api.File{
			Cards: []api.Card{{Name: "A", Cost: 1, Power: -2, Line: 2, Col: 1, Rules: []api.Rule{
				{When: api.WAlways, Stratum: 3, Line: 10, Col: 1, Acts: []api.Act{put(13, 1, destroys)}},
			}}},
			Places: []api.Place{{Name: "B", Line: 18, Col: 1}},
		}},
}

func TestParse(t *testing.T) {
	for _, c := range files {
		checkTree(t, c.what, c.s, Parse, c.want)
	}
}

// inRule returns acts as Parse does that stand on the second line of a text, in a
// rule, where Acts parsed them at the beginning of a text.
func inRule(acts []api.Act) api.File {
	return api.File{Cards: []api.Card{{Name: "A", Line: 1, Col: 1, Rules: []api.Rule{{When: api.WReveal, Line: 1, Col: 27, Acts: moved(acts, lower)}}}}}
}

// lower is the position on the next line.
func lower(line, col int) (int, int) {
	return line + 1, col
}

// moved returns acts with their positions changed.
func moved(acts []api.Act, change func(line, col int) (int, int)) []api.Act {
	list := slices.Clone(acts)
	for i := range list {
		act := &list[i]
		act.Line, act.Col = change(act.Line, act.Col)
		act.Then, act.Else = moved(act.Then, change), moved(act.Else, change)
	}
	return list
}

func TestActsOfARule(t *testing.T) {
	for _, c := range blocks {
		checkTree(t, c.what, "card \"A\" cost 0 power 0 { reveal {\n"+c.s+"\n} }", Parse, inRule(c.want))
	}
}
