package code

import (
	"math"
	"math/rand"
	"strings"
	"testing"

	"trident/api"
	"trident/internal/odd"
	"trident/syntax"
)

// R3: what is written into lists.

var (
	me    = api.Sel{Kind: api.SelMe}
	round = api.Expr{Kind: api.ERound}
)

func num(n int) api.Expr {
	return api.Expr{Kind: api.ENum, N: n}
}

func bin(sign int, kids ...api.Expr) api.Expr {
	return api.Expr{Kind: api.EBin, N: sign, Kids: kids}
}

// sharing returns acts and an expr whose sels share their filters, all of which are in the
// list that it returns too, with one more behind their end.
func sharing() ([]api.Act, api.Expr, []api.Filter) {
	filters := []api.Filter{{Kind: api.FCost, Op: api.Lt, N: 3}, {Kind: api.FNamed, Name: "Dust Cat"}, {Kind: api.FNotMe}}
	sel := api.Sel{Kind: api.SelAll, Side: api.Mine, Where: api.Here, Pick: api.All, Filters: filters[:2]}
	count := api.Expr{Kind: api.ECount, Sel: sel}
	sum := api.Expr{Kind: api.ESum, Sel: sel}
	acts := []api.Act{
		{Kind: api.APower, Sel: sel, Num: bin(api.Plus, count, sum)},
		{Kind: api.AIf, Cond: api.Cond{Op: api.Lt, L: count, R: sum}, Then: []api.Act{{Kind: api.AMove, Sel: sel, To: api.To{Kind: api.ToLeft}}}, Else: []api.Act{{Kind: api.AReturn, Sel: sel}}},
		{Kind: api.AEach, Sel: sel, Then: []api.Act{{Kind: api.ASpawn, Name: "Hound", Side: api.Mine, To: api.To{Kind: api.ToLeft}, Num: sum}}},
		{Kind: api.ADestroy, Sel: sel},
	}
	return acts, bin(api.Times, count, bin(api.Minus, count, sum)), filters
}

// checkOwn checks that what is written into the lists of a program is seen in these alone:
// in no other list of it, and not in the filters.
func checkOwn(t *testing.T, p api.Program, filters []api.Filter) {
	t.Helper()
	before := shown(filters)
	for n, sel := range p.Sels {
		list := sel.Filters[:cap(sel.Filters)]
		for i := range list {
			list[i].N = 1000 + n
		}
	}
	for i := range p.Code {
		p.Code[i] = api.Ins{Op: 77}
	}
	for n, sel := range p.Sels {
		if len(sel.Filters) != 2 {
			t.Errorf("sel %d has %d filters", n, len(sel.Filters))
		}
		for _, f := range sel.Filters {
			if f.N != 1000+n {
				t.Errorf("sel %d has the filter of another one: %v", n, f)
			}
		}
	}
	if shown(filters) != before {
		t.Errorf("of the filters %s those of the program made %s", before, shown(filters))
	}
}

func TestListsAreNotShared(t *testing.T) {
	acts, expr, filters := sharing()
	for _, p := range []api.Program{Acts(acts), Rule(api.Rule{When: api.WEnd, Acts: acts})} {
		if len(p.Sels) != 10 || len(p.Names) != 1 {
			t.Errorf("there are %d sels and %d names", len(p.Sels), len(p.Names))
		}
		checkOwn(t, p, filters)
	}
	checkOwn(t, Expr(expr), filters)
	// The calls keep nothing: another one is not touched by what was written.
	fresh, _, _ := sharing()
	checkProgram(t, "acts", Acts(acts), Acts(fresh))
}

func TestArgumentsAreNotKept(t *testing.T) {
	acts, expr, filters := sharing()
	p, q := Acts(acts), Expr(expr)
	want, wantOfExpr := shown(p), shown(q)
	for i := range filters {
		filters[i] = api.Filter{Kind: api.FNotIt}
	}
	acts[1].Then[0] = api.Act{}
	acts[0] = api.Act{}
	expr.Kids[0] = num(7)
	if shown(p) != want || shown(q) != wantOfExpr {
		t.Errorf("with the arguments changed, the programs are\n%s and %s, want\n%s and %s", shown(p), shown(q), want, wantOfExpr)
	}
}

func TestArgumentsAreNotChanged(t *testing.T) {
	acts, expr, filters := sharing()
	before := shown([]any{acts, expr, filters})
	Rule(api.Rule{When: api.WEnd, Acts: acts[:2]})
	Acts(acts[:3])
	Acts(acts[:0])
	Acts([]api.Act{{Kind: api.AIf, Then: acts[:1], Else: acts[1:2]}, {Kind: api.AEach, Then: acts[:1]}})
	Expr(api.Expr{Kind: api.EBin, N: api.Plus, Kids: expr.Kids[:1]})
	Expr(expr)
	if after := shown([]any{acts, expr, filters}); after != before {
		t.Errorf("of\n%.3000s\nthe calls made\n%.3000s", before, after)
	}
}

// R1: of trees that lint does not accept nothing is promised but that the calls return; they
// change nothing of them, and return the same again.

// checkEnds checks that of acts and an expr.
func checkEnds(t *testing.T, acts []api.Act, expr api.Expr) {
	t.Helper()
	all := func() string {
		return shown([]api.Program{Acts(acts), Rule(api.Rule{When: 77, Stratum: -1, Acts: acts}), Expr(expr), Acts([]api.Act{{Kind: api.AIf, Then: acts, Else: acts}})})
	}
	before := shown(acts) + shown(expr)
	if first := all(); all() != first {
		t.Errorf("the second answer of %.3000s differs from the first one", before)
	}
	if shown(acts)+shown(expr) != before {
		t.Errorf("the calls changed %.3000s", before)
	}
}

func TestDrawnTreesThatNoTextHas(t *testing.T) {
	pen := odd.Pen{Draw: rand.New(rand.NewSource(144)).Intn}
	for n := range 600 {
		checkEnds(t, pen.Acts(n%6), pen.Expr(n%6))
	}
}

// extremes are numbers that mostly are no kinds.
func extremes() []int {
	numbers := []int{math.MinInt, math.MinInt + 1, -1000, -1, 99, 100, 999, 1<<61 + 1, 1<<60 + 4, math.MaxInt - 1, math.MaxInt}
	for n := range 30 {
		numbers = append(numbers, n)
	}
	return numbers
}

func TestEveryKindThatNoTextHas(t *testing.T) {
	for _, n := range extremes() {
		sel := api.Sel{Kind: n, Side: n, Where: n, Lane: n, Pick: n, Filters: []api.Filter{{Kind: n, Op: n, N: n, Name: "\xff"}}}
		to := api.To{Kind: n, Lane: n}
		kinds := []api.Expr{bin(n), bin(n, num(n)), bin(n, num(1), num(2)), bin(n, num(1), num(2), bin(n)), bin(api.Plus), bin(api.Minus, num(1))}
		for kind := range 12 {
			kinds = append(kinds, api.Expr{Kind: kind, N: n, Sel: sel, Side: n, To: to})
		}
		kinds = append(kinds, api.Expr{Kind: n, N: n, Sel: sel, Side: n, To: to, Kids: kinds})
		for _, expr := range kinds {
			cond := api.Cond{Op: n, L: expr, R: expr}
			var acts []api.Act
			for kind := range 20 {
				acts = append(acts, api.Act{Kind: kind, Sel: sel, Num: expr, Side: n, To: to, How: n, Name: "\"", Cond: cond, Then: []api.Act{{Kind: n}}})
			}
			acts = append(acts, api.Act{Kind: n, Sel: sel, Num: expr, Side: n, To: to, How: n, Cond: cond, Then: acts, Else: acts[:2]})
			checkEnds(t, acts, expr)
		}
	}
}

// R6: where a lane is one number, none wraps around to that of a lane that there is.
func TestLanesThatNoTextHas(t *testing.T) {
	for _, n := range extremes() {
		for _, to := range []api.To{{Kind: n, Lane: 1}, {Kind: n, Lane: n}, {Kind: api.ToLane, Lane: n}, {Kind: api.ToHere, Lane: n}} {
			last := Acts([]api.Act{{Kind: api.ASpawn, Name: "A", Side: api.Mine, To: to, Num: num(1)}}).Code[1]
			if to.Kind < api.ToHere || to.Kind > api.ToLane || to.Lane < 0 || to.Lane > 99 {
				if last.C != 0 {
					t.Errorf("the lane %v is the number %d", to, last.C)
				}
			} else if last.C != 8*to.Kind+to.Lane {
				t.Errorf("the lane %v is the number %d", to, last.C)
			}
		}
	}
}

// Blocks and operands that are many levels inside each other, and many acts.
func TestDeepTrees(t *testing.T) {
	const levels = 65536
	first, last, act := num(1), num(1), api.Act{Kind: api.AShield, Sel: me}
	for range levels {
		first = bin(api.Plus, first, round)
		last = bin(api.Minus, round, last)
		act = api.Act{Kind: api.AIf, Cond: api.Cond{Op: api.Lt, L: num(1), R: round}, Else: []api.Act{act}}
	}
	checkProgram(t, "a sum of sums on the left", Expr(first), program(t, "push 1"+strings.Repeat(";round;add", levels)))
	checkProgram(t, "a difference of differences on the right", Expr(last), program(t, strings.Repeat("round;", levels)+"push 1"+strings.Repeat(";sub", levels)))
	p := Acts([]api.Act{act})
	if len(p.Code) != 4*levels+1 {
		t.Fatalf("the program of deep acts has %d instructions", len(p.Code))
	}
	for n := range levels {
		test, jump := p.Code[4*n+2], p.Code[4*n+3]
		if test != (api.Ins{Op: api.ITest, A: api.Lt, B: 4*n + 4}) || jump != (api.Ins{Op: api.IJump, A: 4*levels + 1}) {
			t.Fatalf("at level %d there are %v and %v", n, test, jump)
		}
	}
}

func TestManyActs(t *testing.T) {
	const many = 200000
	list := make([]api.Act, many)
	for i := range list {
		list[i] = parse(t, "destroy (mine here not me all);", syntax.Acts)[0]
	}
	p := Acts(list)
	if len(p.Code) != many || len(p.Sels) != many || p.Code[many-1] != (api.Ins{Op: api.IDestroy, A: many - 1}) {
		t.Errorf("the program of many acts has %d instructions and %d sels", len(p.Code), len(p.Sels))
	}
}
