package lint

import (
	"fmt"
	"math"
	"math/rand"
	"testing"

	"trident/api"
	"trident/internal/odd"
)

// Of trees that no text has nothing is promised but that the calls return; they change
// nothing of them, and return the same again.

// checkEnds checks that of all that is in a file, and that a fault is a whole one.
func checkEnds(t *testing.T, file api.File) {
	t.Helper()
	all := func() string {
		faults, sizes := []api.Fault{Check(file)}, []int{}
		rules := []api.Rule{}
		for _, c := range file.Cards {
			faults, rules = append(faults, Card(c)), append(rules, c.Rules...)
		}
		for _, p := range file.Places {
			faults, rules = append(faults, Place(p)), append(rules, p.Rules...)
		}
		for _, r := range rules {
			sizes = append(sizes, Size(r))
		}
		for _, fault := range faults {
			if fault.E == api.OK && fault != (api.Fault{}) {
				t.Errorf("without an error the fault is %v", fault)
			}
		}
		return fmt.Sprint(faults, sizes)
	}
	before := fmt.Sprint(file)
	if first := all(); all() != first {
		t.Errorf("the second answer of %s differs from the first one", before)
	}
	if fmt.Sprint(file) != before {
		t.Errorf("the calls changed %s", before)
	}
}

func TestDrawnTreesThatNoTextHas(t *testing.T) {
	pen := odd.Pen{Draw: rand.New(rand.NewSource(134)).Intn}
	for n := range 400 {
		checkEnds(t, pen.File(n%7))
	}
}

func TestEveryKindThatNoTextHas(t *testing.T) {
	numbers := []int{math.MinInt, math.MinInt + 1, -1000, -1, 999, math.MaxInt - 1, math.MaxInt}
	for n := range 10 {
		numbers = append(numbers, n)
	}
	for _, n := range numbers {
		filters := []api.Filter{{Kind: n, Op: n, N: n, Name: "\xff"}, {Kind: n}, {Kind: n}, {Kind: n}, {Kind: n}, {Kind: n}}
		sel := api.Sel{Kind: n, Side: n, Where: n, Lane: n, Filters: filters[:n&3], Pick: n}
		to := api.To{Kind: n, Lane: n}
		expr := api.Expr{Kind: n, N: n, Sel: sel, Side: n, To: to, Kids: []api.Expr{{Kind: n, N: n, Sel: sel}, {Kind: api.EBin}, {Kind: n}}}
		for kind := range 18 {
			act := api.Act{Kind: kind, Line: n, Col: n, Sel: sel, Num: expr, Side: n, To: to, How: n, Name: "\"", Cond: api.Cond{Op: n, L: expr, R: expr}}
			outer := act
			outer.Then, outer.Else = []api.Act{act, act}, []api.Act{act}
			var file api.File
			for when := range 9 {
				rules := []api.Rule{{When: when, Stratum: n, Line: n, Col: n, Acts: []api.Act{outer, act}}}
				file.Cards = append(file.Cards, api.Card{Name: "\x00", Cost: 1, Power: n, Rules: rules})
				file.Places = append(file.Places, api.Place{Line: n, Rules: rules})
			}
			checkEnds(t, file)
		}
	}
}

// R3: the calls write nothing, not even behind the ends of lists.
func TestBehindTheEndsOfLists(t *testing.T) {
	cards := []api.Card{{Name: "B"}, {Name: "A"}, {Name: "C"}, {Name: "D"}}
	places := []api.Place{{Name: "B"}, {Name: "A"}, {Name: "C"}}
	acts := []api.Act{{Kind: api.ADraw, Num: api.Expr{Kind: api.ENum}}, {Kind: api.ADestroy}, {Kind: 77}}
	rules := []api.Rule{{When: api.WEnd, Acts: acts[:1]}, {When: api.WEnter, Acts: acts[:2]}, {When: 77}}
	cards[0].Rules, places[0].Rules = rules[:1], rules[:2]
	before := fmt.Sprint(cards, places, acts, rules)
	if got := Check(api.File{Cards: cards[:2], Places: places[:2]}); got != (api.Fault{}) {
		t.Errorf("the fault is %v", got)
	}
	if got := Size(rules[0]); got != 2 {
		t.Errorf("the size is %d", got)
	}
	if after := fmt.Sprint(cards, places, acts, rules); after != before {
		t.Errorf("of\n%s\nthe calls made\n%s", before, after)
	}
}

func TestDeepTrees(t *testing.T) {
	const levels = 65536
	expr := api.Expr{Kind: api.ENum}
	act := api.Act{Kind: api.ADraw, Side: api.Both, Num: expr}
	for n := range levels {
		one := api.Expr{Kind: api.ENum}
		kids := [][]api.Expr{{expr, one}, {one, expr}}[n%2]
		expr = api.Expr{Kind: api.EBin, N: api.Plus, Kids: kids}
		cond := api.Cond{Op: api.Lt, L: one, R: one}
		if n%2 == 0 {
			act = api.Act{Kind: api.AIf, Cond: cond, Then: []api.Act{act}}
		} else {
			act = api.Act{Kind: api.AIf, Cond: cond, Else: []api.Act{act}}
		}
	}
	deepExpr := api.Rule{When: api.WEnd, Line: 3, Col: 4, Acts: []api.Act{{Kind: api.ADraw, Side: api.Both, Num: expr}}}
	if got, want := Size(deepExpr), 2*levels+2; got != want {
		t.Errorf("the size of a deep expr is %d, want %d", got, want)
	}
	deepAct := api.Rule{When: api.WEnd, Line: 3, Col: 4, Acts: []api.Act{act}}
	if got, want := Size(deepAct), 3*levels+levels/2+2; got != want {
		t.Errorf("the size of deep acts is %d, want %d", got, want)
	}
	for _, r := range []api.Rule{deepExpr, deepAct} {
		want := api.Fault{E: api.ErrLong, Line: 3, Col: 4}
		if got := Card(api.Card{Rules: []api.Rule{r}}); got != want {
			t.Errorf("the fault of a deep rule is %v, want %v", got, want)
		}
		if got := Place(api.Place{Rules: []api.Rule{r}}); got != want {
			t.Errorf("the fault of a deep rule is %v, want %v", got, want)
		}
	}
	for n := range levels {
		act = api.Act{Kind: api.AEach, Line: n, Col: 1, Sel: api.Sel{Kind: api.SelMe}, Then: []api.Act{act}}
	}
	want := api.Fault{E: api.ErrDepth, Line: levels - 2, Col: 1}
	if got := Card(api.Card{Rules: []api.Rule{{When: api.WEnd, Acts: []api.Act{act}}}}); got != want {
		t.Errorf("the fault of deep acts is %v, want %v", got, want)
	}
}

// A long text of many cards, all of one name but the first ones.
func TestManyCards(t *testing.T) {
	var file api.File
	for n := range 200000 {
		file.Cards = append(file.Cards, api.Card{Name: fmt.Sprint("N ", min(n, 127)), Line: n + 1, Col: 2})
	}
	if got, want := Check(file), (api.Fault{E: api.ErrMany, Line: 129, Col: 2}); got != want {
		t.Errorf("the fault of many cards is %v, want %v", got, want)
	}
	file.Cards[127].Name = "N 5"
	if got, want := Check(file), (api.Fault{E: api.ErrTwice, Line: 128, Col: 2}); got != want {
		t.Errorf("the fault of many cards is %v, want %v", got, want)
	}
}
