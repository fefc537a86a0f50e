package library

import (
	"fmt"
	"math/rand"
	"slices"
	"strings"
	"testing"

	"trident/api"
	"trident/internal/grammar"
	"trident/internal/odd"
	"trident/lint"
	"trident/syntax"
)

// drawText returns a text of cards and locations, with lines. Some have the same name as
// one of the other kind.
func drawText(g grammar.Grammar, draws *rand.Rand, items, room, deep int) string {
	var list []string
	count := map[string]int{}
	for range items {
		kind := []string{"card", "place"}[draws.Intn(2)]
		one := g.Draw(kind, draws.Intn, room, deep)
		one[1] = fmt.Sprintf("\"N %d\"", (count[kind]*7+len(kind))%23)
		count[kind]++
		list = append(list, one...)
	}
	gaps := []string{" ", " ", " ", "\n", "  ", "# a card \"A\"\n"}
	text := ""
	for _, one := range list {
		text += one + gaps[draws.Intn(len(gaps))]
	}
	return text
}

// P19.1 to P19.3: the sets of drawn texts, and their faults.
func TestDrawnTexts(t *testing.T) {
	g := grammar.Valid()
	draws := rand.New(rand.NewSource(191))
	valid := 0
	for n := range 400 {
		s := drawText(g, draws, n%7, n%17*20, n%6)
		f, fault := syntax.Parse(s)
		if fault == (api.Fault{}) {
			fault = lint.Check(f)
		}
		if fault != (api.Fault{}) {
			checkFault(t, s, fault)
		} else {
			checkText(t, "a drawn text", s)
			valid++
		}
		if t.Failed() {
			t.Fatalf("in\n%.3000s", s)
		}
	}
	if valid < 200 {
		t.Errorf("only %d drawn texts are valid", valid)
	}
}

// P19.1: a fault is that of syntax.Parse, or else that of lint.Check.
func TestDrawnFaults(t *testing.T) {
	g := grammar.Read(grammar.Cards)
	draws := rand.New(rand.NewSource(192))
	seen := map[api.Errno]int{}
	for n := range 3000 {
		list := g.Draw("file", draws.Intn, n%100, n%5)
		if len(list) > 0 && n%3 > 0 {
			i := draws.Intn(len(list))
			list = slices.Delete(list, i, min(len(list), i+1+draws.Intn(2)))
		}
		s := strings.Join(list, []string{" ", "\n", " # so\n "}[n%3])
		f, fault := syntax.Parse(s)
		if fault == (api.Fault{}) {
			fault = lint.Check(f)
		}
		seen[fault.E]++
		if fault == (api.Fault{}) {
			checkText(t, "a drawn text", s)
		} else {
			checkFault(t, s, fault)
		}
		if t.Failed() {
			t.Fatalf("in\n%.3000s", s)
		}
	}
	for _, e := range []api.Errno{api.OK, api.ErrEnd, api.ErrToken, api.ErrRange, api.ErrKind, api.ErrSide, api.ErrTwice} {
		if seen[e] < 5 {
			t.Errorf("the error %d comes only %d times: %v", e, seen[e], seen)
		}
	}
}

// checkOdd checks that Of ends for a tree that no text may have, and what it answers then.
func checkOdd(t *testing.T, what string, f api.File) bool {
	t.Helper()
	s, fault := Of(f)
	if want := lint.Check(f); fault != want {
		t.Errorf("%s: there is the fault %v, want %v", what, fault, want)
	}
	if fault != (api.Fault{}) {
		if s != nil {
			t.Errorf("%s: there is a set beside the fault %v", what, fault)
		}
		return false
	}
	checkSet(t, what, s, f)
	return true
}

// R1: trees that no text has.
func TestTreesThatNoTextHas(t *testing.T) {
	draws := rand.New(rand.NewSource(193))
	pen := odd.Pen{Draw: draws.Intn}
	accepted := 0
	for n := range 2000 {
		f := pen.File(1 + n%6)
		for i := range f.Cards {
			f.Cards[i].Cost, f.Cards[i].Power = 1, 1
			if n%2 == 0 {
				f.Cards[i].Name = fmt.Sprint(i)
			}
		}
		if n%3 == 0 {
			f.Places = nil
		}
		if checkOdd(t, "a drawn tree", f) && len(f.Cards)+len(f.Places) > 0 {
			accepted++
		}
		if t.Failed() {
			t.Fatalf("in\n%.3000s", shown(f))
		}
	}
	if accepted < 100 {
		t.Errorf("lint accepts only %d drawn trees", accepted)
	}
}

// R1: an empty name, rules and acts of kinds that do not exist.
func TestKindsThatNoTextHas(t *testing.T) {
	for kind := -2; kind < 30; kind++ {
		rules := []api.Rule{{When: kind, Acts: []api.Act{{Kind: kind, Line: 3, Col: 4}}}}
		checkOdd(t, fmt.Sprint("kind ", kind), api.File{Cards: []api.Card{{Rules: rules}}})
		checkOdd(t, fmt.Sprint("kind ", kind), api.File{Places: []api.Place{{Rules: rules}}})
	}
}

// R1: trees as deep as the bound allows, of which lint looks into some.
func TestDeepTrees(t *testing.T) {
	const levels = 65536
	for _, kind := range []int{0, api.EBin} {
		expr := api.Expr{Kind: api.ENum}
		for range levels {
			expr = api.Expr{Kind: kind, N: api.Plus, Kids: []api.Expr{expr, {Kind: api.ENum}}}
		}
		rules := []api.Rule{{When: api.WEnd, Line: 3, Col: 4, Acts: []api.Act{{Kind: api.ADraw, Side: api.Both, Num: expr}}}}
		s, fault := Of(api.File{Places: []api.Place{{Rules: rules}}})
		if (s == nil) != (fault != api.Fault{}) {
			t.Errorf("Of answers the set %v and the fault %v", s == nil, fault)
		}
		if kind == api.EBin && fault != (api.Fault{E: api.ErrLong, Line: 3, Col: 4}) {
			t.Errorf("the fault of a deep expr is %v", fault)
		}
	}
	for _, kind := range []int{0, api.AIf, api.AEach} {
		act := api.Act{Kind: api.ADestroy, Sel: api.Sel{Kind: api.SelMe}}
		for range levels {
			act = api.Act{Kind: kind, Sel: api.Sel{Kind: api.SelMe}, Then: []api.Act{act}}
		}
		s, fault := Of(api.File{Cards: []api.Card{{Rules: []api.Rule{{When: api.WEnd, Acts: []api.Act{act}}}}}})
		if (s == nil) != (fault != api.Fault{}) {
			t.Errorf("Of answers the set %v and the fault %v", s == nil, fault)
		}
	}
}

// A file of many cards: what stands behind the last one that may be there is not looked at.
func TestManyCards(t *testing.T) {
	var f api.File
	for n := range 200000 {
		f.Cards = append(f.Cards, api.Card{Name: fmt.Sprint("N ", n), Line: n + 1, Col: 2})
	}
	if s, fault := Of(f); s != nil || fault != (api.Fault{E: api.ErrMany, Line: 129, Col: 2}) {
		t.Errorf("there is the fault %v", fault)
	}
}
