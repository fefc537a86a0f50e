package library

import (
	"fmt"
	"math"
	"slices"
	"strings"
	"testing"

	"trident/api"
	"trident/code"
	"trident/internal/listing"
	"trident/lint"
	"trident/syntax"
	"trident/unparse"
)

// shown writes a value. An empty list is written as nil is.
func shown(v ...any) string {
	return fmt.Sprintf("%+v", v)
}

// check checks what a call answers.
func check(t *testing.T, what, got, want string) {
	t.Helper()
	if got != want {
		t.Errorf("%.2000s is\n%.2000s, want\n%.2000s", what, got, want)
	}
}

// parse returns the file with a text that has no fault.
func parse(t *testing.T, s string) api.File {
	t.Helper()
	f, fault := syntax.Parse(s)
	if fault != (api.Fault{}) {
		t.Fatalf("%.2000s\nhas the fault %v", s, fault)
	}
	return f
}

// around returns the numbers of a list of that length, those next to its ends, the extreme
// ones and some of which a number of fewer bits would be in the list.
func around(length int) []int {
	list := []int{math.MinInt, -1 << 32, -length, -1, length + 1, 256, 1 << 32, math.MaxInt}
	for n := range length + 1 {
		list = append(list, n)
	}
	return list
}

// whens returns every When, and numbers that are none.
func whens() []int {
	list := []int{math.MinInt, -1, 0, 7, 1<<32 + 1, math.MaxInt}
	for when := api.WReveal; when <= api.WEnter; when++ {
		list = append(list, when)
	}
	return list
}

// at returns the item of a list, or a zero one and false.
func at[T any](list []T, n int) (T, bool) {
	var none T
	for i, one := range list {
		if i == n {
			return one, true
		}
	}
	return none, false
}

// checkRules checks what a set tells of the rules of a location or of a card.
func checkRules(t *testing.T, what string, s *Set, place bool, n int, rules []api.Rule) {
	t.Helper()
	what = fmt.Sprintf("%s: of place %v, number %d, ", what, place, n)
	for _, when := range whens() {
		var want []int
		for rule, r := range rules {
			if r.When == when {
				want = append(want, rule)
			}
		}
		check(t, fmt.Sprint(what, "Rules with When ", when), shown(s.Rules(place, n, when)), shown(want))
	}
	for _, rule := range around(len(rules)) {
		r, ok := at(rules, rule)
		got, gotOk := s.Rule(place, n, rule)
		check(t, fmt.Sprint(what, "Rule ", rule), shown(got, gotOk), shown(r, ok))
		var p api.Program
		if ok {
			p = code.Rule(r)
		}
		program, gotOk := s.Program(place, n, rule)
		check(t, fmt.Sprint(what, "Program ", rule), shown(program, gotOk), shown(p, ok))
	}
}

// checkNames checks that a set finds each name of its cards and its locations by its own
// kind, and neither the names of the other kind nor others.
func checkNames(t *testing.T, what string, s *Set, cards, places []string) {
	t.Helper()
	all := append([]string{"", " ", "\"", "\xff", "No Such Name"}, append(slices.Clone(cards), places...)...)
	for _, name := range all {
		for _, one := range []string{name, name + " ", " " + name, name + "\x00", "\"" + name + "\"", strings.ToLower(name), name[:len(name)/2]} {
			check(t, fmt.Sprintf("%s: Find of %q", what, one), shown(s.Find(one)), shown(slices.Index(cards, one)))
			check(t, fmt.Sprintf("%s: FindPlace of %q", what, one), shown(s.FindPlace(one)), shown(slices.Index(places, one)))
		}
	}
}

// checkMake checks the card with number n as a card in a game.
func checkMake(t *testing.T, what string, s *Set, n int, c api.Card, ok bool) {
	t.Helper()
	for _, of := range [][2]int{{0, 0}, {1, 0}, {7, 1}, {-1, -1}, {math.MinInt, math.MaxInt}, {math.MaxInt, math.MinInt}} {
		want := api.Inst{}
		if ok {
			want = api.Inst{Id: of[0], Card: n, Name: c.Name, Cost: c.Cost, Power: c.Power, Plus: 0, Owner: of[1]}
		}
		check(t, fmt.Sprint(what, ": Make of ", n, " with ", of), shown(s.Make(n, of[0], of[1])), shown(want))
	}
}

// checkSet checks that a set is that of a file.
func checkSet(t *testing.T, what string, s *Set, f api.File) {
	t.Helper()
	f = unparse.Strip(f)
	check(t, what+": Cards", shown(s.Cards()), shown(len(f.Cards)))
	check(t, what+": Places", shown(s.Places()), shown(len(f.Places)))
	for _, n := range around(len(f.Cards)) {
		c, ok := at(f.Cards, n)
		got, gotOk := s.Card(n)
		check(t, fmt.Sprint(what, ": Card ", n), shown(got, gotOk), shown(c, ok))
		checkRules(t, what, s, false, n, c.Rules)
		checkMake(t, what, s, n, c, ok)
	}
	for _, n := range around(len(f.Places)) {
		p, ok := at(f.Places, n)
		got, gotOk := s.Place(n)
		check(t, fmt.Sprint(what, ": Place ", n), shown(got, gotOk), shown(p, ok))
		checkRules(t, what, s, true, n, p.Rules)
	}
	var cards, places []string
	for _, c := range f.Cards {
		cards = append(cards, c.Name)
	}
	for _, p := range f.Places {
		places = append(places, p.Name)
	}
	checkNames(t, what, s, cards, places)
}

// checkText checks the sets of a valid text, by Read and by Of.
func checkText(t *testing.T, what, s string) {
	t.Helper()
	f := parse(t, s)
	read, fault := Read(s)
	if read == nil || fault != (api.Fault{}) {
		t.Errorf("%s: Read answers the set %v and the fault %v of\n%.2000s", what, read, fault, s)
	}
	checkSet(t, what+", read", read, f)
	of, fault := Of(f)
	if of == nil || fault != (api.Fault{}) {
		t.Errorf("%s: Of answers the set %v and the fault %v of\n%.2000s", what, of, fault, s)
	}
	checkSet(t, what+", as a file", of, f)
}

// few is a text of cards and locations with several rules, of which some have the same
// When, and with names that a card and a location share.
const few = `card "Ox" cost 2 power -3 {
	reveal { power me 1; }
	end { draw mine 2; }
	reveal { destroy me; } # twice
	always 2 { shield me; }
}
place "Mill" { enter { power it 2; } end { } enter { draw mine 1; } }

card "Mill" cost 0 power 20 { death { spawn "Ox" mine here 1; } moved { } }
place "Fen" { always 3 { aura (both here cost >= 5 all) 2; } reveal { } } card "Elk" cost 9 power 0 { }
place "Elk" { }
`

// readFew returns the set of few.
func readFew(t *testing.T) *Set {
	t.Helper()
	s, fault := Read(few)
	if s == nil || fault != (api.Fault{}) {
		t.Fatalf("Read answers the set %v and the fault %v", s, fault)
	}
	return s
}

// P19.1 and P19.2: the sets of few texts, in which cards and locations are mixed.
func TestFewCards(t *testing.T) {
	checkText(t, "few cards", few)
	checkText(t, "one card", "card \"Elk\" cost 9 power -20 { }")
	checkText(t, "one location", "place \"Elk\" { end { power (both here all) -1; } }")
	checkText(t, "a card and a location", "place \"Elk\" { } card \"Elk\" cost 1 power 1 { end { } }")
}

// P19.2: numbers of cards and of locations, each in the order of the file.
func TestNumbers(t *testing.T) {
	s := readFew(t)
	if s.Cards() != 3 || s.Places() != 3 {
		t.Errorf("there are %d cards and %d locations, want 3 and 3", s.Cards(), s.Places())
	}
	for n, name := range []string{"Ox", "Mill", "Elk"} {
		c, ok := s.Card(n)
		if !ok || c.Name != name || s.Find(name) != n {
			t.Errorf("card %d is %q, %v, and is found as %d, want %q", n, c.Name, ok, s.Find(name), name)
		}
	}
	for n, name := range []string{"Mill", "Fen", "Elk"} {
		p, ok := s.Place(n)
		if !ok || p.Name != name || s.FindPlace(name) != n {
			t.Errorf("location %d is %q, %v, and is found as %d, want %q", n, p.Name, ok, s.FindPlace(name), name)
		}
	}
	for _, n := range []int{math.MinInt, -1, 3, math.MaxInt} {
		c, isCard := s.Card(n)
		p, isPlace := s.Place(n)
		if isCard || isPlace {
			t.Errorf("number %d is the card %v, %v, and the location %v, %v, want none", n, c, isCard, p, isPlace)
		}
	}
}

// P19.2: names of the other kind, and names that differ by little.
func TestNames(t *testing.T) {
	s := readFew(t)
	wants := []struct {
		name        string
		card, place int
	}{
		{"Ox", 0, -1}, {"Fen", -1, 1}, {"Mill", 1, 0}, {"Elk", 2, 2},
		{"", -1, -1}, {"ox", -1, -1}, {"O", -1, -1}, {"Oxen", -1, -1}, {"Ox ", -1, -1}, {" Fen", -1, -1},
		{"FEN", -1, -1}, {"\"Elk\"", -1, -1}, {"\xff", -1, -1}, {"A", -1, -1}, {"Zebra", -1, -1},
	}
	for _, w := range wants {
		if card, place := s.Find(w.name), s.FindPlace(w.name); card != w.card || place != w.place {
			t.Errorf("%q is found as the card %d and the location %d, want %d and %d", w.name, card, place, w.card, w.place)
		}
	}
}

// P19.2: the numbers of the rules with a When, in increasing order.
func TestRulesOfWhens(t *testing.T) {
	s := readFew(t)
	wants := []struct {
		place   bool
		n, when int
		rules   string
	}{
		{false, 0, api.WReveal, "[0 2]"}, {false, 0, api.WEnd, "[1]"}, {false, 0, api.WAlways, "[3]"},
		{false, 0, api.WDeath, "[]"}, {false, 0, api.WMoved, "[]"}, {false, 0, api.WEnter, "[]"},
		{false, 1, api.WDeath, "[0]"}, {false, 1, api.WMoved, "[1]"}, {false, 1, api.WReveal, "[]"},
		{false, 2, api.WReveal, "[]"}, {false, 3, api.WReveal, "[]"}, {false, -1, api.WReveal, "[]"},
		{true, 0, api.WEnter, "[0 2]"}, {true, 0, api.WEnd, "[1]"}, {true, 0, api.WReveal, "[]"},
		{true, 1, api.WAlways, "[0]"}, {true, 1, api.WReveal, "[1]"}, {true, 1, api.WEnter, "[]"},
		{true, 2, api.WEnter, "[]"}, {true, 3, api.WEnter, "[]"}, {true, -1, api.WEnter, "[]"},
		{false, 0, 0, "[]"}, {false, 0, 7, "[]"}, {true, 0, math.MinInt, "[]"}, {true, 0, math.MaxInt, "[]"},
	}
	for _, w := range wants {
		if got := fmt.Sprint(s.Rules(w.place, w.n, w.when)); got != w.rules {
			t.Errorf("the rules with When %d of place %v, number %d, are %s, want %s", w.when, w.place, w.n, got, w.rules)
		}
	}
}

// P19.2: rules and their programs, of cards and of locations with the same numbers.
func TestPrograms(t *testing.T) {
	s := readFew(t)
	wants := []struct {
		place   bool
		n, rule int
		when    int
		listing string
	}{
		{false, 0, 0, api.WReveal, "push 1; power me"}, {false, 0, 1, api.WEnd, "push 2; draw 1"},
		{false, 0, 2, api.WReveal, "destroy me"}, {false, 0, 3, api.WAlways, "shield me"},
		{false, 1, 0, api.WDeath, "push 1; spawn \"Ox\" 1 8"}, {false, 1, 1, api.WMoved, ""},
		{true, 0, 0, api.WEnter, "push 2; power it"}, {true, 0, 1, api.WEnd, ""}, {true, 0, 2, api.WEnter, "push 1; draw 1"},
		{true, 1, 0, api.WAlways, "push 2; aura (both here cost >= 5 all)"}, {true, 1, 1, api.WReveal, ""},
	}
	for _, w := range wants {
		what := fmt.Sprintf("of place %v, number %d, rule %d ", w.place, w.n, w.rule)
		r, ok := s.Rule(w.place, w.n, w.rule)
		if !ok || r.When != w.when {
			t.Errorf("%s is %v, %v, want one with When %d", what, r, ok, w.when)
		}
		want, isListing := listing.Program(w.listing)
		if !isListing {
			t.Fatalf("%q is no listing", w.listing)
		}
		got, ok := s.Program(w.place, w.n, w.rule)
		check(t, what+"the program", shown(got, ok), shown(want, true))
	}
	for _, none := range [][2]int{{0, 4}, {0, -1}, {1, 2}, {2, 0}, {3, 0}, {-1, 0}, {math.MinInt, 0}, {0, math.MaxInt}, {math.MaxInt, math.MinInt}} {
		for _, place := range []bool{false, true} {
			what := fmt.Sprintf("of place %v, number %d, rule %d ", place, none[0], none[1])
			r, ok := s.Rule(place, none[0], none[1])
			check(t, what, shown(r, ok), shown(api.Rule{}, false))
			p, ok := s.Program(place, none[0], none[1])
			check(t, what+"the program", shown(p, ok), shown(api.Program{}, false))
		}
	}
}

// P19.3: cards in a game.
func TestMake(t *testing.T) {
	s := readFew(t)
	check(t, "card 0", shown(s.Make(0, 7, 1)), shown(api.Inst{Id: 7, Card: 0, Name: "Ox", Cost: 2, Power: -3, Owner: 1}))
	check(t, "card 1", shown(s.Make(1, 8, 0)), shown(api.Inst{Id: 8, Card: 1, Name: "Mill", Cost: 0, Power: 20, Owner: 0}))
	check(t, "card 2", shown(s.Make(2, -5, 99)), shown(api.Inst{Id: -5, Card: 2, Name: "Elk", Cost: 9, Power: 0, Owner: 99}))
	for _, n := range []int{math.MinInt, -1, 3, 4, math.MaxInt} {
		check(t, fmt.Sprint("card ", n), shown(s.Make(n, 7, 1)), shown(api.Inst{}))
	}
}

// P19.1: an empty file has an empty set, which is not nil.
func TestNothing(t *testing.T) {
	for _, s := range []string{"", " ", "\n", "# nothing", "# nothing\n\n"} {
		checkText(t, fmt.Sprintf("%q", s), s)
	}
	for _, f := range []api.File{{}, {Cards: []api.Card{}}, {Places: []api.Place{}}, {Cards: []api.Card{}, Places: []api.Place{}}} {
		s, fault := Of(f)
		if s == nil || fault != (api.Fault{}) {
			t.Errorf("Of answers the set %v and the fault %v of an empty file", s, fault)
		}
		checkSet(t, "of an empty file", s, api.File{})
	}
}

// R5: a set that no function created, and one that a call returned with a fault, is empty.
func TestSetsThatNoFunctionCreated(t *testing.T) {
	var none *Set
	var zero Set
	read, _ := Read("card")
	of, _ := Of(api.File{Cards: []api.Card{{Cost: -1}}})
	for what, s := range map[string]*Set{"nil": none, "a zero set": &zero, "new": new(Set), "of a wrong text": read, "of a wrong file": of} {
		checkSet(t, what, s, api.File{})
		checkSet(t, what+", again", s, api.File{})
		if s.Find("Ash Imp") != -1 || s.FindPlace("Old Mill") != -1 || s.Find("") != -1 || s.FindPlace("") != -1 {
			t.Errorf("%s finds a name", what)
		}
	}
	if zero.Cards() != 0 || shown(zero) != shown(Set{}) {
		t.Error("a zero set is changed")
	}
}

// P19.1: lines and columns are stripped, also those deep inside.
func TestPositionsAreStripped(t *testing.T) {
	s, fault := Read("\n card \"Ox\" cost 1 power 2 {\n end { if 1 < 2 { each (mine here all) { destroy it; } } else { return me; } } }\n\n place \"Fen\" { end { } }")
	if fault != (api.Fault{}) {
		t.Fatalf("there is the fault %v", fault)
	}
	sel := api.Sel{Kind: api.SelAll, Side: api.Mine, Where: api.Here, Pick: api.All}
	act := api.Act{
		Kind: api.AIf,
		Cond: api.Cond{Op: api.Lt, L: api.Expr{Kind: api.ENum, N: 1}, R: api.Expr{Kind: api.ENum, N: 2}},
		Then: []api.Act{{Kind: api.AEach, Sel: sel, Then: []api.Act{{Kind: api.ADestroy, Sel: api.Sel{Kind: api.SelIt}}}}},
		Else: []api.Act{{Kind: api.AReturn, Sel: api.Sel{Kind: api.SelMe}}},
	}
	rule := api.Rule{When: api.WEnd, Acts: []api.Act{act}}
	c, ok := s.Card(0)
	check(t, "the card", shown(c, ok), shown(api.Card{Name: "Ox", Cost: 1, Power: 2, Rules: []api.Rule{rule}}, true))
	p, ok := s.Place(0)
	check(t, "the location", shown(p, ok), shown(api.Place{Name: "Fen", Rules: []api.Rule{{When: api.WEnd}}}, true))
	r, ok := s.Rule(false, 0, 0)
	check(t, "the rule", shown(r, ok), shown(rule, true))
}

// named returns so many texts of a form with different names.
func named(form string, n int) string {
	var list []string
	for i := range n {
		list = append(list, fmt.Sprintf(form, i))
	}
	return strings.Join(list, "\n")
}

// P19.1: the most cards and locations; with one more there is none.
func TestTheGreatestSet(t *testing.T) {
	cards := named(`card "N %d" cost 1 power 1 { end { draw mine 1; } end { } reveal { } end { destroy me; } }`, api.MaxCards)
	places := named(`place "N %d" { enter { draw mine 2; } reveal { } enter { } end { } }`, api.MaxPlaces)
	checkText(t, "the greatest set", places+"\n"+cards)
	s, fault := Read(cards + "\n" + places + "\ncard \"Ox\" cost 1 power 1 { }")
	if s != nil || fault != (api.Fault{E: api.ErrMany, Line: 161, Col: 1}) {
		t.Errorf("with one more card there is the fault %v", fault)
	}
	s, fault = Read(cards + "\n" + places + " place \"Ox\" { }")
	if s != nil || fault.E != api.ErrMany || fault.Line != 160 {
		t.Errorf("with one more location there is the fault %v", fault)
	}
}

// checkFault checks the fault of a text, by Read and, if it is parsed, by Of.
func checkFault(t *testing.T, s string, want api.Fault) {
	t.Helper()
	f, parsed := syntax.Parse(s)
	if set, fault := Read(s); set != nil || fault != want {
		t.Errorf("Read answers the set %v and the fault %v, want nil and %v, of\n%.2000s", set, fault, want, s)
	}
	if parsed != (api.Fault{}) {
		return
	}
	if set, fault := Of(f); set != nil || fault != want {
		t.Errorf("Of answers the set %v and the fault %v, want nil and %v, of\n%.2000s", set, fault, want, s)
	}
}

// P19.1: the faults of texts and of files.
func TestFaults(t *testing.T) {
	wants := []struct {
		s         string
		e         api.Errno
		line, col int
	}{
		// That of tokens.Scan and of syntax.Parse.
		{"card \"Ox\" ?", api.ErrChar, 1, 11},
		{"\n card 007", api.ErrRange, 2, 7},
		{"card", api.ErrEnd, 1, 5},
		{"place \"Fen\" { }\ncard \"Ox\" cost 1 power 2 { end {", api.ErrEnd, 2, 33},
		{"card \"Ox\" cost power 2 { }", api.ErrToken, 1, 16},
		{"\n\nbanana", api.ErrToken, 3, 1},
		{"place \"Fen\" { end { if 1 < " + strings.Repeat("(", 9) + "1", api.ErrDepth, 1, 36},
		// That of lint.Check.
		{"card \"Ox\" cost 1 power 2 { }\n card \"Ox\" cost 1 power 2 { }", api.ErrTwice, 2, 2},
		{"place \"Fen\" { } place \"Elk\" { } place \"Fen\" { }", api.ErrTwice, 1, 33},
		{"card \"Ox\" cost 10 power 2 { }", api.ErrRange, 1, 1},
		{"\n  card \"Ox\" cost 1 power -21 { }", api.ErrRange, 2, 3},
		{"card \"Ox\" cost 1 power 2 { end { } end { } end { } end { } end { } }", api.ErrMany, 1, 60},
		{"card \"Ox\" cost 1 power 2 {\nenter { } }", api.ErrKind, 2, 1},
		{"place \"Fen\" { death { } }", api.ErrKind, 1, 15},
		{"place \"Fen\" { always 4 { } }", api.ErrRange, 1, 15},
		{"card \"Ox\" cost 1 power 2 { end { each me { each me { } } } }", api.ErrDepth, 1, 44},
		{"place \"Mill\" { end { draw mine 1; } }", api.ErrSide, 1, 22},
		{"card \"Ox\" cost 1 power 2 { end { destroy (mine lane 4 all); } }", api.ErrLane, 1, 34},
		{"card \"Ox\" cost 1 power 2 { end { power me 1" + strings.Repeat(" + 1", 48) + "; } }", api.ErrLong, 1, 28},
	}
	for _, w := range wants {
		checkFault(t, w.s, api.Fault{E: w.e, Line: w.line, Col: w.col})
		checkFault(t, "# first\n"+w.s, api.Fault{E: w.e, Line: w.line + 1, Col: w.col})
	}
	checkFault(t, strings.Repeat(" ", api.MaxText+1), api.Fault{E: api.ErrLong, Line: 1, Col: 1})
}

// R2: a fault of syntax.Parse is the first one, also where one of lint.Check stands before
// it; of the latter that of a card is before that of a location.
func TestOrderOfFaults(t *testing.T) {
	wrong := "place \"Fen\" { always 4 { } }\ncard \"Ox\" cost 1 power 99 { }\n"
	checkFault(t, wrong, api.Fault{E: api.ErrRange, Line: 2, Col: 1})
	checkFault(t, wrong+"card", api.Fault{E: api.ErrEnd, Line: 3, Col: 5})
	checkFault(t, wrong+"card ?", api.Fault{E: api.ErrChar, Line: 3, Col: 6})
}

// P19.1: what lint.Check says of a file without positions.
func TestFaultsWithoutPositions(t *testing.T) {
	f := unparse.Strip(parse(t, "place \"Fen\" { } card \"Ox\" cost 1 power 99 { }"))
	if s, fault := Of(f); s != nil || fault != (api.Fault{E: api.ErrRange}) {
		t.Errorf("Of answers the set %v and the fault %v, want nil and ErrRange without a position", s, fault)
	}
	if fault := lint.Check(f); fault.E != api.ErrRange {
		t.Errorf("lint.Check answers the fault %v", fault)
	}
}
