package lint

import (
	"fmt"
	"slices"
	"strings"
	"testing"

	"trident/api"
	"trident/syntax"
	"trident/tokens"
	"trident/unparse"
)

// check checks what lint says of a text. A mark @ stands before the card, the location, the
// rule or the act that has the fault with that error; if the error is OK, nothing has one.
func check(t *testing.T, what, s string, e api.Errno) {
	t.Helper()
	s, want := unmarked(s, e)
	checkFault(t, what, s, want)
}

// unmarked returns a text without its mark, and the fault that it has then.
func unmarked(s string, e api.Errno) (string, api.Fault) {
	before, after, _ := strings.Cut(s, "@")
	if e == api.OK {
		return before + after, api.Fault{}
	}
	line, col := 1+strings.Count(before, "\n"), 1+len([]rune(before[strings.LastIndex(before, "\n")+1:]))
	return before + after, api.Fault{E: e, Line: line, Col: col}
}

// checkFault checks that a text has the fault, that it has it also with other blanks, and
// that its cards and locations, each alone, have it or none.
func checkFault(t *testing.T, what, s string, want api.Fault) {
	t.Helper()
	file := parse(t, what, s)
	before := fmt.Sprint(file)
	if got := Check(file); got != want {
		t.Errorf("%s: %.3000s\nhas the fault %v, want %v", what, s, got, want)
	}
	checkAlone(t, what, file, want)
	if want.E == api.OK {
		checkLess(t, what, file)
	}
	if fmt.Sprint(file) != before {
		t.Errorf("%s: the calls changed the file", what)
	}
	if got := Check(unparse.Strip(file)); got != (api.Fault{E: want.E}) {
		t.Errorf("%s: without positions the fault is %v, want %v", what, got, want)
	}
	if other, moved := relaid(t, s, want); len(other) <= api.MaxText {
		if got := Check(parse(t, what, other)); got != moved {
			t.Errorf("%s, with other blanks: %.3000s\nhas the fault %v, want %v", what, other, got, moved)
		}
	}
}

// parse returns the file of a text.
func parse(t *testing.T, what, s string) api.File {
	t.Helper()
	file, fault := syntax.Parse(s)
	if fault != (api.Fault{}) {
		t.Fatalf("%s: %.3000s\nis not parsed: %v", what, s, fault)
	}
	return file
}

// relaid returns the text with other blanks, and comments, between its tokens, and the
// fault at the same token.
func relaid(t *testing.T, s string, fault api.Fault) (string, api.Fault) {
	t.Helper()
	list, _ := tokens.Scan(s)
	var text strings.Builder
	moved := api.Fault{E: fault.E}
	for i, tok := range list[:len(list)-1] {
		if tok.Kind == api.TName {
			tok.Text = "\"" + tok.Text + "\""
		}
		text.WriteString("#@\n" + strings.Repeat("\t", i%3) + tok.Text + "\n")
		if tok.Line == fault.Line && tok.Col == fault.Col {
			moved.Line, moved.Col = 2*i+2, i%3+1
		}
	}
	return text.String(), moved
}

// item is a card or a location: where it begins, and what fault it has alone.
type item struct {
	line, col int
	alone     api.Fault
}

// items returns the cards and then the locations of a file.
func items(file api.File) []item {
	var list []item
	for _, c := range file.Cards {
		list = append(list, item{c.Line, c.Col, Card(c)})
	}
	for _, p := range file.Places {
		list = append(list, item{p.Line, p.Col, Place(p)})
	}
	return list
}

// before reports whether one position is before the other, or the same.
func before(line, col, line2, col2 int) bool {
	return line < line2 || line == line2 && col <= col2
}

// checkAlone checks the cards and the locations of a file, each alone: up to the one that
// the fault is in they have none, and that one has it, if it is not a fault of the file.
func checkAlone(t *testing.T, what string, file api.File, want api.Fault) {
	t.Helper()
	list := items(file)
	at := -1
	for i, one := range list {
		if before(one.line, one.col, want.Line, want.Col) && (at < 0 || before(list[at].line, list[at].col, one.line, one.col)) {
			at = i
		}
	}
	for i, one := range list {
		expected := api.Fault{}
		if i == at {
			expected = want
		}
		ofFile := i == at && one.line == want.Line && one.col == want.Col && want.E != api.ErrRange
		if !ofFile && one.alone != expected {
			t.Errorf("%s: card or location %d has alone the fault %v, want %v", what, i, one.alone, expected)
		}
		if i == at {
			return
		}
	}
}

// without returns the list without one of its items.
func without[T any](list []T, i int) []T {
	return slices.Concat(list[:i], list[i+1:])
}

// lessOfRules returns the rules without each one of them, and without the last act of each.
func lessOfRules(rules []api.Rule) [][]api.Rule {
	var all [][]api.Rule
	for i, r := range rules {
		all = append(all, without(rules, i))
		if len(r.Acts) > 0 {
			less := slices.Clone(rules)
			less[i].Acts = without(r.Acts, len(r.Acts)-1)
			all = append(all, less)
		}
	}
	return all
}

// checkLess checks P13.2 of a file without faults: without a card, a location, a rule or the
// last act of a rule it has none either.
func checkLess(t *testing.T, what string, file api.File) {
	t.Helper()
	valid := func(less api.File) {
		if got := Check(less); got != (api.Fault{}) {
			t.Errorf("%s: of %.3000s\nsome is left out, and the rest has the fault %v", what, unparse.File(file), got)
		}
	}
	for i, c := range file.Cards {
		valid(api.File{Cards: without(file.Cards, i), Places: file.Places})
		for _, rules := range lessOfRules(c.Rules) {
			less := slices.Clone(file.Cards)
			less[i].Rules = rules
			valid(api.File{Cards: less, Places: file.Places})
		}
	}
	for i, p := range file.Places {
		valid(api.File{Cards: file.Cards, Places: without(file.Places, i)})
		for _, rules := range lessOfRules(p.Rules) {
			less := slices.Clone(file.Places)
			less[i].Rules = rules
			valid(api.File{Cards: file.Cards, Places: less})
		}
	}
}

// The chapter's example.
func TestExample(t *testing.T) {
	checkFault(t, "the example", `place "Mill" { end { draw mine 1; } }`, api.Fault{E: api.ErrSide, Line: 1, Col: 22})
}

// named returns n cards or locations of different names.
func named(form string, n int) string {
	var text strings.Builder
	for i := range n {
		text.WriteString(fmt.Sprintf(form, fmt.Sprintf("N %d", i)))
	}
	return text.String()
}

const (
	cardForm  = "card %q cost 1 power 2 { }\n"
	placeForm = "place %q { }\n"
)

func TestNothing(t *testing.T) {
	check(t, "no text", "", api.OK)
	check(t, "a comment", "# card", api.OK)
	check(t, "a card", `card "A" cost 1 power 2 { }`, api.OK)
	check(t, "a location", `place "A" { }`, api.OK)
	check(t, "rules without acts", `card "A" cost 1 power 2 { reveal { } } place "A" { end { } }`, api.OK)
	checkFault(t, "no file", "", api.Fault{})
	if got := [3]api.Fault{Check(api.File{}), Card(api.Card{}), Place(api.Place{})}; got != [3]api.Fault{} {
		t.Errorf("nothing has the faults %v", got)
	}
}

func TestNumbersOfCardsAndLocations(t *testing.T) {
	const card, place = `card "Z" cost 1 power 2 { }`, `place "Z" { }`
	check(t, "127 cards and one more", named(cardForm, 127)+card, api.OK)
	check(t, "128 cards", named(cardForm, 128), api.OK)
	check(t, "129 cards", named(cardForm, 128)+"@"+card, api.ErrMany)
	check(t, "131 cards", named(cardForm, 128)+"@"+card+card+card, api.ErrMany)
	check(t, "129 cards, the last of a name that is there", named(cardForm, 128)+`@card "N 7" cost 1 power 2 { }`, api.ErrMany)
	check(t, "129 cards, the last of too much cost", named(cardForm, 128)+`@card "Z" cost 10 power 2 { }`, api.ErrMany)
	check(t, "31 locations and one more", named(placeForm, 31)+place, api.OK)
	check(t, "32 locations", named(placeForm, 32), api.OK)
	check(t, "33 locations", named(placeForm, 32)+"@"+place, api.ErrMany)
	check(t, "35 locations", named(placeForm, 32)+"@"+place+place+place, api.ErrMany)
	check(t, "33 locations, the last of a name that is there", named(placeForm, 32)+`@place "N 7" { }`, api.ErrMany)
	check(t, "33 locations, the last of a wrong rule", named(placeForm, 32)+`@place "Z" { death { } }`, api.ErrMany)
	check(t, "128 cards and 32 locations", named(cardForm, 128)+named(placeForm, 32), api.OK)
	check(t, "128 cards and 33 locations", named(placeForm, 32)+"@"+place+named(cardForm, 128), api.ErrMany)
	check(t, "129 cards and 33 locations", named(placeForm, 33)+named(cardForm, 128)+"@"+card, api.ErrMany)
	check(t, "33 cards", named(cardForm, 33), api.OK)
}

func TestNames(t *testing.T) {
	check(t, "a name of a card twice", `card "A" cost 1 power 2 { } @card "A" cost 1 power 2 { }`, api.ErrTwice)
	check(t, "three times", `card "A" cost 1 power 2 { } @card "A" cost 1 power 2 { } card "A" cost 1 power 2 { }`, api.ErrTwice)
	check(t, "a name not of the card before", `card "B" cost 1 power 2 { } card "A" cost 1 power 2 { } @card "B" cost 1 power 2 { }`, api.ErrTwice)
	check(t, "two names twice", `card "B" cost 1 power 2 { } card "A" cost 1 power 2 { } @card "A" cost 1 power 2 { } card "B" cost 1 power 2 { }`, api.ErrTwice)
	check(t, "a name of a location twice", `place "A" { } @place "A" { }`, api.ErrTwice)
	check(t, "not of the location before", `place "B" { } place "A" { } place "C" { } @place "B" { } place "A" { }`, api.ErrTwice)
	check(t, "a card and a location of a name", `place "A" { } card "A" cost 1 power 2 { }`, api.OK)
	check(t, "a card, a location and a card of a name", `card "A" cost 1 power 2 { } place "A" { } @card "A" cost 1 power 2 { }`, api.ErrTwice)
	check(t, "a location, a card and a location of a name", `place "A" { } card "A" cost 1 power 2 { } @place "A" { }`, api.ErrTwice)
	check(t, "names that differ", `card "A" cost 1 power 2 { } card "a" cost 1 power 2 { } card "A a" cost 1 power 2 { } card "É" cost 1 power 2 { }`, api.OK)
	check(t, "the 128th card", named(cardForm, 127)+`@card "N 0" cost 1 power 2 { }`, api.ErrTwice)
	check(t, "the 32nd location", named(placeForm, 31)+`@place "N 30" { }`, api.ErrTwice)
	check(t, "names of cards that acts make", `card "A" cost 1 power 2 { reveal { spawn "A" mine here 1; spawn "A" mine here 1; } }`, api.OK)
}

func TestCostAndPower(t *testing.T) {
	for _, n := range []int{0, 1, 5, 8, 9} {
		check(t, "a cost", fmt.Sprintf(`card "A" cost %d power 2 { }`, n), api.OK)
	}
	for _, n := range []int{10, 11, 99} {
		check(t, "a cost", fmt.Sprintf(`card "B" cost 9 power 20 { } @card "A" cost %d power 2 { }`, n), api.ErrRange)
	}
	for n := -20; n <= 20; n++ {
		check(t, "a power", fmt.Sprintf(`card "A" cost 1 power %d { }`, n), api.OK)
	}
	for _, n := range []int{-99, -22, -21, 21, 22, 99} {
		check(t, "a power", fmt.Sprintf(`card "B" cost 0 power -20 { } @card "A" cost 1 power %d { }`, n), api.ErrRange)
	}
	check(t, "both", `@card "A" cost 10 power 21 { }`, api.ErrRange)
	// No text has a cost below 0.
	for _, n := range []int{-1, -10, -1 << 63} {
		if got := Card(api.Card{Name: "A", Cost: n, Line: 3, Col: 4}); got != (api.Fault{E: api.ErrRange, Line: 3, Col: 4}) {
			t.Errorf("of cost %d a card has the fault %v", n, got)
		}
	}
}

// whens are all kinds of rules that a card and a location may have, and those that it must
// not have.
var whens = []struct {
	owner       string
	may, mustnt []string
}{
	{`card "A" cost 1 power 2`, []string{"reveal", "death", "moved", "end", "always 1"}, []string{"enter"}},
	{`place "A"`, []string{"reveal", "end", "always 1", "enter"}, []string{"death", "moved"}},
}

func TestKindsOfRules(t *testing.T) {
	for _, c := range whens {
		for _, when := range c.may {
			check(t, "a rule", c.owner+" { "+when+" { } }", api.OK)
			check(t, "a rule again", c.owner+" { "+when+" { } "+when+" { } end { } }", api.OK)
		}
		for _, when := range c.mustnt {
			check(t, "a rule", c.owner+" { @"+when+" { } }", api.ErrKind)
			check(t, "a later rule", c.owner+" { end { } end { }\n@"+when+" { } always 4 { } }", api.ErrKind)
		}
	}
}

func TestNumbersOfRules(t *testing.T) {
	for _, c := range whens {
		for _, when := range c.may {
			check(t, "4 rules", c.owner+" { "+strings.Repeat(when+" { } ", 4)+"}", api.OK)
			check(t, "5 rules", c.owner+" { "+strings.Repeat(when+" { } ", 4)+"@"+when+" { } }", api.ErrMany)
			check(t, "7 rules", c.owner+" { "+strings.Repeat(when+" { } ", 4)+"@"+when+" { } end { } end { } }", api.ErrMany)
		}
		for _, when := range append(c.mustnt, "always 0", "always 4") {
			check(t, "5 rules, the last a wrong one", c.owner+" { "+strings.Repeat("end { } ", 4)+"@"+when+" { } }", api.ErrMany)
		}
		other := ` place "B" { end { } end { } end { } end { } } card "B" cost 1 power 2 { end { } end { } end { } end { } } `
		check(t, "4 rules each", other+c.owner+" { end { } end { } end { } end { } }", api.OK)
	}
}

func TestStrata(t *testing.T) {
	for _, c := range whens {
		for n := range 6 {
			want := api.ErrRange
			if n >= 1 && n <= 3 {
				want = api.OK
			}
			check(t, "a stratum", fmt.Sprintf("%s { end { } @always %d { } }", c.owner, n), want)
			check(t, "a stratum of a rule with acts", fmt.Sprintf("%s { @always %d { aura (both here all) 1; } end { } }", c.owner, n), want)
		}
		check(t, "a stratum", c.owner+" { @always 99 { } }", api.ErrRange)
	}
	// No text has a stratum below 0, or one of another rule.
	for _, n := range []int{-1, -2, -1 << 63, 1<<63 - 1} {
		rules := []api.Rule{{When: api.WEnd, Stratum: n}, {When: api.WAlways, Stratum: n, Line: 5, Col: 6}}
		want := api.Fault{E: api.ErrRange, Line: 5, Col: 6}
		if got := [2]api.Fault{Card(api.Card{Rules: rules}), Place(api.Place{Rules: rules})}; got != [2]api.Fault{want, want} {
			t.Errorf("of stratum %d a rule has the faults %v", n, got)
		}
	}
}
