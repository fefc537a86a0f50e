package library

import (
	"slices"
	"strings"
	"testing"

	"trident/api"
	"trident/atlas"
	"trident/expansion"
	"trident/prog"
	"trident/starter"
	"trident/unparse"
)

// P19.1: the cards of starter, those of expansion, the locations of atlas.
func TestShipped(t *testing.T) {
	texts := slices.Concat(starter.Lines(), expansion.Lines(), atlas.Lines())
	f := parse(t, strings.Join(texts, "\n"))
	checkSet(t, "the shipped set", Shipped(), f)
	s := Shipped()
	checkSet(t, "the shipped set, once more", s, f)
	checkSet(t, "the shipped set, asked again", s, f)
	checkText(t, "all built-in texts", strings.Join(texts, " "))
}

// P19.4: each built-in text is in the shipped set, and found by its name.
func TestBuiltInTexts(t *testing.T) {
	s := Shipped()
	for n, text := range slices.Concat(starter.Lines(), expansion.Lines()) {
		c, ok := s.Card(n)
		if !ok || unparse.Card(c) != text {
			t.Errorf("card %d is %q, %v, want %q", n, unparse.Card(c), ok, text)
		}
		_, name, _ := strings.Cut(text, "\"")
		name, _, _ = strings.Cut(name, "\"")
		if at := s.Find(name); at != n {
			t.Errorf("the card %q is found as %d, want %d", name, at, n)
		}
		if at := s.FindPlace(name); at != -1 {
			t.Errorf("the card %q is found as the location %d", name, at)
		}
	}
	for n, text := range atlas.Lines() {
		p, ok := s.Place(n)
		if !ok || unparse.Place(p) != text {
			t.Errorf("location %d is %q, %v, want %q", n, unparse.Place(p), ok, text)
		}
		_, name, _ := strings.Cut(text, "\"")
		name, _, _ = strings.Cut(name, "\"")
		if at := s.FindPlace(name); at != n {
			t.Errorf("the location %q is found as %d, want %d", name, at, n)
		}
		if at := s.Find(name); at != -1 {
			t.Errorf("the location %q is found as the card %d", name, at)
		}
	}
}

// The chapter's examples.
func TestExamples(t *testing.T) {
	s := Shipped()
	if s.Cards() != 90 || s.Places() != 24 {
		t.Errorf("there are %d cards and %d locations, want 90 and 24", s.Cards(), s.Places())
	}
	if c, ok := s.Card(0); !ok || c.Name != "Ash Imp" {
		t.Errorf("card 0 is %q, %v, want Ash Imp", c.Name, ok)
	}
	if c, ok := s.Card(46); !ok || c.Name != "Sun Giant" {
		t.Errorf("card 46 is %q, %v, want Sun Giant", c.Name, ok)
	}
	if imp, giant := s.Find("Ash Imp"), s.Find("Sun Giant"); imp != 0 || giant != 46 {
		t.Errorf("Ash Imp is card %d and Sun Giant card %d, want 0 and 46", imp, giant)
	}
}

// P19.2 with P15.1: each shipped program is valid.
func TestShippedPrograms(t *testing.T) {
	s := Shipped()
	all := 0
	for n := range 90 {
		for rule := range api.MaxRules {
			for _, place := range []bool{false, true} {
				p, ok := s.Program(place, n, rule)
				if e, at := prog.Check(p); e != api.OK {
					t.Errorf("of place %v, number %d, rule %d the program has the error %d at %d", place, n, rule, e, at)
				}
				if _, exists := s.Rule(place, n, rule); exists != ok {
					t.Errorf("of place %v, number %d, rule %d there is a rule: %v, a program: %v", place, n, rule, exists, ok)
				}
				if ok {
					all++
				}
			}
		}
	}
	rules := 0
	for _, text := range slices.Concat(starter.Lines(), expansion.Lines(), atlas.Lines()) {
		for _, when := range []string{"reveal {", "death {", "moved {", "end {", "enter {", "always "} {
			rules += strings.Count(text, when)
		}
	}
	if all != rules || all == 0 {
		t.Errorf("there are %d programs, want %d", all, rules)
	}
}

// R3: a shipped set is a new one each time.
func TestShippedIsNew(t *testing.T) {
	if Shipped() == Shipped() {
		t.Error("Shipped answers the same memory twice")
	}
}
