package expansion

import (
	"math"
	"slices"
	"strings"
	"sync"
	"testing"
	"unicode/utf8"

	"trident/api"
	"trident/code"
	"trident/lint"
	"trident/names"
	"trident/prog"
	"trident/runes"
	"trident/syntax"
	"trident/unparse"
)

// wanted are the chapter's lines without their line feeds.
func wanted() []string {
	return strings.Split(strings.TrimSuffix(chapter, "\n"), "\n")
}

// checkText checks a text, and tells from where on it differs.
func checkText(t *testing.T, what, got, want string) {
	t.Helper()
	if got == want {
		return
	}
	at := 0
	for at < min(len(got), len(want)) && got[at] == want[at] {
		at++
	}
	t.Errorf("%s is %q, want %q: they differ at byte %d", what, got, want, at)
}

// checkLines checks a list, and what Line and Count answer at that time.
func checkLines(t *testing.T, what string, lines []string) {
	t.Helper()
	want := wanted()
	if len(lines) != len(want) || Count() != len(want) {
		t.Errorf("%s: %d strings, Count %d, want %d", what, len(lines), Count(), len(want))
		return
	}
	for n, line := range want {
		checkText(t, what+": a string of Lines", lines[n], line)
		checkText(t, what+": a Line", Line(n), line)
	}
}

// card returns the tree of a text that is one card and no location.
func card(t *testing.T, line string) api.Card {
	t.Helper()
	file, fault := syntax.Parse(line)
	if fault != (api.Fault{}) {
		t.Fatalf("%q has the fault %v", line, fault)
	}
	if len(file.Cards) != 1 || len(file.Places) != 0 {
		t.Fatalf("%q is %d cards and %d locations, want 1 and 0", line, len(file.Cards), len(file.Places))
	}
	return file.Cards[0]
}

// The chapter's lines stand in these tests as P17.1 counts them.
func TestChapter(t *testing.T) {
	if n := len(wanted()); n != 44 {
		t.Errorf("there are %d lines of the chapter, want 44", n)
	}
	for _, line := range wanted() {
		if !strings.HasPrefix(line, "card \"") || !strings.HasSuffix(line, " }") {
			t.Errorf("a line of the chapter is %q", line)
		}
	}
}

// P17.1: the strings of the chapter, in its order, by Lines and by Line.
func TestLines(t *testing.T) {
	checkLines(t, "at first", Lines())
	checkLines(t, "again", Lines())
}

// P17.1: Count.
func TestCount(t *testing.T) {
	if n := Count(); n != 44 {
		t.Errorf("Count is %d, want 44", n)
	}
}

// P17.1: Line at the ends of the list.
func TestLineAtEnds(t *testing.T) {
	checkText(t, "Line(0)", Line(0), "card \"Sun Giant\" cost 6 power 12 { }")
	checkText(t, "Line(43)", Line(43), "card \"Council\" cost 5 power 3 { always 3 { "+
		"aura me sum (mine here cost <= 2 all); } }")
	checkText(t, "Line(44)", Line(44), "")
	checkText(t, "Line(-1)", Line(-1), "")
}

// P17.1 and R1: Line is empty below 0 and from 44 on, also where a number of fewer bits would
// be the index of a string.
func TestNoLine(t *testing.T) {
	for n := range 10000 {
		checkText(t, "a Line below 0", Line(-1-n), "")
		checkText(t, "a Line from 44 on", Line(44+n), "")
		checkText(t, "a Line of the least numbers", Line(math.MinInt+n), "")
		checkText(t, "a Line of the greatest numbers", Line(math.MaxInt-n), "")
	}
	for bits := 6; bits < 63; bits++ {
		for n := range 44 {
			checkText(t, "a Line above 44", Line(1<<bits+n), "")
			checkText(t, "a Line below 0", Line(-1<<bits+n), "")
		}
	}
	checkLines(t, "after these", Lines())
}

// R3: a list is new each time: what is done with it changes neither a list that was returned
// before nor the next one, Line and Count.
func TestNewLists(t *testing.T) {
	before, list := Lines(), Lines()
	list = list[:cap(list)]
	for n := range list {
		list[n] = "changed"
		checkLines(t, "after the change of a string", Lines())
	}
	clear(list)
	checkLines(t, "after the strings are empty", Lines())
	_ = append(list[:0], "appended")
	checkLines(t, "after a list that was cut off", Lines())
	checkLines(t, "a list from before the changes", before)
	slices.Reverse(before)
	checkLines(t, "after the reversal of a list", Lines())
}

// R3 and R4: of lists that are asked for at the same time each is new.
func TestAtTheSameTime(t *testing.T) {
	var all sync.WaitGroup
	for range 8 {
		all.Go(func() {
			for range 50 {
				list := Lines()
				checkLines(t, "at the same time", list)
				clear(list)
			}
		})
	}
	all.Wait()
}

// P17.2: each string parses as one card and no location, which is valid, alone and as a file,
// and whose canonical form is the string.
func TestEachCard(t *testing.T) {
	for _, line := range Lines() {
		c := card(t, line)
		if fault := lint.Card(c); fault != (api.Fault{}) {
			t.Errorf("%q: lint.Card has the fault %v", line, fault)
		}
		file := api.File{Cards: []api.Card{c}}
		if fault := lint.Check(file); fault != (api.Fault{}) {
			t.Errorf("%q: lint.Check has the fault %v", line, fault)
		}
		checkText(t, "a card's form", unparse.Card(c), line)
		checkText(t, "a file's form", unparse.File(file), line+"\n")
	}
}

// P17.2: all names are distinct.
func TestDistinctNames(t *testing.T) {
	var list []string
	for _, line := range Lines() {
		list = append(list, card(t, line).Name)
	}
	if at := names.Twice(list); at != -1 {
		t.Errorf("the name %q occurs twice", list[at])
	}
	if n := names.New(list).Len(); n != 44 {
		t.Errorf("there are %d names, want 44", n)
	}
}

// P17.2: so all strings together are the text of a valid file.
func TestAllTogether(t *testing.T) {
	file, fault := syntax.Parse(strings.Join(Lines(), "\n"))
	if fault == (api.Fault{}) {
		fault = lint.Check(file)
	}
	if fault != (api.Fault{}) {
		t.Fatalf("all cards together have the fault %v", fault)
	}
	checkText(t, "the form of all cards", unparse.File(file), chapter)
}

// P17.2 with P15.1: the program of each rule of a valid card is valid.
func TestPrograms(t *testing.T) {
	for _, line := range Lines() {
		for _, rule := range card(t, line).Rules {
			if e, at := prog.Check(code.Rule(rule)); e != api.OK {
				t.Errorf("%q: a program has the error %d at %d", line, e, at)
			}
		}
	}
}

// P17.1: the names that are not of ASCII letters and spaces alone, byte by byte: their letters
// are single runes, the hyphen and the apostrophe those of ASCII.
func TestOddNames(t *testing.T) {
	for n, name := range map[int]string{
		29: "Half-Elf",
		30: "O\x27Dea\x27s Pack",
		31: "\xc3\x85ngstr\xc3\xb6m",
	} {
		got := card(t, Line(n)).Name
		checkText(t, "a name", got, name)
		if !runes.Name(got) {
			t.Errorf("%q is no name", got)
		}
	}
}

// The chapter's examples.
func TestExamples(t *testing.T) {
	first := card(t, Line(0))
	if first.Name != "Sun Giant" || len(first.Rules) != 0 {
		t.Errorf("the first card is %q with %d rules, want Sun Giant without", first.Name, len(first.Rules))
	}
	for n, line := range Lines() {
		name := card(t, line).Name
		ascii := !strings.ContainsFunc(name, func(r rune) bool { return r >= utf8.RuneSelf })
		if ascii != (n != 31) {
			t.Errorf("the name with index %d is %q: only that with index 31 has non-ASCII letters", n, name)
		}
	}
}
