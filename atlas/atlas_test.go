package atlas

import (
	"math"
	"slices"
	"strings"
	"sync"
	"testing"

	"trident/api"
	"trident/code"
	"trident/lint"
	"trident/names"
	"trident/prog"
	"trident/syntax"
	"trident/unparse"
)

// wanted are the chapter's lines without their line feeds.
func wanted() []string {
	return strings.Split(strings.TrimSuffix(chapter, "\n"), "\n")
}

// checkText checks a text, and tells from where on it differs.
func checkText(t *testing.T, what, got, want string) {
	t.Helper()
	if got == want {
		return
	}
	at := 0
	for at < min(len(got), len(want)) && got[at] == want[at] {
		at++
	}
	t.Errorf("%s is %q, want %q: they differ at byte %d", what, got, want, at)
}

// checkLines checks a list, and what Line and Count answer at that time.
func checkLines(t *testing.T, what string, lines []string) {
	t.Helper()
	want := wanted()
	if len(lines) != len(want) || Count() != len(want) {
		t.Errorf("%s: %d strings, Count %d, want %d", what, len(lines), Count(), len(want))
		return
	}
	for n, line := range want {
		checkText(t, what+": a string of Lines", lines[n], line)
		checkText(t, what+": a Line", Line(n), line)
	}
}

// place returns the tree of a text that is one location and no card.
func place(t *testing.T, line string) api.Place {
	t.Helper()
	file, fault := syntax.Parse(line)
	if fault != (api.Fault{}) {
		t.Fatalf("%q has the fault %v", line, fault)
	}
	if len(file.Cards) != 0 || len(file.Places) != 1 {
		t.Fatalf("%q is %d cards and %d locations, want 0 and 1", line, len(file.Cards), len(file.Places))
	}
	return file.Places[0]
}

// The chapter's lines stand in these tests as P18.1 counts them.
func TestChapter(t *testing.T) {
	if n := len(wanted()); n != 24 {
		t.Errorf("there are %d lines of the chapter, want 24", n)
	}
	for _, line := range wanted() {
		if !strings.HasPrefix(line, "place \"") || !strings.HasSuffix(line, " }") {
			t.Errorf("a line of the chapter is %q", line)
		}
	}
}

// P18.1: the strings of the chapter, in its order, by Lines and by Line.
func TestLines(t *testing.T) {
	checkLines(t, "at first", Lines())
	checkLines(t, "again", Lines())
}

// P18.1: Count.
func TestCount(t *testing.T) {
	if n := Count(); n != 24 {
		t.Errorf("Count is %d, want 24", n)
	}
}

// P18.1: Line at the ends of the list.
func TestLineAtEnds(t *testing.T) {
	checkText(t, "Line(0)", Line(0), "place \"Old Mill\" { }")
	checkText(t, "Line(23)", Line(23), "place \"Summit\" { always 3 { aura (both here cost >= 5 all) 2; } }")
}

// P18.1 and R1: Line is empty below 0 and from 24 on, also where a number of fewer bits would
// be the index of a string.
func TestNoLine(t *testing.T) {
	for n := range 10000 {
		checkText(t, "a Line below 0", Line(-1-n), "")
		checkText(t, "a Line from 24 on", Line(24+n), "")
		checkText(t, "a Line of the least numbers", Line(math.MinInt+n), "")
		checkText(t, "a Line of the greatest numbers", Line(math.MaxInt-n), "")
	}
	for bits := 5; bits < 63; bits++ {
		for n := range 24 {
			checkText(t, "a Line above 24", Line(1<<bits+n), "")
			checkText(t, "a Line below 0", Line(-1<<bits+n), "")
		}
	}
	checkLines(t, "after these", Lines())
}

// R3: a list is new each time: what is done with it changes neither a list that was returned
// before nor the next one, Line and Count.
func TestNewLists(t *testing.T) {
	before, list := Lines(), Lines()
	list = list[:cap(list)]
	for n := range list {
		list[n] = "changed"
		checkLines(t, "after the change of a string", Lines())
	}
	clear(list)
	checkLines(t, "after the strings are empty", Lines())
	_ = append(list[:0], "appended")
	checkLines(t, "after a list that was cut off", Lines())
	checkLines(t, "a list from before the changes", before)
	slices.Reverse(before)
	checkLines(t, "after the reversal of a list", Lines())
}

// R3 and R4: of lists that are asked for at the same time each is new.
func TestAtTheSameTime(t *testing.T) {
	var all sync.WaitGroup
	for range 8 {
		all.Go(func() {
			for range 50 {
				list := Lines()
				checkLines(t, "at the same time", list)
				clear(list)
			}
		})
	}
	all.Wait()
}

// P18.2: each string parses as one location and no card, which is valid, alone and as a file,
// and whose canonical form is the string.
func TestEachPlace(t *testing.T) {
	for _, line := range Lines() {
		p := place(t, line)
		if fault := lint.Place(p); fault != (api.Fault{}) {
			t.Errorf("%q: lint.Place has the fault %v", line, fault)
		}
		file := api.File{Places: []api.Place{p}}
		if fault := lint.Check(file); fault != (api.Fault{}) {
			t.Errorf("%q: lint.Check has the fault %v", line, fault)
		}
		checkText(t, "a location's form", unparse.Place(p), line)
		checkText(t, "a file's form", unparse.File(file), line+"\n")
	}
}

// P18.2: all names are distinct.
func TestDistinctNames(t *testing.T) {
	var list []string
	for _, line := range Lines() {
		list = append(list, place(t, line).Name)
	}
	if at := names.Twice(list); at != -1 {
		t.Errorf("the name %q occurs twice", list[at])
	}
	if n := names.New(list).Len(); n != 24 {
		t.Errorf("there are %d names, want 24", n)
	}
}

// P18.2: so all strings together are the text of a valid file.
func TestAllTogether(t *testing.T) {
	file, fault := syntax.Parse(strings.Join(Lines(), "\n"))
	if fault == (api.Fault{}) {
		fault = lint.Check(file)
	}
	if fault != (api.Fault{}) {
		t.Fatalf("all locations together have the fault %v", fault)
	}
	checkText(t, "the form of all locations", unparse.File(file), chapter)
}

// P18.2 with P15.1: the program of each rule of a valid location is valid.
func TestPrograms(t *testing.T) {
	for _, line := range Lines() {
		for _, rule := range place(t, line).Rules {
			if e, at := prog.Check(code.Rule(rule)); e != api.OK {
				t.Errorf("%q: a program has the error %d at %d", line, e, at)
			}
		}
	}
}

// The chapter's examples.
func TestExamples(t *testing.T) {
	first, last := place(t, Line(0)), place(t, Line(Count()-1))
	if first.Name != "Old Mill" || len(first.Rules) != 0 {
		t.Errorf("the first location is %q with %d rules, want Old Mill without", first.Name, len(first.Rules))
	}
	if last.Name != "Summit" {
		t.Errorf("the last location is %q, want Summit", last.Name)
	}
}
