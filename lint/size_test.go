package lint

import (
	"math/rand"
	"regexp"
	"strings"
	"testing"

	"trident/api"
	"trident/internal/grammar"
	"trident/syntax"
	"trident/unparse"
)

// parseActs returns acts of a text.
func parseActs(t *testing.T, s string) []api.Act {
	t.Helper()
	acts, fault := syntax.Acts(s)
	if fault != (api.Fault{}) {
		t.Fatalf("%.3000s\nis not parsed: %v", s, fault)
	}
	return acts
}

// checkSize checks the size of a rule of each kind with the acts.
func checkSize(t *testing.T, s string, want int) {
	t.Helper()
	acts := parseActs(t, s)
	for when := range 7 {
		if got := Size(api.Rule{When: when, Stratum: 3, Line: 4, Col: 5, Acts: acts}); got != want {
			t.Errorf("%.3000s\nis of size %d, want %d", s, got, want)
		}
	}
	if got := written(acts); got != want {
		t.Errorf("%.3000s\nis written with %d parts, want %d", s, got, want)
	}
}

var (
	inQuotes  = regexp.MustCompile(`"[^"]*"`)
	ofCards   = regexp.MustCompile(`\((mine|theirs|both) [^()]*\)`)
	byNumber  = regexp.MustCompile(`\blane \d+`)
	countable = regexp.MustCompile(`;|\bif\b|\belse\b|\beach\b|\b(round|hand|free|count|sum)\b|\d+| [-+*] `)
)

// written returns the size of acts as it shows in their canonical form: one for each mark ;
// if, else, leaf of an expr and operator, two for each each.
func written(acts []api.Act) int {
	s := inQuotes.ReplaceAllString(unparse.Acts(acts), "")
	s = ofCards.ReplaceAllString(s, "me")
	s = byNumber.ReplaceAllString(s, "here")
	n := 0
	for _, part := range countable.FindAllString(s, -1) {
		n++
		if part == "each" {
			n++
		}
	}
	return n
}

// sizes are exprs and their sizes.
var sizes = []struct {
	expr string
	size int
}{
	{"1", 1},
	{"-99", 1},
	{"round", 1},
	{"count me", 1},
	{"count (both lane 2 cost < 3 not me named \"Dust Cat\" all)", 1},
	{"sum it", 1},
	{"sum (mine anywhere power < -3 all)", 1},
	{"hand theirs", 1},
	{"free both here", 1},
	{"free mine lane 3", 1},
	{"1 + 2", 3},
	{"1 - -2", 3},
	{"1 * round", 3},
	{"((1))", 1},
	{"1 + 2 + 3", 5},
	{"1 - (2 - 3)", 5},
	{"(1 + 2) * (3 - 4)", 7},
	{"1 + 2 * 3 - hand mine * (count me + sum it * free both left)", 13},
}

func TestSizesOfActs(t *testing.T) {
	checkSize(t, "", 0)
	for _, s := range []string{
		"destroy me;", "move it lane 3;", "return (both here cost < 3 all);", "discard both costliest;", "double mine lane 2;", "shield me;", "bar both here;",
	} {
		checkSize(t, s, 1)
		checkSize(t, s+s+s, 3)
		checkSize(t, "each me {"+s+"}", 3)
		checkSize(t, "if 1 < 2 {"+s+"}", 4)
		checkSize(t, "if 1 < 2 { } else {"+s+"}", 5)
	}
	for _, c := range sizes {
		for _, act := range []string{"power me %s;", "set (both lane 2 all) %s;", "spawn \"If 1\" both lane 1 %s;", "draw mine %s;", "energy theirs %s;", "aura me %s;"} {
			checkSize(t, strings.Replace(act, "%s", c.expr, 1), c.size+1)
		}
		checkSize(t, "if "+c.expr+" < 1 { }", c.size+2)
		checkSize(t, "if 1 + 1 >= "+c.expr+" { }", c.size+4)
		for _, d := range sizes {
			checkSize(t, "if "+c.expr+" != "+d.expr+" { draw both 1; } else { destroy me; }", c.size+d.size+5)
		}
	}
}

func TestSizesOfBlocks(t *testing.T) {
	for _, c := range []struct {
		acts string
		size int
	}{
		{"if 1 < 2 { }", 3},
		{"if 1 < 2 { } else { }", 3},
		{"if 1 < 2 { destroy me; draw mine 1 + 1; }", 8},
		{"if 1 < 2 { destroy me; } else { }", 4},
		{"if 1 < 2 { } else { destroy me; }", 5},
		{"if 1 < 2 { destroy me; } else { destroy me; destroy me; }", 7},
		{"if 1 < 2 { } else { if 3 < 4 { } }", 7},
		{"if 1 < 2 { } else { if 3 < 4 { } else { if 5 < 6 { } } }", 11},
		{"if 1 < 2 { if 3 < 4 { if 5 < 6 { } } }", 9},
		{"each me { }", 2},
		{"each (both here not me all) { power it 1; }", 4},
		{"each me { each me { } }", 4},
		{"each me { if 1 < 2 { destroy it; } else { return it; } }", 8},
		{"if 1 < 2 { each me { } } else { each me { destroy it; } }", 9},
		{"each me { } each me { } destroy me;", 5},
	} {
		checkSize(t, c.acts, c.size)
		checkSize(t, c.acts+" destroy me; "+c.acts, 2*c.size+1)
	}
}

func TestSizesOfDrawnActs(t *testing.T) {
	g := grammar.Read(grammar.Cards)
	draws := rand.New(rand.NewSource(13))
	most := 0
	for n := range 4000 {
		acts, fault := syntax.Acts(strings.Join(g.Draw("acts", draws.Intn, n%150, n%5), " "))
		if fault.E == api.ErrDepth {
			continue
		}
		got, want := Size(api.Rule{Acts: acts}), written(acts)
		if got != want {
			t.Fatalf("%s\nis of size %d, want %d", unparse.Acts(acts), got, want)
		}
		most = max(most, got)
	}
	if most < 50 {
		t.Errorf("no drawn acts are of a size above %d", most)
	}
}

// filler returns acts of that size, from 2 on, of a rule of that kind.
func filler(size int, always bool) string {
	one, many := "destroy (both here all);", "draw both "
	if always {
		one, many = "shield (both here all);", "aura (both here all) "
	}
	if size%2 == 1 {
		return one + filler(size-1, always)
	}
	return many + ones((size-2)/2) + ";"
}

// checkLongest checks that with those acts, of that size, a rule of size 96 has no fault,
// and longer ones have.
func checkLongest(t *testing.T, acts string, size int, always bool) {
	t.Helper()
	checkSize(t, acts, size)
	whens := []string{"reveal", "end"}
	if always {
		whens = []string{"always 1", "always 3"}
	}
	for _, owner := range []string{`card "A" cost 1 power 2`, `place "A"`} {
		for _, when := range whens {
			for most := 95; most <= 98; most++ {
				fill := filler(most-size, always)
				checkSize(t, fill+acts, most)
				e := unless(most <= 96, api.ErrLong)
				check(t, "a long rule", owner+" { "+when+" { "+acts+" } @"+when+" { "+fill+acts+" } }", e)
				check(t, "a long rule", owner+" { @"+when+" { "+acts+fill+" } "+when+" { "+acts+" } }", e)
			}
			longest := when + " { " + filler(96, always) + " } "
			check(t, "the longest rules", owner+" { "+longest+longest+longest+longest+"}", api.OK)
			check(t, "the longest rules and a long one", owner+" { "+longest+longest+"@"+when+" { "+acts+filler(97-size, always)+" } }", api.ErrLong)
		}
	}
}

// Rules of size 96 and 97.
func TestLongRules(t *testing.T) {
	for _, c := range []struct {
		acts   string
		size   int
		always bool
	}{
		{"power (both here all) 1;", 2, false},
		{"set (both here all) 1 + 2;", 4, false},
		{"destroy (both here all);", 1, false},
		{"move (both here all) lane 1;", 1, false},
		{"return (both here all);", 1, false},
		{"spawn \"A\" both here 1;", 2, false},
		{"draw both 1;", 2, false},
		{"discard both first;", 1, false},
		{"energy both 1;", 2, false},
		{"each (both here all) { destroy it; }", 3, false},
		{"if 1 < 2 { destroy (both here all); } else { draw both 1; }", 7, false},
		{"if 1 < 2 { destroy (both here all); } else { }", 4, false},
		{"aura (both here all) count (both here all) * 2;", 4, true},
		{"double both here;", 1, true},
		{"shield (both here all);", 1, true},
		{"bar both here;", 1, true},
		{"if 1 < 2 { } else { bar both here; }", 5, true},
	} {
		checkLongest(t, c.acts, c.size, c.always)
	}
}
