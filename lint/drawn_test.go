package lint

import (
	"fmt"
	"math/rand"
	"slices"
	"strings"
	"testing"

	"trident/api"
	"trident/internal/grammar"
	"trident/syntax"
	"trident/unparse"
)

// drawFile returns the tokens of cards and locations of different names.
func drawFile(g grammar.Grammar, draws *rand.Rand, items, room, deep int) []string {
	var list []string
	for n := range items {
		one := g.Draw([]string{"card", "place"}[draws.Intn(2)], draws.Intn, room, deep)
		one[1] = fmt.Sprintf("\"N %d\"", n)
		list = append(list, one...)
	}
	return list
}

// firstLong returns the fault of the first rule that is too long, in the order of checks.
func firstLong(file api.File) api.Fault {
	var all []api.Rule
	for _, c := range file.Cards {
		all = append(all, c.Rules...)
	}
	for _, p := range file.Places {
		all = append(all, p.Rules...)
	}
	for _, r := range all {
		if written(r.Acts) > api.MaxCode {
			return api.Fault{E: api.ErrLong, Line: r.Line, Col: r.Col}
		}
	}
	return api.Fault{}
}

func TestDrawnValidTexts(t *testing.T) {
	g := grammar.Valid()
	draws := rand.New(rand.NewSource(131))
	right, long := 0, 0
	for n := range 3000 {
		s := strings.Join(drawFile(g, draws, n%4, n%17*30, n%6), " ")
		file, fault := syntax.Parse(s)
		if fault.E == api.ErrDepth {
			continue
		}
		want := firstLong(file)
		checkFault(t, "a drawn text", s, want)
		if want.E == api.OK {
			right++
		} else {
			long++
		}
		if t.Failed() {
			return
		}
	}
	if right < 1000 || long < 50 {
		t.Errorf("%d drawn texts have no fault, %d are too long", right, long)
	}
}

// judge notes all faults of a file, in the order of the checks.
type judge struct {
	faults    []api.Fault
	line, col int
	place     bool
	when      int
	each      bool
}

// say notes a fault where the judge is, if it is one.
func (j *judge) say(wrong bool, e api.Errno) {
	if wrong {
		j.faults = append(j.faults, api.Fault{E: e, Line: j.line, Col: j.col})
	}
}

func (j *judge) at(line, col int) {
	j.line, j.col = line, col
}

func (j *judge) file(f api.File) {
	cards, places := map[string]bool{}, map[string]bool{}
	for i, c := range f.Cards {
		j.at(c.Line, c.Col)
		j.say(i >= 128, api.ErrMany)
		j.say(cards[c.Name], api.ErrTwice)
		cards[c.Name] = true
		j.say(c.Cost < 0 || c.Cost > 9 || c.Power < -20 || c.Power > 20, api.ErrRange)
		j.rules(c.Rules)
	}
	j.place = true
	for i, p := range f.Places {
		j.at(p.Line, p.Col)
		j.say(i >= 32, api.ErrMany)
		j.say(places[p.Name], api.ErrTwice)
		places[p.Name] = true
		j.rules(p.Rules)
	}
}

func (j *judge) rules(list []api.Rule) {
	for i, r := range list {
		j.when = r.When
		j.at(r.Line, r.Col)
		j.say(i >= 4, api.ErrMany)
		j.say(!j.place && r.When == api.WEnter || j.place && (r.When == api.WDeath || r.When == api.WMoved), api.ErrKind)
		j.say(r.When == api.WAlways && r.Stratum != 1 && r.Stratum != 2 && r.Stratum != 3, api.ErrRange)
		j.acts(r.Acts)
		j.at(r.Line, r.Col)
		j.say(written(r.Acts) > 96, api.ErrLong)
	}
}

// acts looks at whatever an act has, whatever its kind is: in a tree of a text all else is
// zero.
func (j *judge) acts(list []api.Act) {
	for i, a := range list {
		j.at(a.Line, a.Col)
		j.say(i >= 12, api.ErrMany)
		continuous := a.Kind >= api.AAura
		j.say(a.Kind != api.AIf && continuous != (j.when == api.WAlways), api.ErrKind)
		j.say(a.Kind == api.AEach && j.each, api.ErrDepth)
		j.sel(a.Sel)
		j.side(a.Side)
		j.say(a.To.Kind == api.ToLane && (a.To.Lane < 1 || a.To.Lane > 3), api.ErrLane)
		for _, x := range []api.Expr{a.Num, a.Cond.L, a.Cond.R} {
			j.expr(x)
		}
		outer := j.each
		j.each = j.each || a.Kind == api.AEach
		j.acts(a.Then)
		j.acts(a.Else)
		j.each = outer
	}
}

func (j *judge) sel(s api.Sel) {
	notMe, notIt := false, false
	for _, f := range s.Filters {
		notMe = notMe || f.Kind == api.FNotMe
		notIt = notIt || f.Kind == api.FNotIt
	}
	it := j.each || j.place && j.when == api.WEnter
	j.say((s.Kind == api.SelIt || notIt) && !it, api.ErrSide)
	j.say((s.Kind == api.SelMe || notMe) && j.place, api.ErrSide)
	j.side(s.Side)
	j.say(s.Where == api.InLane && (s.Lane < 1 || s.Lane > 3), api.ErrLane)
	j.say(len(s.Filters) > 4, api.ErrMany)
}

func (j *judge) side(side int) {
	j.say(j.place && j.when != api.WEnter && (side == api.Mine || side == api.Theirs), api.ErrSide)
}

func (j *judge) expr(x api.Expr) {
	j.sel(x.Sel)
	j.side(x.Side)
	j.say(x.To.Kind == api.ToLane && (x.To.Lane < 1 || x.To.Lane > 3), api.ErrLane)
	for _, kid := range x.Kids {
		j.expr(kid)
	}
}

// judged returns the first fault of a file.
func judged(file api.File) api.Fault {
	var j judge
	j.file(file)
	if len(j.faults) == 0 {
		return api.Fault{}
	}
	return j.faults[0]
}

// others are tokens of which each may stand where the others may, mostly.
var others = [][]string{
	{"mine", "theirs", "both"},
	{"me", "it", "( both here not it all )", "( both lane 0 not me first )"},
	{"0", "1", "2", "3", "4", "9", "10", "20", "21"},
	{"reveal", "death", "moved", "end", "enter", "always 1", "always 4"},
	{"power", "set", "aura"},
	{"destroy", "return", "shield"},
	{"double", "bar"},
	{"draw", "energy"},
	{"here", "left", "lane 4", "lane 3"},
	{"all", "first", "cost < 3 cost < 3 cost < 3 cost < 3 not me all", "not it last", "not me weakest"},
	{"{", "{ draw both 1 ;", "{ destroy it ; destroy me ;", "{ each ( both here all ) { each me { } }", "{ end { } end { } end { } end { }", "{ shield me ;" + strings.Repeat(" if 1 < 2 { }", 12)},
	{"round", ones(45), "round *"},
	{"\"N 0\"", "\"N 1\"", "\"N 2\""},
}

// spoil returns the tokens with one of them exchanged.
func spoil(draws *rand.Rand, list []string) []string {
	for range 100 {
		i := draws.Intn(len(list))
		for _, class := range others {
			if slices.Contains(class, list[i]) {
				list = slices.Clone(list)
				list[i] = class[draws.Intn(len(class))]
				return list
			}
		}
	}
	return list
}

func TestDrawnSpoiledTexts(t *testing.T) {
	g := grammar.Valid()
	draws := rand.New(rand.NewSource(132))
	seen := map[api.Errno]int{}
	for n := range 12000 {
		list := drawFile(g, draws, 1+n%4, n%90, n%6)
		for range 1 + n%3 {
			list = spoil(draws, list)
		}
		s := strings.Join(list, " ")
		file, fault := syntax.Parse(s)
		if fault.E != api.OK {
			continue
		}
		want := judged(file)
		seen[want.E]++
		if got := Check(file); got != want {
			t.Fatalf("%s\nhas the fault %v, want %v", s, got, want)
		}
		if n%10 == 0 {
			checkFault(t, "a spoiled text", s, want)
		}
		if t.Failed() {
			return
		}
	}
	for _, e := range []api.Errno{api.OK, api.ErrMany, api.ErrTwice, api.ErrRange, api.ErrKind, api.ErrLong, api.ErrDepth, api.ErrSide, api.ErrLane} {
		if seen[e] < 30 {
			t.Errorf("the error %d comes only %d times: %v", e, seen[e], seen)
		}
	}
}

// Texts of the whole grammar, most of which have many faults.
func TestDrawnTexts(t *testing.T) {
	g := grammar.Read(grammar.Cards)
	draws := rand.New(rand.NewSource(133))
	for n := range 3000 {
		s := strings.Join(g.Draw("file", draws.Intn, n%100, n%5), " ")
		file, fault := syntax.Parse(s)
		if fault.E != api.OK {
			continue
		}
		want := judged(file)
		checkFault(t, "a drawn text", s, want)
		if again, fault := syntax.Parse(unparse.File(file)); fault.E != api.OK || Check(again).E != want.E {
			t.Errorf("%s\nhas in its form the fault %v, want the error %d", s, Check(again), want.E)
		}
		if t.Failed() {
			return
		}
	}
}
