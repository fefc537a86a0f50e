package prog

import (
	"fmt"
	"strings"
	"testing"

	"trident/api"
	"trident/syntax"
	"trident/unparse"
)

// numbers are numbers of words and others.
func numbers() []int {
	return append(extremes(), 27, 28, 32, 33, 39, 40, 41, 47, 48)
}

// lineCase is an instruction and its words, which are empty if there are none for a number.
type lineCase struct {
	ins  api.Ins
	line string
}

// checkLines checks the lines of instructions, each in a program with one sel, the name
// Hound and the numbers that it needs.
func checkLines(t *testing.T, list []lineCase) {
	t.Helper()
	for _, c := range list {
		p := api.Program{Sels: []api.Sel{{Kind: api.SelIt}}, Names: []string{"Hound"}}
		var lines []string
		for range map[bool]int{true: 1}[isOne(c.ins, "power set spawn draw energy aura")] + map[bool]int{true: 2}[isOne(c.ins, "test")] {
			p.Code = append(p.Code, api.Ins{Op: api.IPush, A: 5})
			lines = append(lines, "push 5")
		}
		p.Code = append(p.Code, c.ins)
		lines = append(lines, c.line)
		if c.ins.Op <= api.IMul {
			p.Code = append(p.Code, api.Ins{Op: api.IDraw, A: api.Both})
			lines = append(lines, "draw both")
		}
		deep := 0
		for _, ins := range p.Code {
			if ins.Op <= api.IMul {
				deep++
			}
		}
		checkValid(t, shown(c.ins), p, deep, lines...)
	}
}

// with returns the words of an instruction, or nothing if one of them is missing.
func with(words ...string) string {
	for _, word := range words {
		if word == "" {
			return ""
		}
	}
	return strings.Join(words, " ")
}

// side, how and sign return the words with these numbers, or nothing.
func side(n int) string {
	word, _ := wordOf(sides, n)
	return word
}

func how(n int) string {
	word, _ := wordOf(hows, n)
	return word
}

func sign(n int) string {
	word, _ := wordOf(signs, n)
	return word
}

// lane returns the words of a lane, or nothing.
func lane(kind, number int) string {
	word, ok := laneOf(kind, number)
	if !ok {
		return ""
	}
	return word
}

// P15.2: sides, lanes, signs and hows, one by one and as they stand in the chapter.
func TestWords(t *testing.T) {
	checkLines(t, []lineCase{
		{api.Ins{Op: api.IHand, A: 1}, "hand mine"},
		{api.Ins{Op: api.IHand, A: 2}, "hand theirs"},
		{api.Ins{Op: api.IHand, A: 3}, "hand both"},
		{api.Ins{Op: api.IHand, A: 0}, ""},
		{api.Ins{Op: api.IHand, A: 4}, ""},
		{api.Ins{Op: api.IFree, A: 1, B: 1}, "free mine here"},
		{api.Ins{Op: api.IFree, A: 2, B: 2}, "free theirs left"},
		{api.Ins{Op: api.IFree, A: 3, B: 3}, "free both right"},
		{api.Ins{Op: api.IFree, A: 1, B: 4, C: 1}, "free mine lane 1"},
		{api.Ins{Op: api.IFree, A: 1, B: 4, C: 3}, "free mine lane 3"},
		{api.Ins{Op: api.IFree, A: 1, B: 4, C: -3}, "free mine lane -3"},
		{api.Ins{Op: api.IFree, A: 1, B: 3, C: 2}, "free mine right"},
		{api.Ins{Op: api.IFree, A: 1, B: 0, C: 1}, ""},
		{api.Ins{Op: api.IFree, A: 1, B: 5, C: 1}, ""},
		{api.Ins{Op: api.IFree, A: 0, B: 4, C: 1}, ""},
		{api.Ins{Op: api.IMove, B: 1}, "move it here"},
		{api.Ins{Op: api.IMove, B: 2}, "move it left"},
		{api.Ins{Op: api.IMove, B: 3}, "move it right"},
		{api.Ins{Op: api.IMove, B: 4, C: 2}, "move it lane 2"},
		{api.Ins{Op: api.IMove, B: 4, C: 0}, "move it lane 0"},
		{api.Ins{Op: api.IMove}, ""},
		{api.Ins{Op: api.ISpawn, B: 1, C: 8}, "spawn \"Hound\" mine here"},
		{api.Ins{Op: api.ISpawn, B: 2, C: 16}, "spawn \"Hound\" theirs left"},
		{api.Ins{Op: api.ISpawn, B: 3, C: 24}, "spawn \"Hound\" both right"},
		{api.Ins{Op: api.ISpawn, B: 3, C: 25}, "spawn \"Hound\" both right"},
		{api.Ins{Op: api.ISpawn, B: 1, C: 32}, "spawn \"Hound\" mine lane 0"},
		{api.Ins{Op: api.ISpawn, B: 1, C: 33}, "spawn \"Hound\" mine lane 1"},
		{api.Ins{Op: api.ISpawn, B: 1, C: 35}, "spawn \"Hound\" mine lane 3"},
		{api.Ins{Op: api.ISpawn, B: 1, C: 39}, "spawn \"Hound\" mine lane 7"},
		{api.Ins{Op: api.ISpawn, B: 1, C: 40}, ""},
		{api.Ins{Op: api.ISpawn, B: 1, C: 7}, ""},
		{api.Ins{Op: api.ISpawn, B: 1, C: -8}, ""},
		{api.Ins{Op: api.ISpawn, B: 0, C: 8}, ""},
		{api.Ins{Op: api.IDraw, A: 1}, "draw mine"},
		{api.Ins{Op: api.IDraw, A: 4}, ""},
		{api.Ins{Op: api.IEnergy, A: 2}, "energy theirs"},
		{api.Ins{Op: api.IEnergy}, ""},
		{api.Ins{Op: api.IDiscard, A: 1, B: 1}, "discard mine first"},
		{api.Ins{Op: api.IDiscard, A: 2, B: 2}, "discard theirs last"},
		{api.Ins{Op: api.IDiscard, A: 3, B: 3}, "discard both cheapest"},
		{api.Ins{Op: api.IDiscard, A: 1, B: 4}, "discard mine costliest"},
		{api.Ins{Op: api.IDiscard, A: 1, B: 5}, ""},
		{api.Ins{Op: api.IDiscard, A: 1}, ""},
		{api.Ins{Op: api.IDiscard, B: 1}, ""},
		{api.Ins{Op: api.ITest, A: 1, B: 3}, "test < 3"},
		{api.Ins{Op: api.ITest, A: 2, B: 3}, "test <= 3"},
		{api.Ins{Op: api.ITest, A: 3, B: 3}, "test = 3"},
		{api.Ins{Op: api.ITest, A: 4, B: 3}, "test != 3"},
		{api.Ins{Op: api.ITest, A: 5, B: 3}, "test >= 3"},
		{api.Ins{Op: api.ITest, A: 6, B: 3}, "test > 3"},
		{api.Ins{Op: api.ITest, A: 0, B: 3}, ""},
		{api.Ins{Op: api.ITest, A: 7, B: 3}, ""},
		{api.Ins{Op: api.IDouble, A: 1, B: 2}, "double mine left"},
		{api.Ins{Op: api.IDouble, A: 2, B: 4, C: 1}, "double theirs lane 1"},
		{api.Ins{Op: api.IDouble, A: 2, C: 1}, ""},
		{api.Ins{Op: api.IBar, A: 3, B: 1}, "bar both here"},
		{api.Ins{Op: api.IBar, A: 3, B: 4, C: 2}, "bar both lane 2"},
		{api.Ins{Op: api.IBar, A: -1, B: 4, C: 2}, ""},
	})
}

// P15.2: every number where there is to be a word.
func TestEveryWord(t *testing.T) {
	var list []lineCase
	for _, a := range numbers() {
		list = append(list, []lineCase{
			{api.Ins{Op: api.IPush, A: a}, fmt.Sprint("push ", a)},
			{api.Ins{Op: api.IHand, A: a}, with("hand", side(a))},
			{api.Ins{Op: api.IDraw, A: a}, with("draw", side(a))},
			{api.Ins{Op: api.IEnergy, A: a}, with("energy", side(a))},
			{api.Ins{Op: api.ITest, A: a, B: 3}, with("test", sign(a), "3")},
			{api.Ins{Op: api.ISpawn, B: 1, C: a}, with("spawn", "\"Hound\"", "mine", lane(a>>3, a&7))},
		}...)
		for _, b := range numbers() {
			list = append(list, []lineCase{
				{api.Ins{Op: api.IDiscard, A: a, B: b}, with("discard", side(a), how(b))},
				{api.Ins{Op: api.IMove, B: a, C: b}, with("move", "it", lane(a, b))},
				{api.Ins{Op: api.IFree, A: 1 + b&1, B: a, C: b}, with("free", side(1+b&1), lane(a, b))},
				{api.Ins{Op: api.IFree, A: a, B: 4, C: b}, with("free", side(a), lane(4, b))},
				{api.Ins{Op: api.IDouble, A: a, B: b, C: a}, with("double", side(a), lane(b, a))},
				{api.Ins{Op: api.IBar, A: a, B: b, C: b}, with("bar", side(a), lane(b, b))},
				{api.Ins{Op: api.ISpawn, B: a, C: b}, with("spawn", "\"Hound\"", side(a), lane(b>>3, b&7))},
			}...)
		}
	}
	checkLines(t, list)
}

// P15.1 and P15.2: what is in fields that are no operands changes nothing.
func TestOtherFields(t *testing.T) {
	fields := []func(*api.Ins) *int{
		func(ins *api.Ins) *int { return &ins.A },
		func(ins *api.Ins) *int { return &ins.B },
		func(ins *api.Ins) *int { return &ins.C },
	}
	operands := []int{
		api.IPush: 1, api.ICount: 1, api.ISum: 1, api.IHand: 1, api.IFree: 3, api.IPower: 1, api.ISet: 1, api.IDestroy: 1,
		api.IMove: 3, api.IReturn: 1, api.ISpawn: 3, api.IDraw: 1, api.IDiscard: 2, api.IEnergy: 1, api.ITest: 2, api.IJump: 1,
		api.IEach: 2, api.INext: 1, api.IAura: 1, api.IDouble: 3, api.IShield: 1, api.IBar: 3,
	}
	for op := api.IPush; op <= api.IBar; op++ {
		c := alone[op-1]
		p := program(t, c.listing)
		text, deep := Text(p), Deep(p)
		for _, n := range numbers() {
			for i, field := range fields {
				if i < operands[op] {
					continue
				}
				*field(&p.Code[c.at]) = n
				if e, at := Check(p); e != api.OK || at != 0 {
					t.Errorf("Check of %+v is %d at %d", p.Code, e, at)
				}
				if got := Text(p); got != text {
					t.Errorf("the text of %+v is %q, want %q", p.Code, got, text)
				}
				if got := Deep(p); got != deep {
					t.Errorf("Deep of %+v is %d, want %d", p.Code, got, deep)
				}
			}
		}
	}
}

// P15.2: sels and names as they are written.
func TestLinesOfSelsAndNames(t *testing.T) {
	for _, s := range []string{
		"me", "it", "(mine here all)", "(theirs away first)", "(both lane 1 last)", "(both anywhere weakest)", "(mine lane 3 strongest)",
		"(theirs lane 2 cost <= 3 power != -2 named \"Dust Cat\" not it weakest)", "(both here not me cost > 0 all)",
	} {
		tree, fault := syntax.Expr("count " + s)
		if fault.E != api.OK {
			t.Fatalf("%s has the fault %v", s, fault)
		}
		other := api.Sel{Kind: api.SelMe}
		for word, first := range map[string]string{"power": "push 1;", "set": "push 1;", "aura": "push 1;", "destroy": "", "return": "", "shield": "",
			"move": "", "count": "", "sum": "", "each": ""} {
			behind, last, rest := "", "", ""
			switch word {
			case "move":
				behind, rest = " 4 2", " lane 2"
			case "count", "sum":
				last = "; draw 1"
			case "each":
				behind, last, rest = " 2", "; next 1", " 2"
			}
			p := program(t, first+word+" it"+behind+last)
			p.Sels = []api.Sel{other, tree.Sel, other}
			at := strings.Count(first, ";")
			p.Code[at].A = 1
			if got, want := Line(p, at), fmt.Sprint(at, " ", word, " ", s, rest); got != want {
				t.Errorf("the line is %q, want %q", got, want)
			}
		}
	}
	for _, name := range []string{"", "A", "Dust Cat", "O'Dea-7", "Éé", "\"", "a\nb", "\xff", " "} {
		p := program(t, "push 1; spawn 1 3 33; return me")
		p.Names = []string{"no", name, "no"}
		if got, want := Text(p), "0 push 1\n1 spawn \""+name+"\" both lane 1\n2 return me\n"; got != want {
			t.Errorf("the text is %q, want %q", got, want)
		}
	}
}

// P15.2: a line without words is empty, and so is its line in the text; the others are as they are.
func TestLinesWithoutWords(t *testing.T) {
	p := program(t, "push 1; draw 4; return me; bar 1 0 1; discard 1 1; discard 1 9")
	checkValid(t, "a program with words that do not exist", p, 1, "push 1", "", "return me", "", "discard mine first", "")
	if got, want := Text(p), "0 push 1\n\n2 return me\n\n4 discard mine first\n\n"; got != want {
		t.Errorf("the text is %q, want %q", got, want)
	}
}

// P15.2: sels that no text has are written as unparse writes them.
func TestOddSels(t *testing.T) {
	for _, n := range numbers() {
		for kind := range 5 {
			sel := api.Sel{Kind: kind, Side: n, Where: n, Lane: n, Pick: n, Filters: []api.Filter{{Kind: n, Op: n, N: n, Name: "\xff"}}}
			p := program(t, "count 0; draw 1")
			p.Sels = []api.Sel{sel}
			if got, want := Line(p, 0), "0 count "+unparse.Sel(sel); got != want {
				t.Errorf("the line is %q, want %q", got, want)
			}
		}
	}
}
