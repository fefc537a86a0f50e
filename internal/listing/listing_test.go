package listing

import (
	"fmt"
	"testing"

	"trident/api"
)

// shown writes a value. An empty list is written as nil is.
func shown(v any) string {
	return fmt.Sprintf("%+v", v)
}

// program returns the program with that listing.
func program(t *testing.T, listing string) api.Program {
	t.Helper()
	p, ok := Program(listing)
	if !ok {
		t.Fatalf("%q is no listing", listing)
	}
	return p
}

func TestMnemonics(t *testing.T) {
	for op, word := range map[int]string{-1: "", 0: "", api.IPush: "push", api.IMul: "mul", api.IPower: "power", api.ISpawn: "spawn",
		api.ITest: "test", api.INext: "next", api.IAura: "aura", api.IBar: "bar", api.IBar + 1: ""} {
		if got := Mnemonic(op); got != word {
			t.Errorf("the instruction %d has the word %q, want %q", op, got, word)
		}
	}
}

func TestProgram(t *testing.T) {
	me, it := api.Sel{Kind: api.SelMe}, api.Sel{Kind: api.SelIt}
	lane := api.Sel{Kind: api.SelAll, Side: api.Mine, Where: api.InLane, Lane: 2, Pick: api.All}
	for listing, want := range map[string]api.Program{
		"":                       {},
		" ; ":                    {},
		"push -7":                {Code: []api.Ins{{Op: api.IPush, A: -7}}},
		"free 1 4 2; add":        {Code: []api.Ins{{Op: api.IFree, A: 1, B: 4, C: 2}, {Op: api.IAdd}}},
		"count me; sum it; jump": {Code: []api.Ins{{Op: api.ICount}, {Op: api.ISum, A: 1}, {Op: api.IJump}}, Sels: []api.Sel{me, it}},
		"count 3":                {Code: []api.Ins{{Op: api.ICount, A: 3}}},
		"each (mine lane 2 all) 5; next 1; move me 4 3": {
			Code: []api.Ins{{Op: api.IEach, B: 5}, {Op: api.INext, A: 1}, {Op: api.IMove, A: 1, B: 4, C: 3}},
			Sels: []api.Sel{lane, me},
		},
		"spawn \"A\" 1 16; spawn \"Dust Cat 7\" 2": {
			Code:  []api.Ins{{Op: api.ISpawn, B: 1, C: 16}, {Op: api.ISpawn, A: 1, B: 2}},
			Names: []string{"A", "Dust Cat 7"},
		},
	} {
		if got := program(t, listing); shown(got) != shown(want) {
			t.Errorf("%s is read as %+v, want %+v", listing, got, want)
		}
	}
	for _, s := range []string{"push x", "pull 1", "push 1 2 3 4", "count me 1 2 3", "1", "push --1", "push 1; ; x"} {
		if p, ok := Program(s); ok || shown(p) != shown(api.Program{}) {
			t.Errorf("%s is read as %+v", s, p)
		}
	}
}

func TestJoin(t *testing.T) {
	for _, c := range [][3]string{
		{"", "", ""},
		{"push 1", "", "push 1"},
		{"push 1", "draw 1", "push 1; draw 1"},
		{"count me; push 4; test 1 3", "sum it; push 5; test 2 4; jump 4", "count me; push 4; test 1 3; sum it; push 5; test 2 7; jump 7"},
		{"spawn \"A\" 1 8; destroy me", "spawn \"B\" 2 16; return it", "spawn \"A\" 1 8; destroy me; spawn \"B\" 2 16; return it"},
		{"each me 3; bar 1 2; next 1", "each it 2; next 1", "each me 3; bar 1 2; next 1; each it 5; next 4"},
	} {
		got, want := Join(program(t, c[0]), program(t, c[1])), program(t, c[2])
		if shown(got) != shown(want) {
			t.Errorf("%s and %s become %+v, want %+v", c[0], c[1], got, want)
		}
		if three := Join(got, program(t, c[0]), program(t, c[1])); shown(three) != shown(Join(want, want)) {
			t.Errorf("%s and %s twice become %+v", c[0], c[1], three)
		}
	}
	for _, word := range []string{"count", "sum", "power", "set", "destroy", "move", "return", "aura", "shield"} {
		got := Join(program(t, "shield me"), program(t, word+" it 7"))
		if want := program(t, "shield me; "+word+" it 7"); shown(got) != shown(want) {
			t.Errorf("%s becomes %+v, want %+v", word, got, want)
		}
	}
}
