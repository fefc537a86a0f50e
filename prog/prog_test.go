package prog

import (
	"fmt"
	"slices"
	"strings"
	"testing"

	"trident/api"
	"trident/internal/listing"
)

// program returns the program with that listing.
func program(t *testing.T, text string) api.Program {
	t.Helper()
	p, ok := listing.Program(text)
	if !ok {
		t.Fatalf("%q is no listing", text)
	}
	return p
}

// shown writes a value. An empty list is written as nil is.
func shown(v any) string {
	return fmt.Sprintf("%+v", v)
}

// fewIndices returns the indices of a program and some that it has not.
func fewIndices(p api.Program) []int {
	list := []int{-1, len(p.Code), len(p.Code) + 1}
	for at := range min(len(p.Code), 100) {
		list = append(list, at)
	}
	return list
}

// checkWrong checks that a program is not valid, with that error at that index.
func checkWrong(t *testing.T, what string, p api.Program, e api.Errno, at int) {
	t.Helper()
	if gotE, gotAt := Check(p); gotE != e || gotAt != at {
		t.Errorf("Check of %.2000s is %d at %d, want %d at %d", what, gotE, gotAt, e, at)
	}
	if deep := Deep(p); deep != 0 {
		t.Errorf("Deep of %.2000s, which is not valid, is %d", what, deep)
	}
	for _, i := range fewIndices(p) {
		if s := Line(p, i); s != "" {
			t.Errorf("line %d of %.2000s, which is not valid, is %q", i, what, s)
		}
	}
	if s := Text(p); s != "" {
		t.Errorf("the text of %.2000s, which is not valid, is %q", what, s)
	}
}

// checkValid checks that a program is valid, its height, and its lines without their
// indices, except those that are empty.
func checkValid(t *testing.T, what string, p api.Program, deep int, lines ...string) {
	t.Helper()
	if e, at := Check(p); e != api.OK || at != 0 {
		t.Errorf("Check of %.2000s is %d at %d", what, e, at)
	}
	if got := Deep(p); got != deep {
		t.Errorf("Deep of %.2000s is %d, want %d", what, got, deep)
	}
	if len(lines) != len(p.Code) {
		t.Fatalf("%.2000s has %d lines, not %d", what, len(p.Code), len(lines))
	}
	text := ""
	for at, s := range lines {
		want := s
		if s != "" {
			want = fmt.Sprint(at, " ", s)
		}
		if got := Line(p, at); got != want {
			t.Errorf("line %d of %.2000s is %q, want %q", at, what, got, want)
		}
		text += want + "\n"
	}
	if got := Text(p); got != text {
		t.Errorf("the text of %.2000s is\n%s, want\n%s", what, got, text)
	}
	for _, at := range []int{-1, len(p.Code), len(p.Code) + 1} {
		if got := Line(p, at); got != "" {
			t.Errorf("line %d of %.2000s is %q", at, what, got)
		}
	}
}

// The chapter's example.
func TestExample(t *testing.T) {
	p := api.Program{
		Code: []api.Ins{{Op: api.IPush, A: 1}, {Op: api.IPush, A: 2}, {Op: api.IAdd}, {Op: api.IPower, A: 0}},
		Sels: []api.Sel{{Kind: api.SelMe}},
	}
	checkValid(t, "the example", p, 2, "push 1", "push 2", "add", "power me")
	if text := Text(p); text != "0 push 1\n1 push 2\n2 add\n3 power me\n" {
		t.Errorf("the text of the example is %q", text)
	}
}

// P15.1 and P15.2: programs without instructions.
func TestNothing(t *testing.T) {
	checkValid(t, "no program", api.Program{}, 0)
	checkValid(t, "empty lists", api.Program{Code: []api.Ins{}, Sels: []api.Sel{}, Names: []string{}}, 0)
	checkValid(t, "sels and names alone", api.Program{Sels: make([]api.Sel, 3), Names: make([]string, 3)}, 0)
}

// P15.1: how many instructions there are.
func TestLengths(t *testing.T) {
	for _, size := range []int{1, 2, 3, 10, 11, 50, 95, 96} {
		p := program(t, strings.Repeat("discard 1 1;", size))
		checkValid(t, fmt.Sprint(size, " instructions"), p, 0, slices.Repeat([]string{"discard mine first"}, size)...)
	}
	for _, size := range []int{97, 98, 192, 1000, 200000} {
		what := fmt.Sprint(size, " instructions")
		checkWrong(t, what, program(t, strings.Repeat("discard 1 1;", size)), api.ErrLong, 96)
		checkWrong(t, what+" with faults", api.Program{Code: make([]api.Ins, size)}, api.ErrLong, 96)
		checkWrong(t, what+" with numbers that remain", program(t, strings.Repeat("push 1;", size)), api.ErrLong, 96)
	}
	// Of 97 instructions the 96 first ones are not looked at; of 96 they are.
	long := program(t, strings.Repeat("discard 1 1;", 97))
	long.Code[3].Op = 27
	checkWrong(t, "97 instructions with a fault", long, api.ErrLong, 96)
	long.Code = long.Code[:96]
	checkWrong(t, "96 instructions with a fault", long, api.ErrKind, 3)
	long.Code[3].Op, long.Code[95].Op = api.IDiscard, 0
	checkWrong(t, "96 instructions with a fault in the last one", long, api.ErrKind, 95)
	long.Code[95] = api.Ins{Op: api.IRound}
	checkWrong(t, "96 instructions with a number that remains", long, api.ErrState, 96)
}

// around are instructions before and behind others, with a number for each that lacks one.
var around = []struct{ first, last string }{
	{"", ""},
	{"discard 1 1", ""},
	{"", "discard 1 1"},
	{"push 1; push 2; test 1 3", "jump 1; bar 1 1"},
	{"each me 3; return it; next 1", "spawn \"A\" 1 8"},
}

// P15.1: the Op of an instruction, alone and between others.
func TestOps(t *testing.T) {
	for _, op := range append(extremes(), 27, 28, 100, 256) {
		if op >= 1 && op <= 26 {
			continue
		}
		for _, c := range around {
			first := program(t, c.first)
			p := listing.Join(first, api.Program{Code: []api.Ins{{Op: op}}}, program(t, c.last))
			checkWrong(t, fmt.Sprint("the instruction ", op), p, api.ErrKind, len(first.Code))
		}
	}
}

// alone returns a valid program with an instruction of each kind, with what it needs before
// and behind it, the index of that instruction, and the line.
var alone = []struct {
	listing string
	at      int
	line    string
}{
	{"push 7; draw 1", 0, "push 7"},
	{"count me; draw 1", 0, "count me"},
	{"sum me; draw 1", 0, "sum me"},
	{"round; draw 1", 0, "round"},
	{"hand 3; draw 1", 0, "hand both"},
	{"free 1 2; draw 1", 0, "free mine left"},
	{"push 1; push 2; add; draw 1", 2, "add"},
	{"push 1; push 2; sub; draw 1", 2, "sub"},
	{"push 1; push 2; mul; draw 1", 2, "mul"},
	{"push 1; power me", 1, "power me"},
	{"push 1; set me", 1, "set me"},
	{"destroy me", 0, "destroy me"},
	{"move me 4 3", 0, "move me lane 3"},
	{"return me", 0, "return me"},
	{"push 1; spawn \"Hound\" 1 16", 1, "spawn \"Hound\" mine left"},
	{"push 1; draw 2", 1, "draw theirs"},
	{"discard 1 3", 0, "discard mine cheapest"},
	{"push 1; energy 3", 1, "energy both"},
	{"push 1; push 2; test 4 3", 2, "test != 3"},
	{"jump 1", 0, "jump 1"},
	{"each me 2; next 1", 0, "each me 2"},
	{"each me 2; next 1", 1, "next 1"},
	{"push 1; aura me", 1, "aura me"},
	{"double 1 3", 0, "double mine right"},
	{"shield me", 0, "shield me"},
	{"bar 2 1", 0, "bar theirs here"},
}

// P15.1 and P15.2: each instruction in a program that is as short as possible.
func TestEachInstruction(t *testing.T) {
	for op := api.IPush; op <= api.IBar; op++ {
		c := alone[op-1]
		p := program(t, c.listing)
		if got := p.Code[c.at].Op; got != op {
			t.Fatalf("%s has the instruction %d, not %d", c.listing, got, op)
		}
		if e, at := Check(p); e != api.OK || at != 0 {
			t.Errorf("Check of %s is %d at %d", c.listing, e, at)
		}
		if got, want := Line(p, c.at), fmt.Sprint(c.at, " ", c.line); got != want {
			t.Errorf("line %d of %s is %q, want %q", c.at, c.listing, got, want)
		}
		if got := strings.Count(Text(p), "\n"); got != len(p.Code) {
			t.Errorf("the text of %s has %d lines", c.listing, got)
		}
	}
}

// P15.1: indices of sels and of names.
func TestSelsAndNames(t *testing.T) {
	withSel := "count sum power set destroy move return each aura shield"
	for op := api.IPush; op <= api.IBar; op++ {
		c := alone[op-1]
		for _, sels := range []int{0, 1, 2, 5} {
			for _, names := range []int{0, 1, 2, 5} {
				p := program(t, c.listing)
				for i, ins := range p.Code {
					if i != c.at && isOne(ins, withSel) {
						p.Code[i].A = 0
					}
				}
				p.Sels = slices.Repeat([]api.Sel{{Kind: api.SelIt}}, sels)
				p.Names = slices.Repeat([]string{"A"}, names)
				length, none := sels, "a sel"
				if op == api.ISpawn {
					length, none = names, "a name"
				} else if !isOne(p.Code[c.at], withSel) {
					continue
				}
				for _, n := range append(extremes(), length-1, length, length+1) {
					p.Code[c.at].A = n
					what := fmt.Sprintf("%s with %s of the index %d of %d", c.listing, none, n, length)
					if n < 0 || n >= length {
						checkWrong(t, what, p, api.ErrRange, c.at)
					} else if e, at := Check(p); e != api.OK || at != 0 {
						t.Errorf("Check of %s is %d at %d", what, e, at)
					}
				}
			}
		}
	}
}

// P15.1: instructions that refer to the same sel or name, or to no sel or name.
func TestSharedSelsAndNames(t *testing.T) {
	p := program(t, "count 1; sum 1; add; power 1; push 3; spawn 0 1 8; push 4; spawn 0 2 16; shield 0")
	p.Sels = []api.Sel{{Kind: api.SelMe}, {Kind: api.SelIt}, {Kind: api.SelMe}}
	p.Names = []string{"A", "B"}
	checkValid(t, "a program that refers to things twice", p, 2,
		"count it", "sum it", "add", "power it", "push 3", "spawn \"A\" mine here", "push 4", "spawn \"A\" theirs left", "shield me")
}

// P15.1: targets.
func TestTargets(t *testing.T) {
	for _, c := range []struct {
		listing string
		at      int
		target  func(*api.Ins) *int
	}{
		{"jump 0; return me; return me; return me", 0, func(ins *api.Ins) *int { return &ins.A }},
		{"return me; return me; jump 0; return me", 2, func(ins *api.Ins) *int { return &ins.A }},
		{"return me; return me; jump 0", 2, func(ins *api.Ins) *int { return &ins.A }},
		{"return me; push 1; push 2; test 1 0; return me; return me", 3, func(ins *api.Ins) *int { return &ins.B }},
		{"return me; push 1; push 2; test 1 0", 3, func(ins *api.Ins) *int { return &ins.B }},
		{"push 1; push 2; test 99 0; jump 6; each me 6; next 5", 2, func(ins *api.Ins) *int { return &ins.B }},
	} {
		p := program(t, c.listing)
		size := len(p.Code)
		for _, n := range append(extremes(), c.at-1, c.at, c.at+1, size-1, size, size+1) {
			*c.target(&p.Code[c.at]) = n
			what := fmt.Sprintf("%s with the target %d", c.listing, n)
			if n <= c.at || n > size {
				checkWrong(t, what, p, api.ErrRange, c.at)
			} else if e, at := Check(p); e != api.OK || at != 0 {
				t.Errorf("Check of %s is %d at %d", what, e, at)
			}
		}
	}
}

// fault is a program that is not valid: the listing, what is wrong, and where.
type fault struct {
	listing string
	e       api.Errno
	at      int
}

// checkFaults checks programs that are not valid.
func checkFaults(t *testing.T, list []fault) {
	t.Helper()
	for _, c := range list {
		checkWrong(t, c.listing, program(t, c.listing), c.e, c.at)
	}
}

// P15.1: what is done for each card.
func TestEach(t *testing.T) {
	for _, c := range [][]string{
		{"each me 2; next 1", "each me 2", "next 1"},
		{"each me 3; return it; next 1", "each me 3", "return it", "next 1"},
		{"return me; each me 4; return it; next 2; return me", "return me", "each me 4", "return it", "next 2", "return me"},
		{"each me 2; next 1; each it 4; next 3", "each me 2", "next 1", "each it 4", "next 3"},
		// Jumps may lead into it, out of it, and to its end.
		{"jump 2; each me 4; return it; next 2", "jump 2", "each me 4", "return it", "next 2"},
		{"each me 3; jump 4; next 1; return me", "each me 3", "jump 4", "next 1", "return me"},
		{"each me 3; jump 3; next 1", "each me 3", "jump 3", "next 1"},
		{"each me 3; jump 2; next 1", "each me 3", "jump 2", "next 1"},
	} {
		checkValid(t, c[0], program(t, c[0]), 0, c[1:]...)
	}
	checkFaults(t, []fault{
		{"each me 4; each me 3; next 2; next 1", api.ErrRange, 1},
		{"each me 5; return it; each me 5; next 3; next 1", api.ErrRange, 2},
		{"each me 2; each me 3; next 2", api.ErrRange, 1},
		{"each me 1; each me 3; next 2", api.ErrRange, 1},
		{"next 0", api.ErrRange, 0},
		{"next 1", api.ErrRange, 0},
		{"return me; next 1", api.ErrRange, 1},
		{"each me 2; next 1; next 1", api.ErrRange, 2},
		{"each me 2; next 1; next 3", api.ErrRange, 2},
		{"each me 1", api.ErrState, 1},
		{"each me 1; return it", api.ErrState, 2},
		{"each me 2; return it", api.ErrState, 2},
		{"each me 2; next 1; each it 3", api.ErrState, 3},
		{"return me; each me 3; return me; jump 4", api.ErrState, 4},
		{"each me 2; next 0", api.ErrRange, 1},
		{"each me 2; next 2", api.ErrRange, 1},
		{"each me 2; next -1", api.ErrRange, 1},
		{"return me; each me 3; next 1", api.ErrRange, 2},
		{"return me; each me 3; next 3", api.ErrRange, 2},
		{"each me 1; next 1", api.ErrRange, 1},
		{"each me 3; next 1; return me", api.ErrRange, 1},
		{"each me 2; return it; next 1", api.ErrRange, 2},
		{"each me 3; return it; return it; next 1", api.ErrRange, 3},
		{"each me 4; return it; next 1; return it", api.ErrRange, 2},
		{"each me 2; next 1; each it 5; next 3; return me", api.ErrRange, 3},
		{"each me 2; next 1; each it 4; next 1", api.ErrRange, 3},
	})
	p := program(t, "return me; each me 4; return it; next 2; return me")
	for _, n := range extremes() {
		p.Code[3].A = n
		if n != 2 {
			checkWrong(t, fmt.Sprint("a next to ", n), p, api.ErrRange, 3)
		}
		p.Code[3].A, p.Code[1].B = 2, n
		if n <= 1 || n > 5 {
			checkWrong(t, fmt.Sprint("an each to ", n), p, api.ErrRange, 1)
		} else if n != 4 {
			checkWrong(t, fmt.Sprint("an each to ", n), p, api.ErrRange, 3)
		}
		p.Code[1].B = 4
	}
	checkValid(t, "the same as it was", p, 0, "return me", "each me 4", "return it", "next 2", "return me")
}

// P15.1: the stack, for each instruction.
func TestStack(t *testing.T) {
	pops := map[int]int{api.IAdd: 2, api.ISub: 2, api.IMul: 2, api.ITest: 2, api.IPower: 1, api.ISet: 1, api.ISpawn: 1, api.IDraw: 1, api.IEnergy: 1, api.IAura: 1}
	for op := api.IPush; op <= api.IBar; op++ {
		for n := range 5 {
			for _, c := range around {
				first := program(t, c.first)
				size := len(first.Code)
				whole := program(t, alone[op-1].listing)
				ins := whole.Code[alone[op-1].at]
				switch op {
				case api.ITest, api.IEach:
					ins.B = size + n + 1
				case api.IJump:
					ins.A = size + n + 1
				case api.INext:
					continue
				}
				p := listing.Join(first, program(t, strings.Repeat("push 9;", n)))
				ins.A += map[bool]int{true: len(p.Sels)}[isOne(ins, "count sum power set destroy move return each aura shield")]
				ins.A += map[bool]int{true: len(p.Names)}[isOne(ins, "spawn")]
				p.Code = append(p.Code, ins)
				p.Sels = append(p.Sels, whole.Sels...)
				p.Names = append(p.Names, whole.Names...)
				what := fmt.Sprintf("%s; %d numbers; %s", c.first, n, listing.Mnemonic(op))
				switch {
				case n < pops[op] || op > api.IMul && n > pops[op]:
					checkWrong(t, what, p, api.ErrState, size+n)
				case op <= api.IMul || op == api.IEach:
					checkWrong(t, what, p, api.ErrState, size+n+1)
				default:
					if e, at := Check(p); e != api.OK || at != 0 {
						t.Errorf("Check of %s is %d at %d", what, e, at)
					}
				}
			}
		}
	}
}

// P15.1: numbers on the stack where none may be.
func TestNumbersThatRemain(t *testing.T) {
	checkFaults(t, []fault{
		{"push 1", api.ErrState, 1},
		{"push 1; push 2", api.ErrState, 2},
		{"push 1; push 2; add", api.ErrState, 3},
		{"push 1; draw 1; round", api.ErrState, 3},
		{"push 1; push 2; draw 1", api.ErrState, 2},
		{"push 1; push 2; draw 1; draw 1", api.ErrState, 2},
		{"push 1; push 2; push 3; test 1 4", api.ErrState, 3},
		{"push 1; return me; draw 1", api.ErrState, 1},
		{"push 1; jump 2; draw 1", api.ErrState, 1},
		{"push 1; each me 3; next 2", api.ErrState, 1},
		{"each me 3; push 1; next 1", api.ErrState, 2},
		{"each me 4; push 1; push 2; next 1", api.ErrState, 3},
		{"push 1; push 2; add; add", api.ErrState, 3},
		{"push 1; mul", api.ErrState, 1},
		{"sub", api.ErrState, 0},
		{"push 1; draw 1; draw 1", api.ErrState, 2},
		{"push 1; test 1 2", api.ErrState, 1},
	})
}

// P15.1: two faults, so that their order decides.
func TestOrder(t *testing.T) {
	checkFaults(t, []fault{
		// In one instruction: what it refers to before the stack.
		{"draw 1", api.ErrState, 0},
		{"power 0", api.ErrRange, 0},
		{"push 1; push 1; power 0", api.ErrRange, 2},
		{"spawn 0 1 8", api.ErrRange, 0},
		{"test 1 0", api.ErrRange, 0},
		{"push 1; push 1; push 1; test 1 3", api.ErrRange, 3},
		{"push 1; jump 1", api.ErrRange, 1},
		{"push 1; each me 1", api.ErrRange, 1},
		{"push 1; each 0 2", api.ErrRange, 1},
		{"push 1; next 1", api.ErrRange, 1},
		{"each me 5; push 1; each me 4; next 3; next 1", api.ErrRange, 2},
		{"each me 4; push 1; next 1; draw 1", api.ErrRange, 2},
		// In two instructions: the first of them.
		{"power 0; draw 1", api.ErrRange, 0},
		{"draw 1; power 0", api.ErrState, 0},
		{"return me; jump 0; draw 1", api.ErrRange, 1},
		{"return me; draw 1; jump 0", api.ErrState, 1},
		{"each me 3; draw 1; next 5", api.ErrState, 1},
		{"each me 3; each me 3; draw 1", api.ErrRange, 1},
		// In an instruction and at the end: that of the instruction.
		{"each me 2; draw 1", api.ErrState, 1},
		{"each me 2; jump 1", api.ErrRange, 1},
		{"push 1; push 1; jump 1", api.ErrRange, 2},
		{"push 1; power 0", api.ErrRange, 1},
		{"each me 1; round", api.ErrState, 2},
	})
	for _, c := range []struct {
		code []api.Ins
		e    api.Errno
		at   int
	}{
		{[]api.Ins{{Op: 27}, {Op: api.IPower}, {Op: api.IDraw}}, api.ErrKind, 0},
		{[]api.Ins{{Op: api.IPower}, {Op: 27}, {Op: api.IDraw}}, api.ErrRange, 0},
		{[]api.Ins{{Op: api.IDraw}, {Op: 27}, {Op: api.IPower}}, api.ErrState, 0},
		{[]api.Ins{{Op: api.IRound}, {Op: 27}}, api.ErrKind, 1},
		{[]api.Ins{{Op: api.IRound}, {Op: -1, A: 5, B: -7}}, api.ErrKind, 1},
		{[]api.Ins{{Op: api.IRound}, {Op: api.IRound}}, api.ErrState, 2},
	} {
		checkWrong(t, shown(c.code), api.Program{Code: c.code}, c.e, c.at)
	}
}

// P15.2: the greatest height of the stack.
func TestDeep(t *testing.T) {
	for text, want := range map[string]int{
		"return me":                   0,
		"jump 1":                      0,
		"each me 2; next 1":           0,
		"push 1; draw 1":              1,
		"count me; energy 1":          1,
		"round; spawn \"A\" 1":        1,
		"push 1; push 2; add; draw 1": 2,
		"push 1; push 2; test 1 3":    2,
		"push 1; push 2; add; push 3; add; push 4; mul; draw 1":                                           2,
		"push 1; push 2; push 3; mul; sub; draw 1":                                                        3,
		"push 1; push 2; push 3; push 4; add; add; add; draw 1":                                           4,
		"push 1; push 2; push 3; add; add; draw 1; push 1; draw 1":                                        3,
		"push 1; draw 1; push 1; push 2; push 3; add; add; draw 1":                                        3,
		"push 1; draw 1; push 1; draw 1; push 1; draw 1":                                                  1,
		"push 1; push 2; push 3; sub; test 1 5; hand 1; free 1 1; sum me; round; sub; mul; add; power me": 4,
		"each me 6; push 1; push 2; test 1 4; return it; next 1":                                          2,
	} {
		p := program(t, text)
		if e, at := Check(p); e != api.OK || at != 0 {
			t.Errorf("Check of %s is %d at %d", text, e, at)
		}
		if got := Deep(p); got != want {
			t.Errorf("Deep of %s is %d, want %d", text, got, want)
		}
	}
	for n := 1; n <= 48; n++ {
		p := program(t, strings.Repeat("push 1;", n)+strings.Repeat("add;", n-1)+"draw 1")
		if got := Deep(p); got != n {
			t.Errorf("Deep of %d numbers that are added is %d", n, got)
		}
		p.Code = p.Code[:len(p.Code)-1]
		checkWrong(t, "the same without its end", p, api.ErrState, len(p.Code))
	}
}
