package prog

import (
	"fmt"
	"math"
	"math/rand"
	"slices"
	"strings"
	"testing"

	"trident/api"
	"trident/internal/odd"
)

// extremes are small numbers and extreme ones.
func extremes() []int {
	list := []int{math.MinInt, math.MinInt + 1, math.MinInt + 8, -1 << 61, -1 << 32, -100, -9, -8, -7, -1,
		99, 100, 1 << 31, 1 << 32, 1<<32 + 1, 1<<61 + 1, 1<<60 + 4, math.MaxInt - 7, math.MaxInt - 1, math.MaxInt}
	for n := range 10 {
		list = append(list, n)
	}
	return append(list, 26)
}

// P15.1 and R6: each field of each instruction with extreme numbers, which do not wrap around.
func TestExtremeFields(t *testing.T) {
	for op := api.IPush; op <= api.IBar; op++ {
		c := alone[op-1]
		for _, n := range extremes() {
			for field := range 8 {
				p := program(t, c.listing)
				ins := &p.Code[c.at]
				for i, f := range []*int{&ins.A, &ins.B, &ins.C} {
					if field>>i&1 == 1 {
						*f = n
					}
				}
				checkModel(t, p)
				checkModel(t, api.Program{Code: []api.Ins{{Op: op, A: n, B: n, C: n}}})
			}
		}
	}
}

// answers are all that is answered of a program.
func answers(p api.Program) string {
	e, at := Check(p)
	text := fmt.Sprint(e, at, Deep(p), Text(p))
	for _, at := range append(extremes(), fewIndices(p)...) {
		text += Line(p, at) + "\n"
	}
	return text
}

// oddProgram returns a drawn program with trees that no text has, and with items behind the
// ends of its lists.
func oddProgram(draws *rand.Rand) api.Program {
	number := func() int {
		if draws.Intn(10) > 0 {
			return draws.Intn(30) - 1
		}
		list := extremes()
		return list[draws.Intn(len(list))]
	}
	pen := odd.Pen{Draw: draws.Intn}
	var p api.Program
	for range draws.Intn(12) {
		p.Code = append(p.Code, api.Ins{Op: number(), A: draws.Intn(4), B: number(), C: number()})
		p.Sels = append(p.Sels, pen.Sel(draws.Intn(3)))
		p.Names = append(p.Names, []string{"", "A", "\"", "\xff"}[draws.Intn(4)])
	}
	if draws.Intn(2) == 0 && len(p.Code) > 0 {
		p.Code = p.Code[:1]
	}
	return p
}

// R1 and R3: of drawn programs that mostly are not valid all is answered as it should be, and
// again, and nothing of them is changed, not even behind the ends of their lists.
func TestDrawnPrograms(t *testing.T) {
	draws := rand.New(rand.NewSource(153))
	whole := func(p api.Program) string {
		return shown([]any{p, p.Code[:cap(p.Code)], p.Sels[:cap(p.Sels)], p.Names[:cap(p.Names)]})
	}
	valid := 0
	for range 20000 {
		p := oddProgram(draws)
		before := whole(p)
		if checkModel(t, p) == api.OK {
			valid++
		}
		first := answers(p)
		if answers(p) != first {
			t.Errorf("the second answers of %s differ from the first ones", before)
		}
		if whole(p) != before {
			t.Errorf("the calls changed %s", before)
		}
		if t.Failed() {
			return
		}
	}
	if valid < 100 {
		t.Errorf("only %d programs are valid", valid)
	}
}

// R1: Line at every index, and at extreme ones.
func TestLineAt(t *testing.T) {
	p := program(t, "push 1; push 2; add; power me")
	for _, at := range append(extremes(), len(p.Code)) {
		want := ""
		if at >= 0 && at < 4 {
			want = strings.Split(Text(p), "\n")[at]
		}
		if got := Line(p, at); got != want {
			t.Errorf("line %d is %q, want %q", at, got, want)
		}
		if got := Line(api.Program{}, at); got != "" {
			t.Errorf("line %d of no program is %q", at, got)
		}
	}
}

// R3: the calls keep nothing of a program.
func TestNothingIsKept(t *testing.T) {
	p := program(t, "count (mine here not me all); spawn \"A\" 1 8; each me 4; return it; next 3")
	p.Code[4] = api.Ins{Op: api.INext, A: 3}
	p.Code[2].B = 5
	text, line := Text(p), Line(p, 0)
	if text == "" || line != "0 count (mine here not me all)" {
		t.Fatalf("the text is %q and the line is %q", text, line)
	}
	fresh := api.Program{Code: slices.Clone(p.Code), Sels: slices.Clone(p.Sels), Names: slices.Clone(p.Names)}
	fresh.Sels[0].Filters = slices.Clone(p.Sels[0].Filters)
	p.Sels[0].Filters[0] = api.Filter{}
	p.Sels[0], p.Names[0], p.Code[0] = api.Sel{}, "B", api.Ins{}
	if Text(p) != "" || Text(fresh) != text || Line(fresh, 0) != line {
		t.Errorf("with the program changed, there are %q and %q", Text(p), Text(fresh))
	}
}

// P15.1 and P15.2: long lists of sels and of names, long sels and long names.
func TestLargePrograms(t *testing.T) {
	const many = 300000
	p := program(t, "shield 0; push 1; spawn 0 1 8; destroy 0")
	p.Code[0].A, p.Code[2].A, p.Code[3].A = many-1, many-1, many
	p.Sels, p.Names = make([]api.Sel, many), make([]string, many)
	checkWrong(t, "a program with many sels", p, api.ErrRange, 3)
	p.Sels[many-1] = api.Sel{Kind: api.SelAll, Side: api.Mine, Where: api.Here, Pick: api.All, Filters: slices.Repeat([]api.Filter{{Kind: api.FNotMe}}, many)}
	p.Names[many-1] = strings.Repeat("x", many)
	p.Code[3].A = many - 1
	sel := "(mine here" + strings.Repeat(" not me", many) + " all)"
	lines := []string{"shield " + sel, "push 1", "spawn \"" + p.Names[many-1] + "\" mine here", "destroy " + sel}
	for at, want := range lines {
		if got := Line(p, at); got != fmt.Sprint(at, " ", want) {
			t.Errorf("line %d has %d bytes, want %d", at, len(got), len(want)+2)
		}
	}
	if got := Text(p); got != "0 "+lines[0]+"\n1 "+lines[1]+"\n2 "+lines[2]+"\n3 "+lines[3]+"\n" {
		t.Errorf("the text has %d bytes", len(got))
	}
}
