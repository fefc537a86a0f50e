package prog

import (
	"fmt"
	"slices"
	"strings"

	"trident/api"
	"trident/internal/listing"
	"trident/unparse"
)

// isOne reports whether an instruction is one of those whose words a text lists.
func isOne(ins api.Ins, words string) bool {
	word := listing.Mnemonic(ins.Op)
	return word != "" && slices.Contains(strings.Fields(words), word)
}

// heightOf returns how many numbers instructions leave on the stack.
func heightOf(code []api.Ins) int {
	height := 0
	for _, ins := range code {
		if isOne(ins, "add sub mul test") {
			height -= 2
		}
		if isOne(ins, "power set spawn draw energy aura") {
			height--
		}
		if isOne(ins, "push count sum round hand free add sub mul") {
			height++
		}
	}
	return height
}

// openIn returns the index of the last each of code, if no next is behind it.
func openIn(code []api.Ins) (int, bool) {
	for i := len(code) - 1; i >= 0; i-- {
		if isOne(code[i], "each next") {
			return i, isOne(code[i], "each")
		}
	}
	return 0, false
}

// wrongIndex reports whether the last instruction before an index of p refers to what is not
// there, or is an each or a next where none may be.
func wrongIndex(p api.Program, end int) bool {
	at := end - 1
	ins := p.Code[at]
	each, open := openIn(p.Code[:at])
	target := map[bool]int{true: ins.A, false: ins.B}[isOne(ins, "jump")]
	switch {
	case isOne(ins, "count sum power set destroy move return each aura shield") && (ins.A < 0 || ins.A >= len(p.Sels)):
		return true
	case isOne(ins, "spawn") && (ins.A < 0 || ins.A >= len(p.Names)):
		return true
	case isOne(ins, "test jump each") && (target <= at || target > len(p.Code)):
		return true
	case isOne(ins, "each"):
		return open
	case isOne(ins, "next"):
		return !open || ins.A != each+1 || p.Code[each].B != end
	}
	return false
}

// wrongStack reports whether for the last instruction before an index of p numbers are
// missing, or remain where none may.
func wrongStack(p api.Program, end int) bool {
	ins := p.Code[end-1]
	before := heightOf(p.Code[:end-1])
	switch {
	case isOne(ins, "add sub mul test") && before < 2:
		return true
	case isOne(ins, "power set spawn draw energy aura") && before < 1:
		return true
	}
	return ins.Op > api.IMul && heightOf(p.Code[:end]) != 0
}

// faultOf returns what Check should return: for each instruction what is wrong is found by
// those before it alone, which are valid.
func faultOf(p api.Program) (api.Errno, int) {
	if len(p.Code) > 96 {
		return api.ErrLong, 96
	}
	for at, ins := range p.Code {
		switch {
		case listing.Mnemonic(ins.Op) == "":
			return api.ErrKind, at
		case wrongIndex(p, at+1):
			return api.ErrRange, at
		case wrongStack(p, at+1):
			return api.ErrState, at
		}
	}
	if _, open := openIn(p.Code); open || heightOf(p.Code) != 0 {
		return api.ErrState, len(p.Code)
	}
	return api.OK, 0
}

// deepOf returns what Deep should return of a valid program.
func deepOf(p api.Program) int {
	deepest := 0
	for at := range p.Code {
		deepest = max(deepest, heightOf(p.Code[:at+1]))
	}
	return deepest
}

// layouts are the lines of the instructions. Words in capital letters stand for operands: A,
// B and C for numbers, others for words, behind a mark : the fields that they are made of.
const layouts = `push A
count SEL:A
sum SEL:A
round
hand SIDE:A
free SIDE:A LANE:BC
add
sub
mul
power SEL:A
set SEL:A
destroy SEL:A
move SEL:A LANE:BC
return SEL:A
spawn NAME:A SIDE:B LANE:C
draw SIDE:A
discard SIDE:A HOW:B
energy SIDE:A
test SIGN:A B
jump A
each SEL:A B
next A
aura SEL:A
double SIDE:A LANE:BC
shield SEL:A
bar SIDE:A LANE:BC`

// The words of whose something is, of lanes, of which card of a hand and of comparisons, at
// their numbers.
var (
	sides = []string{api.Mine: "mine", api.Theirs: "theirs", api.Both: "both"}
	kinds = []string{api.ToHere: "here", api.ToLeft: "left", api.ToRight: "right", api.ToLane: "lane"}
	hows  = []string{api.HFirst: "first", api.HLast: "last", api.HCheapest: "cheapest", api.HCostliest: "costliest"}
	signs = []string{api.Lt: "<", api.Le: "<=", api.Eq: "=", api.Ne: "!=", api.Ge: ">=", api.Gt: ">"}
)

// laneOf returns the words of a lane.
func laneOf(kind, number int) (string, bool) {
	word, ok := wordOf(kinds, kind)
	if kind == api.ToLane {
		word += fmt.Sprint(" ", number)
	}
	return word, ok
}

// wordOf returns the word with that number.
func wordOf(words []string, number int) (string, bool) {
	if number < 1 || number >= len(words) {
		return "", false
	}
	return words[number], true
}

// operandOf returns the words that stand for an operand.
func operandOf(p api.Program, ins api.Ins, operand string) (string, bool) {
	name, fields, _ := strings.Cut(operand, ":")
	number := map[byte]int{'A': ins.A, 'B': ins.B, 'C': ins.C}
	switch {
	case fields == "":
		return fmt.Sprint(number[name[0]]), true
	case name == "SEL":
		return unparse.Sel(p.Sels[number[fields[0]]]), true
	case name == "NAME":
		return "\"" + p.Names[number[fields[0]]] + "\"", true
	case name == "SIDE":
		return wordOf(sides, number[fields[0]])
	case name == "HOW":
		return wordOf(hows, number[fields[0]])
	case name == "SIGN":
		return wordOf(signs, number[fields[0]])
	case fields == "C":
		return laneOf(ins.C>>3, ins.C&7)
	default:
		return laneOf(ins.B, ins.C)
	}
}

// lineOf returns what Line should return of an instruction of a valid program.
func lineOf(p api.Program, at int) string {
	ins := p.Code[at]
	text := fmt.Sprint(at)
	for i, operand := range strings.Fields(strings.Split(layouts, "\n")[ins.Op-1]) {
		word := operand
		if i > 0 {
			var ok bool
			if word, ok = operandOf(p, ins, operand); !ok {
				return ""
			}
		}
		text += " " + word
	}
	return text
}
