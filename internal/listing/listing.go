// Package listing reads programs from listings, for the tests of the layers.
package listing

import (
	"slices"
	"strconv"
	"strings"

	"trident/api"
	"trident/syntax"
)

// Mnemonic returns the word of an instruction, or the empty string if there is none.
func Mnemonic(op int) string {
	if op < 0 || op >= len(mnemonics) {
		return ""
	}
	return mnemonics[op]
}

// mnemonics are the words of the instructions, at their numbers.
var mnemonics = [...]string{
	"", "push", "count", "sum", "round", "hand", "free", "add", "sub", "mul", "power", "set", "destroy", "move",
	"return", "spawn", "draw", "discard", "energy", "test", "jump", "each", "next", "aura", "double", "shield", "bar",
}

// Program returns the program with that listing: instructions with marks ; between them, of
// each its word and then A, B and C, of which those that are not there are 0. Where A is a
// sel or a name, that stands there, and is the next one of the program's list. Of a text
// that is no listing it returns false.
func Program(listing string) (api.Program, bool) {
	var p api.Program
	for _, line := range strings.Split(listing, ";") {
		if strings.TrimSpace(line) != "" && !add(&p, strings.TrimSpace(line)) {
			return api.Program{}, false
		}
	}
	return p, true
}

// add adds the instruction with that listing.
func add(p *api.Program, line string) bool {
	word, rest, _ := strings.Cut(line, " ")
	ins := api.Ins{Op: slices.Index(mnemonics[:], word)}
	if ins.Op < 1 {
		return false
	}
	fields := []*int{&ins.A, &ins.B, &ins.C}
	listed := strings.TrimRight(rest, "-0123456789 ")
	switch {
	case strings.HasPrefix(listed, "\""):
		ins.A = len(p.Names)
		p.Names = append(p.Names, strings.Trim(listed, "\""))
		fields = fields[1:]
	case listed != "":
		tree, fault := syntax.Expr("count " + listed)
		if fault != (api.Fault{}) {
			return false
		}
		ins.A = len(p.Sels)
		p.Sels = append(p.Sels, tree.Sel)
		fields = fields[1:]
	}
	numbers := strings.Fields(rest[len(listed):])
	if len(numbers) > len(fields) {
		return false
	}
	for i, text := range numbers {
		n, err := strconv.Atoi(text)
		if err != nil {
			return false
		}
		*fields[i] = n
	}
	p.Code = append(p.Code, ins)
	return true
}

// Join returns the concatenation of programs, with the indices in each one increased by the
// numbers of entries before it.
func Join(programs ...api.Program) api.Program {
	var all api.Program
	for _, p := range programs {
		codes, sels, names := len(all.Code), len(all.Sels), len(all.Names)
		for _, ins := range p.Code {
			switch ins.Op {
			case api.ICount, api.ISum, api.IPower, api.ISet, api.IDestroy, api.IMove, api.IReturn, api.IAura, api.IShield:
				ins.A += sels
			case api.ISpawn:
				ins.A += names
			case api.IEach:
				ins.A += sels
				ins.B += codes
			case api.ITest:
				ins.B += codes
			case api.IJump, api.INext:
				ins.A += codes
			}
			all.Code = append(all.Code, ins)
		}
		all.Sels = append(all.Sels, p.Sels...)
		all.Names = append(all.Names, p.Names...)
	}
	return all
}
