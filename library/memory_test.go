package library

import (
	"reflect"
	"slices"
	"strings"
	"sync"
	"testing"

	"trident/api"
	"trident/atlas"
	"trident/expansion"
	"trident/starter"
)

// visit calls f with all that v holds, with what is behind the ends of its lists.
func visit(v reflect.Value, f func(v reflect.Value)) {
	f(v)
	switch v.Kind() {
	case reflect.Struct:
		for i := range v.NumField() {
			visit(v.Field(i), f)
		}
	case reflect.Slice:
		v = v.Slice(0, v.Cap())
		for i := range v.Len() {
			visit(v.Index(i), f)
		}
	}
}

// scratch changes every number and every text in a file, inside its lists.
func scratch(f api.File) {
	visit(reflect.ValueOf(f), func(v reflect.Value) {
		switch {
		case !v.CanSet():
		case v.Kind() == reflect.Int:
			v.SetInt(77)
		case v.Kind() == reflect.String:
			v.SetString("changed")
		}
	})
}

// whole writes a file with what is behind the ends of its lists.
func whole(f api.File) string {
	var all []any
	visit(reflect.ValueOf(f), func(v reflect.Value) {
		switch v.Kind() {
		case reflect.Int, reflect.String, reflect.Slice:
			all = append(all, v.Interface())
		}
	})
	return shown(all...)
}

// allKinds is a text with every list that a tree may have.
const allKinds = few + `
card "Newt" cost 3 power 1 {
	reveal {
		if count (mine here cost > 1 not me all) + 2 * sum (both away named "Ox" power < 3 first) >= hand mine - 1 {
			each (theirs lane 2 power != 0 all) { power it free mine right; move it left; }
		} else {
			spawn "Fly" theirs lane 3 round * (2 + 1);
		}
	}
	always 1 { if 1 < count me { aura (mine anywhere cost = 2 all) count (both here all); } bar both here; }
}
place "Bog" { enter { discard mine cheapest; each (both here not it weakest) { set it 1 - (2 - 3); } } }
`

// P19.1 and R3: a set shares no memory with its file: a change of the file changes no answer.
func TestSetSharesNoMemoryWithItsFile(t *testing.T) {
	for _, text := range []string{few, allKinds, strings.Join(slices.Concat(starter.Lines(), expansion.Lines(), atlas.Lines()), "\n")} {
		f := parse(t, text)
		s, fault := Of(f)
		if fault != (api.Fault{}) {
			t.Fatalf("there is the fault %v", fault)
		}
		checkSet(t, "before the file is changed", s, parse(t, text))
		scratch(f)
		checkSet(t, "after the file is changed", s, parse(t, text))
		clear(f.Cards)
		clear(f.Places)
		checkSet(t, "after the file is cleared", s, parse(t, text))
	}
}

// R3: Of changes no file, nor what is behind the ends of its lists.
func TestFilesAreNotChanged(t *testing.T) {
	f := parse(t, allKinds)
	f.Cards = append(slices.Grow(f.Cards, 3), api.Card{Name: "Ox", Cost: 99})[:len(f.Cards)]
	f.Places = append(slices.Grow(f.Places, 3), api.Place{Name: "Fen"})[:len(f.Places)]
	rules := &f.Cards[0].Rules
	*rules = append(slices.Grow(*rules, 1), api.Rule{When: 77, Line: 5})[:len(*rules)]
	before := whole(f)
	s, fault := Of(f)
	if fault != (api.Fault{}) {
		t.Fatalf("there is the fault %v", fault)
	}
	checkSet(t, "behind the ends", s, parse(t, allKinds))
	if whole(f) != before {
		t.Error("Of changed a file")
	}
	f.Cards = f.Cards[:len(f.Cards)+1]
	before = whole(f)
	if s, fault := Of(f); s != nil || fault.E != api.ErrTwice {
		t.Errorf("there is the fault %v", fault)
	}
	if whole(f) != before {
		t.Error("Of changed a wrong file")
	}
}

// R3: a list of rules is new each time.
func TestRulesAreNewLists(t *testing.T) {
	s := readFew(t)
	before, list := s.Rules(false, 0, api.WReveal), s.Rules(false, 0, api.WReveal)
	list = list[:cap(list)]
	for i := range list {
		list[i] = 77
	}
	checkSet(t, "after a list of rules is changed", s, parse(t, few))
	check(t, "a list from before", shown(before), shown([]int{0, 2}))
}

// What a caller does with the numbers and the name of a card, a location, a rule or a card
// in a game does not change the set.
func TestAnswersAreValues(t *testing.T) {
	s := readFew(t)
	c, _ := s.Card(0)
	p, _ := s.Place(0)
	r, _ := s.Rule(false, 0, 0)
	program, _ := s.Program(false, 0, 0)
	made := s.Make(0, 1, 1)
	c.Name, c.Cost, c.Power, c.Line, c.Rules = "changed", 77, 77, 77, nil
	p.Name, p.Col, p.Rules = "changed", 77, nil
	r.When, r.Acts = 77, nil
	program.Code, program.Sels = nil, nil
	made.Name, made.Power = "changed", 77
	checkSet(t, "after answers are changed", s, parse(t, few))
}

// R4: the answers of one set do not depend on those of another one.
func TestSetsAreApart(t *testing.T) {
	first := readFew(t)
	second, _ := Read("card \"Elk\" cost 1 power 1 { reveal { } } place \"Ox\" { }")
	shipped := Shipped()
	checkSet(t, "the first set", first, parse(t, few))
	checkSet(t, "the second set", second, parse(t, "card \"Elk\" cost 1 power 1 { reveal { } } place \"Ox\" { }"))
	if first.Find("Ox") != 0 || second.Find("Ox") != -1 || second.FindPlace("Ox") != 0 || shipped.Find("Ox") != -1 {
		t.Error("a set finds the name of another one")
	}
}

// R4: a set may be asked by many at the same time.
func TestAtTheSameTime(t *testing.T) {
	s := readFew(t)
	f := parse(t, few)
	var all sync.WaitGroup
	for range 8 {
		all.Go(func() {
			for range 5 {
				checkSet(t, "at the same time", s, f)
			}
			if n := Shipped().Cards(); n != 90 {
				t.Errorf("at the same time there are %d cards", n)
			}
		})
	}
	all.Wait()
}

// A set has the methods of the chapter: those of its indexes are no methods of a set.
func TestMethods(t *testing.T) {
	var methods []string
	set := reflect.TypeOf(new(Set))
	for i := range set.NumMethod() {
		methods = append(methods, set.Method(i).Name)
	}
	want := "Card Cards Find FindPlace Make Place Places Program Rule Rules"
	if got := strings.Join(methods, " "); got != want {
		t.Errorf("a set has the methods %s, want %s", got, want)
	}
	for i := range set.Elem().NumField() {
		if field := set.Elem().Field(i); field.IsExported() {
			t.Errorf("a set has the field %s, which others may change", field.Name)
		}
	}
}
