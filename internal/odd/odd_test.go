package odd

import (
	"fmt"
	"math/rand"
	"reflect"
	"testing"
)

// visit calls f with all that v holds, and with what is behind the ends of its lists, and
// with the names of the types and fields that lead there.
func visit(name string, v reflect.Value, f func(name string, v reflect.Value)) {
	f(name, v)
	switch v.Kind() {
	case reflect.Struct:
		for i := range v.NumField() {
			visit(v.Type().Name()+"."+v.Type().Field(i).Name, v.Field(i), f)
		}
	case reflect.Slice:
		for i := range v.Cap() {
			visit(name, v.Slice(0, v.Cap()).Index(i), f)
		}
	}
}

// Every field of every struct takes many values: numbers of kinds and extreme ones, texts
// that are names and texts that are none, lists of each length.
func TestEveryFieldIsDrawn(t *testing.T) {
	seen := map[string]map[string]bool{}
	draws := rand.New(rand.NewSource(1))
	pen := Pen{Draw: draws.Intn}
	behind := 0
	for range 100 {
		visit("", reflect.ValueOf(pen.File(6)), func(name string, v reflect.Value) {
			if seen[name] == nil {
				seen[name] = map[string]bool{}
			}
			switch v.Kind() {
			case reflect.Int, reflect.String:
				seen[name][fmt.Sprint(v)] = true
			case reflect.Slice:
				seen[name][fmt.Sprint("length ", v.Len())] = true
				behind += v.Cap() - v.Len()
			}
		})
	}
	least := map[string]int{"File.Cards": 3, "Card.Name": 8, "Card.Cost": 20, "Place.Col": 20, "Rule.Acts": 3, "Act.Then": 3,
		"Act.Kind": 20, "Act.Else": 3, "Cond.Op": 20, "Sel.Filters": 3, "Sel.Kind": 20, "Filter.Name": 8, "Expr.Kids": 3, "To.Lane": 20}
	for name, most := range least {
		if len(seen[name]) < most {
			t.Errorf("%s takes the values %v", name, seen[name])
		}
	}
	for name, values := range seen {
		if len(values) == 1 {
			t.Errorf("%s takes the values %v", name, values)
		}
	}
	if behind == 0 {
		t.Error("no list has items behind its end")
	}
}

// depth returns how many lists are inside each other.
func depth(v reflect.Value) int {
	most := 0
	switch v.Kind() {
	case reflect.Struct:
		for i := range v.NumField() {
			most = max(most, depth(v.Field(i)))
		}
	case reflect.Slice:
		for i := range v.Len() {
			most = max(most, depth(v.Index(i)))
		}
		if !v.IsNil() {
			most++
		}
	}
	return most
}

func TestDepth(t *testing.T) {
	draws := rand.New(rand.NewSource(2))
	pen := Pen{Draw: draws.Intn}
	for deep := range 6 {
		most := 0
		for range 100 {
			for _, tree := range []any{pen.File(deep), pen.Card(deep), pen.Place(deep), pen.Rule(deep), pen.Acts(deep), pen.Sel(deep), pen.Expr(deep)} {
				most = max(most, depth(reflect.ValueOf(tree)))
			}
		}
		if most != deep {
			t.Errorf("of depth %d the lists are %d inside each other", deep, most)
		}
	}
}
