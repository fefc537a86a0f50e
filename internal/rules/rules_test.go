package rules

import (
	"math/rand"
	"testing"

	"trident/api"
	"trident/lint"
	"trident/unparse"
)

// Rules of every kind are drawn, with every kind of act and of several sizes, and lint
// accepts each of them in a card or in a location.
func TestDraw(t *testing.T) {
	list := Draw(rand.New(rand.NewSource(5)).Intn, 2000, 100)
	whens, kinds, sizes := map[int]int{}, map[int]int{}, map[int]int{}
	var count func(acts []api.Act)
	count = func(acts []api.Act) {
		for _, a := range acts {
			kinds[a.Kind]++
			if a.Line != 0 || a.Col != 0 {
				t.Errorf("an act has a position: %+v", a)
			}
			count(a.Then)
			count(a.Else)
		}
	}
	for _, r := range list {
		whens[r.When]++
		sizes[lint.Size(r)/10]++
		count(r.Acts)
		card, place := lint.Card(api.Card{Name: "A", Rules: []api.Rule{r}}), lint.Place(api.Place{Name: "A", Rules: []api.Rule{r}})
		if card.E != api.OK && place.E != api.OK {
			t.Errorf("{ %s } has the faults %v and %v", unparse.Acts(r.Acts), card, place)
		}
	}
	for when := api.WReveal; when <= api.WEnter; when++ {
		if whens[when] < 20 {
			t.Errorf("there are only %d rules of the kind %d", whens[when], when)
		}
	}
	for kind := api.APower; kind <= api.ABar; kind++ {
		if kinds[kind] < 20 {
			t.Errorf("there are only %d acts of the kind %d", kinds[kind], kind)
		}
	}
	for size := range 4 {
		if sizes[size] == 0 {
			t.Errorf("there are only rules of the sizes %v", sizes)
		}
	}
}

func TestNothing(t *testing.T) {
	if list := Draw(rand.New(rand.NewSource(6)).Intn, 0, 100); len(list) != 0 {
		t.Errorf("of no texts there are the rules %+v", list)
	}
}
