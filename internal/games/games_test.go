package games

import (
	"math"
	"math/rand"
	"reflect"
	"testing"

	"trident/api"
)

// visit calls f with every number, truth and text that v holds.
func visit(v reflect.Value, f func(v reflect.Value)) {
	switch v.Kind() {
	case reflect.Struct:
		for i := range v.NumField() {
			visit(v.Field(i), f)
		}
	case reflect.Array, reflect.Slice:
		for i := range v.Len() {
			visit(v.Index(i), f)
		}
	default:
		f(v)
	}
}

// change changes a value and returns what undoes it.
func change(v reflect.Value) func() {
	before := reflect.New(v.Type()).Elem()
	before.Set(v)
	switch v.Kind() {
	case reflect.Int:
		v.SetInt(v.Int() ^ 1)
	case reflect.Bool:
		v.SetBool(!v.Bool())
	case reflect.String:
		v.SetString(v.String() + "x")
	}
	return func() { v.Set(before) }
}

// Lists has every list of a state once, each with its owner.
func TestLists(t *testing.T) {
	var s api.State
	for i, l := range Lists(&s) {
		*l = []api.Inst{{Id: i, Owner: Owner(i)}}
	}
	for lane, l := range s.Lanes {
		for seat, side := range l.Sides {
			if len(side) != 1 || side[0].Id != 2*lane+seat || side[0].Owner != seat {
				t.Errorf("the side %d of lane %d has %v", seat, lane, side)
			}
		}
	}
	for seat, p := range s.Players {
		for i, l := range [][]api.Inst{p.Deck, p.Hand, p.Gone} {
			if len(l) != 1 || l[0].Id != 6+3*seat+i || l[0].Owner != seat {
				t.Errorf("the list %d of player %d has %v", i, seat, l)
			}
		}
	}
}

// Same notices each change of a state, in any of its fields.
func TestSame(t *testing.T) {
	pen := Pen{Draw: rand.New(rand.NewSource(1)).Intn}
	for n := range 60 {
		s := pen.Odd()
		if n%2 == 0 {
			s = pen.Right(10, 5)
		}
		other := Copy(s)
		if !Same(s, other) || !Same(other, s) {
			t.Fatalf("%v and %v are not the same", s, other)
		}
		visit(reflect.ValueOf(&other).Elem(), func(v reflect.Value) {
			undo := change(v)
			if Same(s, other) || Same(other, s) {
				t.Fatalf("%v and %v are the same", s, other)
			}
			undo()
		})
		for i, l := range Lists(&other) {
			full := *l
			*l = append(full, api.Inst{})
			if Same(s, other) || Same(other, s) {
				t.Fatalf("a card more in the list %d is not noticed", i)
			}
			*l = full
		}
	}
	if empty := (api.State{Players: [2]api.Player{{Deck: []api.Inst{}}}}); !Same(api.State{}, empty) {
		t.Error("a nil and an empty list are not the same")
	}
}

// Copy shares nothing and has cards behind the ends, which Whole shows.
func TestCopy(t *testing.T) {
	pen := Pen{Draw: rand.New(rand.NewSource(2)).Intn}
	for range 60 {
		s := pen.Odd()
		other := Copy(s)
		whole := Whole(other)
		if !Apart(Memory(s, other, whole)...) || !Same(s, other) || !Same(whole, Whole(other)) {
			t.Fatalf("a copy of %v is %v", s, other)
		}
		for i, l := range Lists(&other) {
			if more := *Lists(&whole)[i]; cap(*l) < len(*l)+3 || len(more) != cap(*l) || more[len(*l)].Id != -71 || more[len(*l)+2].Id != -73 {
				t.Errorf("the list %d has %v up to its end", i, more)
			}
		}
	}
}

// Apart notices memory that two lists share, also behind their ends, and changes nothing.
func TestApart(t *testing.T) {
	all := []api.Inst{{Id: 1, Name: "a"}, {Id: 2}, {Id: 3}, {Id: 4, Plus: 6}}
	before := append([]api.Inst(nil), all...)
	for _, c := range []struct {
		lists [][]api.Inst
		want  bool
	}{
		{nil, true},
		{[][]api.Inst{nil, nil, {}}, true},
		{[][]api.Inst{all}, true},
		{[][]api.Inst{all[:2:2], all[2:]}, true},
		{[][]api.Inst{all[2:], all[:2:2]}, true},
		{[][]api.Inst{all[:2], all[2:]}, false},
		{[][]api.Inst{all[2:], all[:2]}, false},
		{[][]api.Inst{all[:0], all[3:]}, false},
		{[][]api.Inst{all[:2:2], nil, all[1:]}, false},
		{[][]api.Inst{all, all}, false},
	} {
		if got := Apart(c.lists...); got != c.want {
			t.Errorf("Apart(%v) is %t", c.lists, got)
		}
		if !reflect.DeepEqual(all, before) {
			t.Errorf("the cards are now %v", all)
		}
	}
}

// Odd draws every field with many values, and lists of each length.
func TestOdd(t *testing.T) {
	pen := Pen{Draw: rand.New(rand.NewSource(3)).Intn}
	lengths, owners, extreme := map[int]int{}, map[int]int{}, 0
	for range 500 {
		s := pen.Odd()
		for _, l := range Lists(&s) {
			lengths[len(*l)]++
			for _, x := range *l {
				owners[x.Owner]++
				if x.Id == math.MinInt || x.Power == math.MaxInt {
					extreme++
				}
			}
		}
	}
	if len(lengths) != 7 || lengths[6] < 100 || owners[0] < 100 || owners[1] < 100 || len(owners) < 10 || extreme < 10 {
		t.Errorf("there are lists of the lengths %v and cards of %v, %d of them with extreme numbers", lengths, owners, extreme)
	}
}

// Right draws states of every number of cards in each list, with different Ids.
func TestRight(t *testing.T) {
	pen := Pen{Draw: rand.New(rand.NewSource(4)).Intn}
	full := map[int]int{}
	for range 500 {
		s := pen.Right(10, 5)
		ids := map[int]bool{}
		for i, l := range Lists(&s) {
			most := 12
			if i < 6 {
				most = 4
			} else if i == 7 || i == 10 {
				most = 7
			}
			if len(*l) == most {
				full[i]++
			}
			for _, x := range *l {
				if x.Owner != Owner(i) || ids[x.Id] || x.Id < 1 || x.Id >= s.Next || x.Card < -1 || x.Card >= 10 {
					t.Fatalf("the list %d has the card %v", i, x)
				}
				ids[x.Id] = true
			}
			if len(*l) > most {
				t.Fatalf("the list %d has %d cards", i, len(*l))
			}
		}
		for _, l := range s.Lanes {
			if l.Place < -1 || l.Place >= 5 || l.Open && l.Place < 0 {
				t.Fatalf("there is the lane %v", l)
			}
		}
	}
	for _, i := range []int{0, 1, 2, 3, 4, 5, 6, 7, 9, 10} {
		if full[i] < 10 {
			t.Errorf("the list %d is full %d times", i, full[i])
		}
	}
}
