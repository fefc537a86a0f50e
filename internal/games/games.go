// Package games draws states of games and holds them against each other, for the tests of the
// layers.
package games

import (
	"math"
	"slices"

	"trident/api"
)

// Lists returns where the lists of cards of s are: first the sides of the lanes, lane by lane,
// seat 0 before seat 1, then the Deck, the Hand and the Gone of each player.
func Lists(s *api.State) []*[]api.Inst {
	var all []*[]api.Inst
	for lane := range s.Lanes {
		all = append(all, &s.Lanes[lane].Sides[0], &s.Lanes[lane].Sides[1])
	}
	for seat := range s.Players {
		p := &s.Players[seat]
		all = append(all, &p.Deck, &p.Hand, &p.Gone)
	}
	return all
}

// Owner returns the seat whose cards the list at that index of Lists contains.
func Owner(list int) int {
	if list < 2*api.Lanes {
		return list % 2
	}
	return (list - 2*api.Lanes) / 3
}

// Same reports whether a and b are equal; nil and empty lists are.
func Same(a, b api.State) bool {
	for i, l := range Lists(&a) {
		if !slices.Equal(*l, *Lists(&b)[i]) {
			return false
		}
	}
	for lane := range a.Lanes {
		if x, y := a.Lanes[lane], b.Lanes[lane]; x.Place != y.Place || x.Open != y.Open {
			return false
		}
	}
	for seat := range a.Players {
		if x, y := a.Players[seat], b.Players[seat]; x.Energy != y.Energy || x.Bonus != y.Bonus || x.Raised != y.Raised {
			return false
		}
	}
	return a.Round == b.Round && a.Stake == b.Stake && a.Next == b.Next && a.Result == b.Result
}

// Copy returns s with lists of its own, with further cards behind the end of each.
func Copy(s api.State) api.State {
	for i, l := range Lists(&s) {
		more := append(slices.Clone(*l), api.Inst{Id: -71, Owner: i}, api.Inst{Id: -72, Name: "behind"}, api.Inst{Id: -73})
		*l = more[:len(*l)]
	}
	return s
}

// Whole returns s with its lists up to where their memory ends, as a copy.
func Whole(s api.State) api.State {
	for _, l := range Lists(&s) {
		*l = slices.Clone((*l)[:cap(*l)])
	}
	return s
}

// Apart reports whether no two of the lists share memory, up to where that ends. Meanwhile it
// writes into them.
func Apart(lists ...[]api.Inst) bool {
	before := make([][]api.Inst, len(lists))
	mark := 0
	for i, l := range lists {
		l = l[:cap(l)]
		before[i] = slices.Clone(l)
		for k := range l {
			mark++
			l[k].Id = mark
		}
	}
	apart, mark := true, 0
	for _, l := range lists {
		for _, x := range l[:cap(l)] {
			mark++
			apart = apart && x.Id == mark
		}
	}
	// What shared lists contained was read last where it had been written to: hence backwards.
	for i, l := range slices.Backward(lists) {
		copy(l[:cap(l)], before[i])
	}
	return apart
}

// Memory returns all lists of the states, for Apart.
func Memory(states ...api.State) [][]api.Inst {
	var all [][]api.Inst
	for _, s := range states {
		for _, l := range Lists(&s) {
			all = append(all, *l)
		}
	}
	return all
}

// Pen draws states. A call of Draw returns a number from 0 to n-1.
type Pen struct {
	Draw func(n int) int
}

// number returns a number: mostly a small one, and else one around a bound or an extreme one.
func (p Pen) number() int {
	if p.Draw(3) > 0 {
		return p.Draw(6)
	}
	bounds := []int{
		math.MinInt, math.MinInt32, -1000, -999, -10, -9, -2, -1, 7, 8, 9, 10, 16, 99, 100, 101, 999, 1000,
		math.MaxInt32, 1 << 32, 1<<32 + 1, math.MaxInt,
	}
	return bounds[p.Draw(len(bounds))]
}

// text returns a name, or what is none.
func (p Pen) text() string {
	texts := []string{"", "Imp", "Dust Cat", "imp", " ", "\xff", "\x00", "a\nb", "é"}
	return texts[p.Draw(len(texts))]
}

// Inst returns a card of any numbers, mostly one of a seat that there is.
func (p Pen) Inst() api.Inst {
	x := api.Inst{
		Id: p.number(), Card: p.number(), Name: p.text(), Cost: p.number(), Power: p.number(), Plus: p.number(),
		Owner: p.Draw(api.Seats),
	}
	if p.Draw(4) == 0 {
		x.Owner = p.number()
	}
	return x
}

// Odd returns a state of any numbers, mostly one that occurs in no game: of cards with the
// same Ids and of anybody, on sides and in hands that may be overfull. Its lists have further
// cards behind their ends.
func (p Pen) Odd() api.State {
	s := api.State{Round: p.number(), Stake: p.number(), Next: p.number()}
	s.Result = api.Result{Kind: p.number(), Winner: p.number(), Stake: p.number()}
	for lane := range s.Lanes {
		s.Lanes[lane].Place, s.Lanes[lane].Open = p.number(), p.Draw(2) == 0
	}
	for seat := range s.Players {
		player := &s.Players[seat]
		player.Energy, player.Bonus, player.Raised = p.number(), p.number(), p.Draw(2) == 0
	}
	for _, l := range Lists(&s) {
		for range p.Draw(2) * p.Draw(7) {
			*l = append(*l, p.Inst())
		}
	}
	return Copy(s)
}

// Right returns a state of numbers that are possible in a game, with the numbers of library
// cards below kinds and those of locations below places.
func (p Pen) Right(kinds, places int) api.State {
	stakes := []int{1, 2, 4, 8}
	s := api.State{Round: p.Draw(api.Rounds + 1), Stake: stakes[p.Draw(len(stakes))], Next: 100 + p.Draw(50)}
	if p.Draw(4) == 0 {
		s.Result = api.Result{Kind: p.Draw(5), Winner: p.Draw(3), Stake: p.Draw(2) * stakes[p.Draw(len(stakes))]}
	}
	for lane := range s.Lanes {
		l := &s.Lanes[lane]
		l.Place = p.Draw(places+1) - 1
		l.Open = l.Place >= 0 && p.Draw(3) > 0
	}
	for seat := range s.Players {
		player := &s.Players[seat]
		player.Energy, player.Bonus, player.Raised = p.Draw(10), p.Draw(19)-9, p.Draw(2) == 0
	}
	room := []int{api.Slots, api.Slots, api.Slots, api.Slots, api.Slots, api.Slots, api.DeckSize, api.MaxHand, 5, api.DeckSize, api.MaxHand, 5}
	free := p.ids(s.Next)
	for i, l := range Lists(&s) {
		for range p.Draw(room[i] + 1) {
			*l = append(*l, p.rightInst(free[0], Owner(i), kinds))
			free = free[1:]
		}
	}
	return Copy(s)
}

// ids returns all numbers from 1 to next-1, in any order.
func (p Pen) ids(next int) []int {
	var ids []int
	for id := 1; id < next; id++ {
		ids = slices.Insert(ids, p.Draw(len(ids)+1), id)
	}
	return ids
}

// rightInst returns a card whose numbers are possible, often such as are alike.
func (p Pen) rightInst(id, owner, kinds int) api.Inst {
	x := api.Inst{Id: id, Card: p.Draw(kinds+1) - 1, Name: p.text(), Cost: p.Draw(api.MaxEnergy + 1), Power: p.Draw(9) - 2, Owner: owner}
	switch p.Draw(6) {
	case 0:
		x.Plus = p.Draw(7) - 3
	case 1:
		x.Power, x.Plus = p.Draw(2*api.MaxPower+1)-api.MaxPower, p.Draw(2*api.MaxPower+1)-api.MaxPower
	case 2:
		x.Plus = (2*p.Draw(2) - 1) * api.MaxPower
	}
	return x
}
