package hands

import (
	"math/rand"
	"slices"
	"testing"

	"trident/api"
	"trident/board"
	"trident/internal/games"
)

// checkToHand checks what ToHand answers.
func checkToHand(t *testing.T, what string, s api.State, x api.Inst, want api.State, ok bool) {
	t.Helper()
	before := games.Whole(s)
	got, gotOK := ToHand(s, x)
	if gotOK != ok {
		t.Fatalf("%s: ToHand of %v is %t, want %t", what, x, gotOK, ok)
	}
	checkState(t, what, s, before, got, want)
}

// checkAway checks what Away answers.
func checkAway(t *testing.T, what string, s api.State, x api.Inst, want api.State) {
	t.Helper()
	before := games.Whole(s)
	checkState(t, what, s, before, Away(s, x), want)
}

// checkFromHand checks what FromHand answers.
func checkFromHand(t *testing.T, what string, s api.State, seat, id int, want api.State, x api.Inst, ok bool) {
	t.Helper()
	before := games.Whole(s)
	got, gotInst, gotOK := FromHand(s, seat, id)
	if gotInst != x || gotOK != ok {
		t.Fatalf("%s: FromHand of %d for seat %d is %v, %t, want %v, %t", what, id, seat, gotInst, gotOK, x, ok)
	}
	checkState(t, what, s, before, got, want)
}

// bare returns x without its Plus.
func bare(x api.Inst) api.Inst {
	return api.Inst{Id: x.Id, Card: x.Card, Name: x.Name, Cost: x.Cost, Power: x.Power, Owner: x.Owner}
}

// modelToHand names the list to which the card is appended.
func modelToHand(s api.State, x api.Inst) (api.State, bool) {
	if x.Owner != 0 && x.Owner != 1 {
		return s, false
	}
	p := &s.Players[x.Owner]
	list, ok := &p.Gone, false
	switch len(p.Hand) {
	case 0, 1, 2, 3, 4, 5, 6:
		list, ok = &p.Hand, true
	}
	*list = slices.Concat(*list, []api.Inst{bare(x)})
	return s, ok
}

// modelAway appends x as it is.
func modelAway(s api.State, x api.Inst) api.State {
	if x.Owner == 0 || x.Owner == 1 {
		p := &s.Players[x.Owner]
		p.Gone = slices.Concat(p.Gone, []api.Inst{x})
	}
	return s
}

// modelFromHand goes through the Hand from its end, so that the first card remains.
func modelFromHand(s api.State, seat, id int) (api.State, api.Inst, bool) {
	at := -1
	if seat == 0 || seat == 1 {
		for i, x := range slices.Backward(s.Players[seat].Hand) {
			if x.Id == id {
				at = i
			}
		}
	}
	if at < 0 {
		return s, api.Inst{}, false
	}
	p := &s.Players[seat]
	x := p.Hand[at]
	p.Hand = slices.Concat(p.Hand[:at], p.Hand[at+1:])
	return s, x, true
}

// returned are cards that are returned to a hand, with and without a Plus.
func returned(owner int) []api.Inst {
	l := []api.Inst{{}, {Id: 5}, {Id: 5, Card: 3, Name: "Dust Cat", Cost: 4, Power: -6}, {Id: -7, Card: -1, Name: "\xff", Cost: -4, Power: 2000}}
	for _, plus := range slices.Concat([]int{1, 2, -999, 999, 1000}, extremes) {
		l = append(l, api.Inst{Id: 77, Card: 8, Name: "Imp", Cost: 2, Power: 3, Plus: plus})
	}
	for i := range l {
		l[i].Owner = owner
	}
	return l
}

// P23.2: cards returned to hands of up to six cards, and of more: to Gone. In both their Plus
// is 0, and they are the last ones.
func TestToHand(t *testing.T) {
	for seat := range 2 {
		for n := range 12 {
			deck, hand, gone := cards(seat, 80, 81), some(seat, 50, n), cards(seat, 70, 71)
			for _, x := range returned(seat) {
				s := holding(seat, deck, hand, gone)
				if n < 7 {
					want := holding(seat, deck, append(slices.Clone(hand), bare(x)), gone)
					checkToHand(t, "room in the hand", s, x, want, true)
				} else {
					want := holding(seat, deck, hand, append(slices.Clone(gone), bare(x)))
					checkToHand(t, "a full hand", s, x, want, false)
				}
			}
		}
	}
}

// P23.2: a card goes to its Owner, whoever has the others, how few there may be.
func TestToHandByOwner(t *testing.T) {
	for owner := range 2 {
		x := api.Inst{Id: 9, Plus: 4, Owner: owner}
		var want api.State
		want.Players[owner].Hand = []api.Inst{{Id: 9, Owner: owner}}
		checkToHand(t, "a zero state", api.State{}, x, want, true)
		want.Players[owner].Hand, want.Players[owner].Gone = nil, []api.Inst{x}
		checkAway(t, "a zero state", api.State{}, x, want)
		s := holding(owner, nil, some(1-owner, 1, 3), some(1-owner, 5, 3))
		s.Players[1-owner].Hand = some(owner, 11, 7)
		wanted := games.Copy(s)
		wanted.Players[owner].Hand = append(some(1-owner, 1, 3), bare(x))
		checkToHand(t, "cards of the other seat, whose hand is full", s, x, wanted, true)
		wanted = games.Copy(s)
		wanted.Players[owner].Gone = append(some(1-owner, 5, 3), x)
		checkAway(t, "cards of the other seat", s, x, wanted)
	}
	x := api.Inst{Id: 57, Plus: 4, Owner: 1}
	hand := cards(1, 56, 57)
	checkToHand(t, "an Id that there is", holding(1, nil, hand, nil), x, holding(1, nil, append(slices.Clone(hand), bare(x)), nil), true)
}

// P23.2: Away appends a card to Gone as it is, however many cards there are.
func TestAway(t *testing.T) {
	for seat := range 2 {
		for n := range 12 {
			for _, x := range returned(seat) {
				deck, hand, gone := cards(seat, 80, 81), some(seat, 50, n), some(seat, 60, 11-n)
				want := holding(seat, deck, hand, append(slices.Clone(gone), x))
				checkAway(t, "cards in the hand and gone", holding(seat, deck, hand, gone), x, want)
			}
		}
	}
}

// P23.2: a card of an Owner who does not exist goes nowhere; of such a seat's hand none is taken.
func TestCardsOfNoSeat(t *testing.T) {
	for _, s := range []api.State{{}, board.Empty(), full(), holding(0, nil, some(0, 1, 7), nil)} {
		for _, seat := range noSeats {
			for _, x := range returned(seat) {
				checkToHand(t, "no Owner", s, x, s, false)
				checkAway(t, "no Owner", s, x, s)
			}
			for _, id := range []int{-1, 0, 1, 36, 56, 57, seat} {
				checkFromHand(t, "no seat", s, seat, id, s, api.Inst{}, false)
			}
		}
	}
}

// P23.2: each card of a hand, the first, a middle and the last one among them.
func TestFromHand(t *testing.T) {
	for seat := range 2 {
		for n := range 11 {
			deck, hand, gone := cards(seat, 80, 81), some(seat, 50, n), cards(seat, 70, 71)
			s := holding(seat, deck, hand, gone)
			for at, x := range hand {
				want := holding(seat, deck, slices.Concat(hand[:at], hand[at+1:]), gone)
				checkFromHand(t, "a hand", s, seat, x.Id, want, x, true)
			}
			for _, id := range append([]int{0, 1, 49, 50 + n, 70, 71, 80, 81}, extremes...) {
				checkFromHand(t, "no such card in the hand", s, seat, id, s, api.Inst{}, false)
			}
		}
	}
}

// P23.2: the other seat's hand and the lanes are not looked through.
func TestFromHandElsewhere(t *testing.T) {
	s := full()
	for seat := range 2 {
		for id := range 103 {
			want, x, ok := modelFromHand(s, seat, id)
			if ok != (id >= 36+20*seat && id < 41+20*seat) {
				t.Errorf("the hand of seat %d has the card %d: %t", seat, id, ok)
			}
			checkFromHand(t, "everywhere", s, seat, id, want, x, ok)
		}
	}
	checkFromHand(t, "a zero state", api.State{}, 0, 0, api.State{}, api.Inst{}, false)
}

// P23.2: of several cards with one Id the first one is taken.
func TestFromHandOfEqualIds(t *testing.T) {
	for seat := range 2 {
		for first := range 6 {
			for second := range 6 {
				ids := []int{1, 2, 3, 4, 5, 6}
				ids[first], ids[second] = 44, 44
				hand, at := cards(seat, ids...), min(first, second)
				want := holding(seat, nil, slices.Concat(hand[:at], hand[at+1:]), nil)
				checkFromHand(t, "equal Ids", holding(seat, nil, hand, nil), seat, 44, want, hand[at], true)
			}
		}
		hand := cards(seat, 3, 3, 3, 3)
		checkFromHand(t, "one Id", holding(seat, nil, hand, nil), seat, 3, holding(seat, nil, hand[1:], nil), hand[0], true)
	}
}

// P23.2: a card with any fields is taken as it is.
func TestFromHandOfAnyCard(t *testing.T) {
	for _, id := range append([]int{0, 1, 999}, extremes...) {
		x := api.Inst{Id: id, Card: -4, Name: "a\nb", Cost: -2, Power: 1000, Plus: 7, Owner: 3}
		hand := []api.Inst{{Id: 17}, x, {Id: 18}}
		checkFromHand(t, "any fields", holding(0, nil, hand, nil), 0, id, holding(0, nil, []api.Inst{{Id: 17}, {Id: 18}}, nil), x, true)
	}
	checkFromHand(t, "a zero card", holding(1, nil, []api.Inst{{}}, nil), 1, 0, holding(1, nil, nil, nil), api.Inst{}, true)
}

// P23.2: great lists.
func TestGreatLists(t *testing.T) {
	great := some(1, 1, 100000)
	x := api.Inst{Id: 5, Plus: 3, Owner: 1}
	checkToHand(t, "a great hand", holding(1, nil, great, nil), x, holding(1, nil, great, []api.Inst{bare(x)}), false)
	checkAway(t, "many cards gone", holding(1, nil, nil, great), x, holding(1, nil, nil, append(slices.Clone(great), x)))
	checkFromHand(t, "a great hand", holding(1, nil, great, nil), 1, 100000, holding(1, nil, great[:99999], nil), great[99999], true)
}

// P23.2: any cards returned, put away and taken in any states.
func TestCardsInDrawnStates(t *testing.T) {
	pen := games.Pen{Draw: rand.New(rand.NewSource(3)).Intn}
	for _, s := range drawnStates(3, 150) {
		for range 8 {
			x := pen.Inst()
			state, ok := modelToHand(s, x)
			checkToHand(t, "drawn", s, x, state, ok)
			checkAway(t, "drawn", s, x, modelAway(s, x))
		}
		ids := slices.Clone(extremes)
		for _, l := range games.Lists(&s) {
			for _, x := range *l {
				ids = append(ids, x.Id)
			}
		}
		for _, id := range ids {
			for seat := -1; seat < 3; seat++ {
				state, x, ok := modelFromHand(s, seat, id)
				checkFromHand(t, "drawn", s, seat, id, state, x, ok)
			}
		}
	}
}
