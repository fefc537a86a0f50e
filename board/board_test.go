package board

import (
	"math"
	"math/rand"
	"reflect"
	"slices"
	"testing"

	"trident/api"
	"trident/internal/games"
)

// extremes are numbers of no seat, lane and mostly of no card, some of which are those of one
// in fewer bits.
var extremes = []int{
	math.MinInt, math.MinInt + 1, math.MinInt32 - 1, math.MinInt32, -1000, -257, -256, -129, -128, -3, -2, -1,
	128, 256, 257, 1 << 16, math.MaxInt32, 1 << 32, 1<<32 + 1, 1<<32 + 2, math.MaxInt - 1, math.MaxInt,
}

// placed is a card with where it is.
type placed struct {
	seat, lane, slot int
	x                api.Inst
}

// inLanes are the cards in the lanes, sorted by lane, seat and slot.
func inLanes(s api.State) []placed {
	var all []placed
	for slot := range 20 {
		for _, seat := range []int{1, 0} {
			for _, lane := range []int{2, 0, 1} {
				if side := s.Lanes[lane].Sides[seat]; slot < len(side) {
					all = append(all, placed{seat, lane, slot, side[slot]})
				}
			}
		}
	}
	slices.SortFunc(all, func(a, b placed) int {
		return (a.lane-b.lane)*1000 + (a.seat-b.seat)*100 + a.slot - b.slot
	})
	return all
}

// firstOf is the first of the cards with that Id.
func firstOf(all []placed, id int) (placed, bool) {
	for _, p := range all {
		if p.x.Id == id {
			return p, true
		}
	}
	return placed{}, false
}

// cards are cards of a seat with those Ids, further told by their Plus.
func cards(owner int, ids ...int) []api.Inst {
	var l []api.Inst
	for i, id := range ids {
		l = append(l, api.Inst{Id: id, Card: id - 1, Name: "Imp", Cost: 1, Power: 2, Plus: i, Owner: owner})
	}
	return l
}

// full is a state that may occur in a game, with cards everywhere: full lanes and hands.
func full() api.State {
	s := api.State{Round: 3, Stake: 2, Next: 103, Result: api.Result{Kind: api.RLanes, Winner: 1, Stake: 4}}
	id := 0
	next := func(owner, n int) []api.Inst {
		var ids []int
		for range n {
			id++
			ids = append(ids, id)
		}
		return cards(owner, ids...)
	}
	for lane := range s.Lanes {
		s.Lanes[lane] = api.Lane{Place: lane + 4, Open: lane < 2, Sides: [2][]api.Inst{next(0, 4), next(1, 4)}}
	}
	for seat := range s.Players {
		s.Players[seat] = api.Player{Deck: next(seat, 3), Hand: next(seat, 7), Gone: next(seat, 2), Energy: 4 + seat, Bonus: 1 - seat, Raised: seat == 1}
	}
	return s
}

// drawnStates are states of all kinds.
func drawnStates(seed int64, n int) []api.State {
	pen := games.Pen{Draw: rand.New(rand.NewSource(seed)).Intn}
	states := []api.State{{}, Empty(), full()}
	for k := range n {
		if k%3 == 0 {
			states = append(states, pen.Right(20, 9))
		} else {
			states = append(states, pen.Odd())
		}
	}
	return states
}

// ids are numbers that may be Ids of the cards of s, and those of all of them.
func ids(s api.State) []int {
	all := slices.Clone(extremes)
	for n := -1; n < 20; n++ {
		all = append(all, n)
	}
	for _, l := range games.Lists(&s) {
		for _, x := range *l {
			all = append(all, x.Id)
		}
	}
	return all
}

// P22.1: Empty is a game that has not begun.
func TestEmpty(t *testing.T) {
	got := Empty()
	if got.Stake != 1 || got.Next != 100 || got.Round != 0 || got.Result != (api.Result{}) {
		t.Errorf("Empty has round %d, stake %d, next %d, result %v", got.Round, got.Stake, got.Next, got.Result)
	}
	for lane, l := range got.Lanes {
		if l.Place != -1 || l.Open || len(l.Sides[0]) != 0 || len(l.Sides[1]) != 0 {
			t.Errorf("Empty has the lane %d %v", lane, l)
		}
	}
	for seat, p := range got.Players {
		if len(p.Deck) != 0 || len(p.Hand) != 0 || len(p.Gone) != 0 || p.Energy != 0 || p.Bonus != 0 || p.Raised {
			t.Errorf("Empty has the player %d %v", seat, p)
		}
	}
	none := api.Lane{Place: -1}
	want := api.State{Lanes: [3]api.Lane{none, none, none}, Stake: 1, Next: 100}
	if !games.Same(got, want) || !games.Same(Empty(), got) {
		t.Errorf("Empty is %v, want %v", got, want)
	}
}

// P22.1: what is changed in one empty game is not in another one.
func TestEmptyIsNew(t *testing.T) {
	one := Empty()
	one.Lanes[1] = api.Lane{Place: 4, Open: true, Sides: [2][]api.Inst{cards(0, 1), cards(1, 2)}}
	one.Players[0].Hand = append(one.Players[0].Hand, api.Inst{Id: 5})
	one.Next++
	if again := Empty(); again.Lanes[1].Place != -1 || again.Next != 100 || len(List(again)) != 0 || len(again.Players[0].Hand) != 0 {
		t.Errorf("Empty is now %v", again)
	}
}

// P22.1: Clone is the same state, of any kind, and shares nothing with it.
func TestClone(t *testing.T) {
	for _, s := range drawnStates(1, 600) {
		before := games.Whole(s)
		got := Clone(s)
		if !games.Same(got, s) {
			t.Fatalf("Clone of %v is %v", s, got)
		}
		if !games.Apart(games.Memory(s, got, Clone(s), Clone(got))...) {
			t.Fatalf("Clone of %v shares memory", s)
		}
		if !games.Same(games.Whole(s), before) {
			t.Fatalf("Clone changed %v", before)
		}
	}
}

// P22.1: each single field and list of a state is in its clone.
func TestCloneOfEachField(t *testing.T) {
	one := []api.Inst{{Id: 5, Card: 6, Name: "Dust Cat", Cost: 7, Power: 8, Plus: 9, Owner: 1}}
	for i := range games.Lists(&api.State{}) {
		var s api.State
		*games.Lists(&s)[i] = one
		got := Clone(s)
		for k, l := range games.Lists(&got) {
			if want := *games.Lists(&s)[k]; !slices.Equal(*l, want) {
				t.Errorf("with a card in the list %d the list %d of the clone is %v", i, k, *l)
			}
		}
	}
	for _, s := range []api.State{
		{Round: 1}, {Stake: 2}, {Next: 3}, {Result: api.Result{Kind: 1}}, {Result: api.Result{Winner: 2}}, {Result: api.Result{Stake: 8}},
		{Lanes: [3]api.Lane{{Place: 1}}}, {Lanes: [3]api.Lane{{}, {Open: true}}}, {Lanes: [3]api.Lane{{}, {}, {Place: -7, Open: true}}},
		{Players: [2]api.Player{{Energy: 1}}}, {Players: [2]api.Player{{}, {Bonus: -3}}}, {Players: [2]api.Player{{Raised: true}}},
	} {
		if got := Clone(s); !reflect.DeepEqual(got, s) {
			t.Errorf("Clone of %v is %v", s, got)
		}
	}
}

// P22.1: List has the cards in the lanes, in board order.
func TestList(t *testing.T) {
	var s api.State
	s.Players[0] = api.Player{Deck: cards(0, 50), Hand: cards(0, 51), Gone: cards(0, 52)}
	s.Players[1] = api.Player{Deck: cards(1, 53), Hand: cards(1, 54), Gone: cards(1, 55)}
	if got := List(s); len(got) != 0 {
		t.Errorf("without cards in the lanes List is %v", got)
	}
	if got := List(Empty()); len(got) != 0 {
		t.Errorf("List of Empty is %v", got)
	}
	for lane := range s.Lanes {
		for seat := range 2 {
			one := s
			one.Lanes[lane].Sides[seat] = cards(seat, 9, 3, 7)
			if got := List(one); !slices.Equal(got, cards(seat, 9, 3, 7)) {
				t.Errorf("with cards on the side %d of lane %d List is %v", seat, lane, got)
			}
		}
	}
	var want []int
	for lane := range s.Lanes {
		s.Lanes[lane].Sides[0] = cards(0, 90-20*lane, 89-20*lane)
		s.Lanes[lane].Sides[1] = cards(1, 80-20*lane)
		want = append(want, 90-20*lane, 89-20*lane, 80-20*lane)
	}
	got := List(s)
	if len(got) != 9 {
		t.Fatalf("List has %d cards, want 9", len(got))
	}
	for i, x := range got {
		if x.Id != want[i] {
			t.Errorf("the card %d of List has the Id %d, want %d", i, x.Id, want[i])
		}
	}
}

// P22.1: List of any states, with cards of equal Ids and of anybody.
func TestListOfDrawnStates(t *testing.T) {
	for _, s := range drawnStates(2, 600) {
		var want []api.Inst
		for _, p := range inLanes(s) {
			want = append(want, p.x)
		}
		if got := List(s); !slices.Equal(got, want) {
			t.Fatalf("List of %v is %v, want %v", s, got, want)
		}
	}
}

// checkFind checks what Find answers.
func checkFind(t *testing.T, what string, s api.State, id, seat, lane, slot int, ok bool) {
	t.Helper()
	gotSeat, gotLane, gotSlot, gotOK := Find(s, id)
	if gotSeat != seat || gotLane != lane || gotSlot != slot || gotOK != ok {
		t.Errorf("%s: Find of %d is %d, %d, %d, %t, want %d, %d, %d, %t", what, id, gotSeat, gotLane, gotSlot, gotOK, seat, lane, slot, ok)
	}
}

// P22.1: every card in the lanes is found, the first and the last one of each side among them;
// those in a hand, in a deck and gone are not.
func TestFind(t *testing.T) {
	s := full()
	for lane := range 3 {
		for seat := range 2 {
			for slot := range 4 {
				checkFind(t, "a full game", s, 8*lane+4*seat+slot+1, seat, lane, slot, true)
			}
		}
	}
	for id := 25; id <= 50; id++ {
		checkFind(t, "not in a lane", s, id, 0, 0, 0, false)
	}
	for _, id := range append(slices.Clone(extremes), 0, 100, 103) {
		checkFind(t, "there is none", s, id, 0, 0, 0, false)
		checkFind(t, "there are no cards", api.State{}, id, 0, 0, 0, false)
	}
	checkFind(t, "a card without an Id", api.State{Lanes: [3]api.Lane{{}, {Sides: [2][]api.Inst{nil, make([]api.Inst, 1)}}}}, 0, 1, 1, 0, true)
}

// P22.1: of several cards with one Id the first one in board order is found.
func TestFindTheFirst(t *testing.T) {
	side := func(lane, seat int) int { return 2*lane + seat }
	for first := range 6 {
		for second := range 6 {
			var s api.State
			for _, i := range []int{first, second} {
				l := games.Lists(&s)[i]
				*l = append(*l, cards(i%2, 1, 7, 7)...)
			}
			i := min(first, second)
			checkFind(t, "equal Ids", s, 7, i%2, i/2, 1, true)
			checkFind(t, "other equal Ids", s, 1, i%2, i/2, 0, true)
		}
	}
	var s api.State
	*games.Lists(&s)[side(2, 0)] = cards(0, 4)
	*games.Lists(&s)[side(1, 1)] = cards(1, 2, 3, 4)
	checkFind(t, "a lane before a seat and a slot", s, 4, 1, 1, 2, true)
	*games.Lists(&s)[side(1, 0)] = cards(0, 5, 5, 5, 5, 5, 5, 4)
	checkFind(t, "a seat before a slot", s, 4, 0, 1, 6, true)
}

// P22.1: cards with extreme Ids are found.
func TestFindExtremeIds(t *testing.T) {
	for i, id := range extremes {
		var s api.State
		*games.Lists(&s)[i%6] = cards(0, 1, 2, 0, id, -5)
		checkFind(t, "an extreme Id", s, id, i%6%2, i%6/2, 3, true)
		for _, other := range extremes {
			if other != id {
				checkFind(t, "another extreme Id", s, other, 0, 0, 0, false)
			}
		}
	}
}

// P22.1: Find in any states.
func TestFindInDrawnStates(t *testing.T) {
	for _, s := range drawnStates(3, 400) {
		all := inLanes(s)
		for _, id := range ids(s) {
			p, ok := firstOf(all, id)
			checkFind(t, "drawn", s, id, p.seat, p.lane, p.slot, ok)
		}
	}
}

// P22.1: the room of sides with any number of cards, whoever owns them.
func TestRoom(t *testing.T) {
	for lane := range 3 {
		for seat := range 2 {
			for n := range 12 {
				s := full()
				s.Lanes[lane].Sides[seat] = make([]api.Inst, n)
				if got, want := Room(s, seat, lane), max(4-n, 0); got != want {
					t.Errorf("with %d cards on the side %d of lane %d the room is %d, want %d", n, seat, lane, got, want)
				}
				var other api.State
				other.Lanes[lane].Sides[seat] = make([]api.Inst, n)
				for i := range 6 {
					want := 4
					if i == 2*lane+seat {
						want = max(4-n, 0)
					}
					if got := Room(other, i%2, i/2); got != want {
						t.Errorf("with %d cards on the side %d of lane %d the room on the side %d of lane %d is %d", n, seat, lane, i%2, i/2, got)
					}
				}
			}
		}
	}
}

// P22.1: where there is no seat or no lane there is no room.
func TestRoomNowhere(t *testing.T) {
	numbers := append([]int{-1, 0, 1, 2, 3, 4, 5}, extremes...)
	for _, s := range []api.State{{}, Empty(), full()} {
		for _, seat := range numbers {
			for _, lane := range numbers {
				want := 0
				if (seat == 0 || seat == 1) && (lane == 0 || lane == 1 || lane == 2) {
					want = 4 - len(s.Lanes[lane].Sides[seat])
				}
				if got := Room(s, seat, lane); got != want {
					t.Errorf("the room of seat %d in lane %d is %d, want %d", seat, lane, got, want)
				}
			}
		}
	}
}

// P22.1: a great number of cards.
func TestManyCards(t *testing.T) {
	var s api.State
	s.Lanes[2].Sides[0] = make([]api.Inst, 100000)
	s.Lanes[2].Sides[1] = make([]api.Inst, 100000)
	for i := range s.Lanes[2].Sides[1] {
		s.Lanes[2].Sides[1][i].Id = i + 1
	}
	if got := List(s); len(got) != 200000 || got[199999].Id != 100000 {
		t.Errorf("List has %d cards", len(got))
	}
	checkFind(t, "the last of many", s, 100000, 1, 2, 99999, true)
	checkFind(t, "none of many", s, 100001, 0, 0, 0, false)
	if Room(s, 0, 2) != 0 || Room(s, 1, 2) != 0 || Room(s, 1, 1) != 4 {
		t.Errorf("the room is %d, %d, %d", Room(s, 0, 2), Room(s, 1, 2), Room(s, 1, 1))
	}
	if after, x, ok := Take(s, 100000); !ok || x.Id != 100000 || len(after.Lanes[2].Sides[1]) != 99999 {
		t.Errorf("Take of the last one is %v, %t", x, ok)
	}
}
