package hands

import (
	"fmt"
	"math"
	"math/rand"
	"slices"
	"testing"

	"trident/api"
	"trident/board"
	"trident/internal/games"
)

// extremes are numbers of no seat and mostly of no card, some of which are 0 or 1 in fewer bits.
var extremes = []int{
	math.MinInt, math.MinInt + 1, math.MinInt32 - 1, math.MinInt32, -1000, -257, -256, -255, -128, -3, -2, -1,
	128, 255, 256, 257, 1 << 16, math.MaxInt32, 1 << 32, 1<<32 + 1, math.MaxInt - 1, math.MaxInt,
}

// noSeats are the seats that do not exist.
var noSeats = append([]int{2, 3, 4, 5, 6, 7, 8, 9}, extremes...)

// cards are cards of a seat with those Ids, further told by their Plus.
func cards(owner int, ids ...int) []api.Inst {
	var l []api.Inst
	for i, id := range ids {
		l = append(l, api.Inst{Id: id, Card: id - 1, Name: "Imp", Cost: 1, Power: 2, Plus: i, Owner: owner})
	}
	return l
}

// some are that many cards of a seat, with Ids from first on.
func some(owner, first, n int) []api.Inst {
	var ids []int
	for i := range n {
		ids = append(ids, first+i)
	}
	return cards(owner, ids...)
}

// costing are cards with those Costs, with Ids from 1 on.
func costing(costs ...int) []api.Inst {
	l := some(0, 1, len(costs))
	for i, cost := range costs {
		l[i].Cost = cost
	}
	return l
}

// full is a state that may occur in a game, with cards everywhere.
func full() api.State {
	s := api.State{Round: 3, Stake: 2, Next: 103, Result: api.Result{Kind: api.RLanes, Winner: 1, Stake: 4}}
	for lane := range s.Lanes {
		s.Lanes[lane] = api.Lane{Place: lane + 4, Open: lane < 2, Sides: [2][]api.Inst{some(0, 8*lane+1, 4), some(1, 8*lane+5, 3)}}
	}
	for seat := range s.Players {
		s.Players[seat] = api.Player{
			Deck: some(seat, 30+20*seat, 5), Hand: some(seat, 36+20*seat, 5), Gone: some(seat, 43+20*seat, 2),
			Energy: 4 + seat, Bonus: 1 - 3*seat, Raised: seat == 1,
		}
	}
	return games.Copy(s)
}

// holding returns full with other lists of that seat, of which nothing else has a part.
func holding(seat int, deck, hand, gone []api.Inst) api.State {
	s := full()
	p := &s.Players[seat]
	p.Deck, p.Hand, p.Gone = deck, hand, gone
	return games.Copy(s)
}

// drawnStates are states of all kinds.
func drawnStates(seed int64, n int) []api.State {
	pen := games.Pen{Draw: rand.New(rand.NewSource(seed)).Intn}
	states := []api.State{{}, board.Empty(), full()}
	for k := range n {
		if k%3 == 0 {
			states = append(states, pen.Right(20, 9))
		} else {
			states = append(states, pen.Odd())
		}
	}
	return states
}

// checkState checks the state that a call of s returned, that s, and what is behind the ends of
// its lists, is as it was before, and that no two lists of s and of the result share memory.
func checkState(t *testing.T, what string, s, before, got, want api.State) {
	t.Helper()
	if !games.Same(got, want) {
		t.Fatalf("%s: the state is %s, want %s", what, brief(got), brief(want))
	}
	if !games.Same(games.Whole(s), before) {
		t.Fatalf("%s: the state that was given is changed, to %s", what, brief(s))
	}
	if !games.Apart(games.Memory(s, got)...) {
		t.Fatalf("%s: lists share memory", what)
	}
}

// brief tells a state, of great ones the beginning.
func brief(s api.State) string {
	text := fmt.Sprint(s)
	return text[:min(len(text), 3000)]
}

// checkDraw checks what Draw answers.
func checkDraw(t *testing.T, what string, s api.State, seat, n int, want api.State, drawn int) {
	t.Helper()
	before := games.Whole(s)
	got, gotDrawn := Draw(s, seat, n)
	if gotDrawn != drawn {
		t.Fatalf("%s: Draw of %d for seat %d draws %d, want %d", what, n, seat, gotDrawn, drawn)
	}
	checkState(t, what, s, before, got, want)
}

// checkDiscard checks what Discard answers.
func checkDiscard(t *testing.T, what string, s api.State, seat, how int, want api.State, x api.Inst, ok bool) {
	t.Helper()
	before := games.Whole(s)
	got, gotInst, gotOK := Discard(s, seat, how)
	if gotInst != x || gotOK != ok {
		t.Fatalf("%s: Discard by %d for seat %d is %v, %t, want %v, %t", what, how, seat, gotInst, gotOK, x, ok)
	}
	checkState(t, what, s, before, got, want)
}

// modelDraw moves the bound between the Hand and the Deck behind it.
func modelDraw(s api.State, seat, n int) (api.State, int) {
	if seat != 0 && seat != 1 {
		return s, 0
	}
	p := &s.Players[seat]
	all := slices.Concat(p.Hand, p.Deck)
	bound := len(p.Hand)
	for bound < len(all) && bound < 7 && bound-len(p.Hand) < n {
		bound++
	}
	drawn := bound - len(p.Hand)
	p.Hand, p.Deck = slices.Clone(all[:bound]), slices.Clone(all[bound:])
	return s, drawn
}

// modelDiscard sorts the indices of the Hand, the card that is meant first.
func modelDiscard(s api.State, seat, how int) (api.State, api.Inst, bool) {
	if seat != 0 && seat != 1 || how < 1 || how > 4 || len(s.Players[seat].Hand) == 0 {
		return s, api.Inst{}, false
	}
	p := &s.Players[seat]
	var order []int
	for i := range p.Hand {
		order = append(order, i)
	}
	slices.SortStableFunc(order, func(a, b int) int {
		costs := map[bool]int{p.Hand[a].Cost < p.Hand[b].Cost: -1, p.Hand[a].Cost > p.Hand[b].Cost: 1}[true]
		return [5]int{0, a - b, b - a, costs, -costs}[how]
	})
	at := order[0]
	x := p.Hand[at]
	p.Hand = slices.Concat(p.Hand[:at], p.Hand[at+1:])
	p.Gone = slices.Concat(p.Gone, []api.Inst{x})
	return s, x, true
}

// P23.1: the chapter's example.
func TestDrawOfTheExample(t *testing.T) {
	for seat := range 2 {
		deck := cards(seat, 8, 5)
		s := holding(seat, deck, nil, nil)
		checkDraw(t, "the chapter's example", s, seat, 5, holding(seat, nil, deck, nil), 2)
	}
}

// P23.1: no, one, some and all cards of a deck, and more than there are, into hands of any
// number of cards, also of more than there may be.
func TestDraw(t *testing.T) {
	for seat := range 2 {
		for inDeck := range 15 {
			for inHand := range 11 {
				deck, hand := some(seat, 1, inDeck), some(seat, 50, inHand)
				s := holding(seat, deck, hand, cards(seat, 90, 91))
				for n := -2; n < 16; n++ {
					moves := min(max(n, 0), inDeck, max(7-inHand, 0))
					want := holding(seat, deck[moves:], slices.Concat(hand, deck[:moves]), cards(seat, 90, 91))
					checkDraw(t, "deck and hand", s, seat, n, want, moves)
				}
			}
		}
	}
}

// P23.1: some cases in full: the first card of the Deck becomes the last one of the Hand, with
// all its fields.
func TestDrawnCards(t *testing.T) {
	deck := []api.Inst{{Id: 4, Card: 7, Name: "Hound", Cost: 3, Power: -2, Plus: 5, Owner: 0}, {Id: 3, Owner: 1}, {Id: 9, Plus: -1}}
	hand := cards(0, 20, 21, 22, 23, 24)
	for _, c := range []struct {
		n, drawn   int
		deck, hand []api.Inst
	}{
		{0, 0, deck, hand},
		{-1, 0, deck, hand},
		{1, 1, deck[1:], append(slices.Clone(hand), deck[0])},
		{2, 2, deck[2:], append(slices.Clone(hand), deck[0], deck[1])},
		{3, 2, deck[2:], append(slices.Clone(hand), deck[0], deck[1])},
	} {
		checkDraw(t, "cards of any fields", holding(0, deck, hand, nil), 0, c.n, holding(0, c.deck, c.hand, nil), c.drawn)
	}
	checkDraw(t, "six cards in the hand", holding(1, deck, some(1, 60, 6), nil), 1, 3, holding(1, deck[1:], append(some(1, 60, 6), deck[0]), nil), 1)
	checkDraw(t, "seven cards in the hand", holding(1, deck, some(1, 60, 7), nil), 1, 3, holding(1, deck, some(1, 60, 7), nil), 0)
	checkDraw(t, "eight cards in the hand", holding(1, deck, some(1, 60, 8), nil), 1, 3, holding(1, deck, some(1, 60, 8), nil), 0)
	checkDraw(t, "an empty hand", holding(1, deck, nil, nil), 1, 3, holding(1, nil, deck, nil), 3)
	checkDraw(t, "no cards", holding(1, nil, nil, nil), 1, 3, holding(1, nil, nil, nil), 0)
	checkDraw(t, "a zero state", api.State{}, 0, 3, api.State{}, 0)
}

// P23.1: extreme numbers of cards to draw.
func TestDrawOfExtremes(t *testing.T) {
	for _, n := range extremes {
		for _, s := range []api.State{{}, board.Empty(), full(), holding(0, some(0, 1, 12), nil, nil), holding(1, nil, some(1, 1, 9), nil)} {
			for seat := range 2 {
				want, drawn := modelDraw(s, seat, n)
				checkDraw(t, "extreme", s, seat, n, want, drawn)
			}
		}
	}
	many := holding(0, some(0, 1, 100000), nil, some(0, 200000, 50000))
	want, _ := modelDraw(many, 0, 7)
	checkDraw(t, "a great deck", many, 0, math.MaxInt, want, 7)
	many = holding(0, some(0, 1, 5), some(0, 100, 100000), nil)
	checkDraw(t, "a great hand", many, 0, math.MaxInt, many, 0)
}

// P23.1: a seat that does not exist draws nothing and discards nothing.
func TestDrawAndDiscardOfNoSeat(t *testing.T) {
	for _, s := range []api.State{{}, board.Empty(), full()} {
		for _, seat := range noSeats {
			for _, n := range []int{math.MinInt, -1, 0, 1, 2, 3, 4, 5, 100, math.MaxInt} {
				checkDraw(t, "no seat", s, seat, n, s, 0)
				checkDiscard(t, "no seat", s, seat, n, s, api.Inst{}, false)
			}
		}
	}
}

// P23.1: each way to discard, of hands of one and of several cards; the card is the last one
// of Gone afterwards, with all its fields.
func TestDiscard(t *testing.T) {
	low, high := math.MinInt, math.MaxInt
	for _, c := range []struct {
		costs               []int
		cheapest, costliest int
	}{
		{[]int{4}, 0, 0},
		{[]int{high}, 0, 0},
		{[]int{low}, 0, 0},
		{[]int{2, 3}, 0, 1},
		{[]int{3, 2}, 1, 0},
		{[]int{3, 3}, 0, 0},
		{[]int{5, 1, 3}, 1, 0},
		{[]int{3, 5, 1}, 2, 1},
		{[]int{3, 1, 5}, 1, 2},
		{[]int{4, 2, 9, 2, 9, 4}, 1, 2},
		{[]int{9, 2, 2, 2, 9}, 1, 0},
		{[]int{2, 9, 9, 9, 2}, 0, 1},
		{[]int{0, 0, 0, 0, 0, 0, 0}, 0, 0},
		{[]int{5, 5, 5, 6, 5, 4, 5}, 5, 3},
		{[]int{1, 2, 3, 4, 5, 6, 7, 8, 9, 10}, 0, 9},
		{[]int{10, 9, 8, 7, 6, 5, 4, 3, 2, 1}, 9, 0},
		{[]int{0, -1, 1, -1, 1}, 1, 2},
		{[]int{low, high}, 0, 1},
		{[]int{high, low}, 1, 0},
		{[]int{1, low, 0, low + 1, high - 1, high, low, high}, 1, 5},
		{[]int{high, 1, low}, 2, 0},
		{[]int{-2, high, high}, 0, 1},
		{[]int{2, low, low}, 1, 0},
		{[]int{1 << 32, 1}, 1, 0},
		{[]int{0, 1 << 32}, 0, 1},
		{[]int{1 << 40, math.MaxInt32, math.MinInt32, -1 << 40}, 3, 0},
	} {
		hand := costing(c.costs...)
		for seat := range 2 {
			for how, at := range map[int]int{api.HFirst: 0, api.HLast: len(hand) - 1, api.HCheapest: c.cheapest, api.HCostliest: c.costliest} {
				for _, gone := range [][]api.Inst{nil, cards(seat, 70, 71)} {
					rest := slices.Concat(hand[:at], hand[at+1:])
					want := holding(seat, cards(seat, 80), rest, append(slices.Clone(gone), hand[at]))
					checkDiscard(t, "a hand", holding(seat, cards(seat, 80), hand, gone), seat, how, want, hand[at], true)
				}
			}
		}
	}
}

// P23.1: a card without anything is one, too, whoever owns it.
func TestDiscardOfAnyCard(t *testing.T) {
	for how := 1; how <= 4; how++ {
		s := holding(1, nil, []api.Inst{{}}, nil)
		checkDiscard(t, "a zero card", s, 1, how, holding(1, nil, nil, []api.Inst{{}}), api.Inst{}, true)
		x := api.Inst{Id: -5, Card: 3, Name: "\xff", Cost: 4, Power: 5, Plus: 6, Owner: 0}
		s = holding(1, nil, []api.Inst{x}, cards(0, 5))
		checkDiscard(t, "a card of the other seat", s, 1, how, holding(1, nil, nil, append(cards(0, 5), x)), x, true)
	}
}

// P23.1: nothing is discarded of an empty hand, nor in any other way.
func TestDiscardOfNothing(t *testing.T) {
	ways := append([]int{-1, 0, 5, 6, 7, 8, 1 << 8, 1<<8 + 1, 1<<16 + 2, 1<<32 + 3, 1<<32 + 4}, extremes...)
	for seat := range 2 {
		for _, how := range ways {
			for n := range 4 {
				s := holding(seat, cards(seat, 1), some(seat, 10, n), cards(seat, 2))
				checkDiscard(t, "no way", s, seat, how, s, api.Inst{}, false)
			}
		}
		for how := range 6 {
			s := holding(seat, cards(seat, 1), nil, cards(seat, 2))
			checkDiscard(t, "an empty hand", s, seat, how, s, api.Inst{}, false)
			checkDiscard(t, "a zero state", api.State{}, seat, how, api.State{}, api.Inst{}, false)
		}
	}
}

// P23.1: great hands.
func TestDiscardOfGreatHands(t *testing.T) {
	hand := some(0, 1, 100000)
	for i := range hand {
		hand[i].Cost = i % 77777
	}
	for how, at := range []int{-1, 0, 99999, 0, 77776} {
		if how > 0 {
			want := holding(0, nil, slices.Concat(hand[:at], hand[at+1:]), hand[at:at+1])
			checkDiscard(t, "a great hand", holding(0, nil, hand, nil), 0, how, want, hand[at], true)
		}
	}
}

// P23.1: Draw and Discard in any states.
func TestDrawAndDiscardInDrawnStates(t *testing.T) {
	draws := rand.New(rand.NewSource(1))
	for _, s := range drawnStates(1, 600) {
		for seat := -1; seat < 3; seat++ {
			n := draws.Intn(14) - 2
			state, drawn := modelDraw(s, seat, n)
			checkDraw(t, "drawn", s, seat, n, state, drawn)
			for how := range 6 {
				state, x, ok := modelDiscard(s, seat, how)
				checkDiscard(t, "drawn", s, seat, how, state, x, ok)
			}
		}
	}
}

// P23.1: n cards drawn at once are those of n draws, one after the other.
func TestDrawOneByOne(t *testing.T) {
	for _, s := range drawnStates(2, 200) {
		for seat := range 2 {
			step, total := s, 0
			for n := range 12 {
				got, drawn := Draw(s, seat, n)
				if !games.Same(got, step) || drawn != total {
					t.Fatalf("Draw of %d in %v is %v, %d, want %v, %d", n, s, got, drawn, step, total)
				}
				step, drawn = Draw(step, seat, 1)
				total += drawn
			}
		}
	}
}
