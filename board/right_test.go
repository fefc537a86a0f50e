package board

import (
	"fmt"
	"math"
	"math/rand"
	"slices"
	"testing"

	"trident/api"
	"trident/internal/games"
)

// checkRight checks what Right answers, and that it changes nothing.
func checkRight(t *testing.T, what string, s api.State, want bool) {
	t.Helper()
	before := games.Whole(s)
	if got := Right(s); got != want {
		t.Errorf("%s: Right is %t of %v", what, got, s)
	}
	if !games.Same(games.Whole(s), before) {
		t.Errorf("%s: the state is now %v", what, s)
	}
}

// number is a number of a state, with its bounds.
type number struct {
	what        string
	at          *int
	least, most int
}

// numbers are all numbers of s that have bounds of their own.
func numbers(s *api.State) []number {
	all := []number{
		{"Round", &s.Round, 0, 7},
		{"Next", &s.Next, 100, math.MaxInt},
		{"Kind", &s.Result.Kind, 0, 4},
		{"Winner", &s.Result.Winner, 0, 2},
	}
	for lane := range s.Lanes {
		l := &s.Lanes[lane]
		least := -1
		if l.Open {
			least = 0
		}
		all = append(all, number{fmt.Sprint("Place of ", lane), &l.Place, least, math.MaxInt})
	}
	for seat := range s.Players {
		p := &s.Players[seat]
		all = append(all, number{fmt.Sprint("Energy of ", seat), &p.Energy, 0, 9}, number{fmt.Sprint("Bonus of ", seat), &p.Bonus, -9, 9})
	}
	for i, l := range games.Lists(s) {
		for k := range *l {
			x := &(*l)[k]
			card := fmt.Sprintf(" of the card %d of the list %d", k, i)
			all = append(all,
				number{"Card" + card, &x.Card, -1, math.MaxInt},
				number{"Cost" + card, &x.Cost, 0, 9},
				number{"Power" + card, &x.Power, -999, 999},
				number{"Plus" + card, &x.Plus, -999, 999},
				number{"Owner" + card, &x.Owner, games.Owner(i), games.Owner(i)},
			)
		}
	}
	return all
}

// around are numbers around the bounds and far from them.
func (n number) around() []int {
	all := append([]int{n.least, n.most, (n.least + n.most) / 2, n.least - 1, math.MinInt, math.MaxInt}, extremes...)
	if n.most < math.MaxInt {
		all = append(all, n.most+1)
	}
	return all
}

// P22.3: games that have not begun and that are in progress are possible, a zero state is not.
func TestRight(t *testing.T) {
	checkRight(t, "Empty", Empty(), true)
	checkRight(t, "a full game", full(), true)
	checkRight(t, "a zero state", api.State{}, false)
	s := full()
	for lane := range s.Lanes {
		s.Lanes[lane].Open = false
	}
	checkRight(t, "without an open lane", s, true)
	pen := games.Pen{Draw: rand.New(rand.NewSource(7)).Intn}
	for range 1000 {
		checkRight(t, "drawn", pen.Right(20, 9), true)
	}
}

// P22.3: each number of a full game from its least to its greatest value, and beyond.
func TestNumbersOfRight(t *testing.T) {
	s := full()
	for _, n := range numbers(&s) {
		before := *n.at
		for _, value := range n.around() {
			*n.at = value
			checkRight(t, fmt.Sprint(n.what, " ", value), s, n.least <= value && value <= n.most)
		}
		*n.at = before
	}
	checkRight(t, "as it was", s, true)
}

// P22.3: a stake is 1, 2, 4 or 8, that of a result also 0.
func TestStakesOfRight(t *testing.T) {
	stakes := []int{1, 2, 4, 8}
	values := slices.Clone(extremes)
	for n := -20; n < 300; n++ {
		values = append(values, n)
	}
	for _, n := range values {
		s := full()
		s.Stake = n
		checkRight(t, fmt.Sprint("Stake ", n), s, slices.Contains(stakes, n))
		s = Empty()
		s.Result.Stake = n
		checkRight(t, fmt.Sprint("Stake of the result ", n), s, n == 0 || slices.Contains(stakes, n))
	}
}

// P22.3: a lane without a location is not open.
func TestOpenOfRight(t *testing.T) {
	for lane := range 3 {
		for _, place := range []int{math.MinInt, -2, -1, 0, 1, 31, 32, math.MaxInt} {
			for _, open := range []bool{false, true} {
				s := full()
				s.Lanes[lane].Place, s.Lanes[lane].Open = place, open
				checkRight(t, fmt.Sprint("lane ", lane, " place ", place, " open ", open), s, place >= 0 || place == -1 && !open)
				empty := Empty()
				empty.Lanes[lane].Place, empty.Lanes[lane].Open = place, open
				checkRight(t, fmt.Sprint("an empty lane ", lane, " place ", place, " open ", open), empty, place >= 0 || place == -1 && !open)
			}
		}
	}
}

// P22.3: at most 4 cards on a side and 7 in a hand; decks and what is gone have any number.
func TestSizesOfRight(t *testing.T) {
	const many = math.MaxInt
	for i, most := range []int{4, 4, 4, 4, 4, 4, many, 7, many, many, 7, many} {
		for _, size := range []int{0, 1, 2, 3, 4, 5, 6, 7, 8, 9, 10, 11, 12, 13, 14, 100, 256, 500} {
			s := full()
			s.Next = 1000
			var ids []int
			for n := range size {
				ids = append(ids, 100+n)
			}
			*games.Lists(&s)[i] = cards(games.Owner(i), ids...)
			checkRight(t, fmt.Sprint(size, " cards in the list ", i), s, size <= most)
		}
	}
}

// P22.3: every card is owned by the seat on whose side, in whose deck, hand or among whose gone
// cards it is.
func TestOwnersOfRight(t *testing.T) {
	for i := range games.Lists(&api.State{}) {
		for _, owner := range append([]int{-1, 0, 1, 2, 3}, extremes...) {
			s := Empty()
			*games.Lists(&s)[i] = cards(owner, 1)
			checkRight(t, fmt.Sprint("a card of ", owner, " in the list ", i), s, owner == games.Owner(i))
			s = full()
			l := *games.Lists(&s)[i]
			l[len(l)-1].Owner = owner
			checkRight(t, fmt.Sprint("a last card of ", owner, " in the list ", i), s, owner == games.Owner(i))
		}
	}
}

// P22.3: Ids are from 1 to Next less 1, wherever a card is.
func TestIdsOfRight(t *testing.T) {
	for i := range games.Lists(&api.State{}) {
		for _, next := range []int{100, 101, 5000, math.MaxInt - 1, math.MaxInt} {
			for _, id := range []int{math.MinInt, math.MinInt32, -100, -1, 0, 1, 2, 98, 99, 100, 101, 4999, 5000, 5001, next - 2, next - 1, next, 1 << 32, math.MaxInt} {
				s := Empty()
				s.Next = next
				*games.Lists(&s)[i] = cards(games.Owner(i), id)
				checkRight(t, fmt.Sprint("Id ", id, " in the list ", i, ", Next ", next), s, 1 <= id && id < next)
			}
		}
	}
}

// P22.3: no two cards have the same Id, neither in one place nor in two.
func TestEqualIdsOfRight(t *testing.T) {
	for i := range games.Lists(&api.State{}) {
		for k := range games.Lists(&api.State{}) {
			for _, other := range []int{1, 2, 99} {
				s := Empty()
				for at, id := range []int{1, other} {
					l := games.Lists(&s)[[]int{i, k}[at]]
					*l = append(*l, cards(games.Owner([]int{i, k}[at]), id)...)
				}
				checkRight(t, fmt.Sprint("Ids 1 and ", other, " in the lists ", i, " and ", k), s, other != 1)
			}
		}
	}
	s := full()
	var all []*api.Inst
	for _, l := range games.Lists(&s) {
		for k := range *l {
			all = append(all, &(*l)[k])
		}
	}
	for a, x := range all {
		before := x.Id
		for b, y := range all {
			if a != b {
				x.Id = y.Id
				checkRight(t, fmt.Sprint("the Id of the card ", b, " for the card ", a), s, false)
			}
		}
		x.Id = 100
		checkRight(t, fmt.Sprint("another Id for the card ", a), s, true)
		x.Id = before
	}
}

// P22.3: names, whether a seat raised, and what is behind the ends of lists do not matter.
func TestWhatDoesNotMatterToRight(t *testing.T) {
	for i := range games.Lists(&api.State{}) {
		for _, name := range []string{"", "Imp", "\xff\xfe", "a name of more than twenty-four letters"} {
			s := full()
			(*games.Lists(&s)[i])[1].Name = name
			checkRight(t, fmt.Sprintf("the name %q", name), s, true)
		}
	}
	for raised := range 4 {
		s := full()
		s.Players[0].Raised, s.Players[1].Raised = raised%2 == 1, raised/2 == 1
		checkRight(t, "raised", s, true)
	}
	checkRight(t, "with wrong cards behind the ends", games.Copy(full()), true)
}

// isRight is whether a state is possible, told by its bounds and by all pairs of cards.
func isRight(s api.State) bool {
	right := slices.Contains([]int{1, 2, 4, 8}, s.Stake) && slices.Contains([]int{0, 1, 2, 4, 8}, s.Result.Stake)
	for _, n := range numbers(&s) {
		right = right && n.least <= *n.at && *n.at <= n.most
	}
	var all []api.Inst
	for i, l := range games.Lists(&s) {
		if i < 6 && len(*l) > 4 || (i == 7 || i == 10) && len(*l) > 7 {
			right = false
		}
		all = append(all, *l...)
	}
	for a, x := range all {
		right = right && x.Id > 0 && x.Id < s.Next
		for _, y := range all[:a] {
			right = right && x.Id != y.Id
		}
	}
	return right
}

// P22.3: states of any numbers, and possible ones with a number or two changed.
func TestRightOfDrawnStates(t *testing.T) {
	draws := rand.New(rand.NewSource(8))
	pen := games.Pen{Draw: draws.Intn}
	answers := map[bool]int{}
	for n := range 6000 {
		s := pen.Right(20, 9)
		all := numbers(&s)
		for _, l := range games.Lists(&s) {
			for k := range *l {
				all = append(all, number{"Id", &(*l)[k].Id, 1, s.Next - 1})
			}
		}
		for range n % 3 {
			at := all[draws.Intn(len(all))]
			*at.at = at.around()[draws.Intn(6)]
		}
		answers[isRight(s)]++
		checkRight(t, "drawn", s, isRight(s))
		if n%10 == 0 {
			odd := pen.Odd()
			checkRight(t, "any numbers", odd, isRight(odd))
		}
	}
	if answers[true] < 1000 || answers[false] < 1000 {
		t.Errorf("the answers are %v", answers)
	}
}
