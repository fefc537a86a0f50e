package hands

import (
	"cmp"
	"fmt"
	"math/rand"
	"slices"
	"sync"
	"testing"

	"trident/api"
	"trident/board"
	"trident/internal/games"
)

// everyCard are all cards of s and those of held without their Plus, which a return to the
// hand takes away, in an order that does not depend on where they are.
func everyCard(s api.State, held []api.Inst) []api.Inst {
	var all []api.Inst
	for _, l := range append(games.Memory(s), held) {
		for _, x := range l {
			all = append(all, bare(x))
		}
	}
	slices.SortFunc(all, func(a, b api.Inst) int {
		return cmp.Or(cmp.Compare(a.Id, b.Id), cmp.Compare(a.Card, b.Card), cmp.Compare(a.Name, b.Name),
			cmp.Compare(a.Cost, b.Cost), cmp.Compare(a.Power, b.Power), cmp.Compare(a.Owner, b.Owner))
	})
	return all
}

// play does a state what an act or an order may do, of what is drawn, and returns the state and
// which of the held cards are still held, or which further one is.
func play(s api.State, held []api.Inst, draws *rand.Rand) (api.State, []api.Inst) {
	seat := draws.Intn(4) - 1
	id := draws.Intn(60)
	if all := slices.Concat(games.Memory(s)...); len(all) > 0 && draws.Intn(3) > 0 {
		id = all[draws.Intn(len(all))].Id
	}
	var x api.Inst
	ok := false
	switch draws.Intn(9) {
	case 0, 1:
		s, _ = Draw(s, seat, draws.Intn(6)-1)
	case 2:
		s, _, _ = Discard(s, seat, draws.Intn(6))
	case 3, 4:
		s, x, ok = FromHand(s, seat, id)
	case 5:
		s, x, ok = board.Take(s, id)
	default:
		if len(held) == 0 {
			break
		}
		x, held = held[0], held[1:]
		ok = x.Owner != 0 && x.Owner != 1
		switch draws.Intn(4) {
		case 0, 1:
			s, _ = ToHand(s, x)
		case 2:
			s = Away(s, x)
		default:
			put, done := board.Put(s, x, draws.Intn(3))
			s, ok = put, !done
		}
	}
	if ok {
		held = append(slices.Clone(held), x)
	}
	return s, held
}

// P23.4: no card is lost or duplicated by drawing, discarding, taking and returning cards, in
// any order, in any states; and the earlier states of such a series remain as they were.
func TestNoCardIsLost(t *testing.T) {
	draws := rand.New(rand.NewSource(6))
	for _, s := range drawnStates(7, 150) {
		cards := everyCard(s, nil)
		var held []api.Inst
		var states, copies []api.State
		for step := range 60 {
			states, copies = append(states, s), append(copies, games.Copy(s))
			s, held = play(s, held, draws)
			if now := everyCard(s, held); !slices.Equal(now, cards) {
				t.Fatalf("after the step %d there are the cards %v, want %v", step, now, cards)
			}
		}
		for i, before := range copies {
			if !games.Same(states[i], before) {
				t.Fatalf("the state %d of the series is now %v, not %v", i, states[i], before)
			}
		}
	}
}

// P23.4: a state that may occur in a game remains one in a series, with all cards where their
// Owners are.
func TestSeriesRemainRight(t *testing.T) {
	pen := games.Pen{Draw: rand.New(rand.NewSource(8)).Intn}
	draws := rand.New(rand.NewSource(9))
	for range 100 {
		s := pen.Right(20, 9)
		var held []api.Inst
		for step := range 60 {
			s, held = play(s, held, draws)
			if !board.Right(s) {
				t.Fatalf("after the step %d the state is %v", step, s)
			}
		}
	}
}

// P23.4: a card that was taken from the hand and is returned at once is the last one there,
// whatever its Plus was; the others remain.
func TestTakenAndReturned(t *testing.T) {
	for _, s := range drawnStates(10, 400) {
		for seat := range 2 {
			hand := s.Players[seat].Hand
			for _, x := range hand {
				taken, x, ok := FromHand(s, seat, x.Id)
				back, fits := ToHand(taken, x)
				if !ok {
					t.Fatalf("of %v no card %d is taken", hand, x.Id)
				}
				if x.Owner != seat || len(hand) > 7 {
					continue
				}
				got := back.Players[seat].Hand
				if !fits || len(got) != len(hand) || got[len(got)-1] != bare(x) {
					t.Fatalf("after the return of %v the hand is %v, before it was %v", x, got, hand)
				}
			}
		}
	}
}

// resultsOf are states that the calls make of s: with changes, and where there is nothing to
// change.
func resultsOf(s api.State) []api.State {
	x := api.Inst{Id: 1, Plus: 2, Owner: 1}
	var all []api.State
	for seat := -1; seat < 3; seat++ {
		x.Owner = seat
		draw, _ := Draw(s, seat, 2)
		toHand, _ := ToHand(s, x)
		first, _, _ := Discard(s, seat, api.HFirst)
		last, _, _ := Discard(s, seat, api.HLast)
		cheapest, _, _ := Discard(s, seat, api.HCheapest)
		costliest, _, _ := Discard(s, seat, api.HCostliest)
		nothing, _, _ := Discard(s, seat, 0)
		taken, _, _ := FromHand(s, seat, 1)
		none, _, _ := FromHand(s, seat, -77)
		paid, _ := Pay(s, seat, 1)
		unpaid, _ := Pay(s, seat, -1)
		all = append(all, draw, toHand, Away(s, x), first, last, cheapest, costliest, nothing, taken, none, Bonus(s, seat, 3), Gain(s, seat, 2), paid, unpaid)
	}
	return all
}

// R3: what results is not changed by a change of the state or of another result afterwards.
func TestResultsAreNotKept(t *testing.T) {
	for _, s := range drawnStates(11, 150) {
		same := games.Copy(s)
		first, second := resultsOf(s), resultsOf(s)
		if !games.Apart(games.Memory(slices.Concat(first, second, []api.State{s})...)...) {
			t.Fatalf("results of %v share memory", s)
		}
		for _, l := range games.Memory(append(first, s)...) {
			l = l[:cap(l)]
			for i := range l {
				l[i] = api.Inst{Id: -9, Plus: -9}
			}
		}
		for i, want := range resultsOf(same) {
			if !games.Same(second[i], want) {
				t.Fatalf("the result %d is now %v, want %v", i, second[i], want)
			}
		}
	}
}

// R4: the answers do not depend on calls at the same time.
func TestAtTheSameTime(t *testing.T) {
	states := drawnStates(12, 40)
	answers := func(n int) string {
		s, seat := states[n%len(states)], n%3
		draw, drawn := Draw(s, seat, n%5)
		discard, x, discarded := Discard(s, seat, n%6)
		taken, y, ok := FromHand(s, seat, n%9)
		back, fits := ToHand(s, api.Inst{Id: n, Plus: n, Owner: seat})
		pay, paid := Pay(s, seat, n%7)
		away := Away(s, api.Inst{Id: n, Plus: n, Owner: seat})
		return fmt.Sprint(draw, drawn, discard, x, discarded, taken, y, ok, back, fits, pay, paid, away, Bonus(s, seat, n), Gain(s, seat, n))
	}
	var want []string
	for n := range 300 {
		want = append(want, answers(n))
	}
	var all sync.WaitGroup
	for k := range 8 {
		all.Go(func() {
			for n := range want {
				at := (n + 37*k) % len(want)
				if got := answers(at); got != want[at] {
					t.Errorf("the answers %d are %s, want %s", at, got, want[at])
				}
			}
		})
	}
	all.Wait()
}
