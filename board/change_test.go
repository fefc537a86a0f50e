package board

import (
	"math/rand"
	"slices"
	"testing"

	"trident/api"
	"trident/internal/games"
)

// with returns s with other cards on a side, of lists that nothing else shares.
func with(s api.State, lane, seat int, l []api.Inst) api.State {
	s.Lanes[lane].Sides[seat] = slices.Clone(l)
	return s
}

// checkPut checks what Put answers.
func checkPut(t *testing.T, what string, s api.State, x api.Inst, lane int, want api.State, ok bool) {
	t.Helper()
	before := games.Whole(s)
	got, gotOK := Put(s, x, lane)
	if !games.Same(got, want) || gotOK != ok {
		t.Errorf("%s: Put of %v into lane %d is %v, %t, want %v, %t", what, x, lane, got, gotOK, want, ok)
	}
	checkMemory(t, what, s, before, got)
}

// checkTake checks what Take answers.
func checkTake(t *testing.T, what string, s api.State, id int, want api.State, x api.Inst, ok bool) {
	t.Helper()
	before := games.Whole(s)
	got, gotInst, gotOK := Take(s, id)
	if !games.Same(got, want) || gotInst != x || gotOK != ok {
		t.Errorf("%s: Take of %d is %v, %v, %t, want %v, %v, %t", what, id, got, gotInst, gotOK, want, x, ok)
	}
	checkMemory(t, what, s, before, got)
}

// checkSet checks what Set answers.
func checkSet(t *testing.T, what string, s api.State, x api.Inst, want api.State, ok bool) {
	t.Helper()
	before := games.Whole(s)
	got, gotOK := Set(s, x)
	if !games.Same(got, want) || gotOK != ok {
		t.Errorf("%s: Set of %v is %v, %t, want %v, %t", what, x, got, gotOK, want, ok)
	}
	checkMemory(t, what, s, before, got)
}

// checkMemory checks that a call left the state s and what is behind the ends of its lists as
// they were, and that no two lists of s and of the result share memory.
func checkMemory(t *testing.T, what string, s, before, result api.State) {
	t.Helper()
	if !games.Same(games.Whole(s), before) {
		t.Errorf("%s: the state is changed, to %v", what, s)
	}
	if !games.Apart(games.Memory(s, result)...) {
		t.Errorf("%s: lists share memory", what)
	}
}

// P22.2: on each side of each lane a card is put after those that are there, up to four.
func TestPut(t *testing.T) {
	for lane := range 3 {
		for seat := range 2 {
			for n := range 7 {
				l := cards(seat, 11, 12, 13, 14, 15, 16)[:n]
				s := games.Copy(with(full(), lane, seat, l))
				x := api.Inst{Id: 60, Card: -1, Name: "Hound", Cost: 3, Power: -4, Plus: 5, Owner: seat}
				if n < 4 {
					checkPut(t, "room", s, x, lane, with(s, lane, seat, append(slices.Clone(l), x)), true)
				} else {
					checkPut(t, "no room", s, x, lane, s, false)
				}
			}
		}
	}
}

// P22.2: a card's side is that of its Owner, whoever owns the others.
func TestPutByOwner(t *testing.T) {
	s := games.Copy(with(with(Empty(), 1, 0, cards(1, 1, 2)), 1, 1, cards(0, 3)))
	x := api.Inst{Id: 9, Owner: 1}
	checkPut(t, "among cards of the other seat", s, x, 1, with(s, 1, 1, append(cards(0, 3), x)), true)
	x.Owner = 0
	checkPut(t, "among cards of the other seat", s, x, 1, with(s, 1, 0, append(cards(1, 1, 2), x)), true)
	x.Id = 3
	checkPut(t, "a card with an Id that there is", s, x, 1, with(s, 1, 0, append(cards(1, 1, 2), x)), true)
	checkPut(t, "a zero card", Empty(), api.Inst{}, 0, with(Empty(), 0, 0, make([]api.Inst, 1)), true)
}

// P22.2: where there is no such seat or lane, nothing is put.
func TestPutNowhere(t *testing.T) {
	numbers := append([]int{-1, 0, 1, 2, 3, 4, 5}, extremes...)
	for _, s := range []api.State{{}, Empty(), with(full(), 1, 1, nil)} {
		for _, owner := range numbers {
			for _, lane := range numbers {
				x := api.Inst{Id: 70, Owner: owner, Name: "Imp"}
				if owner < 0 || owner > 1 || lane < 0 || lane > 2 || len(s.Lanes[lane].Sides[owner]) > 3 {
					checkPut(t, "nowhere", s, x, lane, s, false)
				} else {
					checkPut(t, "somewhere", s, x, lane, with(s, lane, owner, append(slices.Clone(s.Lanes[lane].Sides[owner]), x)), true)
				}
			}
		}
	}
}

// P22.2: the first, the middle and the last card of each side is taken, and no other one.
func TestTake(t *testing.T) {
	s := games.Copy(full())
	for lane := range 3 {
		for seat := range 2 {
			for slot := range 4 {
				side := s.Lanes[lane].Sides[seat]
				want := with(s, lane, seat, slices.Concat(side[:slot], side[slot+1:]))
				checkTake(t, "a full game", s, 8*lane+4*seat+slot+1, want, side[slot], true)
			}
		}
	}
	for _, id := range append(slices.Clone(extremes), 0, 25, 36, 37, 50, 51, 100) {
		checkTake(t, "there is none", s, id, s, api.Inst{}, false)
	}
	checkTake(t, "no cards", api.State{}, 0, api.State{}, api.Inst{}, false)
	one := with(Empty(), 2, 1, cards(1, 5))
	checkTake(t, "the only card", one, 5, Empty(), cards(1, 5)[0], true)
}

// P22.2: of several cards with one Id the first one in board order is taken, and replaced.
func TestTheFirstOfEqualIds(t *testing.T) {
	for first := range 6 {
		for second := range 6 {
			s := full()
			l, other := cards(first%2, 90, 91, 91, 92), cards(second%2, 91, 93)
			s = with(with(s, second/2, second%2, other), first/2, first%2, l)
			lane, seat, side := first/2, first%2, l
			if second < first {
				lane, seat, side = second/2, second%2, other
			}
			slot := slices.IndexFunc(side, func(x api.Inst) bool { return x.Id == 91 })
			rest := slices.Delete(slices.Clone(side), slot, slot+1)
			checkTake(t, "equal Ids", s, 91, with(s, lane, seat, rest), side[slot], true)
			x := api.Inst{Id: 91, Name: "other", Owner: 1 - seat, Plus: 77}
			changed := slices.Clone(side)
			changed[slot] = x
			checkSet(t, "equal Ids", s, x, with(s, lane, seat, changed), true)
		}
	}
}

// P22.2: a card takes the place of the one with its Id, with all its fields, wherever that is
// in the lanes.
func TestSet(t *testing.T) {
	s := games.Copy(full())
	for lane := range 3 {
		for seat := range 2 {
			for slot := range 4 {
				old := s.Lanes[lane].Sides[seat][slot]
				for _, change := range []func(x *api.Inst){
					func(x *api.Inst) {},
					func(x *api.Inst) { x.Card = 80 },
					func(x *api.Inst) { x.Name = "\xff" },
					func(x *api.Inst) { x.Cost = -3 },
					func(x *api.Inst) { x.Power = 999 },
					func(x *api.Inst) { x.Plus = -999 },
					func(x *api.Inst) { x.Owner = 1 - x.Owner },
					func(x *api.Inst) { x.Owner = extremes[0] },
					func(x *api.Inst) { *x = api.Inst{Id: x.Id} },
				} {
					x := old
					change(&x)
					side := slices.Clone(s.Lanes[lane].Sides[seat])
					side[slot] = x
					checkSet(t, "a full game", s, x, with(s, lane, seat, side), true)
				}
			}
		}
	}
	for _, id := range append(slices.Clone(extremes), 0, 25, 36, 37, 50, 51, 100) {
		checkSet(t, "there is none", s, api.Inst{Id: id, Owner: 1, Name: "Imp", Plus: 3}, s, false)
	}
	checkSet(t, "no cards", api.State{}, api.Inst{}, api.State{}, false)
}

// P22.2: any card put, taken and set in any states.
func TestChangesOfDrawnStates(t *testing.T) {
	pen := games.Pen{Draw: rand.New(rand.NewSource(4)).Intn}
	for _, s := range drawnStates(4, 300) {
		all := inLanes(s)
		for range 10 {
			x := pen.Inst()
			lane := pen.Draw(5) - 1
			put, ok := s, false
			if x.Owner >= 0 && x.Owner < 2 && lane >= 0 && lane < 3 && len(s.Lanes[lane].Sides[x.Owner]) < 4 {
				put, ok = with(s, lane, x.Owner, append(slices.Clone(s.Lanes[lane].Sides[x.Owner]), x)), true
			}
			checkPut(t, "drawn", s, x, lane, put, ok)
			p, ok := firstOf(all, x.Id)
			if !ok {
				checkTake(t, "drawn", s, x.Id, s, api.Inst{}, false)
				checkSet(t, "drawn", s, x, s, false)
				continue
			}
			side := slices.Clone(s.Lanes[p.lane].Sides[p.seat])
			checkTake(t, "drawn", s, x.Id, with(s, p.lane, p.seat, slices.Delete(slices.Clone(side), p.slot, p.slot+1)), p.x, true)
			side[p.slot] = x
			checkSet(t, "drawn", s, x, with(s, p.lane, p.seat, side), true)
		}
	}
}

// P22.4 and the chapter's example: a card that was put is found there, and taking it returns
// it and the state before.
func TestPutFindTake(t *testing.T) {
	put, ok := Put(Empty(), api.Inst{Id: 5, Owner: 1}, 2)
	if !ok {
		t.Error("there is no room in Empty")
	}
	checkFind(t, "the chapter's example", put, 5, 1, 2, 0, true)
	pen := games.Pen{Draw: rand.New(rand.NewSource(5)).Intn}
	done := 0
	for _, s := range drawnStates(5, 900) {
		for range 6 {
			x, lane := pen.Inst(), pen.Draw(3)
			if _, earlier := firstOf(inLanes(s), x.Id); earlier {
				continue
			}
			put, ok := Put(s, x, lane)
			if !ok {
				continue
			}
			done++
			checkFind(t, "put", put, x.Id, x.Owner, lane, len(s.Lanes[lane].Sides[x.Owner]), true)
			checkTake(t, "put", put, x.Id, s, x, true)
			x.Plus, x.Name = x.Power, "later"
			set, _ := Set(put, x)
			checkTake(t, "put and set", set, x.Id, s, x, true)
		}
	}
	if done < 1000 {
		t.Errorf("only %d cards were put", done)
	}
}

// P22.2 and P22.4: long series of changes, each of the state that the one before left; no
// earlier state is changed by them.
func TestSeriesOfChanges(t *testing.T) {
	draws := rand.New(rand.NewSource(6))
	for range 40 {
		s := Empty()
		var sides [3][2][]api.Inst
		var states, copies []api.State
		for step := range 60 {
			x := api.Inst{Id: draws.Intn(30), Plus: step, Owner: draws.Intn(2)}
			lane := draws.Intn(3)
			p, ok := firstOf(inLanes(s), x.Id)
			switch side := &sides[p.lane][p.seat]; {
			case !ok && len(sides[lane][x.Owner]) < 4:
				sides[lane][x.Owner] = append(slices.Clone(sides[lane][x.Owner]), x)
				s, ok = Put(s, x, lane)
			case ok && step%2 == 0:
				*side = slices.Concat((*side)[:p.slot], (*side)[p.slot+1:])
				s, _, ok = Take(s, x.Id)
			case ok:
				*side = slices.Concat((*side)[:p.slot], []api.Inst{x}, (*side)[p.slot+1:])
				s, ok = Set(s, x)
			default:
				continue
			}
			want := Empty()
			for lane := range sides {
				want.Lanes[lane].Sides = sides[lane]
			}
			if !ok || !games.Same(s, want) {
				t.Fatalf("after the step %d the state is %v, want %v", step, s, want)
			}
			states, copies = append(states, s), append(copies, games.Copy(s))
		}
		for i, before := range copies {
			if !games.Same(states[i], before) {
				t.Fatalf("the state %d is now %v, not %v", i, states[i], before)
			}
		}
	}
}
