package board

import (
	"fmt"
	"slices"
	"sync"
	"testing"

	"trident/api"
	"trident/internal/games"
)

// R3: a list of cards is a new one each time.
func TestListIsNew(t *testing.T) {
	for _, s := range drawnStates(9, 200) {
		before := games.Whole(s)
		one, two := List(s), List(s)
		if !games.Apart(append(games.Memory(s), one, two)...) {
			t.Fatalf("List of %v shares memory", s)
		}
		for i := range one {
			one[i] = api.Inst{Id: -9}
		}
		if !slices.Equal(List(s), two) || !games.Same(games.Whole(s), before) {
			t.Fatalf("after a change of a list the state is %v", s)
		}
	}
}

// resultsOf are states that the calls make of s: with changes, and where there is nothing to
// change.
func resultsOf(s api.State) []api.State {
	x := api.Inst{Id: 1, Owner: 1}
	put, _ := Put(s, x, 1)
	nowhere, _ := Put(s, x, 7)
	take, _, _ := Take(s, 1)
	nothing, _, _ := Take(s, -77)
	set, _ := Set(s, x)
	none, _ := Set(s, api.Inst{Id: -77})
	return []api.State{Clone(s), put, nowhere, take, nothing, set, none}
}

// R3: what results is not changed by a change of the state afterwards, nor the other way.
func TestResultsAreNotKept(t *testing.T) {
	for _, s := range drawnStates(10, 200) {
		same := games.Copy(s)
		first, second := resultsOf(s), resultsOf(s)
		if !games.Apart(games.Memory(slices.Concat(first, second, []api.State{s})...)...) {
			t.Fatalf("results of %v share memory", s)
		}
		for _, l := range games.Memory(append(first, s)...) {
			l = l[:cap(l)]
			for i := range l {
				l[i] = api.Inst{Id: -9, Plus: -9}
			}
		}
		for i, want := range resultsOf(same) {
			if !games.Same(second[i], want) {
				t.Fatalf("the result %d is now %v, want %v", i, second[i], want)
			}
		}
	}
}

// R4: the answers do not depend on calls at the same time.
func TestAtTheSameTime(t *testing.T) {
	states := drawnStates(11, 40)
	answers := func(n int) string {
		s := states[n%len(states)]
		x := api.Inst{Id: n % 9, Plus: n, Owner: n % 2}
		put, ok := Put(s, x, n%3)
		take, y, taken := Take(s, n%9)
		set, done := Set(s, x)
		seat, lane, slot, found := Find(s, n%9)
		return fmt.Sprint(List(s), Clone(s), Right(s), Room(s, n%2, n%3), put, ok, take, y, taken, set, done, seat, lane, slot, found, Empty())
	}
	var want []string
	for n := range 300 {
		want = append(want, answers(n))
	}
	var all sync.WaitGroup
	for k := range 8 {
		all.Go(func() {
			for n := range want {
				at := (n + 37*k) % len(want)
				if got := answers(at); got != want[at] {
					t.Errorf("the answers %d are %s, want %s", at, got, want[at])
				}
			}
		})
	}
	all.Wait()
}
