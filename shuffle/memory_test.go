package shuffle

import (
	"slices"
	"sync"
	"testing"
)

// filled returns l as the beginning of a greater list, and that one.
func filled(l []int) (part, whole []int) {
	whole = append(slices.Clone(l), 71, 72, 73, 74)
	return whole[:len(l)], whole
}

// memoryLists are lists of lengths at which answers might be made in other ways.
func memoryLists() [][]int {
	return [][]int{nil, {}, {4}, {4, 5}, {5, 5}, {3, 1, 2}, {-1, 128, 0, 9}, upTo(12), make([]int, 100)}
}

// R3: no call changes a list or draws, nor what is behind their ends.
func TestListsAreNotChanged(t *testing.T) {
	for _, l := range memoryLists() {
		for _, other := range memoryLists() {
			part, whole := filled(l)
			otherPart, otherWhole := filled(other)
			before, otherBefore := slices.Clone(whole), slices.Clone(otherWhole)
			Shuffle(part, otherPart)
			Draws(part, otherPart)
			Draws(part, part)
			Shuffle(part, part)
			if !slices.Equal(whole, before) || !slices.Equal(otherWhole, otherBefore) {
				t.Errorf("%v and %v are now %v and %v", before, otherBefore, whole, otherWhole)
			}
		}
	}
}

// R3: what is shuffled is a new list, also where no number moves.
func TestShuffledListsAreNew(t *testing.T) {
	for _, l := range memoryLists() {
		for _, d := range []int{0, 1, -1} {
			draws := slices.Repeat([]int{d}, len(l)+1)
			part, whole := filled(l)
			partDraws, wholeDraws := filled(draws)
			want := model(l, draws)
			first, second := Shuffle(part, partDraws), Shuffle(part, partDraws)
			fill(first, 77)
			if !slices.Equal(second, want) {
				t.Errorf("a shuffled list from before is now %v, want %v", second, want)
			}
			fill(second, 78)
			if part, drawn := whole[:len(l)], wholeDraws[:len(draws)]; !slices.Equal(part, l) || !slices.Equal(drawn, draws) {
				t.Errorf("the list and the draws are now %v and %v, want %v and %v", part, drawn, l, draws)
			}
			third := Shuffle(part, partDraws)
			fill(part, 79)
			fill(partDraws, 80)
			if !slices.Equal(third, want) {
				t.Errorf("after a change of the list and the draws a shuffled list is %v, want %v", third, want)
			}
		}
	}
}

// fill makes all numbers of a list n, also those behind its end.
func fill(l []int, n int) {
	l = l[:cap(l)]
	for i := range l {
		l[i] = n
	}
}

// R3: the draws are a new list each time.
func TestDrawsAreNew(t *testing.T) {
	for _, l := range memoryLists() {
		from, fromWhole := filled(l)
		to, toWhole := filled(Shuffle(l, nil))
		want := slices.Clone(drawsOf(l, to))
		one, two := drawsOf(from, to), drawsOf(from, to)
		fill(one, 77)
		if !slices.Equal(two, want) {
			t.Errorf("draws from before are now %v, want %v", two, want)
		}
		fill(two, 78)
		checkDraws(t, "as before", fromWhole[:len(l)], toWhole[:len(l)], want, true)
		three := drawsOf(from, to)
		fill(from, 79)
		fill(to, 80)
		if !slices.Equal(three, want) {
			t.Errorf("after a change of the lists draws are %v, want %v", three, want)
		}
	}
}

// drawsOf returns the draws of what Draws answers.
func drawsOf(from, to []int) []int {
	draws, _ := Draws(from, to)
	return draws
}

// R4: the answers do not depend on calls before or at the same time.
func TestAtTheSameTime(t *testing.T) {
	lists := memoryLists()
	var all sync.WaitGroup
	for n := range 8 {
		all.Go(func() {
			for k := range 200 {
				l := lists[(n+k)%len(lists)]
				draws := []int{n, -k, k * n, 5, -6, 7}
				got := Shuffle(l, draws)
				if want := model(l, draws); !slices.Equal(got, want) {
					t.Errorf("%v with the draws %v is %v, want %v", l, draws, got, want)
				}
				least, ok := Draws(l, got)
				if !ok || !slices.Equal(Shuffle(l, least), got) {
					t.Errorf("Draws(%v, %v) is %v, %t", l, got, least, ok)
				}
				if Around(-k, n+1) != remainder(-k, n+1) {
					t.Errorf("Around(%d, %d) is %d", -k, n+1, Around(-k, n+1))
				}
			}
		})
	}
	all.Wait()
}
