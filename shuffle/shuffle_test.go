package shuffle

import (
	"math"
	"math/big"
	"math/rand"
	"slices"
	"testing"
)

// extremes are numbers far from any index, some of which no other sign or no fewer bits have.
var extremes = []int{
	math.MinInt, math.MinInt + 1, math.MinInt + 2, math.MinInt / 2, math.MinInt32 - 1, math.MinInt32, -1 << 16, -1000, -257, -256, -129, -128,
	128, 255, 256, 1000, 1 << 16, math.MaxInt32, math.MaxInt32 + 1, math.MaxInt / 2, math.MaxInt - 2, math.MaxInt - 1, math.MaxInt,
}

// remainder is the remainder of n modulo most by numbers without bounds, 0 if most is below 1.
func remainder(n, most int) int {
	if most < 1 {
		return 0
	}
	return int(new(big.Int).Mod(big.NewInt(int64(n)), big.NewInt(int64(most))).Int64())
}

// model is what Shuffle answers, told from the end: the last number is the one that the first
// draw selects, and before it stand the others, shuffled by the other draws, with the number
// that was last in the place of the selected one.
func model(l, draws []int) []int {
	if len(l) < 2 {
		return slices.Clone(l)
	}
	d, others := 0, []int(nil)
	if len(draws) > 0 {
		d, others = draws[0], draws[1:]
	}
	last := len(l) - 1
	at := remainder(d, len(l))
	before := slices.Clone(l[:last])
	if at < last {
		before[at] = l[last]
	}
	return append(model(before, others), l[at])
}

// eachDraws calls f with all draws for a list of so many numbers that are indices up to the
// one that they are for, the least ones first, until f returns false.
func eachDraws(size int, f func(draws []int) bool) {
	var extend func(draws []int, i int) bool
	extend = func(draws []int, i int) bool {
		if i < 1 {
			return f(slices.Clone(draws))
		}
		for d := range i + 1 {
			if !extend(append(slices.Clone(draws), d), i-1) {
				return false
			}
		}
		return true
	}
	extend(nil, size-1)
}

// eachOrder calls f with all orders of l, once for each order of its indices.
func eachOrder(l []int, f func(order []int)) {
	if len(l) == 0 {
		f(nil)
		return
	}
	for i := range l {
		eachOrder(slices.Delete(slices.Clone(l), i, i+1), func(order []int) {
			f(append([]int{l[i]}, order...))
		})
	}
}

// upTo returns the numbers from 1 to n.
func upTo(n int) []int {
	var l []int
	for i := range n {
		l = append(l, i+1)
	}
	return l
}

// checkShuffle checks what Shuffle answers, twice.
func checkShuffle(t *testing.T, what string, l, draws, want []int) {
	t.Helper()
	for range 2 {
		if got := Shuffle(l, draws); !slices.Equal(got, want) {
			t.Fatalf("%s: %v with the draws %v is %v, want %v", what, brief(l), brief(draws), brief(got), brief(want))
		}
	}
}

// brief returns the beginning of a list that is long.
func brief(l []int) []int {
	return l[:min(len(l), 20)]
}

// P21.1: a remainder is never negative and below the modulus.
func TestAround(t *testing.T) {
	for _, c := range []struct{ n, most, want int }{
		{0, 1, 0}, {1, 1, 0}, {-1, 1, 0}, {2, 1, 0}, {-7, 1, 0}, {math.MaxInt, 1, 0}, {math.MinInt, 1, 0},
		{0, 2, 0}, {1, 2, 1}, {2, 2, 0}, {3, 2, 1}, {-1, 2, 1}, {-2, 2, 0}, {-3, 2, 1}, {math.MaxInt, 2, 1}, {math.MinInt, 2, 0},
		{0, 5, 0}, {1, 5, 1}, {4, 5, 4}, {5, 5, 0}, {6, 5, 1}, {9, 5, 4}, {10, 5, 0}, {11, 5, 1}, {104, 5, 4},
		{-1, 5, 4}, {-2, 5, 3}, {-4, 5, 1}, {-5, 5, 0}, {-6, 5, 4}, {-9, 5, 1}, {-10, 5, 0}, {-11, 5, 4}, {-104, 5, 1},
		{0, math.MaxInt, 0}, {1, math.MaxInt, 1}, {-1, math.MaxInt, math.MaxInt - 1}, {math.MaxInt - 1, math.MaxInt, math.MaxInt - 1},
		{math.MaxInt, math.MaxInt, 0}, {-math.MaxInt, math.MaxInt, 0}, {math.MinInt, math.MaxInt, math.MaxInt - 1},
		{math.MaxInt, math.MaxInt - 1, 1}, {math.MinInt, math.MaxInt - 1, math.MaxInt - 3}, {math.MinInt + 1, math.MaxInt - 1, math.MaxInt - 2},
	} {
		if got := Around(c.n, c.most); got != c.want {
			t.Errorf("Around(%d, %d) is %d, want %d", c.n, c.most, got, c.want)
		}
	}
}

// P21.1: of a modulus below 1 the remainder is 0, whatever the number.
func TestAroundOfNoModulus(t *testing.T) {
	for _, most := range append([]int{0, -1, -2, -3, -5, -64}, extremes...) {
		for _, n := range append([]int{0, 1, -1, 2, -2, 3, 5, 7, most, -most}, extremes...) {
			if got := Around(n, most); most < 1 && got != 0 {
				t.Errorf("Around(%d, %d) is %d, want 0", n, most, got)
			}
		}
	}
}

// P21.1: multiples of a modulus and the numbers on both sides of them, and extreme numbers.
func TestAroundIsTheRemainder(t *testing.T) {
	moduli := append([]int{1, 2, 3, 4, 5, 7, 8, 12, 13, 16, 63, 64, 65, 99, 100, 127}, extremes...)
	draws := rand.New(rand.NewSource(21))
	for _, most := range moduli {
		numbers := append([]int{0, 1, -1, 2, -2, most, -most, most / 2, -(most / 2)}, extremes...)
		if most > 0 && most < 1<<16 {
			for _, times := range []int{-1000, -12, -3, -2, -1, 0, 1, 2, 3, 12, 1000} {
				numbers = append(numbers, times*most-1, times*most, times*most+1)
			}
		}
		for range 50 {
			numbers = append(numbers, int(draws.Uint64()))
		}
		for _, n := range numbers {
			if got, want := Around(n, most), remainder(n, most); got != want {
				t.Errorf("Around(%d, %d) is %d, want %d", n, most, got, want)
			}
		}
	}
}

// P21.1: each draw exchanges the number at its index with that at the remainder; the indices
// go down from the last one to 1.
func TestShuffle(t *testing.T) {
	for _, c := range []struct {
		what           string
		l, draws, want []int
	}{
		{"the chapter's example", []int{1, 2, 3}, []int{0, 0}, []int{2, 3, 1}},
		{"nothing", nil, nil, nil},
		{"nothing, with draws", []int{}, []int{0, 1, -1}, nil},
		{"one number", []int{7}, nil, []int{7}},
		{"one number, with draws", []int{7}, []int{5, -5, 1}, []int{7}},
		{"two numbers exchanged", []int{1, 2}, []int{0}, []int{2, 1}},
		{"two numbers as they are", []int{1, 2}, []int{1}, []int{1, 2}},
		{"two numbers, an even draw", []int{1, 2}, []int{2}, []int{2, 1}},
		{"two numbers, an odd negative draw", []int{1, 2}, []int{-1}, []int{1, 2}},
		{"two numbers, an even negative draw", []int{1, 2}, []int{-2}, []int{2, 1}},
		{"two numbers without draws", []int{1, 2}, nil, []int{2, 1}},
		{"two numbers with more draws", []int{1, 2}, []int{1, 0, 0}, []int{1, 2}},
		{"three as they are", []int{1, 2, 3}, []int{2, 1}, []int{1, 2, 3}},
		{"three: the last exchanged with the first", []int{1, 2, 3}, []int{0, 1}, []int{3, 2, 1}},
		{"three: the last exchanged with the middle", []int{1, 2, 3}, []int{1, 1}, []int{1, 3, 2}},
		{"three: the middle exchanged with the first", []int{1, 2, 3}, []int{2, 0}, []int{2, 1, 3}},
		{"three: both exchanged, as they are then", []int{1, 2, 3}, []int{1, 0}, []int{3, 1, 2}},
		{"three without draws", []int{1, 2, 3}, nil, []int{2, 3, 1}},
		{"three with a draw for the last index only", []int{1, 2, 3}, []int{2}, []int{2, 1, 3}},
		{"three with a draw more", []int{1, 2, 3}, []int{2, 1, 0}, []int{1, 2, 3}},
		{"three with draws above the indices", []int{1, 2, 3}, []int{4, 3}, []int{1, 3, 2}},
		{"three with draws of -1, for the indices themselves", []int{1, 2, 3}, []int{-1, -1}, []int{1, 2, 3}},
		{"three with negative draws", []int{1, 2, 3}, []int{-2, -2}, []int{3, 1, 2}},
		{"three with extreme draws", []int{1, 2, 3}, []int{math.MinInt, math.MaxInt}, []int{1, 3, 2}},
		{"four without draws", []int{1, 2, 3, 4}, nil, []int{2, 3, 4, 1}},
		{"four in reverse", []int{1, 2, 3, 4}, []int{0, 1, 1}, []int{4, 3, 2, 1}},
		{"five: each draw for its own index", []int{10, 20, 30, 40, 50}, []int{3, 1, 2, 0}, []int{50, 10, 30, 20, 40}},
		{"the same draw goes round each index's own count", []int{10, 20, 30, 40, 50}, []int{5, 5, 5, 5}, []int{50, 40, 30, 20, 10}},
		{"equal numbers", []int{6, 6, 6}, []int{0, 0}, []int{6, 6, 6}},
		{"equal numbers among others", []int{1, 2, 1, 2}, []int{1, 0, 1}, []int{1, 2, 1, 2}},
		{"extreme numbers", []int{math.MinInt, 0, math.MaxInt}, []int{0, 1}, []int{math.MaxInt, 0, math.MinInt}},
	} {
		checkShuffle(t, c.what, c.l, c.draws, c.want)
		if got := model(c.l, c.draws); !slices.Equal(got, c.want) {
			t.Errorf("%s: the model tells %v, want %v", c.what, got, c.want)
		}
	}
}

// P21.1: draws for only some of the indices are for the last ones; the others are 0.
func TestFewerDraws(t *testing.T) {
	draws := rand.New(rand.NewSource(1))
	for size := range 12 {
		for given := range 15 {
			var some []int
			for range given {
				some = append(some, draws.Intn(40)-20)
			}
			l := draws.Perm(size)
			all := append(slices.Clone(some), make([]int, size)...)
			checkShuffle(t, "fewer draws", l, some, model(l, all))
			checkShuffle(t, "draws of 0 for the others", l, all, model(l, all))
			needed := all[:max(size-1, 0)]
			checkShuffle(t, "no draws more", l, needed, model(l, all))
		}
	}
}

// P21.1: a draw counts as its remainder modulo its index and one.
func TestDrawsGoRound(t *testing.T) {
	draws := rand.New(rand.NewSource(2))
	for range 500 {
		l := draws.Perm(draws.Intn(10))
		var least, others []int
		for i := len(l) - 1; i > 0; i-- {
			d := draws.Intn(i + 1)
			least = append(least, d)
			others = append(others, d+(draws.Intn(2001)-1000)*(i+1))
		}
		checkShuffle(t, "draws go round", l, others, Shuffle(l, least))
	}
}

// P21.1: lists of up to many numbers, also equal ones, with draws of every kind.
func TestShuffleIsTheModel(t *testing.T) {
	draws := rand.New(rand.NewSource(3))
	for n := range 6000 {
		l := make([]int, draws.Intn(min(n/10+1, 70)))
		for i := range l {
			l[i] = draws.Intn(len(l)) - 3
		}
		some := make([]int, draws.Intn(80))
		for i := range some {
			switch draws.Intn(4) {
			case 0:
				some[i] = draws.Intn(len(l) + 1)
			case 1:
				some[i] = draws.Intn(400) - 200
			case 2:
				some[i] = extremes[draws.Intn(len(extremes))]
			default:
				some[i] = int(draws.Uint64())
			}
		}
		checkShuffle(t, "drawn", l, some, model(l, some))
	}
}

// P21.1: a list of a hundred thousand numbers; without draws each number goes one index down,
// the first one to the end.
func TestShuffleOfManyNumbers(t *testing.T) {
	l := upTo(100000)
	want := append(slices.Clone(l[1:]), 1)
	checkShuffle(t, "without draws", l, nil, want)
	checkShuffle(t, "with draws of 0", l, make([]int, 200000), want)
	var same []int
	for range l {
		same = append(same, -1)
	}
	checkShuffle(t, "with draws of -1", l, same, l)
}

// P21.3: a shuffled list contains the same numbers, each equally often.
func TestShuffleKeepsTheNumbers(t *testing.T) {
	draws := rand.New(rand.NewSource(4))
	for range 2000 {
		l := make([]int, draws.Intn(30))
		some := make([]int, draws.Intn(40))
		for i := range l {
			l[i] = extremes[draws.Intn(8)]
		}
		for i := range some {
			some[i] = int(draws.Uint64())
		}
		got := Shuffle(l, some)
		slices.Sort(l)
		slices.Sort(got)
		if !slices.Equal(got, l) {
			t.Fatalf("with the draws %v the numbers %v are now %v", some, l, got)
		}
	}
}

// P21.3: every order of up to six numbers results, by indices each from exactly one choice of
// draws.
func TestEveryOrderResults(t *testing.T) {
	for size := range 7 {
		results := map[[6]int]int{}
		eachDraws(size, func(draws []int) bool {
			var result [6]int
			copy(result[:], Shuffle(upTo(size), draws))
			results[result]++
			return true
		})
		orders := 0
		eachOrder(upTo(size), func(order []int) {
			orders++
			var want [6]int
			copy(want[:], order)
			if results[want] != 1 {
				t.Errorf("%v results from %d choices of draws, want 1", order, results[want])
			}
		})
		if len(results) != orders {
			t.Errorf("%d lists result from %d numbers, want %d", len(results), size, orders)
		}
	}
}
