package hands

import (
	"math"
	"math/big"
	"math/rand"
	"slices"
	"testing"

	"trident/api"
	"trident/board"
	"trident/internal/games"
)

// amounts are numbers around all bounds, and extreme ones.
var amounts = slices.Concat([]int{
	-2000, -1999, -1998, -1997, -1009, -1008, -1007, -1001, -999, -998, -991, -990, -989, -100, -19, -18, -17, -11, -10, -9, -8, -7,
	-6, -5, -4, 0, 1, 2, 3, 4, 5, 6, 7, 8, 9, 10, 11, 17, 18, 19, 100, 989, 990, 991, 998, 999, 1000, 1001, 1007, 1008, 1009, 1997, 1998,
}, extremes)

// with returns full with that Energy and Bonus of the seat.
func with(seat, energy, bonus int) api.State {
	s := full()
	s.Players[seat].Energy, s.Players[seat].Bonus = energy, bonus
	return s
}

// middle returns the one of three numbers that is between the others.
func middle(a, b, c int) int {
	l := []int{a, b, c}
	slices.Sort(l)
	return l[1]
}

// bounded returns the sum of two numbers, each from -999 to 999, from least to 9.
func bounded(a, b, least int) int {
	return middle(middle(a, -999, 999)+middle(b, -999, 999), least, 9)
}

// checkBonus checks what Bonus answers.
func checkBonus(t *testing.T, what string, s api.State, seat, n int, want api.State) {
	t.Helper()
	before := games.Whole(s)
	checkState(t, what, s, before, Bonus(s, seat, n), want)
}

// checkGain checks what Gain answers.
func checkGain(t *testing.T, what string, s api.State, seat, round int, want api.State) {
	t.Helper()
	before := games.Whole(s)
	checkState(t, what, s, before, Gain(s, seat, round), want)
}

// checkPay checks what Pay answers.
func checkPay(t *testing.T, what string, s api.State, seat, n int, want api.State, ok bool) {
	t.Helper()
	before := games.Whole(s)
	got, gotOK := Pay(s, seat, n)
	if gotOK != ok {
		t.Fatalf("%s: Pay of %d of seat %d is %t, want %t", what, n, seat, gotOK, ok)
	}
	checkState(t, what, s, before, got, want)
}

// P23.3: some sums in full: of a Bonus and a number, and of a round and a Bonus.
func TestSomeSums(t *testing.T) {
	low, high := math.MinInt, math.MaxInt
	for _, c := range []struct{ bonus, n, after, energy int }{
		{0, 0, 0, 0},
		{0, 3, 3, 3},
		{2, 3, 5, 5},
		{-2, 5, 3, 3},
		{-5, 2, -3, 0},
		{-2, 2, 0, 0},
		{-3, 2, -1, 0},
		{-1, 2, 1, 1},
		{0, 9, 9, 9},
		{0, 10, 9, 9},
		{9, 0, 9, 9},
		{9, 1, 9, 9},
		{8, 1, 9, 9},
		{4, 4, 8, 8},
		{9, -1, 8, 8},
		{9, -9, 0, 0},
		{9, -18, -9, 0},
		{9, -19, -9, 0},
		{-9, 0, -9, 0},
		{-9, -1, -9, 0},
		{-8, -1, -9, 0},
		{-4, -4, -8, 0},
		{-9, 18, 9, 9},
		{-9, 17, 8, 8},
		{10, 0, 9, 9},
		{-10, 0, -9, 0},
		{999, -999, 0, 0},
		{1000, -999, 0, 0},
		{1005, -998, 1, 1},
		{5000, -995, 4, 4},
		{-5000, 1003, 0, 0},
		{-1000, 1005, 0, 0},
		{-996, 2000, 3, 3},
		{high, -999, 0, 0},
		{high, high, 9, 9},
		{high, 1, 9, 9},
		{low, low, -9, 0},
		{low, -1, -9, 0},
		{low, high, 0, 0},
		{high, low, 0, 0},
		{low, 1001, 0, 0},
		{1 << 32, -997, 2, 2},
	} {
		for seat := range 2 {
			checkBonus(t, "a sum", with(seat, 4, c.bonus), seat, c.n, with(seat, 4, c.after))
			checkGain(t, "a sum", with(seat, 4, c.bonus), seat, c.n, with(seat, c.energy, 0))
			checkGain(t, "the other sum", with(seat, -7, c.n), seat, c.bonus, with(seat, c.energy, 0))
		}
	}
}

// P23.3: all sums of numbers around the bounds and of extreme ones; the Energy before Gain does
// not matter, and Bonus does not change it.
func TestBonusAndGain(t *testing.T) {
	for i, bonus := range amounts {
		for k, n := range amounts {
			seat, energy := (i+k)%2, amounts[(i*7+k)%len(amounts)]
			s := with(seat, energy, bonus)
			checkBonus(t, "around the bounds", s, seat, n, with(seat, energy, bounded(bonus, n, -9)))
			checkGain(t, "around the bounds", s, seat, n, with(seat, bounded(bonus, n, 0), 0))
		}
	}
}

// P23.3: the energy of each round.
func TestGainOfEachRound(t *testing.T) {
	for round := 1; round <= 7; round++ {
		for bonus := -9; bonus <= 9; bonus++ {
			energy := [...]int{0, 0, 0, 0, 0, 0, 0, 0, 0, 0, 1, 2, 3, 4, 5, 6, 7, 8, 9, 9, 9, 9, 9, 9, 9, 9, 9}[9+round+bonus]
			checkGain(t, "a round", with(1, 5, bonus), 1, round, with(1, energy, 0))
		}
	}
}

// P23.3: each amount of each energy, also of energies that occur in no game.
func TestPay(t *testing.T) {
	for i, energy := range amounts {
		for k, n := range amounts {
			seat := (i + k) % 2
			rest := new(big.Int).Sub(big.NewInt(int64(energy)), big.NewInt(int64(n)))
			s := with(seat, energy, 3)
			if rest.Sign() < 0 || n < 0 {
				checkPay(t, "too much or too little", s, seat, n, s, false)
			} else {
				checkPay(t, "enough energy", s, seat, n, with(seat, int(rest.Int64()), 3), true)
			}
		}
	}
}

// P23.3: some payments in full.
func TestSomePayments(t *testing.T) {
	low, high := math.MinInt, math.MaxInt
	for _, c := range []struct {
		energy, n, rest int
		ok              bool
	}{
		{0, 0, 0, true}, {0, 1, 0, false}, {0, -1, 0, false},
		{5, 0, 5, true}, {5, 1, 4, true}, {5, 4, 1, true}, {5, 5, 0, true}, {5, 6, 5, false}, {5, -1, 5, false}, {5, -5, 5, false},
		{9, 9, 0, true}, {9, 10, 9, false}, {9, -9, 9, false},
		{10, 10, 0, true}, {1000, 1, 999, true}, {1000, 1000, 0, true}, {1000, 1001, 1000, false}, {5000, 2, 4998, true},
		{-1, 0, -1, false}, {-1, -1, -1, false}, {-3, -5, -3, false}, {-3, 1, -3, false}, {-5, -3, -5, false},
		{high, high, 0, true}, {high, 0, high, true}, {high, 1, high - 1, true}, {high - 1, high, high - 1, false}, {high, low, high, false},
		{low, low, low, false}, {low, 0, low, false}, {low, high, low, false}, {low, 1, low, false}, {0, low, 0, false}, {0, high, 0, false},
		{1 << 32, 1, 1<<32 - 1, true}, {1, 1 << 32, 1, false},
	} {
		for seat := range 2 {
			checkPay(t, "a payment", with(seat, c.energy, -2), seat, c.n, with(seat, c.rest, -2), c.ok)
		}
	}
}

// P23.3: the energy of a seat that does not exist.
func TestEnergyOfNoSeat(t *testing.T) {
	for _, s := range []api.State{{}, board.Empty(), full(), with(0, 99, 88)} {
		for _, seat := range noSeats {
			for _, n := range []int{math.MinInt, -1, 0, 1, 3, 9, math.MaxInt} {
				checkBonus(t, "no seat", s, seat, n, s)
				checkGain(t, "no seat", s, seat, n, s)
				checkPay(t, "no seat", s, seat, n, s, false)
			}
		}
	}
}

// P23.3: the energy in any states.
func TestEnergyInDrawnStates(t *testing.T) {
	draws := rand.New(rand.NewSource(4))
	for _, s := range drawnStates(5, 600) {
		for range 6 {
			seat, n := draws.Intn(4)-1, amounts[draws.Intn(len(amounts))]
			bonus, gain, pay, paid := s, s, s, false
			if seat == 0 || seat == 1 {
				p := s.Players[seat]
				bonus.Players[seat].Bonus = bounded(p.Bonus, n, -9)
				gain.Players[seat].Energy, gain.Players[seat].Bonus = bounded(n, p.Bonus, 0), 0
				if n >= 0 && p.Energy >= n {
					pay.Players[seat].Energy, paid = p.Energy-n, true
				}
			}
			checkBonus(t, "drawn", s, seat, n, bonus)
			checkGain(t, "drawn", s, seat, n, gain)
			checkPay(t, "drawn", s, seat, n, pay, paid)
		}
	}
}

// P23.3: numbers that are possible in a game remain so.
func TestEnergyRemainsRight(t *testing.T) {
	pen := games.Pen{Draw: rand.New(rand.NewSource(5)).Intn}
	for range 300 {
		s := pen.Right(20, 9)
		for _, n := range amounts {
			paid, _ := Pay(s, pen.Draw(2), n)
			for i, after := range []api.State{Bonus(s, pen.Draw(2), n), Gain(s, pen.Draw(2), n), paid} {
				if !board.Right(after) {
					t.Fatalf("the result %d for %d and %v is %v", i, n, s, after)
				}
			}
		}
	}
}
