package sat

import (
	"math"
	"math/bits"
	"testing"
	"time"

	"trident/api"
)

// edges are numbers around every place where arithmetic of powers changes.
var edges = []int{
	math.MinInt, math.MinInt + 1, math.MinInt/2 - 1, math.MinInt32, -2000, -1999, -1998, -1000, -999, -998, -500, -499, -33, -32, -31, -1,
	0, 1, 31, 32, 33, 499, 500, 998, 999, 1000, 1998, 1999, 2000, math.MaxInt32, math.MaxInt/2 + 1, math.MaxInt - 1, math.MaxInt,
}

func equal(t *testing.T, what string, got, want int) {
	t.Helper()
	if got != want {
		t.Errorf("%s is %d, want %d", what, got, want)
	}
}

// P1.1: the nearest power.

func TestClamp(t *testing.T) {
	for n := -api.MaxPower; n <= api.MaxPower; n++ {
		if got := Clamp(n); got != n {
			t.Fatalf("Clamp(%d) is %d, want the power itself", n, got)
		}
	}
	equal(t, "Clamp(1000)", Clamp(1000), 999)
	equal(t, "Clamp(-1000)", Clamp(-1000), -999)
	equal(t, "Clamp of the greatest int", Clamp(math.MaxInt), 999)
	equal(t, "Clamp of the least int", Clamp(math.MinInt), -999)
}

// P1.1: Add, Sub and Mul clamp their arguments and their result.

func TestAdd(t *testing.T) {
	for _, c := range []struct{ a, b, want int }{
		{2, 3, 5}, {-2, -3, -5}, {7, -7, 0}, {900, 200, 999}, {-900, -200, -999}, {999, 0, 999}, {998, 1, 999}, {999, 1, 999}, {-999, -1, -999},
		{5000, -1, 998}, {-5000, 1, -998}, {5000, -5000, 0}, {math.MaxInt, -1, 998}, {math.MinInt, 1, -998},
		{math.MaxInt, math.MaxInt, 999}, {math.MinInt, math.MinInt, -999}, {math.MaxInt, math.MinInt, 0},
	} {
		if got := Add(c.a, c.b); got != c.want {
			t.Errorf("Add(%d, %d) is %d, want %d", c.a, c.b, got, c.want)
		}
	}
}

func TestSub(t *testing.T) {
	for _, c := range []struct{ a, b, want int }{
		{2, 3, -1}, {3, 2, 1}, {-2, -3, 1}, {-900, 200, -999}, {900, -200, 999}, {0, 999, -999}, {-998, 1, -999}, {-999, 1, -999},
		{5000, 1, 998}, {1, 5000, -998}, {-5000, -1, -998}, {5000, 5000, 0}, {0, math.MinInt, 999}, {0, math.MaxInt, -999},
		{math.MaxInt, math.MinInt, 999}, {math.MinInt, math.MaxInt, -999}, {math.MinInt, math.MinInt, 0},
	} {
		if got := Sub(c.a, c.b); got != c.want {
			t.Errorf("Sub(%d, %d) is %d, want %d", c.a, c.b, got, c.want)
		}
	}
}

func TestMul(t *testing.T) {
	// The product of half and half as ints wraps around to 0.
	const half = 1 << (bits.UintSize / 2)
	for _, c := range []struct{ a, b, want int }{
		{2, 3, 6}, {-2, 3, -6}, {-2, -3, 6}, {0, 999, 0}, {40, 30, 999}, {-40, 30, -999}, {-40, -30, 999}, {27, 37, 999}, {31, 32, 992}, {500, 2, 999},
		{5000, -1, -999}, {-5000, 1, -999}, {half, half, 999}, {math.MaxInt, 0, 0}, {math.MinInt, -1, 999},
		{math.MaxInt, math.MaxInt, 999}, {math.MinInt, math.MinInt, 999}, {math.MaxInt, math.MinInt, -999},
	} {
		if got := Mul(c.a, c.b); got != c.want {
			t.Errorf("Mul(%d, %d) is %d, want %d", c.a, c.b, got, c.want)
		}
	}
}

func TestClampedArguments(t *testing.T) {
	for _, a := range edges {
		equal(t, "Neg", Neg(a), -Clamp(a))
		for _, b := range edges {
			x, y := Clamp(a), Clamp(b)
			equal(t, "Add", Add(a, b), Clamp(x+y))
			equal(t, "Sub", Sub(a, b), Clamp(x-y))
			equal(t, "Mul", Mul(a, b), Clamp(x*y))
		}
	}
}

func TestNeg(t *testing.T) {
	equal(t, "Neg(0)", Neg(0), 0)
	equal(t, "Neg(-5)", Neg(-5), 5)
	equal(t, "Neg(5)", Neg(5), -5)
	equal(t, "Neg(999)", Neg(999), -999)
	equal(t, "Neg(1000)", Neg(1000), -999)
	equal(t, "Neg(-1000)", Neg(-1000), 999)
	equal(t, "Neg of the least int", Neg(math.MinInt), 999)
	equal(t, "Neg of the greatest int", Neg(math.MaxInt), -999)
}

// P1.1: Sum starts with 0 and adds from left to right.

func TestSum(t *testing.T) {
	for _, c := range []struct {
		list []int
		want int
	}{
		{nil, 0}, {[]int{}, 0}, {[]int{7}, 7}, {[]int{1, 2, 3}, 6}, {[]int{5000}, 999}, {[]int{-5000}, -999},
		{[]int{900, 200, -100}, 899}, {[]int{-100, 900, 200}, 999}, {[]int{-900, -200, 100}, -899},
		{[]int{5000, -1}, 998}, {[]int{-1, 5000}, 998}, {[]int{999, 999, -999, -999}, -999}, {[]int{999, -999, 999, -999}, 0},
		{[]int{math.MaxInt, math.MaxInt, -1}, 998}, {[]int{math.MinInt, math.MinInt, 1}, -998}, {[]int{math.MaxInt, math.MinInt}, 0},
	} {
		if got := Sum(c.list...); got != c.want {
			t.Errorf("Sum of %v is %d, want %d", c.list, got, c.want)
		}
	}
	equal(t, "Sum()", Sum(), 0)
}

// R3: the caller's list stays as it is, beyond its length too.

func TestSumKeepsTheList(t *testing.T) {
	list := []int{5000, -5000, 7, 8}
	Sum(list[:2]...)
	for i, want := range []int{5000, -5000, 7, 8} {
		equal(t, "an element after Sum", list[i], want)
	}
}

// P1.2: doubled times times in sequence.

func TestDouble(t *testing.T) {
	for _, c := range []struct{ n, times, want int }{
		{3, 0, 3}, {3, 1, 6}, {3, 2, 12}, {-3, 2, -12}, {0, 5, 0}, {1, 9, 512}, {1, 10, 999}, {-1, 9, -512}, {-1, 10, -999},
		{700, 1, 999}, {-700, 1, -999}, {499, 1, 998}, {500, 1, 999}, {999, 3, 999}, {-999, 3, -999},
		{5, -1, 5}, {5, math.MinInt, 5}, {5000, 0, 999}, {-5000, 0, -999}, {5000, -1, 999}, {-5000, -7, -999},
		{math.MaxInt, 1, 999}, {math.MinInt, 1, -999}, {math.MinInt, -1, -999},
	} {
		if got := Double(c.n, c.times); got != c.want {
			t.Errorf("Double(%d, %d) is %d, want %d", c.n, c.times, got, c.want)
		}
	}
}

func TestDoubleIsRepeatedAdd(t *testing.T) {
	for _, n := range edges {
		want := Clamp(n)
		for times := range 15 {
			equal(t, "Double", Double(n, times), want)
			want = Add(want, want)
		}
	}
}

func TestDoubleManyTimesEnds(t *testing.T) {
	done := make(chan [4]int, 1)
	go func() {
		done <- [4]int{Double(0, math.MaxInt), Double(1, math.MaxInt), Double(-1, math.MaxInt), Double(math.MinInt, math.MaxInt)}
	}()
	select {
	case got := <-done:
		if want := [4]int{0, 999, -999, -999}; got != want {
			t.Errorf("doubled as often as can be: %v, want %v", got, want)
		}
	case <-time.After(10 * time.Second):
		t.Fatal("Double does not end for a very large times")
	}
}

// P1.2: Holds compares its arguments as they are passed.

func TestHolds(t *testing.T) {
	for _, a := range edges {
		for _, b := range edges {
			for op, want := range map[int]bool{api.Lt: a < b, api.Le: a <= b, api.Eq: a == b, api.Ne: a != b, api.Ge: a >= b, api.Gt: a > b} {
				if got := Holds(op, a, b); got != want {
					t.Errorf("Holds(%d, %d, %d) is %t", op, a, b, got)
				}
			}
		}
	}
}

func TestHoldsBeyondTheBounds(t *testing.T) {
	for _, c := range []struct {
		op, a, b int
		want     bool
	}{
		{api.Eq, 1000, 999, false}, {api.Gt, 1000, 999, true}, {api.Lt, 999, 1000, true}, {api.Ne, -1000, -999, true}, {api.Lt, -1000, -999, true},
		{api.Eq, 2000, 2000, true}, {api.Gt, 3000, 2000, true}, {api.Lt, math.MinInt, math.MaxInt, true}, {api.Ge, math.MinInt, math.MaxInt, false},
	} {
		if got := Holds(c.op, c.a, c.b); got != c.want {
			t.Errorf("Holds(%d, %d, %d) is %t", c.op, c.a, c.b, got)
		}
	}
}

func TestHoldsOfNoOp(t *testing.T) {
	for _, op := range []int{math.MinInt, -1, 0, 7, 8, 255, math.MaxInt} {
		for _, b := range []int{-1, 0, 1} {
			if Holds(op, 0, b) {
				t.Errorf("Holds(%d, 0, %d) is true, but there is no such op", op, b)
			}
		}
	}
}

// P1.3: Add is commutative, and monotone in each argument.

func TestAddIsCommutativeAndMonotone(t *testing.T) {
	for a := -1002; a <= 1002; a++ {
		for b := -1002; b <= 1002; b++ {
			sum := Add(a, b)
			if Add(b, a) != sum {
				t.Fatalf("Add(%d, %d) and Add(%d, %d) differ", a, b, b, a)
			}
			if Add(a+1, b) < sum || Add(a, b+1) < sum {
				t.Fatalf("Add(%d, %d) is more than with a greater argument", a, b)
			}
		}
	}
}

func TestAddOfExtremesIsCommutativeAndMonotone(t *testing.T) {
	for i, a := range edges {
		for _, b := range edges {
			if Add(a, b) != Add(b, a) {
				t.Errorf("Add(%d, %d) and Add(%d, %d) differ", a, b, b, a)
			}
			if i > 0 && (Add(edges[i-1], b) > Add(a, b) || Add(b, edges[i-1]) > Add(b, a)) {
				t.Errorf("Add is not monotone from %d to %d, with %d", edges[i-1], a, b)
			}
		}
	}
}

// The bracketed remark of P1.3: with three summands the order matters.

func TestOrderOfSummandsMatters(t *testing.T) {
	if left, right := Add(Add(900, 200), -100), Add(900, Add(200, -100)); left != 899 || right != 999 {
		t.Errorf("900, 200, -100: %d from the left, %d from the right, want 899 and 999", left, right)
	}
}
