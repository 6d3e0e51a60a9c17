package tests

import (
	"math"
	"testing"

	"loop.example/linkboy/impl"
)

// farByWords counts how often one more, mod NumMod, leads from one number to another one, with the bound written out.
func farByWords(from int, to int) int {
	steps := 0
	for from != to {
		from++
		if from == 8 {
			from = 0
		}
		steps++
	}
	return steps
}

// noNumbers is what is none of the numbers: at their bounds, and far beyond, some of it a number mod 8.
func noNumbers() []int {
	list := append(farNumbers(), 8, 9, 15, 63, 64, math.MaxInt-7, math.MinInt+1, math.MinInt+8)
	for n := 8; n <= 40; n++ {
		list = append(list, n, -n, 1-n)
	}
	for n := -7; n < 0; n++ {
		list = append(list, n)
	}
	return list
}

// greatNumbers is numbers far on, each with the one it comes round at.
func greatNumbers() [][2]int {
	list := [][2]int{
		{1 << 16, 0}, {1<<16 - 1, 7}, {1_000_003, 3}, {math.MaxInt32, 7}, {math.MaxInt32 - 7, 0},
		{math.MaxInt, 7}, {math.MaxInt - 1, 6}, {math.MaxInt - 6, 1}, {math.MaxInt - 7, 0}, {math.MaxInt - 8, 7},
		{math.MaxInt / 2, 7}, {math.MaxInt/2 + 1, 0},
	}
	for shift := 3; shift < 31; shift++ {
		for n := range 8 {
			list = append(list, [2]int{1<<shift + n, n})
		}
	}
	return list
}

func TestNumNextOfEachNumber(t *testing.T) {
	for n, want := range []int{1, 2, 3, 4, 5, 6, 7, 0} {
		if got := impl.NumNext(n); got != want {
			t.Errorf("NumNext(%d) = %d, want %d", n, got, want)
		}
	}
}

func TestNumNextBehindTheLastOne(t *testing.T) {
	if got := impl.NumNext(impl.NumMod - 1); got != 0 {
		t.Errorf("NumNext of the last one = %d", got)
	}
}

// The chapter names no answer of its own for NumNext of what is no number: one more, mod NumMod, holds there as well, in 0..NumMod-1 below 0, too.
func TestNumNextOfNoNumber(t *testing.T) {
	rows := [][2]int{
		{8, 1}, {9, 2}, {14, 7}, {15, 0}, {16, 1}, {63, 0}, {64, 1}, {1000, 1},
		{-1, 0}, {-2, 7}, {-7, 2}, {-8, 1}, {-9, 0}, {-10, 7},
		{math.MaxInt, 0}, {math.MaxInt - 1, 7}, {math.MaxInt - 7, 1},
		{math.MinInt, 1}, {math.MinInt + 1, 2}, {math.MinInt + 6, 7}, {math.MinInt + 7, 0},
	}
	for _, r := range rows {
		if got := impl.NumNext(r[0]); got != r[1] {
			t.Errorf("NumNext(%d) = %d, want %d", r[0], got, r[1])
		}
	}
	for _, n := range noNumbers() {
		if got := impl.NumNext(n); got < 0 || got > 7 {
			t.Errorf("NumNext(%d) = %d: no number", n, got)
		}
	}
}

func TestNumFarKnown(t *testing.T) {
	rows := [][3]int{
		{0, 0, 0}, {0, 1, 1}, {0, 7, 7}, {7, 0, 1}, {1, 0, 7}, {7, 7, 0}, {7, 6, 7},
		{6, 1, 3}, {1, 6, 5}, {2, 2, 0}, {3, 7, 4}, {7, 3, 4},
	}
	for _, r := range rows {
		if got := impl.NumFar(r[0], r[1]); got != r[2] {
			t.Errorf("NumFar(%d, %d) = %d, want %d", r[0], r[1], got, r[2])
		}
	}
}

func TestNumFarOfEachToEach(t *testing.T) {
	for from := range 8 {
		for to := range 8 {
			if got, want := impl.NumFar(from, to), farByWords(from, to); got != want {
				t.Errorf("NumFar(%d, %d) = %d, want %d", from, to, got, want)
			}
		}
	}
}

func TestNumFarOfNoNumber(t *testing.T) {
	for _, none := range noNumbers() {
		for n := range 8 {
			if got := impl.NumFar(none, n); got != -1 {
				t.Fatalf("NumFar(%d, %d) = %d, want -1", none, n, got)
			}
			if got := impl.NumFar(n, none); got != -1 {
				t.Fatalf("NumFar(%d, %d) = %d, want -1", n, none, got)
			}
		}
		for _, other := range noNumbers() {
			if got := impl.NumFar(none, other); got != -1 {
				t.Fatalf("NumFar(%d, %d) = %d, want -1", none, other, got)
			}
		}
	}
}

func TestNumOfRoundAndRound(t *testing.T) {
	want := 0
	for n := range 8 * 1300 {
		if got := impl.NumOf(n); got != want {
			t.Fatalf("NumOf(%d) = %d, want %d", n, got, want)
		}
		want++
		if want == 8 {
			want = 0
		}
	}
}

func TestNumOfGreatNumbers(t *testing.T) {
	for _, r := range greatNumbers() {
		if got := impl.NumOf(r[0]); got != r[1] {
			t.Errorf("NumOf(%d) = %d, want %d", r[0], got, r[1])
		}
	}
}

func TestNumOfBelowZero(t *testing.T) {
	list := []int{math.MinInt32, math.MinInt, math.MinInt + 1, math.MinInt + 7, math.MinInt + 8, -math.MaxInt}
	for n := -300; n < 0; n++ {
		list = append(list, n)
	}
	for _, n := range list {
		if got := impl.NumOf(n); got != -1 {
			t.Errorf("NumOf(%d) = %d, want -1", n, got)
		}
	}
}

// Promise 16: NumFar from a number to the one behind it is 1, and to itself 0.
func TestPromise16BehindItAndItself(t *testing.T) {
	for n := range impl.NumMod {
		if got := impl.NumFar(n, impl.NumNext(n)); got != 1 {
			t.Errorf("NumFar(%d, NumNext) = %d", n, got)
		}
		if got := impl.NumFar(n, n); got != 0 {
			t.Errorf("NumFar(%d, %d) = %d", n, n, got)
		}
	}
}

// Promise 16: from one on to another one, and from there on back, it is NumMod together, or nothing.
func TestPromise16ThereAndBack(t *testing.T) {
	for from := range impl.NumMod {
		for to := range impl.NumMod {
			want := impl.NumMod
			if from == to {
				want = 0
			}
			if got := impl.NumFar(from, to) + impl.NumFar(to, from); got != want {
				t.Errorf("from %d to %d and back it is %d, want %d", from, to, got, want)
			}
		}
	}
}

// Promise 16: so many times NumNext leads there; and none fewer times, as all on the way differ.
func TestPromise16SoManyTimes(t *testing.T) {
	for from := range impl.NumMod {
		for to := range impl.NumMod {
			far := impl.NumFar(from, to)
			if far < 0 || far >= impl.NumMod {
				t.Fatalf("NumFar(%d, %d) = %d", from, to, far)
			}
			at := from
			for range far {
				if at == to {
					t.Fatalf("from %d to %d it is fewer times than %d", from, to, far)
				}
				at = impl.NumNext(at)
			}
			if at != to {
				t.Fatalf("%d times NumNext leads from %d to %d, not %d", far, from, at, to)
			}
		}
	}
}

// Promise 16: NumNext goes through all numbers, and comes round.
func TestPromise16AllNumbers(t *testing.T) {
	for from := range impl.NumMod {
		var seen [impl.NumMod]bool
		at := from
		for range impl.NumMod {
			if at < 0 || at >= impl.NumMod || seen[at] {
				t.Fatalf("from %d on NumNext comes to %d: no number, or one for the second time", from, at)
			}
			seen[at] = true
			at = impl.NumNext(at)
		}
		if at != from {
			t.Fatalf("from %d on NumNext comes round at %d", from, at)
		}
	}
}

// fromZeroOn is what promise 17 is held for: some thousands, and great numbers.
func fromZeroOn() []int {
	var list []int
	for n := range 10100 {
		list = append(list, n)
	}
	for _, r := range greatNumbers() {
		list = append(list, r[0])
	}
	return list
}

// Promise 17: NumOf of the next one is NumNext of it.
func TestPromise17NextOne(t *testing.T) {
	for _, n := range fromZeroOn() {
		if n == math.MaxInt {
			continue // there is no next one
		}
		if got, want := impl.NumOf(n+1), impl.NumNext(impl.NumOf(n)); got != want {
			t.Fatalf("NumOf(%d) = %d, NumNext of the one ahead is %d", n+1, got, want)
		}
	}
}

// Promise 17: NumOf of what is NumMod on is the same; of one to NumMod-1 on it is so many on.
func TestPromise17SoManyOn(t *testing.T) {
	for _, n := range fromZeroOn() {
		for on := 0; on <= impl.NumMod && n <= math.MaxInt-on; on++ {
			if got := impl.NumFar(impl.NumOf(n), impl.NumOf(n+on)); got != on%impl.NumMod {
				t.Fatalf("from NumOf(%d) to NumOf(%d) it is %d", n, n+on, got)
			}
		}
		if n <= math.MaxInt-impl.NumMod && impl.NumOf(n+impl.NumMod) != impl.NumOf(n) {
			t.Fatalf("NumOf(%d) = %d, NumMod on it is %d", n, impl.NumOf(n), impl.NumOf(n+impl.NumMod))
		}
	}
}

// Promise 17: what has a number has one in 0..NumMod-1, and that is its own.
func TestPromise17NumberOfANumber(t *testing.T) {
	for _, n := range fromZeroOn() {
		got := impl.NumOf(n)
		if got < 0 || got >= impl.NumMod || impl.NumOf(got) != got {
			t.Fatalf("NumOf(%d) = %d", n, got)
		}
		if n < impl.NumMod && got != n {
			t.Fatalf("NumOf(%d) = %d", n, got)
		}
	}
}

// Promise 68: NumFar from a first to a second, and from that to a third, together, mod NumMod, is that from the first to the third.
func TestPromise68WaysAddUp(t *testing.T) {
	for a := range impl.NumMod {
		for b := range impl.NumMod {
			for c := range impl.NumMod {
				both := (impl.NumFar(a, b) + impl.NumFar(b, c)) % impl.NumMod
				if got := impl.NumFar(a, c); got != both {
					t.Errorf("NumFar(%d, %d) = %d, by %d it is %d", a, c, got, b, both)
				}
			}
		}
	}
}

// Promise 68 speaks of numbers: where one of the three is none, each way from it or to it is -1.
func TestPromise68NoNumber(t *testing.T) {
	for _, none := range noNumbers() {
		for n := range impl.NumMod {
			if impl.NumFar(n, none) != -1 || impl.NumFar(none, n) != -1 || impl.NumFar(none, none) != -1 {
				t.Fatalf("a way leads by %d, which is no number", none)
			}
		}
	}
}

func TestNumbersKeepNothingBetweenCalls(t *testing.T) {
	between := append(noNumbers(), 0, 3, 7)
	for from := range 8 {
		for to := range 8 {
			for _, n := range between {
				impl.NumNext(n)
				impl.NumFar(n, to)
				impl.NumFar(from, n)
				impl.NumOf(n)
				if impl.NumFar(from, to) != farByWords(from, to) || impl.NumNext(from) != (from+1)%8 || impl.NumOf(8*to+from) != from {
					t.Fatalf("an answer of %d and %d hangs on the calls of %d ahead of it", from, to, n)
				}
			}
		}
	}
}
