package tests

import (
	"bytes"
	"math"
	"testing"

	"loop.example/linkboy/impl"
)

// stepByWords is chapter 1's words for CrcStep, without a bit operation where the words have none.
func stepByWords(sum int, b byte) int {
	sum = sum ^ int(b)
	for n := 0; n < 8; n++ {
		half := (sum - sum%2) / 2
		if sum%2 != 0 {
			half = half ^ 40961
		}
		sum = half
	}
	return sum
}

func sumByWords(list []byte) int {
	sum := 0
	for _, b := range list {
		sum = stepByWords(sum, b)
	}
	return sum
}

func putByWords(list []byte) []byte {
	sum := sumByWords(list)
	out := make([]byte, len(list)+2)
	copy(out, list)
	out[len(list)] = byte(sum % 256)
	out[len(list)+1] = byte(sum / 256)
	return out
}

// mixedBytes is the same bytes for the same seed on every run.
func mixedBytes(seed uint32, size int) []byte {
	x := seed*2654435761 + 12345
	list := make([]byte, size)
	for i := range list {
		x = x*1664525 + 1013904223
		list[i] = byte(x >> 24)
	}
	return list
}

func sameBytes(size int, b byte) []byte {
	return bytes.Repeat([]byte{b}, size)
}

// sampleLists has no bytes, each single byte, each size up to 64, and some sizes about a table's and a sum's bounds.
func sampleLists() [][]byte {
	lists := [][]byte{nil, {}, []byte("123456789"), {0, 0}, {1, 0}, {0, 1}, {255, 255}}
	for b := range 256 {
		lists = append(lists, []byte{byte(b)})
	}
	for size := 2; size <= 64; size++ {
		lists = append(lists, mixedBytes(uint32(size), size), sameBytes(size, 0), sameBytes(size, 255))
	}
	for _, size := range []int{255, 256, 257, 1000, 4096, 65535, 65536, 65537} {
		lists = append(lists, mixedBytes(uint32(size), size))
	}
	return lists
}

// turned is a copy with one byte xor v.
func turned(list []byte, at int, v byte) []byte {
	out := bytes.Clone(list)
	out[at] ^= v
	return out
}

// inRoom is the same bytes with room ahead of them and behind their end, and all of that memory.
func inRoom(list []byte) (inside []byte, all []byte) {
	all = sameBytes(len(list)+24, 0xA5)
	copy(all[8:], list)
	return all[8 : 8+len(list)], all
}

// scribble turns all that a list may reach, its spare room included.
func scribble(list []byte) {
	list = list[:cap(list)]
	for i := range list {
		list[i] ^= 0xFF
	}
}

func TestCrcStepKnown(t *testing.T) {
	rows := []struct {
		sum  int
		b    byte
		want int
	}{
		{0, 0, 0},
		{0, 1, 49345},
		{0, 255, 16448},
		{0, 128, 40961},
		{1, 1, 0},
		{1, 0, 49345},
		{256, 0, 1},
		{65535, 0, 16575},
		{65535, 255, 255},
		{32768, 0, 128},
	}
	for _, r := range rows {
		if got := impl.CrcStep(r.sum, r.b); got != r.want {
			t.Errorf("CrcStep(%d, %d) = %d, want %d", r.sum, r.b, got, r.want)
		}
	}
}

func TestCrcStepOfEverySumAndByte(t *testing.T) {
	for sum := 0; sum <= 65535; sum++ {
		for b := range 256 {
			if got, want := impl.CrcStep(sum, byte(b)), stepByWords(sum, byte(b)); got != want {
				t.Fatalf("CrcStep(%d, %d) = %d, want %d", sum, b, got, want)
			}
		}
	}
}

func TestCrcStepOfNoSum(t *testing.T) {
	sums := []int{
		-1, -2, -255, -256, -65535, -65536, -65537,
		65536, 65537, 65791, 65792, 131071, 131072, 1 << 24,
		math.MaxInt32, math.MinInt32, math.MaxInt, math.MaxInt - 65535, math.MinInt, math.MinInt + 1,
	}
	for _, sum := range sums {
		for b := range 256 {
			if got := impl.CrcStep(sum, byte(b)); got != -1 {
				t.Fatalf("CrcStep(%d, %d) = %d, want -1", sum, b, got)
			}
		}
	}
}

// Promise 11: CrcStep is in 0 to 65535, and of one sum and two bytes it is two.
func TestPromise11TwoBytes(t *testing.T) {
	for sum := 0; sum <= 65535; sum++ {
		var seen [65536]bool
		for b := range 256 {
			n := impl.CrcStep(sum, byte(b))
			if n < 0 || n > 65535 {
				t.Fatalf("CrcStep(%d, %d) = %d: no sum", sum, b, n)
			}
			if seen[n] {
				t.Fatalf("CrcStep(%d, %d) = %d: as of another byte", sum, b, n)
			}
			seen[n] = true
		}
	}
}

// Promise 11: of two sums and one byte CrcStep is two.
func TestPromise11TwoSums(t *testing.T) {
	for b := range 256 {
		var seen [65536]bool
		for sum := 0; sum <= 65535; sum++ {
			n := impl.CrcStep(sum, byte(b))
			if n < 0 || n > 65535 || seen[n] {
				t.Fatalf("CrcStep(%d, %d) = %d: no sum, or as of another one", sum, b, n)
			}
			seen[n] = true
		}
	}
}

func TestCrcOfKnown(t *testing.T) {
	rows := []struct {
		list []byte
		want int
	}{
		{nil, 0},
		{[]byte{}, 0},
		{[]byte{0}, 0},
		{[]byte{0, 0, 0}, 0},
		{[]byte{1}, 49345},
		{[]byte{128}, 40961},
		{[]byte("A"), 12480},
		{[]byte("123456789"), 47933},
	}
	for _, r := range rows {
		if got := impl.CrcOf(r.list); got != r.want {
			t.Errorf("CrcOf(%v) = %d, want %d", r.list, got, r.want)
		}
	}
}

func TestCrcOfLeavesItsArgument(t *testing.T) {
	inside, all := inRoom(mixedBytes(3, 40))
	before := bytes.Clone(all)
	impl.CrcOf(inside)
	if !bytes.Equal(all, before) {
		t.Error("CrcOf wrote into its argument, or beside it")
	}
}

// Promise 12: CrcOf of bytes is CrcStep from 0 on.
func TestPromise12StepByStep(t *testing.T) {
	for _, list := range sampleLists() {
		sum := 0
		for _, b := range list {
			sum = impl.CrcStep(sum, b)
		}
		if got := impl.CrcOf(list); got != sum || got != sumByWords(list) {
			t.Fatalf("CrcOf of %d bytes = %d, want %d", len(list), got, sumByWords(list))
		}
	}
}

// Promise 12: CrcOf with one byte turned is another one.
func TestPromise12OneByteTurned(t *testing.T) {
	for size := 1; size <= 20; size++ {
		list := mixedBytes(uint32(size), size)
		sum := impl.CrcOf(list)
		for at := range size {
			for v := 1; v <= 255; v++ {
				if impl.CrcOf(turned(list, at, byte(v))) == sum {
					t.Fatalf("CrcOf(%v) is the same with byte %d turned by %d", list, at, v)
				}
			}
		}
	}
}

// Promise 12: CrcOf of bytes with their sum behind them is 0.
func TestPromise12WithItsSum(t *testing.T) {
	for _, list := range sampleLists() {
		if got := impl.CrcOf(putByWords(list)); got != 0 {
			t.Fatalf("CrcOf of %d bytes with their sum = %d", len(list), got)
		}
		if got := impl.CrcOf(impl.CrcPut(list)); got != 0 {
			t.Fatalf("CrcOf of CrcPut of %d bytes = %d", len(list), got)
		}
	}
}

func TestCrcPutKnown(t *testing.T) {
	for _, list := range sampleLists() {
		if got, want := impl.CrcPut(list), putByWords(list); !bytes.Equal(got, want) {
			t.Fatalf("CrcPut of %d bytes: %v, want %v", len(list), got, want)
		}
	}
	if got := impl.CrcPut([]byte("123456789")); !bytes.Equal(got, []byte("123456789\x3d\xbb")) {
		t.Errorf("CrcPut: %v", got)
	}
	if got := impl.CrcPut(nil); !bytes.Equal(got, []byte{0, 0}) {
		t.Errorf("CrcPut of no bytes: %v", got)
	}
}

func TestCrcPutSharesNothing(t *testing.T) {
	for _, size := range []int{0, 1, 2, 7, 8, 15, 40} {
		list := mixedBytes(uint32(size), size)
		inside, all := inRoom(list)
		before := bytes.Clone(all)
		first := impl.CrcPut(inside)
		if !bytes.Equal(all, before) {
			t.Fatalf("CrcPut of %d bytes wrote into its argument, or beside it", size)
		}
		second := impl.CrcPut(inside)
		scribble(first)
		if !bytes.Equal(all, before) {
			t.Fatalf("CrcPut of %d bytes shares memory with its argument", size)
		}
		if !bytes.Equal(second, putByWords(list)) {
			t.Fatalf("two answers of CrcPut of %d bytes share memory", size)
		}
		if third := impl.CrcPut(inside); !bytes.Equal(third, putByWords(list)) {
			t.Fatalf("CrcPut of %d bytes hangs on what became of an answer", size)
		}
		scribble(all)
		if !bytes.Equal(second, putByWords(list)) {
			t.Fatalf("CrcPut of %d bytes shares memory with its argument", size)
		}
	}
}

func TestCrcCutOfFewBytes(t *testing.T) {
	lists := [][]byte{nil, {}}
	for b := range 256 {
		lists = append(lists, []byte{byte(b)})
	}
	for _, list := range lists {
		if got, ok := impl.CrcCut(list); ok || len(got) != 0 {
			t.Fatalf("CrcCut(%v) = %v, %v", list, got, ok)
		}
		inside, _ := inRoom(list) // bytes behind the end are not its bytes
		if got, ok := impl.CrcCut(inside); ok || len(got) != 0 {
			t.Fatalf("CrcCut(%v), with room behind it, = %v, %v", list, got, ok)
		}
	}
}

func TestCrcCutSharesNothing(t *testing.T) {
	for _, size := range []int{0, 1, 2, 7, 8, 15, 40} {
		list := mixedBytes(uint32(size), size)
		inside, all := inRoom(putByWords(list))
		before := bytes.Clone(all)
		first, _ := impl.CrcCut(inside)
		second, _ := impl.CrcCut(inside)
		if !bytes.Equal(all, before) {
			t.Fatalf("CrcCut to %d bytes wrote into its argument, or beside it", size)
		}
		scribble(first)
		if !bytes.Equal(all, before) {
			t.Fatalf("CrcCut to %d bytes shares memory with its argument", size)
		}
		if !bytes.Equal(second, list) {
			t.Fatalf("two answers of CrcCut to %d bytes share memory", size)
		}
		scribble(all)
		if !bytes.Equal(second, list) {
			t.Fatalf("CrcCut to %d bytes shares memory with its argument", size)
		}
	}
}

func TestCrcCutOfWrongBytesLeavesThem(t *testing.T) {
	inside, all := inRoom(mixedBytes(9, 12))
	before := bytes.Clone(all)
	if got, ok := impl.CrcCut(inside); ok || len(got) != 0 {
		t.Fatalf("CrcCut(%v) = %v, %v", inside, got, ok)
	}
	if !bytes.Equal(all, before) {
		t.Error("CrcCut wrote into its argument, or beside it")
	}
}

// Promise 13: CrcCut of CrcPut of bytes is them.
func TestPromise13WhatIsPutIsCut(t *testing.T) {
	for _, list := range sampleLists() {
		if got, ok := impl.CrcCut(impl.CrcPut(list)); !ok || !bytes.Equal(got, list) {
			t.Fatalf("CrcCut of CrcPut of %d bytes: %d bytes, %v", len(list), len(got), ok)
		}
		if got, ok := impl.CrcCut(putByWords(list)); !ok || !bytes.Equal(got, list) {
			t.Fatalf("CrcCut of %d bytes with their sum: %d bytes, %v", len(list), len(got), ok)
		}
	}
}

// Promise 13: what is cut has, with its sum put, all the bytes; so of all two bytes that may stand behind some just one pair is cut.
func TestPromise13JustOneSumIsCut(t *testing.T) {
	for _, list := range [][]byte{nil, {0}, {1}, {255}, []byte("123456789"), mixedBytes(5, 15)} {
		cuts := 0
		for sum := 0; sum <= 65535; sum++ {
			all := append(bytes.Clone(list), byte(sum), byte(sum>>8))
			got, ok := impl.CrcCut(all)
			if !ok {
				if len(got) != 0 {
					t.Fatalf("CrcCut(%v) = %v beside false", all, got)
				}
				continue
			}
			cuts++
			if !bytes.Equal(impl.CrcPut(got), all) || !bytes.Equal(putByWords(got), all) {
				t.Fatalf("CrcCut(%v) = %v, whose bytes these are not", all, got)
			}
		}
		if cuts != 1 {
			t.Fatalf("behind %v %d sums are cut", list, cuts)
		}
	}
}

// Promise 13: with one bit turned, anywhere, nothing is cut.
func TestPromise13OneBitTurned(t *testing.T) {
	for size := 0; size <= 64; size++ {
		all := putByWords(mixedBytes(uint32(size), size))
		for bit := range 8 * len(all) {
			bent := turned(all, bit/8, 1<<(bit%8))
			if got, ok := impl.CrcCut(bent); ok || len(got) != 0 {
				t.Fatalf("CrcCut(%v), with bit %d turned, = %v, %v", bent, bit, got, ok)
			}
		}
	}
}

// Promise 13: with one byte turned, anywhere, nothing is cut.
func TestPromise13OneByteTurned(t *testing.T) {
	for size := 0; size <= 20; size++ {
		all := putByWords(mixedBytes(uint32(size)+100, size))
		for at := range all {
			for v := 1; v <= 255; v++ {
				bent := turned(all, at, byte(v))
				if got, ok := impl.CrcCut(bent); ok || len(got) != 0 {
					t.Fatalf("CrcCut(%v), with byte %d turned by %d, = %v, %v", bent, at, v, got, ok)
				}
			}
		}
	}
}

// Promise 65: CrcOf of bytes xor as many others is CrcOf of the ones xor that of the others.
func TestPromise65SumOfTwo(t *testing.T) {
	for size := range 300 {
		a, b := mixedBytes(uint32(size), size), mixedBytes(uint32(size)+7777, size)
		for _, pair := range [][2][]byte{{a, b}, {a, a}, {a, sameBytes(size, 0)}, {a, sameBytes(size, 255)}} {
			both := make([]byte, size)
			for i := range both {
				both[i] = pair[0][i] ^ pair[1][i]
			}
			if got, want := impl.CrcOf(both), impl.CrcOf(pair[0])^impl.CrcOf(pair[1]); got != want {
				t.Fatalf("CrcOf(%v xor %v) = %d, want %d", pair[0], pair[1], got, want)
			}
		}
	}
	for a := range 256 {
		for b := range 256 {
			got := impl.CrcOf([]byte{byte(a ^ b)})
			if want := impl.CrcOf([]byte{byte(a)}) ^ impl.CrcOf([]byte{byte(b)}); got != want {
				t.Fatalf("CrcOf of %d xor %d = %d, want %d", a, b, got, want)
			}
		}
	}
}

// Promise 66: with two bytes side by side turned, not both by nothing, CrcOf is another one.
func TestPromise66TwoBytesTurned(t *testing.T) {
	for _, list := range [][]byte{{0, 0}, {255, 255}, {1, 2, 3}, mixedBytes(11, 15)} {
		sum := impl.CrcOf(list)
		for at := range len(list) - 1 {
			for v := 1; v <= 65535; v++ {
				bent := turned(turned(list, at, byte(v)), at+1, byte(v>>8))
				if impl.CrcOf(bent) == sum {
					t.Fatalf("CrcOf(%v) is the same with bytes %d and %d turned by %d and %d", list, at, at+1, v&255, v>>8)
				}
			}
		}
	}
}

func TestSumsKeepNothingBetweenCalls(t *testing.T) {
	a, b := mixedBytes(21, 30), mixedBytes(22, 45)
	putA := impl.CrcPut(a)
	cutA, _ := impl.CrcCut(putA)
	for range 3 {
		impl.CrcStep(-1, 7)
		impl.CrcCut(a)
		impl.CrcCut(impl.CrcPut(b))
		if impl.CrcStep(0, 1) != 49345 || impl.CrcOf(b) != sumByWords(b) || impl.CrcOf(a) != sumByWords(a) {
			t.Fatal("a sum hangs on the calls ahead of it")
		}
		if !bytes.Equal(putA, putByWords(a)) || !bytes.Equal(cutA, a) {
			t.Fatal("an answer is turned by later calls")
		}
	}
}
