package tests

import (
	"bytes"
	"math"
	"slices"
	"testing"

	"loop.example/linkboy/impl"
)

// cutByWords is chapter 4's words for SegCut, with the bounds written out: which piece a byte is in is told by its place.
func cutByWords(sdu []byte, most int) []impl.SegPart {
	if len(sdu) > 24 || most < 1 || most > 8 {
		return nil
	}
	if len(sdu) <= most {
		return []impl.SegPart{{Seg: 0, Len: len(sdu), Data: sdu}}
	}
	list := make([]impl.SegPart, (len(sdu)-1)/most+1)
	for i, b := range sdu {
		list[i/most].Data = append(list[i/most].Data, b)
	}
	for i := range list {
		list[i].Seg = 2
	}
	list[0].Seg, list[0].Len = 1, len(sdu)
	list[len(list)-1].Seg = 3
	return list
}

// joinOkByWords is chapter 4's words for what has come of a message.
func joinOkByWords(length int, size int) bool {
	nothing := length == 0 && size == 0
	return nothing || length >= 2 && length <= 24 && size >= 1 && size <= length-1
}

// fitByWords is chapter 4's "it fits".
func fitByWords(j impl.SegJoin, p impl.SegPart) bool {
	something := len(j.Got) > 0
	with := len(j.Got) + len(p.Data)
	switch p.Seg {
	case 0, 1:
		return !something
	case 2:
		return something && with < j.Len
	}
	return something && with == j.Len
}

// joinByWords is chapter 4's words for SegPut.
func joinByWords(j impl.SegJoin, p impl.SegPart) (impl.SegJoin, []byte, int) {
	if !joinOkByWords(j.Len, len(j.Got)) || !partByWords(p.Seg, p.Len, len(p.Data)) {
		return impl.SegJoin{}, nil, 0
	}
	if !fitByWords(j, p) {
		return impl.SegJoin{}, nil, 3
	}
	all := slices.Concat(j.Got, p.Data)
	switch p.Seg {
	case 1:
		return impl.SegJoin{Len: p.Len, Got: all}, nil, 1
	case 2:
		return impl.SegJoin{Len: j.Len, Got: all}, nil, 1
	}
	return impl.SegJoin{}, all, 2
}

func partSame(a impl.SegPart, b impl.SegPart) bool {
	return a.Seg == b.Seg && a.Len == b.Len && bytes.Equal(a.Data, b.Data)
}

func joinSame(a impl.SegJoin, b impl.SegJoin) bool {
	return a.Len == b.Len && bytes.Equal(a.Got, b.Got)
}

func noJoin(j impl.SegJoin) bool {
	return j.Len == 0 && len(j.Got) == 0
}

// okParts is every Seg, Len and size of Data that a piece may have.
func okParts() []impl.SegPart {
	var list []impl.SegPart
	for _, f := range okPieces() {
		list = append(list, impl.SegPart{Seg: f.Seg, Len: f.Len, Data: f.Data})
	}
	return list
}

// okJoins is nothing, and every Len with every size of Got that may have come.
func okJoins() []impl.SegJoin {
	list := []impl.SegJoin{{}}
	for length := 2; length <= 24; length++ {
		for size := 1; size < length; size++ {
			list = append(list, impl.SegJoin{Len: length, Got: mixedBytes(uint32(32*length+size), size)})
		}
	}
	return list
}

// badParts is pieces that are not ok: at each bound one beyond, and far beyond.
func badParts() []impl.SegPart {
	list := []impl.SegPart{
		{Seg: 0, Len: 1}, {Seg: 0, Len: -1}, {Seg: 0, Len: 0, Data: []byte{1}}, {Seg: 0, Len: 2, Data: []byte{1}},
		{Seg: 0, Len: 9, Data: sameBytes(9, 1)}, {Seg: 0, Len: 24, Data: sameBytes(24, 1)},
		{Seg: 1}, {Seg: 1, Len: 2}, {Seg: 1, Len: 1, Data: []byte{1}}, {Seg: 1, Len: 0, Data: []byte{1}},
		{Seg: 1, Len: 25, Data: []byte{1}}, {Seg: 1, Len: 8, Data: sameBytes(8, 1)}, {Seg: 1, Len: 10, Data: sameBytes(9, 1)},
		{Seg: 2}, {Seg: 2, Len: 1, Data: []byte{1}}, {Seg: 2, Len: -1, Data: []byte{1}}, {Seg: 2, Data: sameBytes(9, 1)},
		{Seg: 3}, {Seg: 3, Len: 1, Data: []byte{1}}, {Seg: 3, Len: -1, Data: []byte{1}}, {Seg: 3, Data: sameBytes(9, 1)},
	}
	for _, seg := range append(farNumbers(), 4, 5, 6, 7) {
		list = append(list, impl.SegPart{Seg: seg}, impl.SegPart{Seg: seg, Data: []byte{1}}, impl.SegPart{Seg: seg, Len: 1, Data: []byte{1}}, impl.SegPart{Seg: seg, Len: 5, Data: []byte{1, 2}})
	}
	for _, n := range farNumbers() {
		for seg := range 4 {
			list = append(list, impl.SegPart{Seg: seg, Len: n}, impl.SegPart{Seg: seg, Len: n, Data: []byte{7, 7, 7}})
		}
	}
	return slices.DeleteFunc(list, func(p impl.SegPart) bool { return partByWords(p.Seg, p.Len, len(p.Data)) })
}

// badJoins is what has not come of any message.
func badJoins() []impl.SegJoin {
	list := []impl.SegJoin{
		{Len: 1}, {Len: 1, Got: []byte{1}}, {Len: 0, Got: []byte{1}}, {Len: 0, Got: []byte{1, 2}}, {Len: -1}, {Len: -1, Got: []byte{1}},
		{Len: 2}, {Len: 2, Got: []byte{1, 2}}, {Len: 2, Got: []byte{1, 2, 3}}, {Len: 24}, {Len: 24, Got: sameBytes(24, 1)}, {Len: 24, Got: sameBytes(25, 1)},
		{Len: 25}, {Len: 25, Got: []byte{1}}, {Len: 25, Got: sameBytes(24, 1)}, {Len: 0, Got: sameBytes(300, 1)},
	}
	for _, n := range farNumbers() {
		list = append(list, impl.SegJoin{Len: n}, impl.SegJoin{Len: n, Got: []byte{1}})
	}
	return slices.DeleteFunc(list, func(j impl.SegJoin) bool { return joinOkByWords(j.Len, len(j.Got)) })
}

// allMessages is a message of each size that may be, some with bytes all alike.
func allMessages() [][]byte {
	list := [][]byte{nil, {}}
	for size := range 25 {
		list = append(list, mixedBytes(uint32(size)+700, size), sameBytes(size, 0))
	}
	return list
}

// putAll puts pieces one behind the other, from nothing on: what comes of each, what messages come, and what is left.
func putAll(parts []impl.SegPart) (hows []int, messages [][]byte, left impl.SegJoin) {
	for _, p := range parts {
		var message []byte
		var how int
		left, message, how = impl.SegPut(left, p)
		hows = append(hows, how)
		if how == impl.JoinAll {
			messages = append(messages, message)
		}
	}
	return hows, messages, left
}

func wantJoin(t *testing.T, j impl.SegJoin, p impl.SegPart) {
	t.Helper()
	left, message, how := impl.SegPut(j, p)
	wantLeft, wantMessage, wantHow := joinByWords(j, p)
	if how != wantHow || !joinSame(left, wantLeft) || !bytes.Equal(message, wantMessage) {
		t.Fatalf("SegPut(%+v, %+v) = %+v, %v, %d, want %+v, %v, %d", j, p, left, message, how, wantLeft, wantMessage, wantHow)
	}
}

func TestJoinConstants(t *testing.T) {
	got := []int{impl.JoinMore, impl.JoinAll, impl.JoinBad}
	if want := []int{1, 2, 3}; !slices.Equal(got, want) {
		t.Errorf("constants %v, want %v", got, want)
	}
}

func TestSegCutKnown(t *testing.T) {
	rows := []struct {
		sdu  string
		most int
		want []impl.SegPart
	}{
		{"", 1, []impl.SegPart{{Seg: impl.SegAll}}},
		{"", 8, []impl.SegPart{{Seg: impl.SegAll}}},
		{"a", 1, []impl.SegPart{{Seg: impl.SegAll, Len: 1, Data: []byte("a")}}},
		{"ab", 1, []impl.SegPart{{Seg: impl.SegStart, Len: 2, Data: []byte("a")}, {Seg: impl.SegEnd, Data: []byte("b")}}},
		{"abc", 3, []impl.SegPart{{Seg: impl.SegAll, Len: 3, Data: []byte("abc")}}},
		{"abcd", 3, []impl.SegPart{{Seg: impl.SegStart, Len: 4, Data: []byte("abc")}, {Seg: impl.SegEnd, Data: []byte("d")}}},
		{"abcdef", 3, []impl.SegPart{{Seg: impl.SegStart, Len: 6, Data: []byte("abc")}, {Seg: impl.SegEnd, Data: []byte("def")}}},
		{"abcdefg", 3, []impl.SegPart{{Seg: impl.SegStart, Len: 7, Data: []byte("abc")}, {Seg: impl.SegMore, Data: []byte("def")}, {Seg: impl.SegEnd, Data: []byte("g")}}},
		{"hello", 2, []impl.SegPart{{Seg: impl.SegStart, Len: 5, Data: []byte("he")}, {Seg: impl.SegMore, Data: []byte("ll")}, {Seg: impl.SegEnd, Data: []byte("o")}}},
		{"abcdefghijklmnopqrstuvwx", 8, []impl.SegPart{{Seg: impl.SegStart, Len: 24, Data: []byte("abcdefgh")}, {Seg: impl.SegMore, Data: []byte("ijklmnop")}, {Seg: impl.SegEnd, Data: []byte("qrstuvwx")}}},
	}
	for _, r := range rows {
		if got := impl.SegCut([]byte(r.sdu), r.most); !slices.EqualFunc(got, r.want, partSame) {
			t.Errorf("SegCut(%q, %d) = %+v, want %+v", r.sdu, r.most, got, r.want)
		}
	}
}

func TestSegCutOfEachSizeAndMost(t *testing.T) {
	for size := 0; size <= impl.SduMax+1; size++ {
		sdu := mixedBytes(uint32(size)+7, size)
		for most := -1; most <= impl.FrmMax+1; most++ {
			got := impl.SegCut(sdu, most)
			if want := cutByWords(sdu, most); !slices.EqualFunc(got, want, partSame) {
				t.Fatalf("SegCut(%v, %d) = %+v, want %+v", sdu, most, got, want)
			}
		}
	}
}

func TestSegCutOfTooMuch(t *testing.T) {
	for _, size := range []int{25, 26, 32, 48, 255, 256, 257, 300, 65536} {
		for most := 1; most <= 8; most++ {
			if got := impl.SegCut(sameBytes(size, 1), most); len(got) != 0 {
				t.Errorf("SegCut of %d bytes, %d a piece = %+v", size, most, got)
			}
		}
	}
	if got := impl.SegCut(sameBytes(24, 1), 1); len(got) != 24 {
		t.Errorf("SegCut of SduMax bytes, 1 a piece, has %d pieces", len(got))
	}
}

func TestSegCutOfNoMost(t *testing.T) {
	mosts := append(farNumbers(), 0, 9, 10, 23, 24, 25, math.MaxInt-1, math.MinInt+1, -math.MaxInt, 256+3, 1<<32+3)
	for _, most := range mosts {
		for _, sdu := range allMessages() {
			if got := impl.SegCut(sdu, most); len(got) != 0 {
				t.Fatalf("SegCut(%v, %d) = %+v", sdu, most, got)
			}
		}
	}
}

func TestSegCutTellsNoListFromAnEmptyOne(t *testing.T) {
	for most := 1; most <= 8; most++ {
		for _, sdu := range [][]byte{nil, {}, make([]byte, 0, 9)} {
			got := impl.SegCut(sdu, most)
			if len(got) != 1 || !partSame(got[0], impl.SegPart{Seg: impl.SegAll}) {
				t.Errorf("SegCut of no bytes, %d a piece = %+v", most, got)
			}
		}
	}
}

func TestPartOkAtTheBounds(t *testing.T) {
	for size := range 28 {
		p := impl.SegPart{Data: mixedBytes(5, size)}
		for p.Seg = -2; p.Seg <= 6; p.Seg++ {
			for p.Len = -30; p.Len <= 60; p.Len++ {
				if got, want := impl.PartOk(p), partByWords(p.Seg, p.Len, size); got != want {
					t.Fatalf("PartOk(%+v) = %v", p, got)
				}
			}
		}
	}
}

func TestPartOkKnown(t *testing.T) {
	rows := []struct {
		seg, length, size int
		want              bool
	}{
		{impl.SegAll, 0, 0, true}, {impl.SegAll, 8, 8, true}, {impl.SegAll, 9, 9, false}, {impl.SegAll, 7, 8, false}, {impl.SegAll, 1, 0, false}, {impl.SegAll, -1, 0, false},
		{impl.SegStart, 2, 1, true}, {impl.SegStart, 24, 1, true}, {impl.SegStart, 9, 8, true}, {impl.SegStart, 24, 8, true},
		{impl.SegStart, 1, 1, false}, {impl.SegStart, 25, 1, false}, {impl.SegStart, 8, 8, false}, {impl.SegStart, 10, 9, false}, {impl.SegStart, 1, 0, false}, {impl.SegStart, 0, 1, false},
		{impl.SegMore, 0, 1, true}, {impl.SegMore, 0, 8, true}, {impl.SegMore, 0, 0, false}, {impl.SegMore, 0, 9, false}, {impl.SegMore, 1, 1, false}, {impl.SegMore, -1, 1, false},
		{impl.SegEnd, 0, 1, true}, {impl.SegEnd, 0, 8, true}, {impl.SegEnd, 0, 0, false}, {impl.SegEnd, 0, 9, false}, {impl.SegEnd, 1, 1, false}, {impl.SegEnd, -1, 1, false},
		{-1, 0, 0, false}, {-1, 1, 1, false}, {-1, 2, 1, false}, {-1, 0, 1, false}, {4, 0, 0, false}, {4, 1, 1, false}, {4, 2, 1, false}, {4, 0, 1, false},
	}
	for _, r := range rows {
		p := impl.SegPart{Seg: r.seg, Len: r.length, Data: mixedBytes(6, r.size)}
		if got := impl.PartOk(p); got != r.want {
			t.Errorf("PartOk(%+v) = %v", p, got)
		}
	}
}

func TestPartOkOfWrongParts(t *testing.T) {
	for _, p := range badParts() {
		if impl.PartOk(p) {
			t.Errorf("PartOk(%+v)", p)
		}
	}
}

// A piece is ok where chapter 2's frame with it is.
func TestPartOkIsTheRuleOfFrames(t *testing.T) {
	for _, p := range append(okParts(), badParts()...) {
		f := impl.FrmFrame{Kind: impl.FrmPiece, Seg: p.Seg, Len: p.Len, Data: p.Data}
		if impl.PartOk(p) != impl.FrmOk(f) {
			t.Fatalf("PartOk(%+v) = %v, not so the frame", p, impl.PartOk(p))
		}
	}
}

func TestJoinOkAtTheBounds(t *testing.T) {
	for length := -30; length <= 60; length++ {
		for size := range 62 {
			j := impl.SegJoin{Len: length, Got: mixedBytes(8, size)}
			if got, want := impl.JoinOk(j), joinOkByWords(length, size); got != want {
				t.Fatalf("JoinOk of Len %d and %d bytes = %v", length, size, got)
			}
		}
	}
}

func TestJoinOkKnown(t *testing.T) {
	rows := []struct {
		length, size int
		want         bool
	}{
		{0, 0, true}, {0, 1, false}, {0, 24, false}, {-1, 0, false}, {-1, 1, false},
		{1, 0, false}, {1, 1, false}, {2, 0, false}, {2, 1, true}, {2, 2, false},
		{3, 2, true}, {24, 0, false}, {24, 1, true}, {24, 23, true}, {24, 24, false},
		{25, 0, false}, {25, 1, false}, {25, 24, false}, {25, 25, false},
	}
	for _, r := range rows {
		if got := impl.JoinOk(impl.SegJoin{Len: r.length, Got: sameBytes(r.size, 3)}); got != r.want {
			t.Errorf("JoinOk of Len %d and %d bytes = %v", r.length, r.size, got)
		}
	}
	for _, j := range badJoins() {
		if impl.JoinOk(j) {
			t.Errorf("JoinOk(%+v)", j)
		}
	}
	if !impl.JoinOk(impl.SegJoin{Got: []byte{}}) || !impl.JoinOk(impl.SegJoin{Got: make([]byte, 0, 5)}) {
		t.Error("an empty list is not nothing")
	}
}

func TestSegPutKnown(t *testing.T) {
	had := impl.SegJoin{Len: 7, Got: []byte("abc")}
	rows := []struct {
		j       impl.SegJoin
		p       impl.SegPart
		left    impl.SegJoin
		message string
		how     int
	}{
		{impl.SegJoin{}, impl.SegPart{Seg: impl.SegAll}, impl.SegJoin{}, "", impl.JoinAll},
		{impl.SegJoin{}, impl.SegPart{Seg: impl.SegAll, Len: 2, Data: []byte("hi")}, impl.SegJoin{}, "hi", impl.JoinAll},
		{impl.SegJoin{}, impl.SegPart{Seg: impl.SegStart, Len: 7, Data: []byte("abc")}, had, "", impl.JoinMore},
		{impl.SegJoin{}, impl.SegPart{Seg: impl.SegMore, Data: []byte("x")}, impl.SegJoin{}, "", impl.JoinBad},
		{impl.SegJoin{}, impl.SegPart{Seg: impl.SegEnd, Data: []byte("x")}, impl.SegJoin{}, "", impl.JoinBad},
		{had, impl.SegPart{Seg: impl.SegAll}, impl.SegJoin{}, "", impl.JoinBad},
		{had, impl.SegPart{Seg: impl.SegAll, Len: 4, Data: []byte("defg")}, impl.SegJoin{}, "", impl.JoinBad},
		{had, impl.SegPart{Seg: impl.SegStart, Len: 7, Data: []byte("abc")}, impl.SegJoin{}, "", impl.JoinBad},
		{had, impl.SegPart{Seg: impl.SegMore, Data: []byte("def")}, impl.SegJoin{Len: 7, Got: []byte("abcdef")}, "", impl.JoinMore},
		{had, impl.SegPart{Seg: impl.SegMore, Data: []byte("defg")}, impl.SegJoin{}, "", impl.JoinBad},
		{had, impl.SegPart{Seg: impl.SegMore, Data: []byte("defgh")}, impl.SegJoin{}, "", impl.JoinBad},
		{had, impl.SegPart{Seg: impl.SegEnd, Data: []byte("def")}, impl.SegJoin{}, "", impl.JoinBad},
		{had, impl.SegPart{Seg: impl.SegEnd, Data: []byte("defg")}, impl.SegJoin{}, "abcdefg", impl.JoinAll},
		{had, impl.SegPart{Seg: impl.SegEnd, Data: []byte("defgh")}, impl.SegJoin{}, "", impl.JoinBad},
	}
	for _, r := range rows {
		left, message, how := impl.SegPut(r.j, r.p)
		if how != r.how || !joinSame(left, r.left) || string(message) != r.message {
			t.Errorf("SegPut(%+v, %+v) = %+v, %q, %d", r.j, r.p, left, message, how)
		}
	}
}

func TestSegPutOfEachJoinAndPart(t *testing.T) {
	parts := okParts()
	for _, j := range okJoins() {
		for _, p := range parts {
			wantJoin(t, j, p)
		}
	}
}

// What is not ok answers 0, not JoinBad, whichever of both it is.
func TestSegPutOfWhatIsNotOk(t *testing.T) {
	rows := 0
	put := func(j impl.SegJoin, p impl.SegPart) {
		rows++
		if left, message, how := impl.SegPut(j, p); how != 0 || !noJoin(left) || len(message) != 0 {
			t.Fatalf("SegPut(%+v, %+v) = %+v, %v, %d", j, p, left, message, how)
		}
	}
	for _, j := range badJoins() {
		for _, p := range append(okParts(), badParts()...) {
			put(j, p)
		}
	}
	for _, j := range okJoins() {
		for _, p := range badParts() {
			put(j, p)
		}
	}
	if rows == 0 {
		t.Fatal("nothing that is not ok was put")
	}
}

// Promise 18: SegPut of all of SegCut, in order, from nothing on, is more to come for all but the last, and then all of the message.
func TestPromise18PiecesAreAMessage(t *testing.T) {
	for _, sdu := range allMessages() {
		for most := 1; most <= impl.FrmMax; most++ {
			parts := impl.SegCut(sdu, most)
			j := impl.SegJoin{}
			for i, p := range parts {
				left, message, how := impl.SegPut(j, p)
				last := i == len(parts)-1
				if !last && (how != impl.JoinMore || len(message) != 0) {
					t.Fatalf("piece %d of %v, %d a piece: %v, %d", i, sdu, most, message, how)
				}
				if last && (how != impl.JoinAll || !bytes.Equal(message, sdu) || !noJoin(left)) {
					t.Fatalf("the last piece of %v, %d a piece: %+v, %v, %d", sdu, most, left, message, how)
				}
				j = left
			}
			if len(parts) == 0 {
				t.Fatalf("SegCut(%v, %d) has no piece", sdu, most)
			}
		}
	}
}

// Promise 18: each piece is ok, of so many bytes at most.
func TestPromise18EachPieceIsOk(t *testing.T) {
	for _, sdu := range allMessages() {
		for most := 1; most <= impl.FrmMax; most++ {
			for _, p := range impl.SegCut(sdu, most) {
				if !impl.PartOk(p) || len(p.Data) > most {
					t.Fatalf("SegCut(%v, %d) has the piece %+v", sdu, most, p)
				}
			}
		}
	}
}

// Promise 19: behind SegPut what has come of a message is ok, whatever was put to whatever.
func TestPromise19WhatHasComeIsOk(t *testing.T) {
	for _, j := range append(okJoins(), badJoins()...) {
		for _, p := range append(okParts(), badParts()...) {
			if left, _, _ := impl.SegPut(j, p); !impl.JoinOk(left) {
				t.Fatalf("SegPut(%+v, %+v) leaves %+v", j, p, left)
			}
		}
	}
}

// Promise 19: if all is there, or a piece does not fit, nothing is left; what goes on has all that there was, and the piece.
func TestPromise19WhatIsLeft(t *testing.T) {
	seen := map[int]int{}
	for _, j := range okJoins() {
		for _, p := range okParts() {
			left, message, how := impl.SegPut(j, p)
			seen[how]++
			both := slices.Concat(j.Got, p.Data)
			if how == impl.JoinAll && (!noJoin(left) || !bytes.Equal(message, both)) {
				t.Fatalf("SegPut(%+v, %+v), where all is there, = %+v, %v", j, p, left, message)
			}
			if how == impl.JoinBad && (!noJoin(left) || len(message) != 0) {
				t.Fatalf("SegPut(%+v, %+v), which does not fit, = %+v, %v", j, p, left, message)
			}
			if how == impl.JoinMore && (!bytes.Equal(left.Got, both) || left.Len != max(j.Len, p.Len) || len(message) != 0) {
				t.Fatalf("SegPut(%+v, %+v), which goes on, = %+v, %v", j, p, left, message)
			}
		}
	}
	if len(seen) != 3 || seen[impl.JoinMore]*seen[impl.JoinAll]*seen[impl.JoinBad] == 0 {
		t.Fatalf("what came of pieces: %v", seen)
	}
}

// Promise 20: a piece that is all of a message is as long as that; what begins one has less; what goes on, or ends it, does not say how long it is.
func TestPromise20APieceSaysWhatItIs(t *testing.T) {
	for seg := range 4 {
		for length := -2; length <= 26; length++ {
			for size := range 11 {
				p := impl.SegPart{Seg: seg, Len: length, Data: mixedBytes(9, size)}
				if !impl.PartOk(p) {
					continue
				}
				all := seg == impl.SegAll && length == size
				begins := seg == impl.SegStart && size < length
				silent := (seg == impl.SegMore || seg == impl.SegEnd) && length == 0
				if !all && !begins && !silent {
					t.Errorf("PartOk(%+v)", p)
				}
			}
		}
	}
}

// Promise 20: of what is ok, with Len one more or one less where that is bound, it is not.
func TestPromise20AnotherLen(t *testing.T) {
	for _, p := range okParts() {
		if !impl.PartOk(p) {
			t.Fatalf("PartOk(%+v) is false", p)
		}
		if p.Seg == impl.SegStart {
			p.Len = len(p.Data)
			if impl.PartOk(p) {
				t.Fatalf("PartOk(%+v): what begins has all", p)
			}
			continue
		}
		for _, by := range []int{-1, 1} {
			q := p
			q.Len += by
			if impl.PartOk(q) {
				t.Fatalf("PartOk(%+v)", q)
			}
		}
	}
}

// Promise 21: of what is ok with as many bytes as the message has it is not; nothing at all is ok.
func TestPromise21LessThanAll(t *testing.T) {
	for _, j := range okJoins() {
		if !impl.JoinOk(j) {
			t.Fatalf("JoinOk(%+v) is false", j)
		}
		if noJoin(j) {
			continue
		}
		full := impl.SegJoin{Len: j.Len, Got: mixedBytes(10, j.Len)}
		if impl.JoinOk(full) {
			t.Fatalf("JoinOk(%+v): all has come", full)
		}
		full.Got = append(full.Got, 1)
		if impl.JoinOk(full) {
			t.Fatalf("JoinOk(%+v): more than all has come", full)
		}
	}
	if !impl.JoinOk(impl.SegJoin{}) {
		t.Error("nothing at all is not ok")
	}
}

// Promise 69: SegCut has as many pieces as the message's bytes take, one at least; all but the last are as long as may be; the first alone says how long all is.
func TestPromise69NoMorePiecesThanMustBe(t *testing.T) {
	for _, sdu := range allMessages() {
		for most := 1; most <= impl.FrmMax; most++ {
			parts := impl.SegCut(sdu, most)
			takes := 1
			for takes*most < len(sdu) {
				takes++
			}
			if len(parts) != takes {
				t.Fatalf("SegCut(%v, %d) has %d pieces, want %d", sdu, most, len(parts), takes)
			}
			for i, p := range parts {
				if i < len(parts)-1 && len(p.Data) != most {
					t.Fatalf("SegCut(%v, %d): piece %d has %d bytes", sdu, most, i, len(p.Data))
				}
				if i == 0 && p.Len != len(sdu) || i > 0 && p.Len != 0 {
					t.Fatalf("SegCut(%v, %d): piece %d says Len %d", sdu, most, i, p.Len)
				}
			}
		}
	}
}

// Promise 70: of the pieces of a message without one of them no message comes.
func TestPromise70WithoutOne(t *testing.T) {
	for _, sdu := range allMessages() {
		for most := 1; most <= impl.FrmMax; most++ {
			parts := impl.SegCut(sdu, most)
			for i := range parts {
				left := slices.Delete(slices.Clone(parts), i, i+1)
				if hows, messages, _ := putAll(left); len(messages) != 0 || slices.Contains(hows, 0) {
					t.Fatalf("%v, %d a piece, without piece %d: %v, %v", sdu, most, i, hows, messages)
				}
			}
		}
	}
}

// Promise 70: of the pieces of a message with one, that neither ends it nor is all of it, twice, no message comes.
func TestPromise70WithOneTwice(t *testing.T) {
	twice := 0
	for _, sdu := range allMessages() {
		for most := 1; most <= impl.FrmMax; most++ {
			parts := impl.SegCut(sdu, most)
			for i, p := range parts {
				if p.Seg == impl.SegAll || p.Seg == impl.SegEnd {
					continue
				}
				twice++
				hows, messages, _ := putAll(slices.Insert(slices.Clone(parts), i, p))
				if len(messages) != 0 || !slices.Contains(hows, impl.JoinBad) {
					t.Fatalf("%v, %d a piece, with piece %d twice: %v, %v", sdu, most, i, hows, messages)
				}
			}
		}
	}
	if twice == 0 {
		t.Fatal("no piece was put twice")
	}
}

// Promise 71: of the pieces of two messages, one behind the other, both come, and nothing else.
func TestPromise71TwoMessages(t *testing.T) {
	for _, first := range allMessages() {
		for _, second := range allMessages() {
			for most := 1; most <= impl.FrmMax; most++ {
				a, b := impl.SegCut(first, most), impl.SegCut(second, impl.FrmMax+1-most)
				hows, messages, left := putAll(slices.Concat(a, b))
				if len(messages) != 2 || !bytes.Equal(messages[0], first) || !bytes.Equal(messages[1], second) || !noJoin(left) {
					t.Fatalf("%v and %v: %v, %+v", first, second, messages, left)
				}
				for i, how := range hows {
					ends := i == len(a)-1 || i == len(hows)-1
					if ends && how != impl.JoinAll || !ends && how != impl.JoinMore {
						t.Fatalf("%v and %v: %v", first, second, hows)
					}
				}
			}
		}
	}
}

// Behind what does not fit a message comes as if nothing had been.
func TestSegPutGoesOnBehindWhatDoesNotFit(t *testing.T) {
	for _, j := range okJoins() {
		for _, p := range okParts() {
			left, _, how := impl.SegPut(j, p)
			if how != impl.JoinBad {
				continue
			}
			left, _, how = impl.SegPut(left, impl.SegPart{Seg: impl.SegStart, Len: 3, Data: []byte("ab")})
			if how != impl.JoinMore || left.Len != 3 {
				t.Fatalf("behind SegPut(%+v, %+v): %+v, %d", j, p, left, how)
			}
			if _, message, how := impl.SegPut(left, impl.SegPart{Seg: impl.SegEnd, Data: []byte("c")}); how != impl.JoinAll || string(message) != "abc" {
				t.Fatalf("behind SegPut(%+v, %+v): %q, %d", j, p, message, how)
			}
		}
	}
}

func TestSegCutSharesNothing(t *testing.T) {
	for size := range 26 {
		for most := -1; most <= 9; most++ {
			sdu := mixedBytes(uint32(size)+11, size)
			inside, all := inRoom(sdu)
			before := bytes.Clone(all)
			parts, again := impl.SegCut(inside, most), impl.SegCut(inside, most)
			if !bytes.Equal(all, before) {
				t.Fatalf("SegCut(%v, %d) wrote into its argument, or beside it", sdu, most)
			}
			want := cutByWords(sdu, most)
			for i := range parts {
				scribble(parts[i].Data)
				if !slices.EqualFunc(parts[:i], want[:i], partSame) || !slices.EqualFunc(parts[i+1:], want[i+1:], partSame) {
					t.Fatalf("SegCut(%v, %d): piece %d shares memory with another one", sdu, most, i)
				}
				scribble(parts[i].Data) // twice turned it is as it was
			}
			for i := range parts {
				scribble(parts[i].Data)
			}
			if !bytes.Equal(all, before) {
				t.Fatalf("SegCut(%v, %d) shares memory with its argument", sdu, most)
			}
			scribble(all)
			if !slices.EqualFunc(again, want, partSame) {
				t.Fatalf("SegCut(%v, %d) shares memory with its argument, or another answer", sdu, most)
			}
		}
	}
}

// Spare room of one piece reaches none of the others: bytes laid behind each leave all as they are.
func TestSegCutPiecesGrowApart(t *testing.T) {
	for size := range 25 {
		for most := 1; most <= 8; most++ {
			sdu := mixedBytes(uint32(size)+12, size)
			parts, want := impl.SegCut(sdu, most), cutByWords(sdu, most)
			for i := range parts {
				_ = append(parts[i].Data, sameBytes(cap(parts[i].Data)-len(parts[i].Data), 0xEE)...)
				if !slices.EqualFunc(parts, want, partSame) {
					t.Fatalf("SegCut(%v, %d): behind piece %d there is another one", sdu, most, i)
				}
			}
			_ = append(parts, make([]impl.SegPart, cap(parts)-len(parts))...)
			if !slices.EqualFunc(parts, want, partSame) {
				t.Fatalf("SegCut(%v, %d) turned with its spare room", sdu, most)
			}
		}
	}
}

func TestSegPutSharesNothing(t *testing.T) {
	joins := slices.Concat(okJoins()[:40], okJoins()[240:], badJoins()[:8])
	parts := append(okParts(), badParts()[:16]...)
	for _, j := range joins {
		for _, p := range parts {
			gotIn, gotAll := inRoom(j.Got)
			dataIn, dataAll := inRoom(p.Data)
			gotBefore, dataBefore := bytes.Clone(gotAll), bytes.Clone(dataAll)
			jIn, pIn := impl.SegJoin{Len: j.Len, Got: gotIn}, impl.SegPart{Seg: p.Seg, Len: p.Len, Data: dataIn}
			impl.JoinOk(jIn)
			impl.PartOk(pIn)
			left, message, how := impl.SegPut(jIn, pIn)
			left2, message2, _ := impl.SegPut(jIn, pIn)
			scribble(left.Got)
			scribble(message)
			if !bytes.Equal(gotAll, gotBefore) || !bytes.Equal(dataAll, dataBefore) {
				t.Fatalf("SegPut(%+v, %+v) wrote into an argument, or shares memory with it", j, p)
			}
			scribble(gotAll)
			scribble(dataAll)
			wantLeft, wantMessage, wantHow := joinByWords(j, p)
			if how != wantHow || !joinSame(left2, wantLeft) || !bytes.Equal(message2, wantMessage) {
				t.Fatalf("SegPut(%+v, %+v) shares memory with an argument, or another answer", j, p)
			}
		}
	}
}

func TestPiecesKeepNothingBetweenCalls(t *testing.T) {
	joins, parts := okJoins(), okParts()
	for i := range 2000 {
		j, p := joins[i*37%len(joins)], parts[i*53%len(parts)]
		sdu := mixedBytes(uint32(i), i%25)
		most := i%8 + 1
		impl.SegPut(joins[i*11%len(joins)], parts[i*29%len(parts)])
		impl.SegPut(impl.SegJoin{Len: 1}, p)
		impl.SegCut(sdu, 9)
		wantJoin(t, j, p)
		if got := impl.SegCut(sdu, most); !slices.EqualFunc(got, cutByWords(sdu, most), partSame) {
			t.Fatalf("SegCut(%v, %d) = %+v hangs on the calls ahead of it", sdu, most, got)
		}
	}
}
