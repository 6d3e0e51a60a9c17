package tests

import (
	"bytes"
	"fmt"
	"math"
	"slices"
	"testing"

	"loop.example/linkboy/impl"
)

// partByWords is chapter 2's words for a piece that is ok, with the bounds written out.
func partByWords(seg int, length int, size int) bool {
	if size > 8 {
		return false
	}
	if seg == 0 {
		return length == size
	}
	if seg == 1 {
		return size >= 1 && length > size && length <= 24
	}
	return (seg == 2 || seg == 3) && size >= 1 && length == 0
}

// okByWords is chapter 2's table, row by row, with all that a row does not name at 0, false, none.
func okByWords(f impl.FrmFrame) bool {
	size := len(f.Data)
	seq, ack := f.Seq >= 0 && f.Seq <= 7, f.Ack >= 0 && f.Ack <= 7
	switch f.Kind {
	case 1:
		return seq && ack && !f.Poll && f.Say == 0 && partByWords(f.Seg, f.Len, size)
	case 2:
		say := f.Say == 0 || f.Say == 1 || f.Say == 2
		return f.Seq == 0 && ack && !(f.Poll && f.Final) && say && f.Seg == 0 && f.Len == 0 && size == 0
	case 3:
		return f.Seq == 0 && f.Ack == 0 && !f.Poll && !f.Final && f.Say == 0 && partByWords(f.Seg, f.Len, size)
	case 4:
		return f.Seq == 0 && f.Ack == 0 && !f.Poll && !f.Final && f.Say == 0 && f.Seg == 0 && size == 0 && f.Len >= 1 && f.Len <= 255
	}
	return false
}

// bodyByWords is the bytes of a frame that is ok, as chapter 2 lists them, without their sum.
func bodyByWords(f impl.FrmFrame) []byte {
	signs := 4*f.Say + 16*f.Seg
	if f.Poll {
		signs = signs + 1
	}
	if f.Final {
		signs = signs + 2
	}
	list := []byte{byte(f.Kind), byte(f.Seq*16 + f.Ack), byte(signs), byte(f.Len), byte(len(f.Data))}
	return append(list, f.Data...)
}

func frameSame(a impl.FrmFrame, b impl.FrmFrame) bool {
	same := bytes.Equal(a.Data, b.Data)
	a.Data, b.Data = nil, nil
	return same && fmt.Sprint(a) == fmt.Sprint(b)
}

func isNothing(f impl.FrmFrame) bool {
	return f.Kind == 0 && f.Seq == 0 && f.Ack == 0 && !f.Poll && !f.Final && f.Say == 0 && f.Seg == 0 && f.Len == 0 && len(f.Data) == 0
}

// okPieces is every Seg, Len and size of Data that a piece may have, as frames without a Kind; of one size the bytes are the same ones.
func okPieces() []impl.FrmFrame {
	var list []impl.FrmFrame
	for size := range 9 {
		data := mixedBytes(uint32(size)+40, size)
		list = append(list, impl.FrmFrame{Seg: 0, Len: size, Data: data})
		if size == 0 {
			continue
		}
		list = append(list, impl.FrmFrame{Seg: 2, Data: data}, impl.FrmFrame{Seg: 3, Data: data})
		for length := size + 1; length <= 24; length++ {
			list = append(list, impl.FrmFrame{Seg: 1, Len: length, Data: data})
		}
	}
	return list
}

// okFrames is every frame that is ok, but for which bytes its Data has.
func okFrames() []impl.FrmFrame {
	var list []impl.FrmFrame
	for _, p := range okPieces() {
		p.Kind = 3
		list = append(list, p)
		p.Kind = 1
		for k := range 128 {
			p.Seq, p.Ack, p.Final = k%8, k/8%8, k/64 == 1
			list = append(list, p)
		}
	}
	for ack := range 8 {
		for say := range 3 {
			for _, asks := range [][2]bool{{}, {true, false}, {false, true}} {
				list = append(list, impl.FrmFrame{Kind: 2, Ack: ack, Say: say, Poll: asks[0], Final: asks[1]})
			}
		}
	}
	for credits := 1; credits <= 255; credits++ {
		list = append(list, impl.FrmFrame{Kind: 4, Len: credits})
	}
	return list
}

// someFrames is frames of each Kind, Seg and size, few enough to turn each of their bytes.
func someFrames() []impl.FrmFrame {
	list := []impl.FrmFrame{
		{Kind: 1}, {Kind: 1, Final: true}, {Kind: 3},
		{Kind: 2}, {Kind: 2, Ack: 7, Poll: true, Say: 2}, {Kind: 2, Ack: 3, Final: true, Say: 1}, {Kind: 2, Final: true},
		{Kind: 4, Len: 1}, {Kind: 4, Len: 6}, {Kind: 4, Len: 255},
	}
	for size := 1; size <= 8; size++ {
		data := mixedBytes(uint32(size)+90, size)
		list = append(list,
			impl.FrmFrame{Kind: 1, Seq: size - 1, Ack: 8 - size, Len: size, Data: data},
			impl.FrmFrame{Kind: 1, Seq: 8 - size, Ack: 7, Final: true, Seg: 1, Len: 24, Data: data},
			impl.FrmFrame{Kind: 1, Ack: size - 1, Seg: 2, Data: data},
			impl.FrmFrame{Kind: 1, Seq: 7, Seg: 3, Data: sameBytes(size, 0)},
			impl.FrmFrame{Kind: 3, Len: size, Data: data},
			impl.FrmFrame{Kind: 3, Seg: 1, Len: size + 1, Data: sameBytes(size, 255)},
			impl.FrmFrame{Kind: 3, Seg: 2, Data: data},
			impl.FrmFrame{Kind: 3, Seg: 3, Data: data},
		)
	}
	return list
}

// changed is a frame with something turned in it.
func changed(f impl.FrmFrame, turn func(f *impl.FrmFrame)) impl.FrmFrame {
	turn(&f)
	return f
}

func wantOk(t *testing.T, f impl.FrmFrame, want bool) {
	t.Helper()
	if got := impl.FrmOk(f); got != want {
		t.Errorf("FrmOk(%+v) = %v", f, got)
	}
	if got := impl.FrmBytes(f); !want && len(got) != 0 {
		t.Errorf("FrmBytes(%+v) = %v of a frame that is not ok", f, got)
	}
}

func wantUnread(t *testing.T, list []byte, why string) {
	t.Helper()
	if f, ok := impl.FrmRead(list); ok || !isNothing(f) {
		t.Fatalf("FrmRead(%v), %s, = %+v, %v", list, why, f, ok)
	}
}

// farNumbers is numbers far beyond all bounds, some of which are in them mod 16 or 256.
func farNumbers() []int {
	return []int{-1, -2, -8, -16, -255, -256, 16, 32, 256, 257, 512, 65536, 1 << 32, math.MaxInt32, math.MinInt32, math.MaxInt, math.MinInt}
}

func TestFrmConstants(t *testing.T) {
	got := []int{
		impl.FrmData, impl.FrmSay, impl.FrmPiece, impl.FrmGrant,
		impl.SayGo, impl.SayAgain, impl.SayWait,
		impl.SegAll, impl.SegStart, impl.SegMore, impl.SegEnd,
		impl.NumMod, impl.FrmMax, impl.SduMax,
	}
	if want := []int{1, 2, 3, 4, 0, 1, 2, 0, 1, 2, 3, 8, 8, 24}; !slices.Equal(got, want) {
		t.Errorf("constants %v, want %v", got, want)
	}
}

func TestFrmOkOfOrdinaryFrames(t *testing.T) {
	for _, f := range someFrames() {
		wantOk(t, f, true)
	}
	for _, f := range okFrames() {
		wantOk(t, f, true)
	}
}

func TestFrmOkOfNoKind(t *testing.T) {
	for _, f := range someFrames() {
		for _, kind := range append(farNumbers(), 0, 5, 6, 260) {
			wantOk(t, changed(f, func(f *impl.FrmFrame) { f.Kind = kind }), false)
		}
	}
	wantOk(t, impl.FrmFrame{}, false)
}

func TestFrmOkAtTheBoundsOfNumbers(t *testing.T) {
	data := impl.FrmFrame{Kind: impl.FrmData, Seq: 3, Ack: 4, Len: 2, Data: []byte{1, 2}}
	say := impl.FrmFrame{Kind: impl.FrmSay, Ack: 4, Say: impl.SayAgain}
	for n := -20; n <= 20; n++ {
		wantOk(t, changed(data, func(f *impl.FrmFrame) { f.Seq = n }), n >= 0 && n <= 7)
		wantOk(t, changed(data, func(f *impl.FrmFrame) { f.Ack = n }), n >= 0 && n <= 7)
		wantOk(t, changed(say, func(f *impl.FrmFrame) { f.Ack = n }), n >= 0 && n <= 7)
		wantOk(t, changed(say, func(f *impl.FrmFrame) { f.Say = n }), n >= 0 && n <= 2)
	}
	for _, n := range farNumbers() {
		wantOk(t, changed(data, func(f *impl.FrmFrame) { f.Seq = n }), false)
		wantOk(t, changed(data, func(f *impl.FrmFrame) { f.Ack = n }), false)
		wantOk(t, changed(say, func(f *impl.FrmFrame) { f.Ack = n }), false)
		wantOk(t, changed(say, func(f *impl.FrmFrame) { f.Say = n }), false)
	}
}

func TestFrmOkAtTheBoundsOfGrants(t *testing.T) {
	for n := -300; n <= 600; n++ {
		wantOk(t, impl.FrmFrame{Kind: impl.FrmGrant, Len: n}, n >= 1 && n <= 255)
	}
	for _, n := range []int{1 << 32, 1<<32 + 1, math.MaxInt, math.MinInt, math.MinInt + 1} {
		wantOk(t, impl.FrmFrame{Kind: impl.FrmGrant, Len: n}, false)
	}
}

// Of SegStart Len goes from one above what Data has to SduMax, of SegAll it is that, of the others 0; Data has 0 to FrmMax bytes, and one at least where it is not all.
func TestFrmOkAtTheBoundsOfPieces(t *testing.T) {
	for _, kind := range []int{impl.FrmData, impl.FrmPiece} {
		for size := range 12 {
			f := impl.FrmFrame{Kind: kind, Data: mixedBytes(2, size)}
			for n := -30; n <= 300; n++ {
				f.Len = n
				f.Seg = impl.SegAll
				wantOk(t, f, size <= 8 && n == size)
				f.Seg = impl.SegStart
				wantOk(t, f, size >= 1 && size <= 8 && n >= size+1 && n <= 24)
				f.Seg = impl.SegMore
				wantOk(t, f, size >= 1 && size <= 8 && n == 0)
				f.Seg = impl.SegEnd
				wantOk(t, f, size >= 1 && size <= 8 && n == 0)
			}
		}
	}
}

func TestFrmOkOfNoSeg(t *testing.T) {
	for _, kind := range []int{impl.FrmData, impl.FrmPiece} {
		for _, seg := range append(farNumbers(), 4, 5, 6, 7, 8, 15, 17, 18, 19) {
			for size := range 10 {
				for _, n := range []int{0, size, size + 1, 24} {
					wantOk(t, impl.FrmFrame{Kind: kind, Seg: seg, Len: n, Data: mixedBytes(3, size)}, false)
				}
			}
		}
	}
}

// Each thing that a Kind has not, set by itself, in each frame of that Kind.
func TestFrmOkOfWhatAKindHasNot(t *testing.T) {
	turns := map[string]func(f *impl.FrmFrame){
		"Seq 1":       func(f *impl.FrmFrame) { f.Seq = 1 },
		"Seq 7":       func(f *impl.FrmFrame) { f.Seq = 7 },
		"Seq -1":      func(f *impl.FrmFrame) { f.Seq = -1 },
		"Ack 1":       func(f *impl.FrmFrame) { f.Ack = 1 },
		"Ack 7":       func(f *impl.FrmFrame) { f.Ack = 7 },
		"Ack -1":      func(f *impl.FrmFrame) { f.Ack = -1 },
		"Poll":        func(f *impl.FrmFrame) { f.Poll = true },
		"Final":       func(f *impl.FrmFrame) { f.Final = true },
		"Poll, Final": func(f *impl.FrmFrame) { f.Poll, f.Final = true, true },
		"Say 1":       func(f *impl.FrmFrame) { f.Say = 1 },
		"Say 2":       func(f *impl.FrmFrame) { f.Say = 2 },
		"Say -1":      func(f *impl.FrmFrame) { f.Say = -1 },
		"Seg 1":       func(f *impl.FrmFrame) { f.Seg = 1 },
		"Seg 3":       func(f *impl.FrmFrame) { f.Seg = 3 },
		"Seg -1":      func(f *impl.FrmFrame) { f.Seg = -1 },
		"Len 1":       func(f *impl.FrmFrame) { f.Len = 1 },
		"Len 24":      func(f *impl.FrmFrame) { f.Len = 24 },
		"Len -1":      func(f *impl.FrmFrame) { f.Len = -1 },
		"Data of 0":   func(f *impl.FrmFrame) { f.Data = []byte{0} },
		"Data":        func(f *impl.FrmFrame) { f.Data = []byte{1, 2} },
		"Len 1, Data": func(f *impl.FrmFrame) { f.Len, f.Data = 1, []byte{9} },
	}
	hasNot := map[int][]string{
		impl.FrmData:  {"Poll", "Poll, Final", "Say 1", "Say 2", "Say -1"},
		impl.FrmSay:   {"Seq 1", "Seq 7", "Seq -1", "Poll, Final", "Seg 1", "Seg 3", "Seg -1", "Len 1", "Len 24", "Len -1", "Data of 0", "Data", "Len 1, Data"},
		impl.FrmPiece: {"Seq 1", "Seq 7", "Seq -1", "Ack 1", "Ack 7", "Ack -1", "Poll", "Final", "Poll, Final", "Say 1", "Say 2", "Say -1"},
		impl.FrmGrant: {"Seq 1", "Seq 7", "Seq -1", "Ack 1", "Ack 7", "Ack -1", "Poll", "Final", "Poll, Final", "Say 1", "Say 2", "Say -1", "Seg 1", "Seg 3", "Seg -1", "Data of 0", "Data", "Len 1, Data"},
	}
	for _, f := range okFrames() {
		for _, name := range hasNot[f.Kind] {
			turn := turns[name]
			if turn == nil {
				t.Fatal(name)
			}
			if g := changed(f, turn); impl.FrmOk(g) || len(impl.FrmBytes(g)) != 0 {
				t.Fatalf("%s: FrmOk(%+v)", name, g)
			}
		}
	}
}

func TestFrmOkTellsNoListFromAnEmptyOne(t *testing.T) {
	for _, f := range okFrames() {
		if len(f.Data) != 0 {
			continue
		}
		for _, data := range [][]byte{nil, {}, make([]byte, 0, 9)} {
			f.Data = data
			wantOk(t, f, true)
			if !bytes.Equal(impl.FrmBytes(f), putByWords(bodyByWords(f))) {
				t.Fatalf("FrmBytes(%+v)", f)
			}
		}
	}
}

// Every mix of numbers in and about the bounds, held against the words of the chapter.
func TestFrmOkByWords(t *testing.T) {
	lens := []int{-1, 0, 1, 2, 7, 8, 9, 23, 24, 25, 254, 255, 256}
	oks := 0
	for kind := -1; kind <= 5; kind++ {
		for k := range 4 * 4 * 4 * 5 * 6 {
			f := impl.FrmFrame{Kind: kind, Poll: k%2 == 1, Final: k/2%2 == 1}
			f.Seq = []int{-1, 0, 7, 8}[k/4%4]
			f.Ack = []int{-1, 0, 7, 8}[k/16%4]
			f.Say, f.Seg = k/64%5-1, k/320-1
			for _, size := range []int{0, 1, 2, 7, 8, 9, 24, 256, 257} {
				f.Data = sameBytes(size, 7)
				for _, f.Len = range lens {
					want := okByWords(f)
					if want {
						oks++
					}
					if got := impl.FrmOk(f); got != want {
						t.Fatalf("FrmOk(%+v) = %v", f, got)
					}
					if got := impl.FrmBytes(f); !want && len(got) != 0 {
						t.Fatalf("FrmBytes(%+v) = %v", f, got)
					}
				}
			}
		}
	}
	if oks == 0 {
		t.Fatal("no frame was ok")
	}
}

func TestFrmBytesKnown(t *testing.T) {
	rows := []struct {
		f    impl.FrmFrame
		want []byte
	}{
		{impl.FrmFrame{Kind: impl.FrmData, Seq: 5, Ack: 3, Seg: impl.SegStart, Len: 9, Data: []byte{1, 2}}, []byte{1, 83, 16, 9, 2, 1, 2}},
		{impl.FrmFrame{Kind: impl.FrmData, Seq: 7, Ack: 7, Final: true, Seg: impl.SegEnd, Data: []byte("abcdefgh")}, []byte{1, 119, 50, 0, 8, 97, 98, 99, 100, 101, 102, 103, 104}},
		{impl.FrmFrame{Kind: impl.FrmData, Seq: 1}, []byte{1, 16, 0, 0, 0}},
		{impl.FrmFrame{Kind: impl.FrmData, Ack: 1, Seg: impl.SegMore, Data: []byte{0}}, []byte{1, 1, 32, 0, 1, 0}},
		{impl.FrmFrame{Kind: impl.FrmSay, Ack: 7, Poll: true, Say: impl.SayWait}, []byte{2, 7, 9, 0, 0}},
		{impl.FrmFrame{Kind: impl.FrmSay, Ack: 2, Final: true, Say: impl.SayGo}, []byte{2, 2, 2, 0, 0}},
		{impl.FrmFrame{Kind: impl.FrmSay, Say: impl.SayAgain}, []byte{2, 0, 4, 0, 0}},
		{impl.FrmFrame{Kind: impl.FrmPiece, Len: 3, Data: []byte{9, 8, 7}}, []byte{3, 0, 0, 3, 3, 9, 8, 7}},
		{impl.FrmFrame{Kind: impl.FrmPiece, Seg: impl.SegStart, Len: 24, Data: []byte{255}}, []byte{3, 0, 16, 24, 1, 255}},
		{impl.FrmFrame{Kind: impl.FrmGrant, Len: 255}, []byte{4, 0, 0, 255, 0}},
	}
	for _, r := range rows {
		if got, want := impl.FrmBytes(r.f), putByWords(r.want); !bytes.Equal(got, want) {
			t.Errorf("FrmBytes(%+v) = %v, want %v", r.f, got, want)
		}
		if got := impl.FrmBytes(r.f); !bytes.Equal(got, impl.CrcPut(r.want)) {
			t.Errorf("FrmBytes(%+v) = %v, which is not CrcPut of %v", r.f, got, r.want)
		}
	}
}

func TestFrmBytesOfEveryFrame(t *testing.T) {
	for _, f := range okFrames() {
		if got, want := impl.FrmBytes(f), putByWords(bodyByWords(f)); !bytes.Equal(got, want) {
			t.Fatalf("FrmBytes(%+v) = %v, want %v", f, got, want)
		}
	}
}

// Promise 14: a frame's bytes are read as it.
func TestPromise14ReadAsItself(t *testing.T) {
	for _, f := range append(someFrames(), okFrames()...) {
		got, ok := impl.FrmRead(impl.FrmBytes(f))
		if !ok || !frameSame(got, f) {
			t.Fatalf("FrmRead of FrmBytes of %+v = %+v, %v", f, got, ok)
		}
		got, ok = impl.FrmRead(putByWords(bodyByWords(f)))
		if !ok || !frameSame(got, f) {
			t.Fatalf("FrmRead of the bytes of %+v = %+v, %v", f, got, ok)
		}
	}
}

// Promise 14: with one byte turned nothing is read.
func TestPromise14OneByteTurned(t *testing.T) {
	for _, f := range someFrames() {
		list := impl.FrmBytes(f)
		for at := range list {
			for v := 1; v <= 255; v++ {
				wantUnread(t, turned(list, at, byte(v)), "with one byte turned")
			}
		}
	}
}

// Promise 14: with one byte more nothing is read; a 0 leaves the sum right.
func TestPromise14OneByteMore(t *testing.T) {
	for _, f := range okFrames() {
		list := append(impl.FrmBytes(f), 0)
		if impl.CrcOf(list) != 0 {
			t.Fatalf("the sum of %v is not right", list)
		}
		wantUnread(t, list, "with a 0 behind it")
	}
	for _, f := range someFrames() {
		list := impl.FrmBytes(f)
		for b := range 256 {
			wantUnread(t, append(bytes.Clone(list), byte(b)), "with one byte more")
		}
	}
}

// Promise 14: without the last byte nothing is read; where that is 0 the sum stays right.
func TestPromise14OneByteLess(t *testing.T) {
	rights := 0
	for _, f := range okFrames() {
		list := impl.FrmBytes(f)
		list = list[:len(list)-1]
		if impl.CrcOf(list) == 0 {
			rights++
		}
		wantUnread(t, list, "without its last byte")
	}
	if rights == 0 {
		t.Fatal("the sum alone told all of them")
	}
	for _, f := range someFrames() {
		list := impl.FrmBytes(f)
		for size := range list {
			wantUnread(t, list[:size], "without its last bytes")
		}
	}
}

// bodies is the frames that are ok by their bytes without the sum.
func bodies() map[string]impl.FrmFrame {
	all := map[string]impl.FrmFrame{}
	for _, f := range okFrames() {
		all[string(bodyByWords(f))] = f
	}
	return all
}

// readByBodies holds FrmRead of bytes with their right sum against whether a frame has them.
func readByBodies(t *testing.T, all map[string]impl.FrmFrame, body []byte) {
	t.Helper()
	list := putByWords(body)
	want, has := all[string(body)]
	if !has {
		wantUnread(t, list, "which no frame has")
		return
	}
	got, ok := impl.FrmRead(list)
	if !ok || !frameSame(got, want) {
		t.Fatalf("FrmRead(%v) = %+v, %v, want %+v", list, got, ok, want)
	}
	if !impl.FrmOk(got) || !bytes.Equal(impl.FrmBytes(got), list) {
		t.Fatalf("FrmRead(%v) = %+v, which is not ok, or has not the bytes", list, got)
	}
}

// Promise 14: what is read is ok, and has the bytes: two bytes ahead of Data are anything, with the right sum behind all.
func TestPromise14WhatIsReadHasTheBytes(t *testing.T) {
	all := bodies()
	starts := []impl.FrmFrame{
		{Kind: 1, Seq: 2, Ack: 5},
		{Kind: 2, Ack: 5, Final: true, Say: 1},
		{Kind: 3, Seg: 1, Len: 9, Data: mixedBytes(44, 4)},
		{Kind: 4, Len: 7},
	}
	for _, f := range starts {
		body := bodyByWords(f)
		for first := range 4 {
			for second := first + 1; second < 5; second++ {
				for k := range 65536 {
					body[first], body[second] = byte(k), byte(k>>8)
					readByBodies(t, all, body)
				}
				body = bodyByWords(f)
			}
		}
	}
}

// Promise 14, likewise, with one byte ahead of Data anything, in each frame of some.
func TestPromise14WhatIsReadHasTheBytesOfEachSize(t *testing.T) {
	all := bodies()
	for _, p := range okPieces() {
		for _, kind := range []int{1, 3} {
			p.Kind = kind
			for at := range 5 {
				body := bodyByWords(p)
				for b := range 256 {
					body[at] = byte(b)
					readByBodies(t, all, body)
				}
			}
		}
	}
}

func TestFrmReadOfRightSumsThatNoFrameHas(t *testing.T) {
	rows := []struct {
		why  string
		body []byte
	}{
		{"of no Kind", []byte{0, 0, 0, 0, 0}},
		{"of no Kind", []byte{5, 0, 0, 0, 0}},
		{"of no Kind", []byte{255, 0, 0, 1, 0}},
		{"with Seq 8", []byte{1, 128, 0, 0, 0}},
		{"with Ack 8", []byte{1, 8, 0, 0, 0}},
		{"with Ack 15", []byte{2, 15, 0, 0, 0}},
		{"FrmSay with Seq", []byte{2, 16, 0, 0, 0}},
		{"FrmSay with Poll and Final", []byte{2, 0, 3, 0, 0}},
		{"FrmSay that says 3", []byte{2, 0, 12, 0, 0}},
		{"FrmSay with Seg", []byte{2, 0, 16, 0, 0}},
		{"FrmSay with Len", []byte{2, 0, 0, 1, 0}},
		{"FrmSay with Data", []byte{2, 0, 0, 0, 1, 7}},
		{"FrmData with Poll", []byte{1, 0, 1, 0, 0}},
		{"FrmData with Say", []byte{1, 0, 4, 0, 0}},
		{"FrmData with a bit that none has", []byte{1, 0, 64, 0, 0}},
		{"FrmData with a bit that none has", []byte{1, 0, 128, 0, 0}},
		{"FrmPiece with Ack", []byte{3, 1, 0, 0, 0}},
		{"FrmPiece with Final", []byte{3, 0, 2, 0, 0}},
		{"FrmPiece with a bit that none has", []byte{3, 0, 64, 1, 1, 7}},
		{"FrmGrant of 0", []byte{4, 0, 0, 0, 0}},
		{"FrmGrant with Seq", []byte{4, 16, 0, 1, 0}},
		{"FrmGrant with Data", []byte{4, 0, 0, 1, 1, 7}},
		{"with fewer bytes than it says", []byte{1, 0, 0, 2, 2, 7}},
		{"with fewer bytes than it says", []byte{1, 0, 0, 255, 255, 7}},
		{"with fewer bytes than it says", []byte{3, 0, 0, 1, 1}},
		{"with more bytes than it says", []byte{1, 0, 0, 2, 2, 7, 7, 7}},
		{"with more bytes than it says", []byte{1, 0, 0, 0, 0, 7}},
		{"with more bytes than it says", []byte{4, 0, 0, 1, 0, 7}},
		{"with more bytes than FrmMax", []byte{1, 0, 0, 9, 9, 1, 2, 3, 4, 5, 6, 7, 8, 9}},
		{"too short", nil},
		{"too short", []byte{1}},
		{"too short", []byte{1, 0}},
		{"too short", []byte{1, 0, 0}},
		{"too short", []byte{1, 0, 0, 0}},
		{"too short", []byte{2, 0, 0, 0}},
	}
	for _, r := range rows {
		wantUnread(t, putByWords(r.body), r.why)
	}
	for _, size := range []int{256, 257, 260, 1000, 65536} {
		// So many bytes that how many there are, mod 256, might be told as few.
		body := append([]byte{1, 0, 0, byte(size), byte(size)}, sameBytes(size, 0)...)
		wantUnread(t, putByWords(body), "with many bytes")
	}
}

func TestFrmReadOfFewBytes(t *testing.T) {
	wantUnread(t, nil, "of no bytes")
	for size := range 8 {
		for _, b := range []byte{0, 1, 2, 4, 255} {
			wantUnread(t, sameBytes(size, b), "of few bytes")
		}
	}
	for b := range 256 {
		wantUnread(t, []byte{byte(b)}, "of one byte")
	}
	for size := range 40 {
		for seed := range 50 {
			wantUnread(t, mixedBytes(uint32(seed), size), "of bytes without their sum")
		}
	}
	for size := range 5 {
		for seed := range 50 {
			wantUnread(t, putByWords(mixedBytes(uint32(seed), size)), "too short")
		}
	}
}

// Bytes that stand behind the end of what is handed in are not its bytes.
func TestFrmReadTakesNothingBehindTheEnd(t *testing.T) {
	for _, f := range someFrames() {
		list := impl.FrmBytes(f)
		for size := range list {
			wantUnread(t, bytes.Clone(list)[:size], "whose other bytes stand behind its end")
		}
		inside, _ := inRoom(list)
		if got, ok := impl.FrmRead(inside); !ok || !frameSame(got, f) {
			t.Fatalf("FrmRead(%v), with room behind it, = %+v, %v", inside, got, ok)
		}
	}
}

// Promise 15: with bytes beyond FrmMax none is ok, whatever its Kind, Seg and Len.
func TestPromise15BytesBeyondFrmMax(t *testing.T) {
	for size := 9; size <= 600; size++ {
		for kind := -1; kind <= 5; kind++ {
			for seg := -1; seg <= 4; seg++ {
				for _, n := range []int{0, 1, 8, 9, 24, 255, size - 1, size, size + 1, size % 256, size%256 + 1} {
					f := impl.FrmFrame{Kind: kind, Seg: seg, Len: n, Data: sameBytes(size, 1)}
					if impl.FrmOk(f) || len(impl.FrmBytes(f)) != 0 {
						t.Fatalf("FrmOk of Kind %d, Seg %d, Len %d, and %d bytes", kind, seg, n, size)
					}
				}
			}
		}
	}
}

// Promise 15: what asks for an answer is none itself; and just FrmSay asks.
func TestPromise15WhoAsksDoesNotAnswer(t *testing.T) {
	asks := 0
	for _, f := range okFrames() {
		f.Poll, f.Final = true, true
		wantOk(t, f, false)
		f.Final = false
		wantOk(t, f, f.Kind == impl.FrmSay)
		if impl.FrmOk(f) {
			asks++
		}
	}
	if asks == 0 {
		t.Fatal("no frame asks")
	}
}

// Promise 15: what grants, or carries for a credit, has no numbers.
func TestPromise15NoNumbersForCredits(t *testing.T) {
	for _, f := range okFrames() {
		if f.Kind != impl.FrmPiece && f.Kind != impl.FrmGrant {
			continue
		}
		for seq := -1; seq <= 8; seq++ {
			for ack := -1; ack <= 8; ack++ {
				g := changed(f, func(f *impl.FrmFrame) { f.Seq, f.Ack = seq, ack })
				wantOk(t, g, seq == 0 && ack == 0)
			}
		}
	}
}

// Promise 67: of two frames that are ok FrmBytes is the same just if they are.
func TestPromise67TwoFramesTwoLists(t *testing.T) {
	seen := map[string]impl.FrmFrame{}
	for _, f := range okFrames() {
		list := string(impl.FrmBytes(f))
		if g, has := seen[list]; has {
			t.Fatalf("FrmBytes of %+v is that of %+v", f, g)
		}
		seen[list] = f
		again := changed(f, func(f *impl.FrmFrame) { f.Data = bytes.Clone(f.Data) })
		if string(impl.FrmBytes(again)) != list {
			t.Fatalf("FrmBytes of %+v is two", f)
		}
	}
}

// Promise 67: frames that differ in one bit of their Data have two lists of bytes.
func TestPromise67TwoDatas(t *testing.T) {
	for _, f := range someFrames() {
		list := impl.FrmBytes(f)
		for bit := range 8 * len(f.Data) {
			g := changed(f, func(f *impl.FrmFrame) { f.Data = turned(f.Data, bit/8, 1<<(bit%8)) })
			if bytes.Equal(impl.FrmBytes(g), list) {
				t.Fatalf("FrmBytes of %+v is that of %+v", f, g)
			}
		}
	}
}

func TestFrmOkAndFrmBytesShareNothing(t *testing.T) {
	for _, f := range someFrames() {
		want := putByWords(bodyByWords(f))
		inside, all := inRoom(f.Data)
		before := bytes.Clone(all)
		f.Data = inside
		impl.FrmOk(f)
		first, second := impl.FrmBytes(f), impl.FrmBytes(f)
		if !bytes.Equal(all, before) {
			t.Fatalf("FrmOk or FrmBytes of %+v wrote into its argument, or beside it", f)
		}
		scribble(first)
		if !bytes.Equal(all, before) {
			t.Fatalf("FrmBytes of %+v shares memory with its argument", f)
		}
		scribble(all)
		if !bytes.Equal(second, want) {
			t.Fatalf("FrmBytes of %+v shares memory with its argument, or another answer", f)
		}
	}
}

func TestFrmReadSharesNothing(t *testing.T) {
	for _, f := range someFrames() {
		inside, all := inRoom(putByWords(bodyByWords(f)))
		before := bytes.Clone(all)
		first, _ := impl.FrmRead(inside)
		second, _ := impl.FrmRead(inside)
		if !bytes.Equal(all, before) {
			t.Fatalf("FrmRead(%v) wrote into its argument, or beside it", inside)
		}
		scribble(first.Data)
		if !bytes.Equal(all, before) {
			t.Fatalf("FrmRead(%v) shares memory with its argument", inside)
		}
		scribble(all)
		if !frameSame(second, f) {
			t.Fatalf("FrmRead to %+v shares memory with its argument, or another answer", f)
		}
	}
}

func TestFrmOfWrongArgumentsLeavesThem(t *testing.T) {
	inside, all := inRoom(mixedBytes(7, 20))
	before := bytes.Clone(all)
	impl.FrmRead(inside)
	impl.FrmRead(inside[:3])
	impl.FrmOk(impl.FrmFrame{Kind: impl.FrmData, Data: inside})
	impl.FrmBytes(impl.FrmFrame{Kind: impl.FrmData, Len: 20, Data: inside})
	if !bytes.Equal(all, before) {
		t.Error("what was handed in, or what stands beside it, was turned")
	}
}

func TestFramesKeepNothingBetweenCalls(t *testing.T) {
	frames := someFrames()
	for i, f := range frames {
		g := frames[len(frames)-1-i]
		listF := impl.FrmBytes(f)
		readF, _ := impl.FrmRead(listF)
		impl.FrmRead([]byte{1, 2, 3})
		impl.FrmBytes(impl.FrmFrame{Kind: 9})
		impl.FrmRead(impl.FrmBytes(g))
		again, ok := impl.FrmRead(listF)
		if !ok || !frameSame(again, f) || !frameSame(readF, f) || !bytes.Equal(impl.FrmBytes(f), putByWords(bodyByWords(f))) {
			t.Fatalf("%+v hangs on the calls ahead of it, or behind it", f)
		}
	}
}
