package tests

import (
	"bytes"
	"fmt"
	"math"
	"slices"
	"testing"

	"loop.example/linkboy/impl"
)

// rxOkByWords is chapter 7's words for who hears and is ok, with the bounds written out.
func rxOkByWords(r impl.RxState) bool {
	numbers := r.Expect >= 0 && r.Expect <= 7 && r.Count >= 0 && r.Count <= 9999 && r.Count%8 == r.Expect
	return numbers && joinOkByWords(r.Join.Len, len(r.Join.Got))
}

// rxSaysByWords is the frame that says how far all has come, and whether who hears is busy.
func rxSaysByWords(r impl.RxState, final bool) []impl.FrmFrame {
	f := impl.FrmFrame{Kind: 2, Ack: r.Expect, Final: final}
	if r.Busy {
		f.Say = 2
	}
	return []impl.FrmFrame{f}
}

// rxHearByWords is chapter 7's words for RxHear.
func rxHearByWords(c impl.CfgOpts, r impl.RxState, f impl.FrmFrame) (impl.RxState, [][]byte, []impl.FrmFrame) {
	if !wantedByWords(c) || !rxOkByWords(r) || f.Kind != 1 && f.Kind != 2 || !okByWords(f) {
		return impl.RxState{}, nil, nil
	}
	if r.Dead || f.Kind == 2 && !f.Poll {
		return r, nil, nil
	}
	if f.Kind == 2 {
		r.Again = false
		return r, nil, rxSaysByWords(r, true)
	}
	if r.Busy {
		return r, nil, rxSaysByWords(r, false)
	}
	far := farByWords(r.Expect, f.Seq)
	if far == 0 {
		r, sdus := rxTakeByWords(c, r, f)
		return r, sdus, nil
	}
	if far <= c.Win-1 && !r.Again {
		r.Again = true
		return r, nil, []impl.FrmFrame{{Kind: 2, Ack: r.Expect, Say: 1}}
	}
	return r, nil, nil
}

// rxTakeByWords is chapter 7's words for the piece that comes next.
func rxTakeByWords(c impl.CfgOpts, r impl.RxState, f impl.FrmFrame) (impl.RxState, [][]byte) {
	if f.Len > c.Mtu || len(f.Data) > c.Mps || r.Count == 9999 {
		r.Dead = true
		return r, nil
	}
	join, sdu, how := joinByWords(r.Join, impl.SegPart{Seg: f.Seg, Len: f.Len, Data: f.Data})
	r.Join = join
	if how == 3 {
		r.Dead = true
		return r, nil
	}
	r.Expect, r.Count, r.Again = (r.Expect+1)%8, r.Count+1, false
	if how == 2 {
		return r, [][]byte{sdu}
	}
	return r, nil
}

// rxBusyByWords is chapter 7's words for RxBusy.
func rxBusyByWords(r impl.RxState, busy bool) (impl.RxState, []impl.FrmFrame) {
	if !rxOkByWords(r) {
		return impl.RxState{}, nil
	}
	if r.Dead || r.Busy == busy {
		return r, nil
	}
	r.Busy, r.Again = busy, false
	return r, rxSaysByWords(r, false)
}

func rxSame(a impl.RxState, b impl.RxState) bool {
	return a.Expect == b.Expect && a.Count == b.Count && joinSame(a.Join, b.Join) &&
		a.Again == b.Again && a.Busy == b.Busy && a.Dead == b.Dead
}

func noRx(r impl.RxState) bool {
	return rxSame(r, impl.RxState{})
}

func framesSame(a []impl.FrmFrame, b []impl.FrmFrame) bool {
	return slices.EqualFunc(a, b, frameSame)
}

func messagesSame(a [][]byte, b [][]byte) bool {
	return slices.EqualFunc(a, b, bytes.Equal)
}

// rxOf is who hears, to whom so many pieces have come, and of a message something, or nothing.
func rxOf(count int, join impl.SegJoin) impl.RxState {
	return impl.RxState{Expect: count % 8, Count: count, Join: join}
}

// rxWays is who hears in each way in which it may have said Again, be Busy, or be at its end.
func rxWays(r impl.RxState) []impl.RxState {
	var list []impl.RxState
	for how := range 8 {
		r.Again, r.Busy, r.Dead = how%2 == 1, how/2%2 == 1, how/4 == 1
		list = append(list, r)
	}
	return list
}

func someJoins() []impl.SegJoin {
	return []impl.SegJoin{
		{}, {Len: 2, Got: []byte{7}}, {Len: 5, Got: []byte("he")}, {Len: 9, Got: []byte("abcd")},
		{Len: 12, Got: mixedBytes(3, 8)}, {Len: 24, Got: []byte{0}}, {Len: 24, Got: mixedBytes(4, 23)},
	}
}

// rxStates is who hears and is ok: at the bounds of what is counted, and round about; with nothing come of a message, or something; in all ways.
func rxStates() []impl.RxState {
	var list []impl.RxState
	for _, count := range []int{0, 3, 6, 7, 8, 4001, 9991, 9998, 9999} {
		for _, j := range someJoins() {
			list = append(list, rxWays(rxOf(count, j))...)
		}
	}
	return list
}

// badRxStates is who hears and is not ok: with one thing wrong each.
func badRxStates() []impl.RxState {
	var list []impl.RxState
	for _, r := range []impl.RxState{{}, rxOf(7, impl.SegJoin{}), rxOf(13, impl.SegJoin{Len: 5, Got: []byte("he")}), rxOf(9999, impl.SegJoin{Len: 24, Got: []byte{1}})} {
		for _, n := range append(noNumbers(), (r.Expect+1)%8, (r.Expect+7)%8) {
			bad := r
			bad.Expect = n
			list = append(list, bad)
		}
		for _, n := range []int{-1, -8, r.Count - 10000, 10000, 10000 + r.Expect, 10007, r.Count + 1, r.Count + 10000, math.MaxInt, math.MinInt, r.Count + math.MinInt} {
			bad := r
			bad.Count = n
			list = append(list, bad)
		}
		for _, j := range badJoins() {
			bad := r
			bad.Join = j
			list = append(list, bad)
		}
	}
	return list
}

// rxPieces is pieces of each kind, at the bounds of some of what both may use, and about them; some fit where the others do not.
func rxPieces() []impl.SegPart {
	var list []impl.SegPart
	for _, size := range []int{0, 1, 2, 3, 4, 5, 6, 8} {
		data := mixedBytes(uint32(size)+60, size)
		list = append(list, impl.SegPart{Seg: impl.SegAll, Len: size, Data: data})
		if size > 0 {
			list = append(list, impl.SegPart{Seg: impl.SegMore, Data: data}, impl.SegPart{Seg: impl.SegEnd, Data: data})
		}
	}
	for _, r := range [][2]int{{2, 1}, {7, 3}, {8, 3}, {9, 2}, {10, 2}, {20, 5}, {21, 5}, {24, 8}, {24, 1}} {
		list = append(list, impl.SegPart{Seg: impl.SegStart, Len: r[0], Data: mixedBytes(uint32(r[0]), r[1])})
	}
	return list
}

// carries is the frame of a piece, with its number.
func carries(seq int, p impl.SegPart) impl.FrmFrame {
	return impl.FrmFrame{Kind: impl.FrmData, Seq: seq, Ack: (seq * 3) % 8, Seg: p.Seg, Len: p.Len, Data: p.Data}
}

// whole is the frame of a piece that is all of a message.
func whole(seq int, sdu string) impl.FrmFrame {
	return carries(seq, impl.SegPart{Len: len(sdu), Data: []byte(sdu)})
}

func poll(ack int, what int) impl.FrmFrame {
	return impl.FrmFrame{Kind: impl.FrmSay, Ack: ack, Poll: true, Say: what}
}

// rxFrames is frames that who hears hears: pieces of each number, and all that is said.
func rxFrames() []impl.FrmFrame {
	var list []impl.FrmFrame
	for seq := range 8 {
		for i, p := range rxPieces() {
			f := carries(seq, p)
			f.Final = i%2 == 1
			list = append(list, f)
		}
	}
	for ack := range 8 {
		for what := range 3 {
			list = append(list, say(ack, what), poll(ack, what), answer(ack, what))
		}
	}
	return list
}

func wantRxOk(t *testing.T, r impl.RxState, want bool) {
	t.Helper()
	if got := impl.RxOk(r); got != want {
		t.Fatalf("RxOk(%+v) = %v", r, got)
	}
}

// wantRxHear is RxHear held against the words, and answers it; likewise the one below.
func wantRxHear(t *testing.T, c impl.CfgOpts, r impl.RxState, f impl.FrmFrame) (impl.RxState, [][]byte, []impl.FrmFrame) {
	t.Helper()
	got, sdus, says := impl.RxHear(c, r, f)
	want, wantSdus, wantSays := rxHearByWords(c, r, f)
	if !rxSame(got, want) || !messagesSame(sdus, wantSdus) || !framesSame(says, wantSays) {
		t.Fatalf("RxHear(%+v, %+v, %+v) = %+v, %v, %+v, want %+v, %v, %+v", c, r, f, got, sdus, says, want, wantSdus, wantSays)
	}
	return got, sdus, says
}

func wantRxBusy(t *testing.T, r impl.RxState, busy bool) (impl.RxState, []impl.FrmFrame) {
	t.Helper()
	got, says := impl.RxBusy(r, busy)
	if want, wantSays := rxBusyByWords(r, busy); !rxSame(got, want) || !framesSame(says, wantSays) {
		t.Fatalf("RxBusy(%+v, %v) = %+v, %+v, want %+v, %+v", r, busy, got, says, want, wantSays)
	}
	return got, says
}

func wantRxAck(t *testing.T, r impl.RxState) {
	t.Helper()
	want := impl.FrmFrame{}
	if rxOkByWords(r) {
		want = rxSaysByWords(r, false)[0]
	}
	if got := impl.RxAck(r); !frameSame(got, want) {
		t.Fatalf("RxAck(%+v) = %+v, want %+v", r, got, want)
	}
}

// wantNoRx is RxHear, that answers nothing, none and none.
func wantNoRx(t *testing.T, c impl.CfgOpts, r impl.RxState, f impl.FrmFrame) {
	t.Helper()
	if got, sdus, says := impl.RxHear(c, r, f); !noRx(got) || len(sdus) != 0 || len(says) != 0 {
		t.Fatalf("RxHear(%+v, %+v, %+v) = %+v, %v, %+v", c, r, f, got, sdus, says)
	}
}

func TestRxConstants(t *testing.T) {
	got := []int{
		impl.TxTop, impl.NumMod, impl.FrmData, impl.FrmSay, impl.SayGo, impl.SayWait, impl.SayAgain,
		impl.JoinMore, impl.JoinAll, impl.JoinBad,
	}
	if want := []int{9999, 8, 1, 2, 0, 2, 1, 1, 2, 3}; !slices.Equal(got, want) {
		t.Errorf("constants %v, want %v", got, want)
	}
}

func TestRxOkOfNothingAtAll(t *testing.T) {
	wantRxOk(t, impl.RxState{}, true)
	wantRxOk(t, impl.RxState{Join: impl.SegJoin{Got: make([]byte, 0, 3)}}, true)
}

// Expect, a number or none, with each of what is counted about it.
func TestRxOkOfExpect(t *testing.T) {
	for expect := -9; expect <= 17; expect++ {
		for count := -9; count <= 40; count++ {
			isNumber := expect >= 0 && expect <= 7
			wantRxOk(t, impl.RxState{Expect: expect, Count: count}, isNumber && count >= 0 && count%8 == expect)
		}
	}
	for _, n := range noNumbers() {
		wantRxOk(t, impl.RxState{Expect: n}, false)
		wantRxOk(t, impl.RxState{Expect: n, Count: n}, false)
	}
}

// Count up to TxTop, and one beyond on either side, with each Expect.
func TestRxOkOfCount(t *testing.T) {
	for count := -20; count <= 10020; count++ {
		for expect := range 8 {
			wantRxOk(t, impl.RxState{Expect: expect, Count: count}, count >= 0 && count <= 9999 && count%8 == expect)
		}
	}
	for _, count := range []int{1 << 32, math.MaxInt, math.MinInt, math.MinInt + 7} {
		for expect := range 8 {
			wantRxOk(t, impl.RxState{Expect: expect, Count: count}, false)
		}
	}
}

func TestRxOkOfJoin(t *testing.T) {
	for _, count := range []int{0, 7, 8, 13, 9999} {
		for _, j := range okJoins() {
			wantRxOk(t, rxOf(count, j), true)
		}
		for _, j := range badJoins() {
			wantRxOk(t, rxOf(count, j), false)
		}
	}
}

// Whether it has said Again, is Busy, or is at its end makes no difference.
func TestRxOkOfAgainBusyAndDead(t *testing.T) {
	for _, r := range rxStates() {
		wantRxOk(t, r, true)
	}
	for _, bad := range badRxStates() {
		for _, r := range rxWays(bad) {
			wantRxOk(t, r, false)
		}
	}
}

func TestRxHearOfWhatIsSaid(t *testing.T) {
	c := impl.CfgOpts{Mode: 1, Win: 3, Mps: 4, Mtu: 9, Try: 2}
	for _, r := range rxWays(rxOf(13, impl.SegJoin{Len: 5, Got: []byte("he")})) {
		for what := range 3 {
			for _, f := range []impl.FrmFrame{say(2, what), answer(6, what)} {
				if got, sdus, says := impl.RxHear(c, r, f); !rxSame(got, r) || len(sdus) != 0 || len(says) != 0 {
					t.Errorf("RxHear(%+v, %+v) = %+v, %v, %+v: nothing was asked", r, f, got, sdus, says)
				}
			}
			got, sdus, says := impl.RxHear(c, r, poll(2, what))
			want := r
			var answers []impl.FrmFrame
			if !r.Dead {
				want.Again = false
				answers = []impl.FrmFrame{{Kind: impl.FrmSay, Ack: 5, Final: true, Say: impl.SayGo}}
				if r.Busy {
					answers[0].Say = impl.SayWait
				}
			}
			if !rxSame(got, want) || len(sdus) != 0 || !framesSame(says, answers) {
				t.Errorf("RxHear(%+v, Poll, %d) = %+v, %v, %+v, want %+v, %+v", r, what, got, sdus, says, want, answers)
			}
		}
	}
}

// The piece that comes next, of one that has said Again: what it leaves, and tells.
func TestRxHearOfThePieceThatComesNext(t *testing.T) {
	c := impl.CfgOpts{Mode: 1, Win: 3, Mps: 4, Mtu: 9, Try: 2}
	begun := impl.SegJoin{Len: 9, Got: []byte("abcd")}
	nearly := impl.SegJoin{Len: 9, Got: []byte("abcdefgh")}
	long := impl.SegJoin{Len: 24, Got: []byte("abcd")}
	part := func(seg int, length int, data string) impl.SegPart {
		return impl.SegPart{Seg: seg, Len: length, Data: []byte(data)}
	}
	rows := []struct {
		name  string
		join  impl.SegJoin
		count int
		p     impl.SegPart
		left  impl.SegJoin
		sdus  [][]byte
		dead  bool
	}{
		{"all of a message", impl.SegJoin{}, 4, part(0, 2, "ab"), impl.SegJoin{}, [][]byte{[]byte("ab")}, false},
		{"all of a message that has no bytes", impl.SegJoin{}, 4, part(0, 0, ""), impl.SegJoin{}, [][]byte{{}}, false},
		{"all of a message, Mps bytes", impl.SegJoin{}, 4, part(0, 4, "abcd"), impl.SegJoin{}, [][]byte{[]byte("abcd")}, false},
		{"all of a message, more than Mps bytes", impl.SegJoin{}, 4, part(0, 5, "abcde"), impl.SegJoin{}, nil, true},
		{"all of a message behind a beginning", begun, 4, part(0, 2, "ab"), impl.SegJoin{}, nil, true},
		{"a beginning, Len Mtu", impl.SegJoin{}, 4, part(1, 9, "abcd"), begun, nil, false},
		{"a beginning, Len above Mtu", impl.SegJoin{}, 4, part(1, 10, "abcd"), impl.SegJoin{}, nil, true},
		{"a beginning, more than Mps bytes", impl.SegJoin{}, 4, part(1, 9, "abcde"), impl.SegJoin{}, nil, true},
		{"a beginning behind a beginning", begun, 4, part(1, 9, "abcd"), impl.SegJoin{}, nil, true},
		{"what goes on", begun, 4, part(2, 0, "efgh"), nearly, nil, false},
		{"what goes on, and comes round", begun, 7, part(2, 0, "efgh"), nearly, nil, false},
		{"what goes on, more than Mps bytes", impl.SegJoin{Len: 9, Got: []byte("a")}, 4, part(2, 0, "efghi"), impl.SegJoin{Len: 9, Got: []byte("a")}, nil, true},
		{"what goes on behind nothing", impl.SegJoin{}, 4, part(2, 0, "efgh"), impl.SegJoin{}, nil, true},
		{"what goes on up to the end", nearly, 4, part(2, 0, "i"), impl.SegJoin{}, nil, true},
		{"an end", nearly, 4, part(3, 0, "i"), impl.SegJoin{}, [][]byte{[]byte("abcdefghi")}, false},
		{"an end that comes too early", begun, 4, part(3, 0, "i"), impl.SegJoin{}, nil, true},
		{"an end with too much", nearly, 4, part(3, 0, "ij"), impl.SegJoin{}, nil, true},
		{"an end behind nothing", impl.SegJoin{}, 4, part(3, 0, "i"), impl.SegJoin{}, nil, true},
		{"an end, more than Mps bytes", begun, 4, part(3, 0, "efghi"), begun, nil, true},
		{"one below TxTop", impl.SegJoin{}, 9998, part(0, 2, "ab"), impl.SegJoin{}, [][]byte{[]byte("ab")}, false},
		{"one below TxTop, and something has come", begun, 9998, part(2, 0, "efgh"), nearly, nil, false},
		{"at TxTop", impl.SegJoin{}, 9999, part(0, 2, "ab"), impl.SegJoin{}, nil, true},
		{"at TxTop, and something has come", begun, 9999, part(2, 0, "efgh"), begun, nil, true},
		{"at TxTop, what does not fit", begun, 9999, part(0, 1, "a"), begun, nil, true},
		{"what goes on in what is longer than Mtu", long, 4, part(2, 0, "efgh"), impl.SegJoin{Len: 24, Got: []byte("abcdefgh")}, nil, false},
		{"a beginning above Mtu that does not fit", begun, 4, part(1, 10, "abcd"), begun, nil, true},
	}
	for _, row := range rows {
		for _, again := range []bool{false, true} {
			for _, final := range []bool{false, true} {
				r := rxOf(row.count, row.join)
				r.Again = again
				want := rxOf(row.count, row.left)
				if row.dead {
					want.Again, want.Dead = again, true
				} else {
					want.Count++
					want.Expect = want.Count % 8
				}
				f := carries(r.Expect, row.p)
				f.Final = final
				got, sdus, says := impl.RxHear(c, r, f)
				if !rxSame(got, want) || !messagesSame(sdus, row.sdus) || len(says) != 0 {
					t.Errorf("%s: RxHear(%+v, %+v) = %+v, %v, %+v, want %+v, %v", row.name, r, f, got, sdus, says, want, row.sdus)
				}
			}
		}
	}
}

// A piece of any number, of one that is Busy, and of one that is at its end.
func TestRxHearWhereItMayNot(t *testing.T) {
	c := impl.CfgOpts{Mode: 1, Win: 3, Mps: 4, Mtu: 9, Try: 2}
	for _, r := range rxWays(rxOf(14, impl.SegJoin{})) {
		if !r.Busy && !r.Dead {
			continue
		}
		var want []impl.FrmFrame
		if !r.Dead {
			want = []impl.FrmFrame{{Kind: impl.FrmSay, Ack: 6, Say: impl.SayWait}}
		}
		for seq := range 8 {
			for _, sdu := range []string{"", "ab", "abcdefgh"} {
				if got, sdus, says := impl.RxHear(c, r, whole(seq, sdu)); !rxSame(got, r) || len(sdus) != 0 || !framesSame(says, want) {
					t.Errorf("RxHear(%+v, %d %q) = %+v, %v, %+v", r, seq, sdu, got, sdus, says)
				}
			}
		}
	}
}

// Each number on from each Expect, with each Win, of one that has said Again and of one that has not.
func TestRxHearOfNumbersFurtherOn(t *testing.T) {
	for win := 1; win <= impl.WinMax; win++ {
		c := impl.CfgOpts{Mode: 1, Win: win, Mps: 4, Mtu: 9, Try: 2}
		for count := range 16 {
			for far := 1; far <= 7; far++ {
				for _, again := range []bool{false, true} {
					r := rxOf(count, impl.SegJoin{Len: 5, Got: []byte("he")})
					r.Again = again
					got, sdus, says := impl.RxHear(c, r, whole((count+far)%8, "ab"))
					want := r
					var wantSays []impl.FrmFrame
					if far < win && !again {
						want.Again = true
						wantSays = []impl.FrmFrame{{Kind: impl.FrmSay, Ack: count % 8, Say: impl.SayAgain}}
					}
					if !rxSame(got, want) || len(sdus) != 0 || !framesSame(says, wantSays) {
						t.Errorf("Win %d, %d on from %+v: %+v, %v, %+v", win, far, r, got, sdus, says)
					}
				}
			}
		}
	}
}

func TestRxHearOfEachStateAndFrame(t *testing.T) {
	frames := rxFrames()
	for _, c := range txOpts() {
		for _, r := range rxStates() {
			for _, f := range frames {
				wantRxHear(t, c, r, f)
			}
		}
	}
}

// All that may have come of a message, and each piece, under each Mps and Mtu of some.
func TestRxHearOfEachJoinAndPiece(t *testing.T) {
	parts := okParts()
	for _, c := range txOpts() {
		for i, j := range okJoins() {
			r := rxOf(i%32, j)
			r.Again = i%3 == 0
			for _, p := range parts {
				wantRxHear(t, c, r, carries(r.Expect, p))
			}
		}
	}
}

// Each Mps with each size, and each Mtu with each Len: at it, and above it.
func TestRxHearAtMpsAndMtu(t *testing.T) {
	for mps := 1; mps <= impl.FrmMax; mps++ {
		c := impl.CfgOpts{Mode: 1, Win: 2, Mps: mps, Mtu: 24, Try: 1}
		for size := range 9 {
			got, sdus, _ := impl.RxHear(c, impl.RxState{}, carries(0, impl.SegPart{Len: size, Data: sameBytes(size, 5)}))
			if fits := size <= mps; got.Dead == fits || got.Count == 1 != fits || len(sdus) == 1 != fits {
				t.Errorf("Mps %d, %d bytes: %+v, %v", mps, size, got, sdus)
			}
		}
	}
	for mtu := 1; mtu <= impl.SduMax; mtu++ {
		c := impl.CfgOpts{Mode: 1, Win: 2, Mps: 8, Mtu: mtu, Try: 1}
		for length := 2; length <= 24; length++ {
			got, sdus, _ := impl.RxHear(c, impl.RxState{}, carries(0, impl.SegPart{Seg: 1, Len: length, Data: []byte{5}}))
			if fits := length <= mtu; got.Dead == fits || got.Count == 1 != fits || got.Join.Len == length != fits || len(sdus) != 0 {
				t.Errorf("Mtu %d, Len %d: %+v, %v", mtu, length, got, sdus)
			}
		}
		for size := range 9 {
			got, sdus, _ := impl.RxHear(c, impl.RxState{}, carries(0, impl.SegPart{Len: size, Data: sameBytes(size, 5)}))
			if fits := size <= mtu; got.Dead == fits || len(sdus) == 1 != fits {
				t.Errorf("Mtu %d, %d bytes: %+v, %v", mtu, size, got, sdus)
			}
		}
	}
}

// From nothing on up to TxTop, over all numbers again and again; the piece behind that ends it.
func TestRxHearRoundAndRoundUpToTxTop(t *testing.T) {
	c := impl.CfgOpts{Mode: 1, Win: 4, Mps: 2, Mtu: 9, Try: 1}
	r := impl.RxState{}
	for n := range 9999 {
		f := whole(n%8, string([]byte{byte(n), byte(n / 256)}))
		next, sdus, says := impl.RxHear(c, r, f)
		if next.Count != n+1 || next.Expect != (n+1)%8 || next.Dead || len(says) != 0 || !messagesSame(sdus, [][]byte{f.Data}) {
			t.Fatalf("behind %d: %+v, %v, %+v", n, next, sdus, says)
		}
		r = next
	}
	last, sdus, says := impl.RxHear(c, r, whole(7, "ab"))
	want := r
	want.Dead = true
	if !rxSame(last, want) || len(sdus) != 0 || len(says) != 0 || !impl.RxOk(last) {
		t.Errorf("behind TxTop: %+v, %v, %+v", last, sdus, says)
	}
}

func TestRxHearOfWhatMayNotBeWanted(t *testing.T) {
	states := rxStates()
	for i, c := range badOpts() {
		for k := range 8 {
			r := states[(i*8+k)%len(states)]
			wantNoRx(t, c, r, whole(r.Expect, ""))
			wantNoRx(t, c, r, whole((r.Expect+1)%8, "a"))
			wantNoRx(t, c, r, poll(r.Expect, impl.SayGo))
			wantNoRx(t, c, r, say(r.Expect, impl.SayGo))
		}
	}
}

func TestRxHearOfEachThatMayBeWanted(t *testing.T) {
	states, frames := rxStates(), rxFrames()
	joins, pieces := someJoins(), rxPieces()
	for i, c := range eachWanted() {
		for k := range 20 {
			n := 20*i + k
			wantRxHear(t, c, states[n*37%len(states)], frames[n*53%len(frames)])
			r := rxOf(n%10000, joins[n%len(joins)])
			wantRxHear(t, c, r, carries(r.Expect, pieces[n%len(pieces)]))
			wantRxHear(t, c, r, carries((r.Expect+n%5)%8, pieces[n%len(pieces)]))
		}
	}
}

// A frame of another kind, or one that is not ok, answers nothing, of one that is at its end, too.
func TestRxHearOfOtherFrames(t *testing.T) {
	for _, c := range txOpts() {
		for _, f := range unheardFrames() {
			for _, r := range rxStates() {
				wantNoRx(t, c, r, f)
			}
		}
		for _, p := range badParts() {
			wantNoRx(t, c, impl.RxState{}, carries(0, p))
			wantNoRx(t, c, impl.RxState{Busy: true}, carries(3, p))
		}
	}
}

// What is not ok answers nothing, in each of the three that answer something.
func TestRxOfWhatIsNotOk(t *testing.T) {
	for _, bad := range badRxStates() {
		for _, r := range rxWays(bad) {
			for _, c := range txOpts()[:3] {
				for _, f := range []impl.FrmFrame{whole(0, "a"), whole(5, ""), poll(0, 0), say(0, 2)} {
					wantNoRx(t, c, r, f)
				}
			}
			for _, busy := range []bool{false, true} {
				if got, says := impl.RxBusy(r, busy); !noRx(got) || len(says) != 0 {
					t.Fatalf("RxBusy(%+v, %v) = %+v, %+v", r, busy, got, says)
				}
			}
			if got := impl.RxAck(r); !isNothing(got) {
				t.Fatalf("RxAck(%+v) = %+v", r, got)
			}
		}
	}
}

// Who is at its end stays as it is, whatever it hears, and says nothing.
func TestRxAtItsEnd(t *testing.T) {
	frames := rxFrames()
	for _, r := range rxStates() {
		if !r.Dead {
			continue
		}
		for _, c := range txOpts() {
			for _, f := range frames {
				if got, sdus, says := impl.RxHear(c, r, f); !rxSame(got, r) || len(sdus) != 0 || len(says) != 0 {
					t.Fatalf("RxHear(%+v, %+v, %+v) = %+v, %v, %+v", c, r, f, got, sdus, says)
				}
			}
		}
		for _, busy := range []bool{false, true} {
			if got, says := impl.RxBusy(r, busy); !rxSame(got, r) || len(says) != 0 {
				t.Fatalf("RxBusy(%+v, %v) = %+v, %+v", r, busy, got, says)
			}
		}
	}
}

func TestRxBusyKnown(t *testing.T) {
	join := impl.SegJoin{Len: 5, Got: []byte("he")}
	said := func(what int) []impl.FrmFrame {
		return []impl.FrmFrame{{Kind: impl.FrmSay, Ack: 3, Say: what}}
	}
	rows := []struct {
		name string
		r    impl.RxState
		busy bool
		want impl.RxState
		says []impl.FrmFrame
	}{
		{"to busy", impl.RxState{Expect: 3, Count: 11, Join: join}, true, impl.RxState{Expect: 3, Count: 11, Join: join, Busy: true}, said(impl.SayWait)},
		{"and back", impl.RxState{Expect: 3, Count: 11, Join: join, Busy: true}, false, impl.RxState{Expect: 3, Count: 11, Join: join}, said(impl.SayGo)},
		{"to busy, Again said", impl.RxState{Expect: 3, Count: 3, Again: true}, true, impl.RxState{Expect: 3, Count: 3, Busy: true}, said(impl.SayWait)},
		{"and back, Again said", impl.RxState{Expect: 3, Count: 3, Again: true, Busy: true}, false, impl.RxState{Expect: 3, Count: 3}, said(impl.SayGo)},
		{"not busy still", impl.RxState{Expect: 3, Count: 3, Again: true}, false, impl.RxState{Expect: 3, Count: 3, Again: true}, nil},
		{"busy still", impl.RxState{Expect: 3, Count: 3, Again: true, Busy: true}, true, impl.RxState{Expect: 3, Count: 3, Again: true, Busy: true}, nil},
		{"at its end", impl.RxState{Expect: 3, Count: 3, Again: true, Dead: true}, true, impl.RxState{Expect: 3, Count: 3, Again: true, Dead: true}, nil},
		{"at its end, busy", impl.RxState{Expect: 3, Count: 3, Busy: true, Dead: true}, false, impl.RxState{Expect: 3, Count: 3, Busy: true, Dead: true}, nil},
		{"not ok", impl.RxState{Expect: 3, Count: 4}, true, impl.RxState{}, nil},
		{"not ok, at its end", impl.RxState{Expect: 3, Count: 4, Dead: true}, true, impl.RxState{}, nil},
		{"not ok, turns nothing", impl.RxState{Expect: 3, Count: 4}, false, impl.RxState{}, nil},
	}
	for _, r := range rows {
		if got, says := impl.RxBusy(r.r, r.busy); !rxSame(got, r.want) || !framesSame(says, r.says) {
			t.Errorf("%s: RxBusy(%+v, %v) = %+v, %+v, want %+v, %+v", r.name, r.r, r.busy, got, says, r.want, r.says)
		}
	}
}

func TestRxBusyOfEachState(t *testing.T) {
	for _, r := range rxStates() {
		wantRxBusy(t, r, false)
		wantRxBusy(t, r, true)
	}
}

func TestRxAckKnown(t *testing.T) {
	rows := []struct {
		r    impl.RxState
		want impl.FrmFrame
	}{
		{impl.RxState{}, impl.FrmFrame{Kind: impl.FrmSay, Say: impl.SayGo}},
		{impl.RxState{Expect: 5, Count: 13}, impl.FrmFrame{Kind: impl.FrmSay, Ack: 5, Say: impl.SayGo}},
		{impl.RxState{Expect: 5, Count: 13, Busy: true}, impl.FrmFrame{Kind: impl.FrmSay, Ack: 5, Say: impl.SayWait}},
		{impl.RxState{Expect: 5, Count: 13, Again: true}, impl.FrmFrame{Kind: impl.FrmSay, Ack: 5, Say: impl.SayGo}},
		{impl.RxState{Expect: 7, Count: 9999, Dead: true}, impl.FrmFrame{Kind: impl.FrmSay, Ack: 7, Say: impl.SayGo}},
		{impl.RxState{Expect: 7, Count: 9999, Busy: true, Dead: true}, impl.FrmFrame{Kind: impl.FrmSay, Ack: 7, Say: impl.SayWait}},
		{impl.RxState{Expect: 0, Count: 10000}, impl.FrmFrame{}},
		{impl.RxState{Expect: 5, Count: 12, Busy: true}, impl.FrmFrame{}},
		{impl.RxState{Join: impl.SegJoin{Len: 1}}, impl.FrmFrame{}},
	}
	for _, r := range rows {
		if got := impl.RxAck(r.r); !frameSame(got, r.want) {
			t.Errorf("RxAck(%+v) = %+v, want %+v", r.r, got, r.want)
		}
	}
}

func TestRxAckOfEachState(t *testing.T) {
	for _, r := range rxStates() {
		wantRxAck(t, r)
	}
}

// The document's example, up to where all three pieces are sent again, between who sends and who hears.
func TestRxInTheExample(t *testing.T) {
	c := impl.CfgOpts{Mode: 1, Win: 3, Mps: 2, Mtu: 20, Try: 2}
	s, _ := impl.TxPut(c, impl.TxState{}, []byte("hello"))
	r := impl.RxState{}
	var frames []impl.FrmFrame
	for range 3 {
		var f impl.FrmFrame
		s, f, _ = impl.TxSend(c, s, 0)
		frames = append(frames, f)
	}
	r, _, missing := wantRxHear(t, c, r, frames[1])
	r, _, letBe := wantRxHear(t, c, r, frames[2])
	if !framesSame(missing, []impl.FrmFrame{say(0, impl.SayAgain)}) || len(letBe) != 0 {
		t.Fatalf("that something is missing is said by %+v, and then %+v", missing, letBe)
	}
	s = impl.TxHear(c, s, missing[0])
	s, _, _ = impl.TxSend(c, s, 0)
	s, asks, _ := impl.TxTick(c, s, 0, false)
	r, _, answers := wantRxHear(t, c, r, asks)
	s = impl.TxHear(c, s, answers[0])
	var came [][]byte
	for range 3 {
		var f impl.FrmFrame
		var sdus [][]byte
		s, f, _ = impl.TxSend(c, s, 0)
		r, sdus, _ = wantRxHear(t, c, r, f)
		came = append(came, sdus...)
	}
	s = impl.TxHear(c, s, impl.RxAck(r))
	if !messagesSame(came, [][]byte{[]byte("hello")}) || impl.TxLeft(s) != 0 {
		t.Fatalf("%q has come, %d is left", came, impl.TxLeft(s))
	}
}

// Promise 3: behind RxHear who hears is ok; a piece is taken, and counted, just if it has the number that comes next, and who hears is not busy, nor at its end; a message is told just if all of it is there then; and nothing else turns what has come.
func TestPromise3JustWhatComesNextIsTaken(t *testing.T) {
	taken, told, ended, left := 0, 0, 0, 0
	frames := rxFrames()
	for _, c := range txOpts() {
		for _, r := range rxStates() {
			for _, f := range frames {
				got, sdus, _ := impl.RxHear(c, r, f)
				wantRxOk(t, got, true)
				comes := f.Kind == impl.FrmData && f.Seq == r.Expect && !r.Busy && !r.Dead
				if !comes {
					left++
					if got.Count != r.Count || got.Expect != r.Expect || !joinSame(got.Join, r.Join) || got.Dead != r.Dead || len(sdus) != 0 {
						t.Fatalf("RxHear(%+v, %+v, %+v) = %+v, %v: it turns what has come", c, r, f, got, sdus)
					}
					continue
				}
				if got.Busy {
					t.Fatalf("RxHear(%+v, %+v, %+v) = %+v: busy", c, r, f, got)
				}
				join, sdu, how := joinByWords(r.Join, impl.SegPart{Seg: f.Seg, Len: f.Len, Data: f.Data})
				fits := how != impl.JoinBad && f.Len <= c.Mtu && len(f.Data) <= c.Mps && r.Count < 9999
				if !fits {
					ended++
					if !got.Dead || got.Count != r.Count || got.Expect != r.Expect || len(sdus) != 0 {
						t.Fatalf("RxHear(%+v, %+v, %+v) = %+v, %v: what does not fit is taken", c, r, f, got, sdus)
					}
					continue
				}
				taken++
				if got.Dead || got.Count != r.Count+1 || got.Expect != (r.Expect+1)%8 || !joinSame(got.Join, join) {
					t.Fatalf("RxHear(%+v, %+v, %+v) = %+v: the piece is not taken", c, r, f, got)
				}
				var want [][]byte
				if how == impl.JoinAll {
					told++
					want = [][]byte{sdu}
				}
				if !messagesSame(sdus, want) {
					t.Fatalf("RxHear(%+v, %+v, %+v) tells %v, want %v", c, r, f, sdus, want)
				}
			}
		}
	}
	if taken == 0 || told == 0 || ended == 0 || left == 0 {
		t.Fatalf("%d taken, %d told, %d at its end, %d let be", taken, told, ended, left)
	}
}

// Promise 34, frame by frame: who is asked for an answer answers, with how far all has come; who is busy says so at each piece; that something is missing is said once; and nothing else is said.
func TestPromise34WhoHearsSaysWhatItMust(t *testing.T) {
	answers, busy, missing := 0, 0, 0
	frames := rxFrames()
	for _, c := range txOpts() {
		for _, r := range rxStates() {
			for _, f := range frames {
				got, _, says := impl.RxHear(c, r, f)
				far := (f.Seq - r.Expect + 8) % 8
				var want []impl.FrmFrame
				switch {
				case r.Dead:
				case f.Poll:
					answers++
					want = []impl.FrmFrame{answer(r.Expect, impl.SayGo)}
					if r.Busy {
						want[0].Say = impl.SayWait
					}
				case f.Kind == impl.FrmData && r.Busy:
					busy++
					want = []impl.FrmFrame{say(r.Expect, impl.SayWait)}
				case f.Kind == impl.FrmData && !r.Again && far >= 1 && far < c.Win:
					missing++
					want = []impl.FrmFrame{say(r.Expect, impl.SayAgain)}
				}
				if !framesSame(says, want) {
					t.Fatalf("RxHear(%+v, %+v, %+v) says %+v, want %+v", c, r, f, says, want)
				}
				for _, said := range says {
					if !impl.FrmOk(said) || said.Ack != got.Expect {
						t.Fatalf("RxHear(%+v, %+v, %+v) says %+v, behind it %+v", c, r, f, said, got)
					}
				}
			}
		}
	}
	if answers == 0 || busy == 0 || missing == 0 {
		t.Fatalf("%d answers, %d times busy, %d times missing", answers, busy, missing)
	}
}

// Promise 34, over each order of six things that may be heard: that something is missing is said once, till a piece is taken, or an answer asked for.
func TestPromise34MissingIsSaidOnce(t *testing.T) {
	c := impl.CfgOpts{Mode: 1, Win: 3, Mps: 4, Mtu: 9, Try: 2}
	const length = 6
	orders := 1
	for range length {
		orders *= 6
	}
	for order := range orders {
		r := rxOf(order%16, impl.SegJoin{})
		said := false
		for at, rest := 0, order; at < length; at, rest = at+1, rest/6 {
			var f impl.FrmFrame
			missing, over := false, false
			switch rest % 6 {
			case 0:
				f, missing = whole((r.Expect+1)%8, "a"), true
			case 1:
				f, missing = whole((r.Expect+2)%8, "b"), true
			case 2:
				f, over = whole(r.Expect, "c"), true
			case 3:
				f, over = poll(at, impl.SayGo), true
			case 4:
				f = say(at, impl.SayAgain)
			case 5:
				f = whole((r.Expect+7)%8, "d")
			}
			next, _, says := impl.RxHear(c, r, f)
			again := len(says) == 1 && frameSame(says[0], say(r.Expect, impl.SayAgain))
			if again != (missing && !said) || len(says) > 0 && !again && !f.Poll {
				t.Fatalf("order %d, at %d: RxHear(%+v, %+v) says %+v, said before: %v", order, at, r, f, says, said)
			}
			said = !over && (said || missing)
			r = next
		}
	}
}

// Promise 35: behind a piece that was taken, the same frame once more is not taken.
func TestPromise35APieceIsTakenOnce(t *testing.T) {
	taken := 0
	for _, c := range txOpts() {
		for _, r := range rxStates() {
			for _, p := range rxPieces() {
				f := carries(r.Expect, p)
				got, _, _ := impl.RxHear(c, r, f)
				if got.Count == r.Count {
					continue
				}
				taken++
				more, sdus, says := impl.RxHear(c, got, f)
				if !rxSame(more, got) || len(sdus) != 0 || len(says) != 0 {
					t.Fatalf("RxHear(%+v, %+v, %+v) = %+v, once more %+v, %v, %+v", c, r, f, got, more, sdus, says)
				}
			}
		}
	}
	if taken == 0 {
		t.Fatal("nothing was taken")
	}
}

// Promise 36: RxBusy turns that alone, and says it, with how far all has come; where it turns nothing, nothing is said. What chapter 7 asks for beside it, that Again is not said any more, is a note on what was said.
func TestPromise36WhoIsBusySaysSo(t *testing.T) {
	turns := 0
	for _, r := range rxStates() {
		for _, busy := range []bool{false, true} {
			got, says := impl.RxBusy(r, busy)
			wantRxOk(t, got, true)
			if r.Dead || r.Busy == busy {
				if !rxSame(got, r) || len(says) != 0 {
					t.Fatalf("RxBusy(%+v, %v) = %+v, %+v: nothing turns", r, busy, got, says)
				}
				continue
			}
			turns++
			want := r
			want.Busy, want.Again = busy, false
			what := impl.SayGo
			if busy {
				what = impl.SayWait
			}
			if !rxSame(got, want) || !framesSame(says, []impl.FrmFrame{say(r.Expect, what)}) {
				t.Fatalf("RxBusy(%+v, %v) = %+v, %+v", r, busy, got, says)
			}
			if more, silent := impl.RxBusy(got, busy); !rxSame(more, got) || len(silent) != 0 {
				t.Fatalf("RxBusy(%+v, %v) = %+v, once more %+v, %+v", r, busy, got, more, silent)
			}
			back, again := impl.RxBusy(got, !busy)
			want.Busy = !busy
			if !rxSame(back, want) || len(again) != 1 || again[0].Say == what {
				t.Fatalf("RxBusy(%+v, %v) = %+v, and back %+v, %+v", r, busy, got, back, again)
			}
		}
	}
	if turns == 0 {
		t.Fatal("nothing turned")
	}
}

// Promise 37: RxAck of who hears is a frame that is ok, neither asks nor answers, and says how far all has come, and whether it is busy.
func TestPromise37HowFarAllHasCome(t *testing.T) {
	joins := someJoins()
	for count := range 10000 {
		for _, r := range rxWays(rxOf(count, joins[count%len(joins)])) {
			f := impl.RxAck(r)
			if !impl.FrmOk(f) || f.Kind != impl.FrmSay || f.Poll || f.Final || f.Ack != count%8 {
				t.Fatalf("RxAck(%+v) = %+v", r, f)
			}
			if f.Say == impl.SayWait != r.Busy || f.Say == impl.SayAgain {
				t.Fatalf("RxAck(%+v) says %d", r, f.Say)
			}
		}
	}
}

// Promise 38: of what is ok with one piece more counted it is not; with NumMod more, if that is not too much, it is.
func TestPromise38WhoHearsCountsRoundAbout(t *testing.T) {
	joins := someJoins()
	for count := range 10000 {
		for _, r := range rxWays(rxOf(count, joins[count%len(joins)])) {
			wantRxOk(t, r, true)
			r.Count = count + 1
			wantRxOk(t, r, false)
			r.Count = count + 8
			wantRxOk(t, r, count+8 <= 9999)
		}
	}
}

// sendAll lets who sends take messages, and send, each frame heard at once, and what is heard told at once: what comes.
func sendAll(t *testing.T, c impl.CfgOpts, sdus [][]byte) (impl.TxState, impl.RxState, [][]byte) {
	t.Helper()
	var s impl.TxState
	var r impl.RxState
	var came [][]byte
	for i, sdu := range sdus {
		next, ok := impl.TxPut(c, s, sdu)
		// A message that finds no room is taken once all ahead of it has gone.
		for !ok {
			var sends bool
			if s, r, came, sends = sendOne(t, c, s, r, came); !sends {
				t.Fatalf("%+v: there is no room for message %d, and nothing is sent", c, i)
			}
			next, ok = impl.TxPut(c, s, sdu)
		}
		s = next
	}
	for sends := true; sends; {
		s, r, came, sends = sendOne(t, c, s, r, came)
	}
	return s, r, came
}

func sendOne(t *testing.T, c impl.CfgOpts, s impl.TxState, r impl.RxState, came [][]byte) (impl.TxState, impl.RxState, [][]byte, bool) {
	t.Helper()
	s, f, ok := impl.TxSend(c, s, 0)
	if !ok {
		return s, r, came, false
	}
	r, sdus, says := impl.RxHear(c, r, f)
	if len(says) != 0 || len(sdus) > 1 {
		t.Fatalf("%+v: %+v, heard at once, is answered by %+v, %v", c, f, says, sdus)
	}
	return impl.TxHear(c, s, impl.RxAck(r)), r, append(came, sdus...), true
}

// Promise 79: of messages that who sends takes, and sends, each frame heard at once, and what is heard told at once: all come, in order.
func TestPromise79AllComesAtOnce(t *testing.T) {
	for _, c := range eachWanted() {
		if c.Try != 2 || c.Mode != impl.ModeNum {
			continue
		}
		sdus := [][]byte{nil, mixedBytes(1, c.Mtu), mixedBytes(2, min(c.Mps, c.Mtu)), mixedBytes(3, min(c.Mps+1, c.Mtu)), nil, mixedBytes(4, (c.Mtu+1)/2), mixedBytes(5, c.Mtu)}
		s, r, came := sendAll(t, c, sdus)
		if !messagesSame(came, sdus) || impl.TxLeft(s) != 0 || s.Dead || r.Dead || s.Count != r.Count || !noJoin(r.Join) {
			t.Fatalf("%+v: of %v there came %v; %+v, %+v", c, sdus, came, s, r)
		}
	}
}

// Promise 79, over all numbers again and again, up to TxTop.
func TestPromise79UpToTxTop(t *testing.T) {
	c := impl.CfgOpts{Mode: 1, Win: 3, Mps: 2, Mtu: 5, Try: 1}
	var sdus [][]byte
	for n := range 3333 {
		sdus = append(sdus, mixedBytes(uint32(n), 5))
	}
	s, r, came := sendAll(t, c, sdus)
	if !messagesSame(came, sdus) || impl.TxLeft(s) != 0 || s.Dead || r.Dead || s.Count != 9999 || r.Count != 9999 {
		t.Fatalf("of %d there came %d; %+v, %+v", len(sdus), len(came), s, r)
	}
}

// Promise 80: who hears a piece that is 1 to NumMod - Win behind the one that comes next takes nothing, and says nothing, unless it is busy.
func TestPromise80WhatHasComeOnceIsLetBe(t *testing.T) {
	for _, c := range txOpts() {
		for _, r := range rxStates() {
			for behind := 1; behind <= 8-c.Win; behind++ {
				for _, p := range rxPieces() {
					f := carries((r.Expect+8-behind)%8, p)
					got, sdus, says := impl.RxHear(c, r, f)
					if !rxSame(got, r) || len(sdus) != 0 {
						t.Fatalf("RxHear(%+v, %+v, %+v) = %+v, %v: %d behind", c, r, f, got, sdus, behind)
					}
					if busy := r.Busy && !r.Dead; busy != (len(says) == 1) || len(says) > 1 || busy && says[0].Say != impl.SayWait {
						t.Fatalf("RxHear(%+v, %+v, %+v) says %+v: %d behind", c, r, f, says, behind)
					}
				}
			}
		}
	}
}

// Promise 80, of pieces that have come indeed: each of the last NumMod - Win once more.
func TestPromise80ThePiecesThemselves(t *testing.T) {
	for win := 1; win <= impl.WinMax; win++ {
		c := impl.CfgOpts{Mode: 1, Win: win, Mps: 2, Mtu: 24, Try: 1}
		var r impl.RxState
		var heard []impl.FrmFrame
		for n := range 60 {
			parts := cutByWords(mixedBytes(uint32(n/12), 24), 2)
			f := carries(n%8, parts[n%12])
			r, _, _ = impl.RxHear(c, r, f)
			heard = append(heard, f)
			if r.Count != n+1 {
				t.Fatalf("Win %d: piece %d is not taken: %+v", win, n, r)
			}
			for _, old := range heard[max(0, len(heard)-(8-win)):] {
				if got, sdus, says := impl.RxHear(c, r, old); !rxSame(got, r) || len(sdus) != 0 || len(says) != 0 {
					t.Fatalf("Win %d: %+v, once more at %+v: %+v, %v, %+v", win, old, r, got, sdus, says)
				}
			}
		}
	}
}

// Promise 100: of frames one behind the other, none of which has the number that comes next, none is taken, and at most one thing that is missing is said, if none asks for an answer, and it is not busy.
func TestPromise100WhoHearsNothingThatComesNext(t *testing.T) {
	frames := rxFrames()
	seed := uint32(11)
	upTo := func(n int) int {
		seed = seed*1664525 + 1013904223
		return int(seed>>8) % n
	}
	said, silent := 0, 0
	for _, c := range txOpts() {
		for _, begin := range rxStates() {
			for way := range 20 {
				r, missing := begin, 0
				for range 12 {
					f := frames[upTo(len(frames))]
					// In some ways nobody asks, in the others what is said is not held to be once.
					if f.Kind == impl.FrmData && f.Seq == r.Expect || f.Poll && way < 10 {
						continue
					}
					next, sdus, says := impl.RxHear(c, r, f)
					if next.Count != begin.Count || next.Expect != begin.Expect || !joinSame(next.Join, begin.Join) || next.Dead != begin.Dead || len(sdus) != 0 {
						t.Fatalf("RxHear(%+v, %+v, %+v) = %+v, %v: taken", c, r, f, next, sdus)
					}
					r = next
					missing += len(says)
				}
				if way >= 10 || begin.Busy {
					continue
				}
				if missing > 1 || missing == 1 && begin.Again {
					t.Fatalf("%+v, %+v: %d times it is said that something is missing", c, begin, missing)
				}
				if missing == 1 {
					said++
				} else {
					silent++
				}
			}
		}
	}
	if said == 0 || silent == 0 {
		t.Fatalf("%d times said, %d times not", said, silent)
	}
}

// Promise 100, of each three numbers none of which comes next.
func TestPromise100OfEachThreeNumbers(t *testing.T) {
	for win := 1; win <= impl.WinMax; win++ {
		c := impl.CfgOpts{Mode: 1, Win: win, Mps: 2, Mtu: 9, Try: 1}
		for order := range 7 * 7 * 7 * 8 {
			expect := order % 8
			r, missing, ahead := rxOf(8+expect, impl.SegJoin{}), 0, false
			for _, far := range []int{1 + order/8%7, 1 + order/56%7, 1 + order/392} {
				var sdus [][]byte
				var says []impl.FrmFrame
				r, sdus, says = impl.RxHear(c, r, whole((expect+far)%8, "ab"))
				missing += len(says)
				ahead = ahead || far < win
				if r.Count != 8+expect || r.Dead || len(sdus) != 0 {
					t.Fatalf("Win %d, order %d: %+v, %v", win, order, r, sdus)
				}
			}
			if missing > 1 || missing == 1 != ahead {
				t.Fatalf("Win %d, order %d: %d times it is said that something is missing", win, order, missing)
			}
		}
	}
}

// rxWalk is who hears behind one thing more that happens, each held against the words; and a message, if one is told.
func rxWalk(t *testing.T, c impl.CfgOpts, r impl.RxState, upTo func(n int) int) (impl.RxState, impl.FrmFrame, [][]byte) {
	t.Helper()
	wantRxAck(t, r)
	switch upTo(12) {
	case 0:
		r, _ = wantRxBusy(t, r, upTo(3) == 0)
		return r, impl.FrmFrame{}, nil
	case 1:
		frames := rxFrames()
		f := frames[upTo(len(frames))]
		r, sdus, _ := wantRxHear(t, c, r, f)
		return r, f, sdus
	case 2, 3:
		f := poll(upTo(8), upTo(3))
		r, sdus, _ := wantRxHear(t, c, r, f)
		return r, f, sdus
	}
	f := carries((r.Expect+max(0, upTo(9)-5))%8, fitting(c, r.Join, upTo))
	// Once in a while it is one behind what comes next.
	if upTo(4) == 0 {
		f.Seq = (r.Expect + 8 - 1 - upTo(4)) % 8
	}
	r, sdus, _ := wantRxHear(t, c, r, f)
	return r, f, sdus
}

// fitting is a piece that fits behind what has come of a message.
func fitting(c impl.CfgOpts, j impl.SegJoin, upTo func(n int) int) impl.SegPart {
	if j.Len == 0 {
		sdu := mixedBytes(uint32(upTo(1000)), upTo(c.Mtu+1))
		return cutByWords(sdu, c.Mps)[0]
	}
	left := j.Len - len(j.Got)
	size := 1 + upTo(min(left, c.Mps))
	p := impl.SegPart{Seg: impl.SegMore, Data: mixedBytes(uint32(upTo(1000)), size)}
	if size == left {
		p.Seg = impl.SegEnd
	}
	return p
}

// Many long ways from nothing on, or from shortly ahead of TxTop on: at each step as the words say, and ok; what is told is what was taken since the one ahead of it.
func TestRxInManyOrders(t *testing.T) {
	seed := uint32(5)
	upTo := func(n int) int {
		seed = seed*1664525 + 1013904223
		return int(seed>>8) % n
	}
	all := eachWanted()
	ends, rounds, top, told := 0, 0, 0, 0
	for way := range 3000 {
		c := all[upTo(len(all))]
		r := impl.RxState{}
		if way%5 == 0 {
			r = rxOf(9999-upTo(12), impl.SegJoin{})
		}
		var taken []byte
		for range 100 {
			next, f, sdus := rxWalk(t, c, r, upTo)
			wantRxOk(t, next, true)
			if next.Count > r.Count {
				taken = append(taken, f.Data...)
			}
			if len(sdus) > 0 {
				told++
				if !messagesSame(sdus, [][]byte{taken}) || len(sdus[0]) > c.Mtu {
					t.Fatalf("%+v: %v is told, and %v was taken", c, sdus, taken)
				}
				taken = nil
			}
			r = next
		}
		if r.Dead {
			ends++
		}
		if r.Count > 8 && r.Count < 900 {
			rounds++
		}
		if r.Count == 9999 {
			top++
		}
	}
	if ends == 0 || rounds == 0 || top == 0 || told == 0 {
		t.Fatalf("%d at its end, %d came round, %d at TxTop, %d told", ends, rounds, top, told)
	}
}

// rxSpansOf is all memory that an answer of who hears reaches, spare room included.
func rxSpansOf(r impl.RxState, sdus [][]byte, says []impl.FrmFrame) []span {
	list := []span{spanOf(r.Join.Got), spanOf(sdus), spanOf(says)}
	for _, sdu := range sdus[:cap(sdus)] {
		list = append(list, spanOf(sdu))
	}
	for _, f := range says[:cap(says)] {
		list = append(list, spanOf(f.Data))
	}
	return list
}

// What is handed in stays as it was, what lies behind its end too; and no list of what is answered shares memory with it, or with another one; nor is it turned when what was handed in is turned.
func TestRxSharesNothing(t *testing.T) {
	frames, pieces := rxFrames(), rxPieces()
	for _, c := range txOpts() {
		for i, r := range rxStates() {
			for k := range 40 {
				f := frames[(i*7+k*13)%len(frames)]
				if k%2 == 0 {
					f = carries(r.Expect, pieces[(i+k/2)%len(pieces)])
				}
				in, heard := r, f
				var allGot, allData []byte
				in.Join.Got, allGot = inRoom(r.Join.Got)
				heard.Data, allData = inRoom(f.Data)
				if f.Kind == impl.FrmSay {
					heard.Data = heard.Data[:0]
				}
				before := fmt.Sprint(in, heard, allGot, allData)
				handed := []span{spanOf(allGot), spanOf(allData)}

				got, sdus, says := impl.RxHear(c, in, heard)
				busy, busySays := impl.RxBusy(in, i%2 == 0)
				ack := impl.RxAck(in)
				impl.RxOk(in)
				if fmt.Sprint(in, heard, allGot, allData) != before {
					t.Fatalf("%+v, %+v: something was written into an argument, or behind its end", r, f)
				}
				wantApart(t, "RxHear", slices.Concat(handed, rxSpansOf(got, sdus, says)))
				wantApart(t, "RxBusy", slices.Concat(handed, rxSpansOf(busy, nil, busySays)))
				wantApart(t, "three answers", append(slices.Concat(rxSpansOf(got, sdus, says), rxSpansOf(busy, nil, busySays)), spanOf(ack.Data)))

				scribble(allGot)
				scribble(allData)
				want, wantSdus, wantSays := rxHearByWords(c, r, f)
				if !rxSame(got, want) || !messagesSame(sdus, wantSdus) || !framesSame(says, wantSays) {
					t.Fatalf("RxHear(%+v, %+v, %+v) turns with what was handed in", c, r, f)
				}
				if want, _ := rxBusyByWords(r, i%2 == 0); !rxSame(busy, want) {
					t.Fatalf("RxBusy(%+v) turns with what was handed in", r)
				}
			}
		}
	}
}

// Where the same bytes are handed in twice, as what has come and as what comes, the answers are as of two.
func TestRxHearOfOneListTwice(t *testing.T) {
	c := txOpts()[1]
	list := []byte("abcd")
	for _, f := range []impl.FrmFrame{carries(5, impl.SegPart{Seg: impl.SegMore, Data: list[:3]}), carries(5, impl.SegPart{Seg: impl.SegEnd, Data: list}), carries(6, impl.SegPart{Seg: impl.SegEnd, Data: list})} {
		got, sdus, says := wantRxHear(t, c, rxOf(13, impl.SegJoin{Len: 8, Got: list}), f)
		wantApart(t, "RxHear", append(rxSpansOf(got, sdus, says), spanOf(list)))
	}
	if string(list) != "abcd" {
		t.Errorf("the bytes are %q", list)
	}
}

func TestRxKeepsNothingBetweenCalls(t *testing.T) {
	states, bad, frames := rxStates(), badRxStates(), rxFrames()
	for _, c := range txOpts() {
		for i := range 4000 {
			other := states[i*53%len(states)]
			impl.RxHear(c, other, frames[i*7%len(frames)])
			impl.RxBusy(other, i%3 == 0)
			impl.RxHear(c, bad[i%len(bad)], frames[i*5%len(frames)])
			impl.RxAck(bad[i*3%len(bad)])
			r := states[i*37%len(states)]
			wantRxHear(t, c, r, frames[i*11%len(frames)])
			wantRxBusy(t, r, i%2 == 0)
			wantRxAck(t, r)
		}
	}
}
