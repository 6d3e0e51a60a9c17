package tests

import (
	"bytes"
	"fmt"
	"math"
	"slices"
	"testing"
	"unsafe"

	"loop.example/linkboy/impl"
)

// txOkByWords is chapter 6's words for who sends and is ok, with the bounds written out.
func txOkByWords(c impl.CfgOpts, s impl.TxState) bool {
	isNumber := s.Acked >= 0 && s.Acked <= 7 && s.Next >= 0 && s.Next <= 7
	if !wantedByWords(c) || !isNumber || farByWords(s.Acked, s.Next) != len(s.Flight) || len(s.Flight) > c.Win {
		return false
	}
	if s.Sent < 0 || s.Sent > len(s.Flight) || len(s.Queue) > 24 || s.Tries < 0 || s.Tries > c.Try {
		return false
	}
	if s.Count < 0 || s.Count > 9999 || s.Count%8 != s.Acked {
		return false
	}
	for _, p := range slices.Concat(s.Flight, s.Queue) {
		if !partByWords(p.Seg, p.Len, len(p.Data)) || len(p.Data) > c.Mps {
			return false
		}
	}
	return true
}

// txPutByWords is chapter 6's words for TxPut.
func txPutByWords(c impl.CfgOpts, s impl.TxState, sdu []byte) (impl.TxState, bool) {
	if !txOkByWords(c, s) {
		return impl.TxState{}, false
	}
	parts := cutByWords(sdu, c.Mps)
	if s.Dead || len(sdu) > c.Mtu || len(s.Queue)+len(parts) > 24 {
		return s, false
	}
	s.Queue = slices.Concat(s.Queue, parts)
	return s, true
}

// txSendByWords is chapter 6's words for TxSend.
func txSendByWords(c impl.CfgOpts, s impl.TxState, ack int) (impl.TxState, impl.FrmFrame, bool) {
	if !txOkByWords(c, s) || ack < 0 || ack > 7 {
		return impl.TxState{}, impl.FrmFrame{}, false
	}
	out := len(s.Flight)
	if s.Dead || s.Asks || s.Held || s.Sent == out && (out == c.Win || len(s.Queue) == 0 || s.Count+out == 9999) {
		return s, impl.FrmFrame{}, false
	}
	if s.Sent == out {
		s.Flight = slices.Concat(s.Flight, s.Queue[:1])
		s.Queue = s.Queue[1:]
		s.Next = (s.Next + 1) % 8
	}
	p := s.Flight[s.Sent]
	f := impl.FrmFrame{Kind: 1, Seq: (s.Acked + s.Sent) % 8, Ack: ack, Seg: p.Seg, Len: p.Len, Data: p.Data}
	s.Sent++
	return s, f, true
}

// txHearByWords is chapter 6's words for TxHear.
func txHearByWords(c impl.CfgOpts, s impl.TxState, f impl.FrmFrame) impl.TxState {
	if !txOkByWords(c, s) || f.Kind != 1 && f.Kind != 2 || !okByWords(f) {
		return impl.TxState{}
	}
	if s.Dead {
		return s
	}
	come := farByWords(s.Acked, f.Ack)
	if come > len(s.Flight) {
		s.Dead = true
		return s
	}
	s.Flight, s.Sent, s.Acked, s.Count = s.Flight[come:], max(0, s.Sent-come), f.Ack, s.Count+come
	if f.Kind == 1 && !f.Final {
		return s
	}
	if f.Kind == 2 {
		s.Held = f.Say == 2
	}
	if f.Final && s.Asks {
		s.Asks, s.Tries, s.Sent = false, 0, 0
	}
	if f.Kind == 2 && f.Say == 1 && !s.Asks {
		s.Sent = 0
	}
	return s
}

// txTickByWords is chapter 6's words for TxTick.
func txTickByWords(c impl.CfgOpts, s impl.TxState, ack int, busy bool) (impl.TxState, impl.FrmFrame, bool) {
	if !txOkByWords(c, s) || ack < 0 || ack > 7 {
		return impl.TxState{}, impl.FrmFrame{}, false
	}
	if s.Dead || len(s.Flight) == 0 && !s.Held && !s.Asks {
		return s, impl.FrmFrame{}, false
	}
	if s.Tries == c.Try {
		s.Dead = true
		return s, impl.FrmFrame{}, false
	}
	s.Asks, s.Tries = true, s.Tries+1
	f := impl.FrmFrame{Kind: 2, Ack: ack, Poll: true}
	if busy {
		f.Say = 2
	}
	return s, f, true
}

func txSame(a impl.TxState, b impl.TxState) bool {
	return a.Next == b.Next && a.Acked == b.Acked && a.Sent == b.Sent && a.Asks == b.Asks && a.Tries == b.Tries &&
		a.Held == b.Held && a.Count == b.Count && a.Dead == b.Dead &&
		slices.EqualFunc(a.Flight, b.Flight, partSame) && slices.EqualFunc(a.Queue, b.Queue, partSame)
}

func noTx(s impl.TxState) bool {
	return txSame(s, impl.TxState{})
}

// txOpts is what both use: the least and the most of each, and some between; in both modes, as chapter 6 asks for neither.
func txOpts() []impl.CfgOpts {
	return []impl.CfgOpts{
		{Mode: 1, Win: 1, Mps: 1, Mtu: 1, Try: 1},
		{Mode: 1, Win: 4, Mps: 8, Mtu: 24, Try: 5},
		{Mode: 1, Win: 2, Mps: 2, Mtu: 9, Try: 1},
		{Mode: 1, Win: 3, Mps: 5, Mtu: 20, Try: 2},
		{Mode: 2, Win: 4, Mps: 3, Mtu: 7, Try: 3},
	}
}

// txParts is so many pieces that are ok, of each Seg in turn, of at most so many bytes, no two next to each other alike.
func txParts(seed int, n int, most int) []impl.SegPart {
	var list []impl.SegPart
	for i := range n {
		size := 1 + (seed+i)%most
		p := impl.SegPart{Seg: i % 4, Data: mixedBytes(uint32(1000*seed+i), size)}
		switch p.Seg {
		case impl.SegAll:
			p.Len = size
		case impl.SegStart:
			p.Len = size + 1 + i%(24-size)
		}
		list = append(list, p)
	}
	return list
}

// txOf is who sends, of whose pieces count have come, out are on their way, and so many wait; all on their way were sent.
func txOf(c impl.CfgOpts, count int, out int, waits int) impl.TxState {
	all := txParts(count%5, out+waits, c.Mps)
	return impl.TxState{Next: (count + out) % 8, Acked: count % 8, Flight: all[:out], Sent: out, Queue: all[out:], Count: count}
}

// txWith is who sends with something turned in it; the lists are its own.
func txWith(s impl.TxState, turn func(s *impl.TxState)) impl.TxState {
	s.Flight, s.Queue = slices.Clone(s.Flight), slices.Clone(s.Queue)
	turn(&s)
	return s
}

// txStates is who sends and is ok, of each number on its way and sent; a few that have come, and that wait; it Asks, is Held, is at its end, or not. No more have come, or are on their way, than TxTop.
func txStates(c impl.CfgOpts) []impl.TxState {
	var list []impl.TxState
	tries := slices.Compact([]int{0, c.Try / 2, c.Try})
	for out := 0; out <= c.Win; out++ {
		for _, count := range []int{0, 5, 14, 9998 - out, 9999 - out} {
			for _, waits := range []int{0, 1, 23, 24} {
				s := txOf(c, count, out, waits)
				for s.Sent = 0; s.Sent <= out; s.Sent++ {
					for how := range 8 {
						s.Asks, s.Held, s.Dead = how%2 == 1, how/2%2 == 1, how/4 == 1
						for _, s.Tries = range tries {
							list = append(list, s)
						}
					}
				}
			}
		}
	}
	return list
}

// someTxStates is some of them, in all ways in which they may be, but for what waits.
func someTxStates(c impl.CfgOpts) []impl.TxState {
	return slices.DeleteFunc(txStates(c), func(s impl.TxState) bool { return len(s.Queue) > 1 || s.Count == 5 })
}

// badTxStates is who sends and is not ok, for what both use: with one thing wrong each.
func badTxStates(c impl.CfgOpts) []impl.TxState {
	var list []impl.TxState
	add := func(s impl.TxState, turn func(s *impl.TxState)) {
		list = append(list, txWith(s, turn))
	}
	for _, s := range []impl.TxState{txOf(c, 0, 0, 0), txOf(c, 6, c.Win, 24), txOf(c, 15, 1, 3), txOf(c, 9999-c.Win, c.Win, 1)} {
		for _, n := range append(noNumbers(), (s.Next+1)%8, (s.Next+7)%8) {
			add(s, func(s *impl.TxState) { s.Next = n })
		}
		for _, n := range append(noNumbers(), (s.Acked+1)%8, (s.Acked+7)%8) {
			add(s, func(s *impl.TxState) { s.Acked = n })
		}
		for _, n := range append(farNumbers(), len(s.Flight)+1) {
			add(s, func(s *impl.TxState) { s.Sent = n })
		}
		for _, n := range append(farNumbers(), c.Try+1) {
			add(s, func(s *impl.TxState) { s.Tries = n })
		}
		for _, n := range []int{-1, -8, s.Count - 10000, 10000, 10000 + s.Acked, s.Count + 1, s.Count + 10000, math.MaxInt, math.MinInt, s.Count + math.MinInt} {
			add(s, func(s *impl.TxState) { s.Count = n })
		}
		add(s, func(s *impl.TxState) { s.Queue = txParts(1, 25, c.Mps) })
		add(s, func(s *impl.TxState) { s.Queue = txParts(1, 300, c.Mps) })
		add(s, func(s *impl.TxState) { s.Flight = append(s.Flight, txParts(1, 1, c.Mps)...) })
		add(s, func(s *impl.TxState) { s.Flight = append(s.Flight, txParts(1, 8, c.Mps)...) })
		add(s, func(s *impl.TxState) {
			s.Flight = txParts(1, c.Win+1, c.Mps)
			s.Next = (s.Acked + c.Win + 1) % 8
		})
		for at := range s.Flight {
			add(s, func(s *impl.TxState) { s.Flight[at] = impl.SegPart{Seg: 4} })
		}
		for at := range s.Queue {
			add(s, func(s *impl.TxState) { s.Queue[at] = impl.SegPart{Seg: 2, Len: 1, Data: []byte{1}} })
		}
	}
	return list
}

// txFrames is each frame that who sends hears, of each Ack, in all that it may turn.
func txFrames() []impl.FrmFrame {
	var list []impl.FrmFrame
	for ack := range 8 {
		for _, final := range []bool{false, true} {
			list = append(list,
				impl.FrmFrame{Kind: 1, Seq: ack * 3 % 8, Ack: ack, Final: final},
				impl.FrmFrame{Kind: 1, Seq: 7 - ack, Ack: ack, Final: final, Seg: 1, Len: 9, Data: []byte{1, 2}})
		}
		for say := range 3 {
			for _, asks := range [][2]bool{{}, {true, false}, {false, true}} {
				list = append(list, impl.FrmFrame{Kind: 2, Ack: ack, Say: say, Poll: asks[0], Final: asks[1]})
			}
		}
	}
	return list
}

// unheardFrames is frames of other kinds, and such as are not ok.
func unheardFrames() []impl.FrmFrame {
	list := []impl.FrmFrame{
		{}, {Kind: 3}, {Kind: 3, Len: 2, Data: []byte{1, 2}}, {Kind: 3, Seg: 1, Len: 9, Data: []byte{1}}, {Kind: 4, Len: 1}, {Kind: 4, Len: 255},
		{Kind: 1, Poll: true}, {Kind: 1, Say: 1}, {Kind: 1, Say: 2, Final: true}, {Kind: 1, Seg: 2}, {Kind: 1, Len: 1}, {Kind: 1, Seg: 4, Data: []byte{1}},
		{Kind: 1, Len: 9, Data: sameBytes(9, 1)}, {Kind: 1, Seq: 8}, {Kind: 1, Seq: -1}, {Kind: 1, Ack: 8}, {Kind: 1, Ack: -1},
		{Kind: 2, Poll: true, Final: true}, {Kind: 2, Say: 3}, {Kind: 2, Say: -1}, {Kind: 2, Seq: 1}, {Kind: 2, Seg: 1}, {Kind: 2, Len: 1}, {Kind: 2, Data: []byte{1}},
		{Kind: 2, Ack: 8}, {Kind: 2, Ack: -1}, {Kind: 2, Ack: 8, Final: true}, {Kind: 2, Ack: 16}, {Kind: 2, Ack: math.MaxInt}, {Kind: 2, Ack: math.MinInt},
	}
	for _, kind := range append(farNumbers(), 0, 5, 6, 9) {
		list = append(list, impl.FrmFrame{Kind: kind}, impl.FrmFrame{Kind: kind, Ack: 1, Final: true}, impl.FrmFrame{Kind: kind, Ack: 1, Say: 2})
	}
	return list
}

func say(ack int, what int) impl.FrmFrame {
	return impl.FrmFrame{Kind: impl.FrmSay, Ack: ack, Say: what}
}

func answer(ack int, what int) impl.FrmFrame {
	return impl.FrmFrame{Kind: impl.FrmSay, Ack: ack, Final: true, Say: what}
}

func data(ack int, final bool) impl.FrmFrame {
	return impl.FrmFrame{Kind: impl.FrmData, Seq: 3, Ack: ack, Final: final, Len: 1, Data: []byte{9}}
}

func wantTxOk(t *testing.T, c impl.CfgOpts, s impl.TxState, want bool) {
	t.Helper()
	if got := impl.TxOk(c, s); got != want {
		t.Fatalf("TxOk(%+v, %+v) = %v", c, s, got)
	}
}

// wantTxPut is TxPut held against the words, and answers it; likewise the three below.
func wantTxPut(t *testing.T, c impl.CfgOpts, s impl.TxState, sdu []byte) (impl.TxState, bool) {
	t.Helper()
	got, ok := impl.TxPut(c, s, sdu)
	if want, is := txPutByWords(c, s, sdu); ok != is || !txSame(got, want) {
		t.Fatalf("TxPut(%+v, %+v, %v) = %+v, %v, want %+v, %v", c, s, sdu, got, ok, want, is)
	}
	return got, ok
}

func wantTxSend(t *testing.T, c impl.CfgOpts, s impl.TxState, ack int) (impl.TxState, impl.FrmFrame, bool) {
	t.Helper()
	got, f, ok := impl.TxSend(c, s, ack)
	if want, wantF, is := txSendByWords(c, s, ack); ok != is || !frameSame(f, wantF) || !txSame(got, want) {
		t.Fatalf("TxSend(%+v, %+v, %d) = %+v, %+v, %v, want %+v, %+v, %v", c, s, ack, got, f, ok, want, wantF, is)
	}
	return got, f, ok
}

func wantTxHear(t *testing.T, c impl.CfgOpts, s impl.TxState, f impl.FrmFrame) impl.TxState {
	t.Helper()
	got := impl.TxHear(c, s, f)
	if want := txHearByWords(c, s, f); !txSame(got, want) {
		t.Fatalf("TxHear(%+v, %+v, %+v) = %+v, want %+v", c, s, f, got, want)
	}
	return got
}

func wantTxTick(t *testing.T, c impl.CfgOpts, s impl.TxState, ack int, busy bool) (impl.TxState, impl.FrmFrame, bool) {
	t.Helper()
	got, f, ok := impl.TxTick(c, s, ack, busy)
	if want, wantF, is := txTickByWords(c, s, ack, busy); ok != is || !frameSame(f, wantF) || !txSame(got, want) {
		t.Fatalf("TxTick(%+v, %+v, %d, %v) = %+v, %+v, %v, want %+v, %+v, %v", c, s, ack, busy, got, f, ok, want, wantF, is)
	}
	return got, f, ok
}

// wantNoTx is the four that answer a state, each of which answers nothing.
func wantNoTx(t *testing.T, c impl.CfgOpts, s impl.TxState) {
	t.Helper()
	if got, ok := impl.TxPut(c, s, []byte{1}); ok || !noTx(got) {
		t.Fatalf("TxPut(%+v, %+v) = %+v, %v", c, s, got, ok)
	}
	if got, f, ok := impl.TxSend(c, s, 1); ok || !isNothing(f) || !noTx(got) {
		t.Fatalf("TxSend(%+v, %+v) = %+v, %+v, %v", c, s, got, f, ok)
	}
	for _, f := range []impl.FrmFrame{say(1, 0), answer(s.Acked, 1), data(s.Next, true)} {
		if got := impl.TxHear(c, s, f); !noTx(got) {
			t.Fatalf("TxHear(%+v, %+v, %+v) = %+v", c, s, f, got)
		}
	}
	if got, f, ok := impl.TxTick(c, s, 1, true); ok || !isNothing(f) || !noTx(got) {
		t.Fatalf("TxTick(%+v, %+v) = %+v, %+v, %v", c, s, got, f, ok)
	}
}

func TestTxConstants(t *testing.T) {
	got := []int{
		impl.QueMost, impl.TxTop, impl.WinMax, impl.TryMax, impl.NumMod,
		impl.FrmData, impl.FrmSay, impl.SayGo, impl.SayAgain, impl.SayWait,
	}
	if want := []int{24, 9999, 4, 5, 8, 1, 2, 0, 1, 2}; !slices.Equal(got, want) {
		t.Errorf("constants %v, want %v", got, want)
	}
}

func TestTxOkOfNothingAtAll(t *testing.T) {
	for _, c := range eachWanted() {
		wantTxOk(t, c, impl.TxState{}, true)
		wantTxOk(t, c, impl.TxState{Flight: []impl.SegPart{}, Queue: make([]impl.SegPart, 0, 3)}, true)
	}
	for _, c := range badOpts() {
		wantTxOk(t, c, impl.TxState{}, false)
	}
}

func TestTxOkOfWhatMayNotBeWanted(t *testing.T) {
	one := impl.CfgOpts{Mode: 1, Win: 1, Mps: 1, Mtu: 1, Try: 1}
	for _, c := range badOpts() {
		for _, s := range []impl.TxState{txOf(one, 0, 0, 1), txOf(one, 7, 1, 0), txOf(one, 9, 1, 24)} {
			wantTxOk(t, c, s, false)
		}
	}
}

func TestTxOkOfEachState(t *testing.T) {
	for _, c := range txOpts() {
		for _, s := range txStates(c) {
			wantTxOk(t, c, s, true)
		}
		for _, s := range badTxStates(c) {
			wantTxOk(t, c, s, false)
		}
	}
}

// Acked and Next, each a number or none, and each pair of numbers with each number of pieces on their way.
func TestTxOkOfNumbers(t *testing.T) {
	c := txOpts()[1]
	for acked := -2; acked <= 10; acked++ {
		for next := -2; next <= 10; next++ {
			for out := range 9 {
				for _, count := range []int{acked, acked + 8, acked + 16} {
					s := impl.TxState{Next: next, Acked: acked, Flight: txParts(1, out, c.Mps), Count: count}
					numbers := acked >= 0 && acked <= 7 && next >= 0 && next <= 7
					wantTxOk(t, c, s, numbers && farByWords(acked, next) == out && out <= 4)
				}
			}
		}
	}
	for _, n := range []int{-1, 8} {
		wantTxOk(t, c, impl.TxState{Acked: n, Next: n, Count: n}, false)
		wantTxOk(t, c, impl.TxState{Acked: n}, false)
		wantTxOk(t, c, impl.TxState{Next: n}, false)
	}
}

// As many on their way as Win, and one more.
func TestTxOkAtWin(t *testing.T) {
	for win := 1; win <= impl.WinMax; win++ {
		c := impl.CfgOpts{Mode: 1, Win: win, Mps: 2, Mtu: 9, Try: 2}
		for count := range 20 {
			for out := range 8 {
				wantTxOk(t, c, txOf(c, count, out, 2), out <= win)
			}
		}
	}
}

func TestTxOkOfSent(t *testing.T) {
	for _, c := range txOpts() {
		for out := 0; out <= c.Win; out++ {
			s := txOf(c, 11, out, 1)
			for s.Sent = -2; s.Sent <= out+2; s.Sent++ {
				wantTxOk(t, c, s, s.Sent >= 0 && s.Sent <= out)
			}
			for _, s.Sent = range []int{math.MaxInt, math.MinInt, 256, 1 << 32} {
				wantTxOk(t, c, s, false)
			}
		}
	}
}

func TestTxOkOfQueue(t *testing.T) {
	for _, c := range txOpts() {
		for waits := range 30 {
			wantTxOk(t, c, txOf(c, 3, 1, waits), waits <= 24)
			wantTxOk(t, c, txOf(c, 3, 0, waits), waits <= 24)
			wantTxOk(t, c, txOf(c, 3, c.Win, waits), waits <= 24)
		}
	}
}

func TestTxOkOfTries(t *testing.T) {
	for try := 1; try <= impl.TryMax; try++ {
		c := impl.CfgOpts{Mode: 1, Win: 2, Mps: 2, Mtu: 9, Try: try}
		for _, s := range []impl.TxState{{}, txOf(c, 8, 2, 3)} {
			for _, s.Asks = range []bool{false, true} {
				for s.Tries = -2; s.Tries <= 8; s.Tries++ {
					wantTxOk(t, c, s, s.Tries >= 0 && s.Tries <= try)
				}
				s.Tries = math.MinInt
				wantTxOk(t, c, s, false)
			}
		}
	}
}

func TestTxOkOfCount(t *testing.T) {
	c := txOpts()[2]
	for count := -20; count <= 10020; count++ {
		for acked := range 8 {
			s := impl.TxState{Acked: acked, Next: acked, Count: count}
			wantTxOk(t, c, s, count >= 0 && count <= 9999 && count%8 == acked)
		}
	}
	for _, count := range []int{1 << 32, math.MaxInt, math.MinInt, -8, -1} {
		for acked := range 8 {
			wantTxOk(t, c, impl.TxState{Acked: acked, Next: acked, Count: count}, false)
		}
	}
}

// A piece that is not ok, or has more than Mps bytes, on its way and among those that wait, at each place.
func TestTxOkOfPieces(t *testing.T) {
	bad := badParts()
	for _, c := range txOpts() {
		s := txOf(c, 13, c.Win, 24)
		pieces := append(okParts(), bad...)
		for i, p := range pieces {
			at, behind := i%c.Win, i%24
			want := i < len(pieces)-len(bad) && len(p.Data) <= c.Mps
			wantTxOk(t, c, txWith(s, func(s *impl.TxState) { s.Flight[at] = p }), want)
			wantTxOk(t, c, txWith(s, func(s *impl.TxState) { s.Queue[behind] = p }), want)
		}
		for _, size := range []int{c.Mps, c.Mps + 1} {
			p := impl.SegPart{Seg: impl.SegEnd, Data: sameBytes(size, 3)}
			for at := range s.Flight {
				wantTxOk(t, c, txWith(s, func(s *impl.TxState) { s.Flight[at] = p }), size == c.Mps)
			}
			for at := range s.Queue {
				wantTxOk(t, c, txWith(s, func(s *impl.TxState) { s.Queue[at] = p }), size == c.Mps)
			}
		}
	}
}

// Whether it Asks, is Held, or is at its end makes no difference.
func TestTxOkOfAsksHeldAndDead(t *testing.T) {
	c := txOpts()[3]
	for how := range 8 {
		for _, s := range []impl.TxState{{}, txOf(c, 6, 3, 2), txOf(c, 6, 4, 2)} {
			s.Asks, s.Held, s.Dead = how%2 == 1, how/2%2 == 1, how/4 == 1
			wantTxOk(t, c, s, len(s.Flight) < 4)
		}
	}
}

func TestTxPutKnown(t *testing.T) {
	c := impl.CfgOpts{Mode: 1, Win: 2, Mps: 2, Mtu: 5, Try: 1}
	had := impl.SegPart{Seg: impl.SegAll, Len: 1, Data: []byte("x")}
	rows := []struct {
		sdu  string
		want []impl.SegPart
		ok   bool
	}{
		{"", []impl.SegPart{had, {}}, true},
		{"ab", []impl.SegPart{had, {Len: 2, Data: []byte("ab")}}, true},
		{"abc", []impl.SegPart{had, {Seg: 1, Len: 3, Data: []byte("ab")}, {Seg: 3, Data: []byte("c")}}, true},
		{"abcde", []impl.SegPart{had, {Seg: 1, Len: 5, Data: []byte("ab")}, {Seg: 2, Data: []byte("cd")}, {Seg: 3, Data: []byte("e")}}, true},
		{"abcdef", []impl.SegPart{had}, false},
	}
	for _, r := range rows {
		s := impl.TxState{Next: 4, Acked: 3, Flight: []impl.SegPart{had}, Queue: []impl.SegPart{had}, Asks: true, Tries: 1, Held: true, Count: 11}
		got, ok := impl.TxPut(c, s, []byte(r.sdu))
		s.Queue = r.want
		if ok != r.ok || !txSame(got, s) {
			t.Errorf("TxPut of %q = %+v, %v, want %+v", r.sdu, got, ok, s)
		}
	}
}

// Each size of a message, up to far beyond, with each Mps, and each Mtu at the size and about it.
func TestTxPutOfEachSize(t *testing.T) {
	for mps := 1; mps <= impl.FrmMax; mps++ {
		for size := range 28 {
			sdu := mixedBytes(uint32(size)+77, size)
			for mtu := max(1, size-1); mtu <= min(24, size+1); mtu++ {
				c := impl.CfgOpts{Mode: 1, Win: 2, Mps: mps, Mtu: mtu, Try: 2}
				if _, ok := wantTxPut(t, c, txOf(c, 5, 1, 0), sdu); ok != (size <= mtu) {
					t.Fatalf("TxPut of %d bytes, Mtu %d: %v", size, mtu, ok)
				}
			}
			c := impl.CfgOpts{Mode: 1, Win: 2, Mps: mps, Mtu: 24, Try: 2}
			wantTxPut(t, c, impl.TxState{}, sdu)
		}
	}
	c := txOpts()[1]
	for _, size := range []int{25, 255, 256, 257, 65536} {
		if got, ok := impl.TxPut(c, impl.TxState{}, sameBytes(size, 1)); ok || !noTx(got) {
			t.Errorf("TxPut of %d bytes = %+v, %v", size, got, ok)
		}
	}
}

// As many pieces as may still wait, and one more; what is on its way does not count.
func TestTxPutWhereMostWait(t *testing.T) {
	for mps := 1; mps <= impl.FrmMax; mps++ {
		c := impl.CfgOpts{Mode: 1, Win: 3, Mps: mps, Mtu: 24, Try: 2}
		for size := range 25 {
			sdu := mixedBytes(uint32(size)+99, size)
			pieces := max(1, (size+mps-1)/mps)
			for waits := range 25 {
				for out := 0; out <= 3; out++ {
					got, ok := wantTxPut(t, c, txOf(c, 5, out, waits), sdu)
					if ok != (waits+pieces <= 24) || ok && len(got.Queue) != waits+pieces {
						t.Fatalf("%d wait, TxPut of %d pieces = %+v, %v", waits, pieces, got, ok)
					}
				}
			}
		}
	}
}

func TestTxPutOfEachState(t *testing.T) {
	for _, c := range txOpts() {
		for _, s := range txStates(c) {
			for _, size := range []int{0, 1, c.Mps, c.Mps + 1, c.Mtu, c.Mtu + 1} {
				_, ok := wantTxPut(t, c, s, mixedBytes(uint32(size), size))
				if s.Dead && ok {
					t.Fatalf("TxPut(%+v, %+v) at its end", c, s)
				}
			}
		}
	}
}

func TestTxSendKnown(t *testing.T) {
	c := impl.CfgOpts{Mode: 1, Win: 3, Mps: 2, Mtu: 9, Try: 1}
	a, b := impl.SegPart{Seg: impl.SegStart, Len: 5, Data: []byte("ab")}, impl.SegPart{Seg: impl.SegMore, Data: []byte("cd")}
	d, e := impl.SegPart{Seg: impl.SegEnd, Data: []byte("e")}, impl.SegPart{Seg: impl.SegAll}
	s := impl.TxState{Next: 0, Acked: 6, Flight: []impl.SegPart{a, b}, Queue: []impl.SegPart{d, e}, Count: 14, Tries: 1}
	rows := []struct {
		f    impl.FrmFrame
		want impl.TxState
		ok   bool
	}{
		{impl.FrmFrame{Kind: 1, Seq: 6, Ack: 2, Seg: 1, Len: 5, Data: []byte("ab")}, impl.TxState{Next: 0, Acked: 6, Flight: []impl.SegPart{a, b}, Sent: 1, Queue: []impl.SegPart{d, e}, Count: 14, Tries: 1}, true},
		{impl.FrmFrame{Kind: 1, Seq: 7, Ack: 2, Seg: 2, Data: []byte("cd")}, impl.TxState{Next: 0, Acked: 6, Flight: []impl.SegPart{a, b}, Sent: 2, Queue: []impl.SegPart{d, e}, Count: 14, Tries: 1}, true},
		{impl.FrmFrame{Kind: 1, Seq: 0, Ack: 2, Seg: 3, Data: []byte("e")}, impl.TxState{Next: 1, Acked: 6, Flight: []impl.SegPart{a, b, d}, Sent: 3, Queue: []impl.SegPart{e}, Count: 14, Tries: 1}, true},
		{impl.FrmFrame{}, impl.TxState{Next: 1, Acked: 6, Flight: []impl.SegPart{a, b, d}, Sent: 3, Queue: []impl.SegPart{e}, Count: 14, Tries: 1}, false},
	}
	for i, r := range rows {
		next, f, ok := impl.TxSend(c, s, 2)
		if ok != r.ok || !frameSame(f, r.f) || !txSame(next, r.want) {
			t.Fatalf("TxSend %d = %+v, %+v, %v, want %+v, %+v", i, next, f, ok, r.want, r.f)
		}
		s = next
	}
	s = impl.TxHear(c, s, say(1, impl.SayGo))
	if s, f, ok := impl.TxSend(c, s, 7); !ok || f.Seq != 1 || f.Ack != 7 || f.Seg != impl.SegAll || len(f.Data) != 0 || len(s.Queue) != 0 || s.Next != 2 {
		t.Errorf("TxSend of no bytes = %+v, %+v, %v", s, f, ok)
	}
}

func TestTxSendOfEachState(t *testing.T) {
	for _, c := range txOpts() {
		for i, s := range txStates(c) {
			wantTxSend(t, c, s, i%8)
		}
		for _, s := range someTxStates(c) {
			for ack := range 8 {
				wantTxSend(t, c, s, ack)
			}
		}
	}
}

// Each thing by itself that keeps a piece from being sent, and without it that it is.
func TestTxSendWhereItMayNot(t *testing.T) {
	c := impl.CfgOpts{Mode: 1, Win: 3, Mps: 2, Mtu: 9, Try: 2}
	again := txWith(txOf(c, 7, 3, 0), func(s *impl.TxState) { s.Sent = 2 })
	rows := []struct {
		name string
		s    impl.TxState
		want bool
	}{
		{"one that waits", txOf(c, 7, 2, 1), true},
		{"one to be sent again, none waits", again, true},
		{"one to be sent again, from the first on", txWith(again, func(s *impl.TxState) { s.Sent = 0 }), true},
		{"Win on their way", txOf(c, 7, 3, 1), false},
		{"none waits", txOf(c, 7, 2, 0), false},
		{"nothing at all", impl.TxState{}, false},
		{"TxTop", txOf(c, 9998, 1, 1), false},
		{"TxTop, none on its way", txOf(c, 9999, 0, 1), false},
		{"one less than TxTop", txOf(c, 9997, 1, 1), true},
		{"one less than TxTop, none on its way", txOf(c, 9998, 0, 1), true},
		{"TxTop, but one is to be sent again", txWith(txOf(c, 9997, 2, 1), func(s *impl.TxState) { s.Sent = 1 }), true},
	}
	for _, r := range rows {
		if _, f, ok := wantTxSend(t, c, r.s, 3); ok != r.want || ok == isNothing(f) {
			t.Errorf("%s: TxSend = %+v, %v", r.name, f, ok)
		}
		for how := 1; how < 8; how++ {
			s := r.s
			s.Asks, s.Held, s.Dead = how%2 == 1, how/2%2 == 1, how/4 == 1
			if got, f, ok := wantTxSend(t, c, s, 3); ok || !isNothing(f) || !txSame(got, s) {
				t.Errorf("%s, and Asks, Held or Dead: TxSend(%+v) = %+v, %+v, %v", r.name, s, got, f, ok)
			}
		}
	}
}

func TestTxSendOfNoNumber(t *testing.T) {
	for _, c := range txOpts() {
		for _, s := range append(someTxStates(c), impl.TxState{}, txOf(c, 4, 0, 3)) {
			for _, ack := range []int{-1, 8, math.MinInt, 16} {
				if got, f, ok := impl.TxSend(c, s, ack); ok || !isNothing(f) || !noTx(got) {
					t.Fatalf("TxSend(%+v, %+v, %d) = %+v, %+v, %v", c, s, ack, got, f, ok)
				}
			}
		}
		for _, ack := range noNumbers() {
			if got, f, ok := impl.TxSend(c, txOf(c, 7, 0, 2), ack); ok || !isNothing(f) || !noTx(got) {
				t.Fatalf("TxSend with %d = %+v, %+v, %v", ack, got, f, ok)
			}
		}
	}
}

// Behind 7 comes 0: the numbers of what is sent, and that of the first that waits.
func TestTxSendRoundAndRound(t *testing.T) {
	for _, c := range txOpts() {
		s := impl.TxState{}
		for n := range 40 {
			s, _ = impl.TxPut(c, s, []byte{byte(n)})
			next, f, ok := impl.TxSend(c, s, n%8)
			if !ok || f.Seq != n%8 || f.Ack != n%8 || !bytes.Equal(f.Data, []byte{byte(n)}) || next.Next != (n+1)%8 {
				t.Fatalf("piece %d: %+v, %+v, %v", n, next, f, ok)
			}
			s = impl.TxHear(c, next, say((n+1)%8, impl.SayGo))
			if s.Acked != (n+1)%8 || s.Count != n+1 || len(s.Flight) != 0 || s.Dead {
				t.Fatalf("behind piece %d: %+v", n, s)
			}
		}
	}
}

// From nothing on just TxTop pieces are sent; those on their way may still be sent again, and come.
func TestTxSendUpToTxTop(t *testing.T) {
	c := impl.CfgOpts{Mode: 1, Win: 4, Mps: 1, Mtu: 24, Try: 1}
	s := impl.TxState{}
	sent := 0
	for range 12000 {
		s, _ = impl.TxPut(c, s, []byte{1, 2, 3})
		next, f, ok := impl.TxSend(c, s, 0)
		if !ok {
			break
		}
		if f.Seq != sent%8 {
			t.Fatalf("piece %d has the number %d", sent, f.Seq)
		}
		s = next
		sent++
		if sent < 9990 {
			s = impl.TxHear(c, s, say(s.Next, impl.SayGo))
			continue
		}
		if len(s.Flight) == 4 {
			s = impl.TxHear(c, s, say((s.Acked+2)%8, impl.SayGo))
		}
	}
	if sent != 9999 || s.Count+len(s.Flight) != 9999 || len(s.Flight) == 4 || len(s.Flight) == 0 || len(s.Queue) == 0 {
		t.Fatalf("%d were sent: %+v", sent, s)
	}
	s = impl.TxHear(c, s, say(s.Acked, impl.SayAgain))
	if _, f, ok := impl.TxSend(c, s, 0); !ok || f.Seq != s.Acked {
		t.Errorf("the first on its way is not sent again: %+v, %v", f, ok)
	}
	s = impl.TxHear(c, s, say(s.Next, impl.SayGo))
	if _, _, ok := impl.TxSend(c, s, 0); ok || s.Count != 9999 || !impl.TxOk(c, s) {
		t.Errorf("TxTop have come, and more is sent: %+v", s)
	}
}

// Who is ok though more have come, and are on their way, than TxTop, as no beginning leads to it: the words hold as they stand, so that not just TxTop of both keeps no piece back, and what has come is counted beyond it, with which it is not ok any more.
func TestTxBeyondTxTop(t *testing.T) {
	c := txOpts()[3]
	for count := 9997; count <= 9999; count++ {
		for out := 10000 - count; out <= c.Win; out++ {
			s := txOf(c, count, out, 2)
			wantTxOk(t, c, s, true)
			if _, _, ok := wantTxSend(t, c, s, 0); ok != (out < c.Win) {
				t.Errorf("%d have come, %d are on their way: TxSend = %v", count, out, ok)
			}
			for _, f := range txFrames() {
				got := wantTxHear(t, c, s, f)
				wantTxOk(t, c, got, got.Count <= 9999)
			}
		}
	}
}

func TestTxHearKnown(t *testing.T) {
	c := impl.CfgOpts{Mode: 1, Win: 4, Mps: 2, Mtu: 9, Try: 3}
	s := txWith(txOf(c, 14, 4, 2), func(s *impl.TxState) { s.Sent, s.Tries = 2, 2 })
	asks := txWith(s, func(s *impl.TxState) { s.Asks = true })
	held := txWith(s, func(s *impl.TxState) { s.Held = true })
	both := txWith(asks, func(s *impl.TxState) { s.Held = true })
	// What is named in a row: whether it ends it, asks, is held; how often it asked; how many were sent, are on their way, have come.
	type behind struct {
		dead, asks, held        bool
		tries, sent, out, count int
	}
	rows := []struct {
		name string
		s    impl.TxState
		f    impl.FrmFrame
		want behind
	}{
		{"none has come", s, data(6, false), behind{tries: 2, sent: 2, out: 4, count: 14}},
		{"some, below Sent", s, data(7, false), behind{tries: 2, sent: 1, out: 3, count: 15}},
		{"as many as Sent", s, data(0, false), behind{tries: 2, sent: 0, out: 2, count: 16}},
		{"some, beyond Sent", s, data(1, false), behind{tries: 2, sent: 0, out: 1, count: 17}},
		{"all", s, data(2, false), behind{tries: 2, sent: 0, out: 0, count: 18}},
		{"one more", s, data(3, false), behind{dead: true, tries: 2, sent: 2, out: 4, count: 14}},
		{"one less than none", s, say(5, impl.SayWait), behind{dead: true, tries: 2, sent: 2, out: 4, count: 14}},
		{"one more, as an answer", both, answer(3, impl.SayGo), behind{dead: true, asks: true, held: true, tries: 2, sent: 2, out: 4, count: 14}},
		{"data of one that is held", held, data(7, false), behind{held: true, tries: 2, sent: 1, out: 3, count: 15}},
		{"final data, not asked for", held, data(7, true), behind{held: true, tries: 2, sent: 1, out: 3, count: 15}},
		{"final data, asked for", both, data(7, true), behind{held: true, tries: 0, sent: 0, out: 3, count: 15}},
		{"data of one that asks", both, data(7, false), behind{asks: true, held: true, tries: 2, sent: 1, out: 3, count: 15}},
		{"wait", s, say(7, impl.SayWait), behind{held: true, tries: 2, sent: 1, out: 3, count: 15}},
		{"go", held, say(7, impl.SayGo), behind{tries: 2, sent: 1, out: 3, count: 15}},
		{"again", held, say(7, impl.SayAgain), behind{tries: 2, sent: 0, out: 3, count: 15}},
		{"again, of one that asks", both, say(7, impl.SayAgain), behind{asks: true, tries: 2, sent: 1, out: 3, count: 15}},
		{"go, of one that asks", both, say(7, impl.SayGo), behind{asks: true, tries: 2, sent: 1, out: 3, count: 15}},
		{"wait, of one that asks", asks, say(7, impl.SayWait), behind{asks: true, held: true, tries: 2, sent: 1, out: 3, count: 15}},
		{"an answer", both, answer(7, impl.SayGo), behind{tries: 0, sent: 0, out: 3, count: 15}},
		{"an answer: again", both, answer(7, impl.SayAgain), behind{tries: 0, sent: 0, out: 3, count: 15}},
		{"an answer: wait", asks, answer(7, impl.SayWait), behind{held: true, tries: 0, sent: 0, out: 3, count: 15}},
		{"an answer not asked for", held, answer(7, impl.SayGo), behind{tries: 2, sent: 1, out: 3, count: 15}},
		{"an answer not asked for: again", held, answer(7, impl.SayAgain), behind{tries: 2, sent: 0, out: 3, count: 15}},
		{"what asks itself", both, impl.FrmFrame{Kind: 2, Ack: 7, Poll: true}, behind{asks: true, tries: 2, sent: 1, out: 3, count: 15}},
	}
	for _, r := range rows {
		got := impl.TxHear(c, r.s, r.f)
		is := behind{got.Dead, got.Asks, got.Held, got.Tries, got.Sent, len(got.Flight), got.Count}
		if is != r.want || got.Acked != got.Count%8 || got.Next != 2 || !slices.EqualFunc(got.Queue, s.Queue, partSame) {
			t.Errorf("%s: TxHear(%+v, %+v) = %+v", r.name, r.s, r.f, got)
		}
		if gone := 4 - r.want.out; !slices.EqualFunc(got.Flight, s.Flight[gone:], partSame) {
			t.Errorf("%s: on their way are %+v, want %+v", r.name, got.Flight, s.Flight[gone:])
		}
	}
}

func TestTxHearOfEachStateAndFrame(t *testing.T) {
	for _, c := range txOpts() {
		for _, s := range someTxStates(c) {
			for _, f := range txFrames() {
				wantTxHear(t, c, s, f)
			}
		}
	}
}

func TestTxHearOfOtherFrames(t *testing.T) {
	for _, c := range txOpts() {
		states := someTxStates(c)
		for _, f := range unheardFrames() {
			for i := 0; i < len(states); i += 7 {
				if got := impl.TxHear(c, states[i], f); !noTx(got) {
					t.Fatalf("TxHear(%+v, %+v, %+v) = %+v", c, states[i], f, got)
				}
			}
		}
	}
}

// Who is told to wait sends nothing till it is told to go on.
func TestTxHearWaitAndGo(t *testing.T) {
	c := txOpts()[3]
	s := txOf(c, 6, 1, 3)
	held := impl.TxHear(c, s, say(6, impl.SayWait))
	if _, _, ok := impl.TxSend(c, held, 0); ok || !held.Held {
		t.Fatalf("who was told to wait sends: %+v", held)
	}
	if got := impl.TxHear(c, held, data(6, true)); !got.Held {
		t.Errorf("a piece that comes lets it go on: %+v", got)
	}
	for _, what := range []int{impl.SayGo, impl.SayAgain} {
		goes := impl.TxHear(c, held, say(6, what))
		if _, _, ok := impl.TxSend(c, goes, 0); !ok || goes.Held {
			t.Errorf("who was told to go on, by %d, sends nothing: %+v", what, goes)
		}
	}
}

func TestTxTickKnown(t *testing.T) {
	c := impl.CfgOpts{Mode: 1, Win: 2, Mps: 2, Mtu: 9, Try: 3}
	out := txOf(c, 7, 1, 1)
	rows := []struct {
		name string
		s    impl.TxState
		asks bool
		dead bool
	}{
		{"nothing at all", impl.TxState{}, false, false},
		{"none on its way, some wait", txOf(c, 7, 0, 3), false, false},
		{"none on its way, asked as often as may be", txWith(txOf(c, 7, 0, 3), func(s *impl.TxState) { s.Tries = 3 }), false, false},
		{"one on its way", out, true, false},
		{"one on its way, to be sent again", txWith(out, func(s *impl.TxState) { s.Sent = 0 }), true, false},
		{"Held alone", impl.TxState{Held: true}, true, false},
		{"Asks alone", impl.TxState{Asks: true}, true, false},
		{"asked once less than may be", txWith(out, func(s *impl.TxState) { s.Asks, s.Tries = true, 2 }), true, false},
		{"asked as often as may be", txWith(out, func(s *impl.TxState) { s.Asks, s.Tries = true, 3 }), false, true},
		{"Held alone, asked as often as may be", impl.TxState{Held: true, Tries: 3}, false, true},
		{"Asks alone, asked as often as may be", impl.TxState{Asks: true, Tries: 3}, false, true},
		{"at its end", txWith(out, func(s *impl.TxState) { s.Dead = true }), false, true},
		{"at its end, asked as often as may be", txWith(out, func(s *impl.TxState) { s.Dead, s.Asks, s.Tries = true, true, 3 }), false, true},
	}
	for _, r := range rows {
		for _, busy := range []bool{false, true} {
			got, f, ok := impl.TxTick(c, r.s, 5, busy)
			want, frame := r.s, impl.FrmFrame{}
			want.Dead = r.dead
			if r.asks {
				want.Asks, want.Tries = true, r.s.Tries+1
				frame = impl.FrmFrame{Kind: impl.FrmSay, Ack: 5, Poll: true, Say: impl.SayGo}
				if busy {
					frame.Say = impl.SayWait
				}
			}
			if ok != r.asks || !frameSame(f, frame) || !txSame(got, want) {
				t.Errorf("%s, %v: TxTick = %+v, %+v, %v, want %+v, %+v", r.name, busy, got, f, ok, want, frame)
			}
		}
	}
}

func TestTxTickOfEachState(t *testing.T) {
	for _, c := range txOpts() {
		for i, s := range txStates(c) {
			wantTxTick(t, c, s, i%8, false)
			wantTxTick(t, c, s, (i+3)%8, true)
		}
	}
}

func TestTxTickOfNoNumber(t *testing.T) {
	for _, c := range txOpts() {
		for _, s := range append(someTxStates(c), impl.TxState{}) {
			for _, ack := range []int{-1, 8, math.MaxInt, -8} {
				if got, f, ok := impl.TxTick(c, s, ack, true); ok || !isNothing(f) || !noTx(got) {
					t.Fatalf("TxTick(%+v, %+v, %d) = %+v, %+v, %v", c, s, ack, got, f, ok)
				}
			}
		}
		for _, ack := range noNumbers() {
			if got, f, ok := impl.TxTick(c, txOf(c, 7, 1, 2), ack, false); ok || !isNothing(f) || !noTx(got) {
				t.Fatalf("TxTick with %d = %+v, %+v, %v", ack, got, f, ok)
			}
		}
	}
}

// What is not ok answers nothing, whoever it is, whatever it uses.
func TestTxOfWhatIsNotOk(t *testing.T) {
	for _, c := range txOpts() {
		for _, s := range badTxStates(c) {
			wantNoTx(t, c, s)
			s.Dead = true
			wantNoTx(t, c, s)
		}
	}
	one := impl.CfgOpts{Mode: 1, Win: 1, Mps: 1, Mtu: 1, Try: 1}
	for _, c := range badOpts() {
		for _, s := range []impl.TxState{{}, txOf(one, 0, 0, 1), txOf(one, 7, 1, 0), {Held: true}, {Dead: true}} {
			wantNoTx(t, c, s)
		}
	}
}

// Who is at its end stays as it is, whatever happens to it.
func TestTxAtItsEnd(t *testing.T) {
	for _, c := range txOpts() {
		for i, s := range someTxStates(c) {
			s.Dead = true
			put, took := impl.TxPut(c, s, nil)
			sent, f, sends := impl.TxSend(c, s, i%8)
			asked, g, asks := impl.TxTick(c, s, i%8, i%2 == 0)
			if took || sends || asks || !isNothing(f) || !isNothing(g) {
				t.Fatalf("%+v, at its end, takes, sends or asks", s)
			}
			if !txSame(put, s) || !txSame(sent, s) || !txSame(asked, s) {
				t.Fatalf("%+v, at its end, turns: %+v, %+v, %+v", s, put, sent, asked)
			}
			for _, heard := range txFrames() {
				if got := impl.TxHear(c, s, heard); !txSame(got, s) {
					t.Fatalf("%+v, at its end, hears %+v: %+v", s, heard, got)
				}
			}
		}
	}
}

// Promise 27: behind TxPut who sends is ok; a message that it takes waits behind all, in pieces; one that it does not take leaves it as it is.
func TestPromise27WhatIsTakenWaits(t *testing.T) {
	seen := map[bool]int{}
	for _, c := range txOpts() {
		for _, s := range txStates(c) {
			for _, size := range []int{0, c.Mps, c.Mps + 1, c.Mtu, c.Mtu + 1, 24} {
				sdu := mixedBytes(uint32(size)+3, size)
				got, ok := impl.TxPut(c, s, sdu)
				seen[ok]++
				if !impl.TxOk(c, got) {
					t.Fatalf("TxPut(%+v, %+v, %v) = %+v is not ok", c, s, sdu, got)
				}
				parts := impl.SegCut(sdu, c.Mps)
				if may := !s.Dead && size <= c.Mtu && len(s.Queue)+len(parts) <= impl.QueMost; ok != may {
					t.Fatalf("TxPut(%+v, %+v, %v) takes it: %v", c, s, sdu, ok)
				}
				want := s
				if ok {
					want.Queue = slices.Concat(s.Queue, parts)
				}
				if !txSame(got, want) {
					t.Fatalf("TxPut(%+v, %+v, %v) = %+v", c, s, sdu, got)
				}
			}
		}
	}
	if seen[true] == 0 || seen[false] == 0 {
		t.Fatalf("taken or not: %v", seen)
	}
}

// Promise 27: what waits behind all is the messages, one behind the other, and nothing else.
func TestPromise27MessagesWaitInOrder(t *testing.T) {
	for _, c := range txOpts() {
		s := impl.TxState{}
		var taken [][]byte
		for n := range 40 {
			sdu := mixedBytes(uint32(n)+500, n%(c.Mtu+2))
			next, ok := impl.TxPut(c, s, sdu)
			if ok {
				taken = append(taken, sdu)
			}
			s = next
		}
		_, messages, left := putAll(s.Queue)
		if !slices.EqualFunc(messages, taken, bytes.Equal) || !noJoin(left) || len(taken) == 0 {
			t.Fatalf("%+v: what waits is %v, %+v, want %v", c, messages, left, taken)
		}
	}
}

// allOf is all pieces of who sends, from the first on its way to the last that waits.
func allOf(s impl.TxState) []impl.SegPart {
	return slices.Concat(s.Flight, s.Queue)
}

// Promise 28: behind TxSend who sends is ok, and has as much left; what it sends is the piece that comes next, with the number of how many have come, and how many were sent since; never more than may be are on their way.
func TestPromise28WhatIsSentHasItsNumber(t *testing.T) {
	again, fresh := 0, 0
	for _, c := range txOpts() {
		for i, s := range txStates(c) {
			got, f, ok := impl.TxSend(c, s, i%8)
			if !impl.TxOk(c, got) || impl.TxLeft(got) != impl.TxLeft(s) || len(got.Flight) > c.Win || got.Count+len(got.Flight) > impl.TxTop {
				t.Fatalf("TxSend(%+v, %+v) = %+v", c, s, got)
			}
			if !slices.EqualFunc(allOf(got), allOf(s), partSame) || got.Count != s.Count {
				t.Fatalf("TxSend(%+v, %+v) = %+v: other pieces", c, s, got)
			}
			if !ok {
				if !txSame(got, s) || !isNothing(f) {
					t.Fatalf("TxSend(%+v, %+v) = %+v, %+v, %v", c, s, got, f, ok)
				}
				continue
			}
			p := allOf(s)[s.Sent]
			is := impl.SegPart{Seg: f.Seg, Len: f.Len, Data: f.Data}
			if !impl.FrmOk(f) || f.Kind != impl.FrmData || f.Seq != impl.NumOf(s.Count+s.Sent) || f.Ack != i%8 || f.Final || !partSame(is, p) {
				t.Fatalf("TxSend(%+v, %+v) sends %+v", c, s, f)
			}
			want := s.Next
			if s.Sent == len(s.Flight) {
				fresh++
				want = impl.NumNext(s.Next)
			} else {
				again++
			}
			if got.Next != want || got.Sent != s.Sent+1 || len(got.Flight) != impl.NumFar(got.Acked, got.Next) {
				t.Fatalf("TxSend(%+v, %+v) = %+v", c, s, got)
			}
		}
	}
	if again == 0 || fresh == 0 {
		t.Fatalf("%d were sent again, %d for the first time", again, fresh)
	}
}

// Promise 29: behind TxHear who sends is ok; if it is not at its end as many pieces as have come since are let go of, from the first on, and counted; no other piece goes, and none is new.
func TestPromise29WhatHasComeIsLetGoOf(t *testing.T) {
	ends, goes := 0, 0
	for _, c := range txOpts() {
		for _, s := range someTxStates(c) {
			for _, f := range txFrames() {
				got := impl.TxHear(c, s, f)
				if !impl.TxOk(c, got) {
					t.Fatalf("TxHear(%+v, %+v, %+v) = %+v is not ok", c, s, f, got)
				}
				come := impl.NumFar(s.Acked, f.Ack)
				if got.Dead {
					ends++
					come = 0
				}
				if !got.Dead && come > 0 {
					goes++
				}
				if got.Count != s.Count+come || !slices.EqualFunc(got.Flight, s.Flight[come:], partSame) || !slices.EqualFunc(got.Queue, s.Queue, partSame) {
					t.Fatalf("TxHear(%+v, %+v, %+v) = %+v", c, s, f, got)
				}
			}
		}
	}
	if ends == 0 || goes == 0 {
		t.Fatalf("%d times at its end, %d times let go of", ends, goes)
	}
}

// Promise 30: behind TxHear of an answer of who asks for one, that does not end it: it asks no more, and has sent none of what has not come; and of what is said without such an answer it still asks.
func TestPromise30AnAnswerThatWasAskedFor(t *testing.T) {
	answers, others := 0, 0
	for _, c := range txOpts() {
		for _, s := range someTxStates(c) {
			if !s.Asks || s.Dead {
				continue
			}
			for _, f := range txFrames() {
				got := impl.TxHear(c, s, f)
				if got.Dead {
					continue
				}
				if !f.Final {
					others++
					if !got.Asks || got.Tries != s.Tries {
						t.Fatalf("TxHear(%+v, %+v, %+v) = %+v: it does not ask any more", c, s, f, got)
					}
					continue
				}
				answers++
				if got.Asks || got.Tries != 0 || got.Sent != 0 {
					t.Fatalf("TxHear(%+v, %+v, %+v) = %+v: answered", c, s, f, got)
				}
			}
		}
	}
	if answers == 0 || others == 0 {
		t.Fatalf("%d answers, %d others", answers, others)
	}
}

// Promise 30: with the answer all that has not come is sent again, from the first on.
func TestPromise30AllIsSentAgain(t *testing.T) {
	for _, c := range txOpts() {
		for out := 1; out <= c.Win; out++ {
			for come := range out {
				s, _, _ := impl.TxTick(c, txOf(c, 21, out, 0), 0, false)
				s = impl.TxHear(c, s, answer((21+come)%8, impl.SayGo))
				for n := come; n < out; n++ {
					next, f, ok := impl.TxSend(c, s, 0)
					if !ok || f.Seq != (21+n)%8 || !bytes.Equal(f.Data, txOf(c, 21, out, 0).Flight[n].Data) {
						t.Fatalf("%d on their way, %d have come: piece %d is %+v, %v", out, come, n, f, ok)
					}
					s = next
				}
				if _, _, ok := impl.TxSend(c, s, 0); ok {
					t.Fatalf("more is sent than has not come: %+v", s)
				}
			}
		}
	}
}

// Promise 31: behind TxTick who sends is ok: it asks once more, and waits for an answer; or it is at its end, if it asked as often as it may; or nothing turns, where it waits for nothing.
func TestPromise31WhoAsksTooOften(t *testing.T) {
	asked, ended, still := 0, 0, 0
	for _, c := range txOpts() {
		for i, s := range txStates(c) {
			got, f, ok := impl.TxTick(c, s, i%8, i%2 == 0)
			waits := len(s.Flight) > 0 || s.Held || s.Asks
			want := s
			switch {
			case s.Dead || !waits:
				still++
			case s.Tries < c.Try:
				asked++
				want.Asks, want.Tries = true, s.Tries+1
			default:
				ended++
				want.Dead = true
			}
			asks := want.Tries > s.Tries
			if !impl.TxOk(c, got) || !txSame(got, want) || ok != asks {
				t.Fatalf("TxTick(%+v, %+v) = %+v, %v, want %+v", c, s, got, ok, want)
			}
			if asks && (!impl.FrmOk(f) || f.Kind != impl.FrmSay || !f.Poll || f.Ack != i%8 || (f.Say == impl.SayWait) != (i%2 == 0)) {
				t.Fatalf("TxTick(%+v, %+v) asks by %+v", c, s, f)
			}
		}
	}
	if asked == 0 || ended == 0 || still == 0 {
		t.Fatalf("%d asked, %d ended, %d stood still", asked, ended, still)
	}
}

// Promise 31: it asks Try times, and is at its end with the next one; an answer lets it begin anew, anything else does not.
func TestPromise31AsOftenAsItMay(t *testing.T) {
	for try := 1; try <= impl.TryMax; try++ {
		c := impl.CfgOpts{Mode: 1, Win: 2, Mps: 2, Mtu: 9, Try: try}
		for answered := range try + 1 {
			s := txOf(c, 7, 2, 1)
			for range answered {
				s, _, _ = impl.TxTick(c, s, 0, false)
				s = impl.TxHear(c, s, say(7, impl.SayAgain))
			}
			s = impl.TxHear(c, s, answer(7, impl.SayGo))
			asks := 0
			for range 10 {
				next, _, ok := impl.TxTick(c, s, 0, false)
				if ok {
					asks++
				}
				s = impl.TxHear(c, next, say(7, impl.SayGo))
			}
			if asks != try || !s.Dead {
				t.Fatalf("Try is %d, it asked %d times: %+v", try, asks, s)
			}
		}
	}
}

// Promise 32: of what is ok with one number more, or one piece more on its way, it is not.
func TestPromise32AsManyAsItsNumbersSay(t *testing.T) {
	for _, c := range txOpts() {
		for _, s := range txStates(c) {
			if !impl.TxOk(c, s) {
				t.Fatalf("TxOk(%+v, %+v) is false", c, s)
			}
			next, acked, flight := s, s, s
			next.Next = impl.NumNext(s.Next)
			acked.Acked = impl.NumNext(s.Acked)
			flight.Flight = append(slices.Clone(s.Flight), txParts(2, 1, c.Mps)...)
			if impl.TxOk(c, next) || impl.TxOk(c, acked) || impl.TxOk(c, flight) {
				t.Fatalf("%+v is ok with one number, or piece, more", s)
			}
			acked.Count++
			if impl.TxOk(c, acked) {
				t.Fatalf("%+v is ok with one more come that is on its way", s)
			}
			if len(s.Flight) > 0 {
				flight.Flight = s.Flight[1:]
				flight.Sent = min(s.Sent, len(flight.Flight))
				if impl.TxOk(c, flight) {
					t.Fatalf("%+v is ok with one piece less", s)
				}
			}
		}
	}
}

// Promise 33: TxLeft is as many pieces as are on their way, and wait; of what is ok, and of what is not.
func TestPromise33WhatIsLeft(t *testing.T) {
	for _, c := range txOpts() {
		for _, s := range append(txStates(c), badTxStates(c)...) {
			if got, want := impl.TxLeft(s), len(allOf(s)); got != want {
				t.Fatalf("TxLeft(%+v) = %d, want %d", s, got, want)
			}
		}
	}
	for out := range 30 {
		for waits := range 40 {
			s := impl.TxState{Flight: make([]impl.SegPart, out), Queue: make([]impl.SegPart, waits), Next: -1, Sent: 99}
			if got := impl.TxLeft(s); got != out+waits {
				t.Fatalf("TxLeft of %d on their way and %d that wait = %d", out, waits, got)
			}
		}
	}
	if got := impl.TxLeft(impl.TxState{}); got != 0 {
		t.Errorf("TxLeft of nothing = %d", got)
	}
}

// Promise 75: who sends as long as it may, and hears nothing, sends the pieces behind those that it has sent, one by one, with numbers that rise by one, till as many are on their way as may be, or none waits.
func TestPromise75PiecesAreSentInOrder(t *testing.T) {
	full, empty := 0, 0
	for _, c := range txOpts() {
		for _, s := range txStates(c) {
			if s.Dead || s.Asks || s.Held {
				continue
			}
			begin, all, sent := s, allOf(s), s.Sent
			for range 10 {
				next, f, ok := impl.TxSend(c, s, 0)
				if !ok {
					break
				}
				p := impl.SegPart{Seg: f.Seg, Len: f.Len, Data: f.Data}
				if f.Seq != (s.Count+sent)%8 || !partSame(p, all[sent]) {
					t.Fatalf("%+v sends %+v as the one behind %d", begin, f, sent)
				}
				s = next
				sent++
			}
			most := min(c.Win, len(all), 9999-s.Count)
			if sent != most || len(s.Flight) != most || s.Sent != most {
				t.Fatalf("%+v has sent %d of %d", begin, sent, most)
			}
			if sent == c.Win {
				full++
			}
			if len(s.Queue) == 0 {
				empty++
			}
		}
	}
	if full == 0 || empty == 0 {
		t.Fatalf("%d times as many as may be, %d times all that waits", full, empty)
	}
}

// Promise 76: who sends, and is told that from some piece on all is missing, sends that piece next, if it waits for no answer.
func TestPromise76FromThereOnAgain(t *testing.T) {
	again := 0
	for _, c := range txOpts() {
		for _, s := range txStates(c) {
			if s.Dead || len(s.Queue) > 1 {
				continue
			}
			for from := 0; from <= len(s.Flight); from++ {
				told := impl.TxHear(c, s, say((s.Acked+from)%8, impl.SayAgain))
				next, f, ok := impl.TxSend(c, told, 1)
				if s.Asks {
					if ok || !told.Asks || told.Sent != max(0, s.Sent-from) {
						t.Fatalf("%+v, told that all is missing from %d on, and that asks: %+v, %+v", s, from, told, f)
					}
					continue
				}
				left := allOf(s)[from:]
				if len(left) == 0 || s.Count+from == 9999 {
					if ok {
						t.Fatalf("%+v, told that nothing is missing, sends %+v", s, f)
					}
					continue
				}
				again++
				p := impl.SegPart{Seg: f.Seg, Len: f.Len, Data: f.Data}
				if !ok || f.Seq != (s.Acked+from)%8 || !partSame(p, left[0]) || next.Sent != 1 {
					t.Fatalf("%+v, told that all is missing from %d on, sends %+v, %v", s, from, f, ok)
				}
			}
		}
	}
	if again == 0 {
		t.Fatal("nothing was sent again")
	}
}

// Promise 77: who sends, and is told that all it has sent has come, has none on its way; told once more nothing turns.
func TestPromise77WhatAllHasCome(t *testing.T) {
	for _, c := range txOpts() {
		for _, s := range someTxStates(c) {
			for _, f := range txFrames() {
				if f.Ack != s.Next || s.Dead {
					continue
				}
				got := impl.TxHear(c, s, f)
				if len(got.Flight) != 0 || got.Sent != 0 || got.Dead || got.Acked != s.Next || got.Next != s.Next || got.Count != s.Count+len(s.Flight) {
					t.Fatalf("TxHear(%+v, %+v, %+v) = %+v", c, s, f, got)
				}
				if more := impl.TxHear(c, got, f); !txSame(more, got) {
					t.Fatalf("TxHear(%+v, %+v, %+v) = %+v, once more %+v", c, s, f, got, more)
				}
			}
		}
	}
}

// Promise 78: who sends, and is told that more has come than it has on its way, is at its end, and sends nothing any more.
func TestPromise78WhatWasNeverSent(t *testing.T) {
	ended := 0
	for _, c := range txOpts() {
		for _, s := range someTxStates(c) {
			for _, f := range txFrames() {
				more := farByWords(s.Acked, f.Ack) > len(s.Flight)
				got := impl.TxHear(c, s, f)
				if s.Dead {
					continue
				}
				if got.Dead != more {
					t.Fatalf("TxHear(%+v, %+v, %+v) = %+v", c, s, f, got)
				}
				if !more {
					continue
				}
				ended++
				want := s
				want.Dead = true
				if !txSame(got, want) {
					t.Fatalf("TxHear(%+v, %+v, %+v) = %+v: more than its end", c, s, f, got)
				}
				got = impl.TxHear(c, got, answer(s.Acked, impl.SayGo))
				_, _, sends := impl.TxSend(c, got, 0)
				_, _, asks := impl.TxTick(c, got, 0, false)
				if _, takes := impl.TxPut(c, got, nil); sends || asks || takes || !got.Dead {
					t.Fatalf("%+v, at its end, goes on", got)
				}
			}
		}
	}
	if ended == 0 {
		t.Fatal("nobody came to its end")
	}
}

// txWalk is who sends behind one thing more that happens, each held against the words.
func txWalk(t *testing.T, c impl.CfgOpts, s impl.TxState, upTo func(n int) int) impl.TxState {
	t.Helper()
	switch upTo(8) {
	case 0, 1:
		s, _ = wantTxPut(t, c, s, mixedBytes(uint32(upTo(1000)), upTo(c.Mtu+2)))
	case 2, 3, 4:
		s, _, _ = wantTxSend(t, c, s, upTo(8))
	case 5:
		s, _, _ = wantTxTick(t, c, s, upTo(8), upTo(2) == 0)
	default:
		frames := txFrames()
		f := frames[upTo(len(frames))]
		// Where it hears just what may be it goes on for long; once in a while it hears what may not be.
		if upTo(60) > 0 {
			f.Ack = (s.Acked + upTo(s.Sent+1)) % 8
		}
		s = wantTxHear(t, c, s, f)
	}
	return s
}

// Many long ways from nothing on, or from shortly ahead of TxTop on: at each step as the words say, and ok.
func TestTxInManyOrders(t *testing.T) {
	seed := uint32(7)
	upTo := func(n int) int {
		seed = seed*1664525 + 1013904223
		return int(seed>>8) % n
	}
	all := eachWanted()
	ends, rounds, top := 0, 0, 0
	for way := range 3000 {
		c := all[upTo(len(all))]
		s := impl.TxState{}
		if way%5 == 0 {
			s = txOf(c, 9999-upTo(12), 0, 0)
		}
		for range 100 {
			s = txWalk(t, c, s, upTo)
			wantTxOk(t, c, s, true)
		}
		if s.Dead {
			ends++
		}
		if s.Count > 8 && s.Count < 900 {
			rounds++
		}
		if s.Count == 9999 {
			top++
		}
	}
	if ends == 0 || rounds == 0 || top == 0 {
		t.Fatalf("%d at its end, %d came round, %d at TxTop", ends, rounds, top)
	}
}

// roomOf is pieces with room ahead of them and behind their end, in which other pieces lie, each with bytes in room of their own; and all that memory.
func roomOf(list []impl.SegPart) (inside []impl.SegPart, all []impl.SegPart, memory [][]byte) {
	all = make([]impl.SegPart, 0, len(list)+4)
	all = append(all, impl.SegPart{Seg: 70, Len: 71, Data: []byte{72}})
	for _, p := range list {
		data, whole := inRoom(p.Data)
		all = append(all, impl.SegPart{Seg: p.Seg, Len: p.Len, Data: data})
		memory = append(memory, whole)
	}
	for range 3 {
		all = append(all, impl.SegPart{Seg: 80, Len: 81, Data: []byte{82}})
	}
	return all[1 : 1+len(list)], all, memory
}

// span is memory from one address on up to another one.
type span struct {
	from, to uintptr
}

func spanOf[T any](list []T) span {
	from := uintptr(unsafe.Pointer(unsafe.SliceData(list)))
	var one T
	return span{from, from + uintptr(cap(list))*unsafe.Sizeof(one)}
}

// spansOf is all memory that who sends reaches, spare room included.
func spansOf(s impl.TxState) []span {
	list := []span{spanOf(s.Flight), spanOf(s.Queue)}
	for _, parts := range [][]impl.SegPart{s.Flight, s.Queue} {
		for _, p := range parts[:cap(parts)] {
			list = append(list, spanOf(p.Data))
		}
	}
	return list
}

// wantApart is memory of which no two parts overlap.
func wantApart(t *testing.T, what string, list []span) {
	t.Helper()
	list = slices.DeleteFunc(list, func(s span) bool { return s.from == s.to })
	slices.SortFunc(list, func(a, b span) int {
		if a.from < b.from {
			return -1
		}
		return 1
	})
	for i := 1; i < len(list); i++ {
		if list[i].from < list[i-1].to {
			t.Fatalf("%s: two lists share memory", what)
		}
	}
}

// What is handed in stays as it was, what lies behind its end too; and no list of what is answered shares memory with it, or with another one.
func TestTxSharesNothing(t *testing.T) {
	for _, c := range txOpts() {
		for i, s := range txStates(c) {
			if i%5 > 0 {
				continue
			}
			flight, allFlight, flightBytes := roomOf(s.Flight)
			queue, allQueue, queueBytes := roomOf(s.Queue)
			sdu, allSdu := inRoom(mixedBytes(uint32(i), i%(c.Mtu+2)))
			in := s
			in.Flight, in.Queue = flight, queue
			memory := func() string { return fmt.Sprint(in, allFlight, allQueue, flightBytes, queueBytes, allSdu) }
			before := memory()
			handed := append(spansOf(in), spanOf(sdu))

			put, _ := impl.TxPut(c, in, sdu)
			sent, f, _ := impl.TxSend(c, in, i%8)
			heard := impl.TxHear(c, in, say((s.Acked+i%3)%8, i%2))
			asked, g, _ := impl.TxTick(c, in, i%8, i%2 == 0)
			impl.TxOk(c, in)
			impl.TxLeft(in)
			if memory() != before {
				t.Fatalf("%+v, %+v: something was written into an argument, or behind its end", c, s)
			}
			wantApart(t, "TxPut", slices.Concat(handed, spansOf(put)))
			wantApart(t, "TxSend", append(slices.Concat(handed, spansOf(sent)), spanOf(f.Data)))
			wantApart(t, "TxHear", slices.Concat(handed, spansOf(heard)))
			wantApart(t, "TxTick", append(slices.Concat(handed, spansOf(asked)), spanOf(g.Data)))
			wantApart(t, "four answers", append(slices.Concat(spansOf(put), spansOf(sent), spansOf(heard), spansOf(asked)), spanOf(f.Data)))
		}
	}
}

// What is answered is not turned when what was handed in is turned.
func TestTxPutIsNotTurnedBehind(t *testing.T) {
	c := impl.CfgOpts{Mode: 1, Win: 2, Mps: 3, Mtu: 9, Try: 1}
	sdu := []byte("abcdefgh")
	s := txOf(c, 9, 2, 2)
	want, _ := txPutByWords(c, txOf(c, 9, 2, 2), []byte("abcdefgh"))
	got, ok := impl.TxPut(c, s, sdu)
	scribble(sdu)
	for _, p := range allOf(s) {
		scribble(p.Data)
	}
	for i := range s.Flight {
		s.Flight[i] = impl.SegPart{}
	}
	for i := range s.Queue {
		s.Queue[i] = impl.SegPart{}
	}
	if !ok || !txSame(got, want) {
		t.Errorf("TxPut turns with what was handed in: %+v, want %+v", got, want)
	}
}

// Where one list of pieces is handed in twice, on its way and as what waits, all answers are as of two.
func TestTxOfOneListTwice(t *testing.T) {
	c := txOpts()[1]
	parts := txParts(3, 3, c.Mps)
	s := impl.TxState{Next: 5, Acked: 2, Flight: parts, Sent: 3, Queue: parts, Count: 10}
	put, _ := wantTxPut(t, c, s, []byte("abc"))
	sent, f, _ := wantTxSend(t, c, s, 1)
	heard := wantTxHear(t, c, s, say(3, impl.SayAgain))
	asked, _, _ := wantTxTick(t, c, s, 1, false)
	wantApart(t, "TxPut", spansOf(put))
	wantApart(t, "TxSend", append(spansOf(sent), spanOf(f.Data)))
	wantApart(t, "TxHear", spansOf(heard))
	wantApart(t, "TxTick", spansOf(asked))
}

func TestTxKeepsNothingBetweenCalls(t *testing.T) {
	for _, c := range txOpts() {
		states, bad, frames := txStates(c), badTxStates(c), txFrames()
		for i := range 2000 {
			s, f := states[i*37%len(states)], frames[i*11%len(frames)]
			other := states[i*53%len(states)]
			impl.TxSend(c, other, i%9)
			impl.TxPut(c, other, mixedBytes(uint32(i), i%26))
			impl.TxHear(c, other, frames[i*7%len(frames)])
			impl.TxTick(c, bad[i%len(bad)], i%8, true)
			wantTxPut(t, c, s, mixedBytes(uint32(i), i%(c.Mtu+1)))
			wantTxSend(t, c, s, i%8)
			wantTxHear(t, c, s, f)
			wantTxTick(t, c, s, i%8, i%2 == 0)
		}
	}
}
