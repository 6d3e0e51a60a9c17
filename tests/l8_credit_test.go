package tests

import (
	"fmt"
	"math"
	"slices"
	"testing"

	"loop.example/linkboy/impl"
)

// crdTxOkByWords is chapter 8's words for who sends for credits and is ok, with the bounds written out.
func crdTxOkByWords(c impl.CfgOpts, s impl.CrdTx) bool {
	if !wantedByWords(c) || s.Have < 0 || s.Have > 255 || s.Granted < 0 || s.Granted > 9999 || s.Sent < 0 || s.Sent > 9999 {
		return false
	}
	if s.Have+s.Sent != s.Granted || len(s.Queue) > 24 {
		return false
	}
	for _, p := range s.Queue {
		if !partByWords(p.Seg, p.Len, len(p.Data)) || len(p.Data) > c.Mps {
			return false
		}
	}
	return true
}

// crdRxOkByWords is chapter 8's words for who grants and is ok.
func crdRxOkByWords(r impl.CrdRx) bool {
	return r.Out >= 0 && r.Out <= 255 && joinOkByWords(r.Join.Len, len(r.Join.Got))
}

// crdPutByWords is chapter 8's words for CrdPut, which are chapter 6's for TxPut.
func crdPutByWords(c impl.CfgOpts, s impl.CrdTx, sdu []byte) (impl.CrdTx, bool) {
	if !crdTxOkByWords(c, s) {
		return impl.CrdTx{}, false
	}
	parts := cutByWords(sdu, c.Mps)
	if s.Dead || len(sdu) > c.Mtu || len(s.Queue)+len(parts) > 24 {
		return s, false
	}
	s.Queue = slices.Concat(s.Queue, parts)
	return s, true
}

// crdSendByWords is chapter 8's words for CrdSend.
func crdSendByWords(c impl.CfgOpts, s impl.CrdTx) (impl.CrdTx, impl.FrmFrame, bool) {
	if !crdTxOkByWords(c, s) {
		return impl.CrdTx{}, impl.FrmFrame{}, false
	}
	if s.Dead || s.Have == 0 || len(s.Queue) == 0 || s.Sent == 9999 {
		return s, impl.FrmFrame{}, false
	}
	p := s.Queue[0]
	s.Queue, s.Have, s.Sent = s.Queue[1:], s.Have-1, s.Sent+1
	return s, impl.FrmFrame{Kind: 3, Seg: p.Seg, Len: p.Len, Data: p.Data}, true
}

// crdTakeByWords is chapter 8's words for CrdTake.
func crdTakeByWords(c impl.CfgOpts, s impl.CrdTx, n int) impl.CrdTx {
	if !crdTxOkByWords(c, s) || n < 1 || n > 255 {
		return impl.CrdTx{}
	}
	if s.Dead {
		return s
	}
	if s.Have+n > 255 || s.Granted+n > 9999 {
		s.Dead = true
		return s
	}
	s.Have, s.Granted = s.Have+n, s.Granted+n
	return s
}

// crdGrantByWords is chapter 8's words for CrdGrant.
func crdGrantByWords(r impl.CrdRx) (impl.CrdRx, impl.FrmFrame, bool) {
	if !crdRxOkByWords(r) {
		return impl.CrdRx{}, impl.FrmFrame{}, false
	}
	if r.Dead || r.Out >= 6 {
		return r, impl.FrmFrame{}, false
	}
	f := impl.FrmFrame{Kind: 4, Len: 6 - r.Out}
	r.Out = 6
	return r, f, true
}

// crdHearByWords is chapter 8's words for CrdHear.
func crdHearByWords(c impl.CfgOpts, r impl.CrdRx, f impl.FrmFrame) (impl.CrdRx, [][]byte) {
	if !wantedByWords(c) || !crdRxOkByWords(r) || f.Kind != 3 || !okByWords(f) {
		return impl.CrdRx{}, nil
	}
	if r.Dead {
		return r, nil
	}
	if r.Out == 0 || f.Len > c.Mtu || len(f.Data) > c.Mps {
		r.Dead = true
		return r, nil
	}
	join, sdu, how := joinByWords(r.Join, impl.SegPart{Seg: f.Seg, Len: f.Len, Data: f.Data})
	r.Out, r.Join, r.Dead = r.Out-1, join, how == 3
	if how == 2 {
		return r, [][]byte{sdu}
	}
	return r, nil
}

func crdTxSame(a impl.CrdTx, b impl.CrdTx) bool {
	return a.Have == b.Have && a.Granted == b.Granted && a.Sent == b.Sent && a.Dead == b.Dead && slices.EqualFunc(a.Queue, b.Queue, partSame)
}

func crdRxSame(a impl.CrdRx, b impl.CrdRx) bool {
	return a.Out == b.Out && a.Dead == b.Dead && joinSame(a.Join, b.Join)
}

func noCrdTx(s impl.CrdTx) bool {
	return crdTxSame(s, impl.CrdTx{})
}

func noCrdRx(r impl.CrdRx) bool {
	return crdRxSame(r, impl.CrdRx{})
}

// crdTxOf is who sends for credits, was granted so many, has sent so many, and has so many pieces that wait.
func crdTxOf(c impl.CfgOpts, granted int, sent int, waits int) impl.CrdTx {
	return impl.CrdTx{Have: granted - sent, Queue: txParts((granted+waits)%5, waits, c.Mps), Granted: granted, Sent: sent}
}

// crdGranted is what was granted, and sent: at each bound, and about it, in what is had, granted and sent.
func crdGranted() [][2]int {
	return [][2]int{
		{0, 0}, {1, 0}, {1, 1}, {6, 0}, {6, 5}, {6, 6}, {254, 0}, {255, 0}, {255, 254}, {300, 45}, {300, 50}, {5000, 4999},
		{9743, 9743}, {9744, 9744}, {9744, 9743}, {9744, 9489}, {9745, 9745}, {9745, 9491},
		{9998, 9744}, {9998, 9997}, {9998, 9998}, {9999, 9744}, {9999, 9990}, {9999, 9998}, {9999, 9999},
	}
}

// crdTxStates is who sends for credits and is ok, at its end or not.
func crdTxStates(c impl.CfgOpts) []impl.CrdTx {
	var list []impl.CrdTx
	for _, g := range crdGranted() {
		for _, waits := range []int{0, 1, 2, 23, 24} {
			s := crdTxOf(c, g[0], g[1], waits)
			list = append(list, s)
			s.Dead = true
			list = append(list, s)
		}
	}
	return list
}

// badCrdCounts is Have, Granted and Sent that are not ok together.
func badCrdCounts() [][3]int {
	list := [][3]int{
		{-1, 0, 1}, {-1, 9998, 9999}, {256, 256, 0}, {256, 9999, 9743}, {257, 300, 43}, {9999, 9999, 0},
		{1, 0, -1}, {0, -1, -1}, {0, 10000, 10000}, {1, 10000, 9999}, {10, 10000, 9990}, {-1, 9999, 10000}, {255, 10000, 9745}, {1, 10001, 10000},
		{0, math.MaxInt, math.MaxInt}, {0, math.MinInt, math.MinInt}, {1, math.MinInt, math.MaxInt}, {255, math.MinInt + 254, math.MaxInt},
		{math.MinInt, 0, math.MinInt}, {math.MaxInt, math.MaxInt, 0}, {0, 1 << 32, 1 << 32}, {1 << 32, 1 << 32, 0}, {0, 0, 1 << 32}, {0, 1 << 32, 0},
	}
	for _, g := range crdGranted() {
		have := g[0] - g[1]
		for _, far := range []int{-256, -255, -2, -1, 1, 2, 255, 256, 10000} {
			list = append(list, [3]int{have + far, g[0], g[1]}, [3]int{have, g[0] + far, g[1]}, [3]int{have, g[0], g[1] + far})
		}
	}
	return list
}

// badCrdTxStates is who sends for credits and is not ok, at its end or not.
func badCrdTxStates(c impl.CfgOpts) []impl.CrdTx {
	var list []impl.CrdTx
	for i, n := range badCrdCounts() {
		list = append(list, impl.CrdTx{Have: n[0], Granted: n[1], Sent: n[2], Queue: txParts(1, i%3, c.Mps)})
	}
	for _, waits := range []int{25, 26, 300} {
		list = append(list, crdTxOf(c, 0, 0, waits), crdTxOf(c, 255, 3, waits))
	}
	bad := append(badParts(), impl.SegPart{Len: c.Mps + 1, Data: sameBytes(c.Mps+1, 2)})
	for i, p := range bad {
		s := crdTxOf(c, 9, 2, 1+i%24)
		s.Queue[i%len(s.Queue)] = p
		list = append(list, s)
	}
	for _, s := range list {
		s.Dead = true
		list = append(list, s)
	}
	return list
}

// crdRxStates is who grants and is ok: at the bounds of what is out, and about them; with nothing come of a message, or something; at its end or not.
func crdRxStates() []impl.CrdRx {
	var list []impl.CrdRx
	for _, out := range []int{0, 1, 2, 5, 6, 7, 254, 255} {
		for _, j := range someJoins() {
			list = append(list, impl.CrdRx{Out: out, Join: j}, impl.CrdRx{Out: out, Join: j, Dead: true})
		}
	}
	return list
}

// badCrdRxStates is who grants and is not ok, at its end or not.
func badCrdRxStates() []impl.CrdRx {
	var list []impl.CrdRx
	for _, out := range []int{-1, -2, -250, -256, 256, 257, 262, 511, 9999, 1 << 32, 1<<32 + 1, math.MaxInt, math.MinInt} {
		for _, j := range someJoins() {
			list = append(list, impl.CrdRx{Out: out, Join: j})
		}
	}
	for i, j := range badJoins() {
		list = append(list, impl.CrdRx{Out: i % 8, Join: j})
	}
	for _, r := range list {
		r.Dead = true
		list = append(list, r)
	}
	return list
}

// costs is the frame of a piece for a credit.
func costs(p impl.SegPart) impl.FrmFrame {
	return impl.FrmFrame{Kind: impl.FrmPiece, Seg: p.Seg, Len: p.Len, Data: p.Data}
}

func costsAll(parts []impl.SegPart) []impl.FrmFrame {
	var list []impl.FrmFrame
	for _, p := range parts {
		list = append(list, costs(p))
	}
	return list
}

// noPieceFrames is frames that are no FrmPiece that is ok: each other Kind, ok or not, and FrmPiece with something it has not.
func noPieceFrames() []impl.FrmFrame {
	list := slices.DeleteFunc(someFrames(), func(f impl.FrmFrame) bool { return f.Kind == impl.FrmPiece })
	for _, kind := range append(farNumbers(), 0, 1, 2, 4, 5, 6, 7, 3+256, 3-256) {
		list = append(list, impl.FrmFrame{Kind: kind}, impl.FrmFrame{Kind: kind, Len: 2, Data: []byte("ab")}, impl.FrmFrame{Kind: kind, Len: 1})
	}
	list = append(list, costsAll(badParts())...)
	for _, f := range []impl.FrmFrame{costs(impl.SegPart{}), costs(impl.SegPart{Len: 1, Data: []byte{1}}), costs(impl.SegPart{Seg: 2, Data: []byte{1}})} {
		list = append(list,
			changed(f, func(f *impl.FrmFrame) { f.Seq = 1 }), changed(f, func(f *impl.FrmFrame) { f.Ack = 1 }),
			changed(f, func(f *impl.FrmFrame) { f.Seq = -1 }), changed(f, func(f *impl.FrmFrame) { f.Ack = 8 }),
			changed(f, func(f *impl.FrmFrame) { f.Poll = true }), changed(f, func(f *impl.FrmFrame) { f.Final = true }),
			changed(f, func(f *impl.FrmFrame) { f.Say = 1 }), changed(f, func(f *impl.FrmFrame) { f.Say = 2 }))
	}
	return list
}

func wantCrdTxOk(t *testing.T, c impl.CfgOpts, s impl.CrdTx, want bool) {
	t.Helper()
	if got := impl.CrdTxOk(c, s); got != want {
		t.Fatalf("CrdTxOk(%+v, %+v) = %v", c, s, got)
	}
}

func wantCrdRxOk(t *testing.T, r impl.CrdRx, want bool) {
	t.Helper()
	if got := impl.CrdRxOk(r); got != want {
		t.Fatalf("CrdRxOk(%+v) = %v", r, got)
	}
}

// wantCrdPut is CrdPut held against the words, and answers it; likewise the four below.
func wantCrdPut(t *testing.T, c impl.CfgOpts, s impl.CrdTx, sdu []byte) (impl.CrdTx, bool) {
	t.Helper()
	got, ok := impl.CrdPut(c, s, sdu)
	if want, is := crdPutByWords(c, s, sdu); ok != is || !crdTxSame(got, want) {
		t.Fatalf("CrdPut(%+v, %+v, %v) = %+v, %v, want %+v, %v", c, s, sdu, got, ok, want, is)
	}
	return got, ok
}

func wantCrdSend(t *testing.T, c impl.CfgOpts, s impl.CrdTx) (impl.CrdTx, impl.FrmFrame, bool) {
	t.Helper()
	got, f, ok := impl.CrdSend(c, s)
	if want, wantF, is := crdSendByWords(c, s); ok != is || !frameSame(f, wantF) || !crdTxSame(got, want) {
		t.Fatalf("CrdSend(%+v, %+v) = %+v, %+v, %v, want %+v, %+v, %v", c, s, got, f, ok, want, wantF, is)
	}
	return got, f, ok
}

func wantCrdTake(t *testing.T, c impl.CfgOpts, s impl.CrdTx, n int) impl.CrdTx {
	t.Helper()
	got := impl.CrdTake(c, s, n)
	if want := crdTakeByWords(c, s, n); !crdTxSame(got, want) {
		t.Fatalf("CrdTake(%+v, %+v, %d) = %+v, want %+v", c, s, n, got, want)
	}
	return got
}

func wantCrdGrant(t *testing.T, r impl.CrdRx) (impl.CrdRx, impl.FrmFrame, bool) {
	t.Helper()
	got, f, ok := impl.CrdGrant(r)
	if want, wantF, is := crdGrantByWords(r); ok != is || !frameSame(f, wantF) || !crdRxSame(got, want) {
		t.Fatalf("CrdGrant(%+v) = %+v, %+v, %v, want %+v, %+v, %v", r, got, f, ok, want, wantF, is)
	}
	return got, f, ok
}

func wantCrdHear(t *testing.T, c impl.CfgOpts, r impl.CrdRx, f impl.FrmFrame) (impl.CrdRx, [][]byte) {
	t.Helper()
	got, sdus := impl.CrdHear(c, r, f)
	if want, wantSdus := crdHearByWords(c, r, f); !crdRxSame(got, want) || !messagesSame(sdus, wantSdus) {
		t.Fatalf("CrdHear(%+v, %+v, %+v) = %+v, %v, want %+v, %v", c, r, f, got, sdus, want, wantSdus)
	}
	return got, sdus
}

// wantNoCrdTx is the three that answer who sends for credits, each of which answers nothing.
func wantNoCrdTx(t *testing.T, c impl.CfgOpts, s impl.CrdTx) {
	t.Helper()
	for _, sdu := range [][]byte{nil, {1}, sameBytes(25, 1)} {
		if got, ok := impl.CrdPut(c, s, sdu); ok || !noCrdTx(got) {
			t.Fatalf("CrdPut(%+v, %+v, %v) = %+v, %v", c, s, sdu, got, ok)
		}
	}
	if got, f, ok := impl.CrdSend(c, s); ok || !isNothing(f) || !noCrdTx(got) {
		t.Fatalf("CrdSend(%+v, %+v) = %+v, %+v, %v", c, s, got, f, ok)
	}
	for _, n := range []int{-1, 0, 1, 255, 256} {
		if got := impl.CrdTake(c, s, n); !noCrdTx(got) {
			t.Fatalf("CrdTake(%+v, %+v, %d) = %+v", c, s, n, got)
		}
	}
}

func wantNoCrdHear(t *testing.T, c impl.CfgOpts, r impl.CrdRx, f impl.FrmFrame) {
	t.Helper()
	if got, sdus := impl.CrdHear(c, r, f); !noCrdRx(got) || len(sdus) != 0 {
		t.Fatalf("CrdHear(%+v, %+v, %+v) = %+v, %v", c, r, f, got, sdus)
	}
}

func TestCrdConstants(t *testing.T) {
	got := []int{
		impl.CrdMax, impl.CrdTop, impl.QueMost, impl.TxTop, impl.FrmPiece, impl.FrmGrant,
		impl.JoinMore, impl.JoinAll, impl.JoinBad,
	}
	if want := []int{6, 255, 24, 9999, 3, 4, 1, 2, 3}; !slices.Equal(got, want) {
		t.Errorf("constants %v, want %v", got, want)
	}
}

// Nothing at all is ok, in both modes, if what both use may be wanted.
func TestCrdTxOkOfNothingAtAll(t *testing.T) {
	for _, c := range eachWanted() {
		wantCrdTxOk(t, c, impl.CrdTx{}, true)
		wantCrdTxOk(t, c, impl.CrdTx{Queue: make([]impl.SegPart, 0, 3), Dead: true}, true)
	}
	for _, c := range badOpts() {
		wantCrdTxOk(t, c, impl.CrdTx{}, false)
		wantCrdTxOk(t, c, impl.CrdTx{Have: 3, Granted: 5, Sent: 2, Dead: true}, false)
		wantCrdTxOk(t, c, impl.CrdTx{Queue: []impl.SegPart{{}}}, false)
		wantNoCrdTx(t, c, impl.CrdTx{Have: 1, Granted: 1, Queue: []impl.SegPart{{}}})
	}
}

// Have from below 0 to beyond CrdTop, each time just what was granted, less what was sent.
func TestCrdTxOkOfHave(t *testing.T) {
	c := txOpts()[2]
	for have := -20; have <= 280; have++ {
		for _, sent := range []int{20, 21, 500, 9700} {
			s := impl.CrdTx{Have: have, Granted: sent + have, Sent: sent}
			want := have >= 0 && have <= 255 && sent+have <= 9999
			wantCrdTxOk(t, c, s, want)
			s.Dead = true
			wantCrdTxOk(t, c, s, want)
		}
	}
}

// Granted and Sent, each from below 0 to beyond TxTop, the other one at most CrdTop off.
func TestCrdTxOkOfGrantedAndSent(t *testing.T) {
	c := txOpts()[2]
	for n := -20; n <= 10020; n++ {
		for _, have := range []int{0, 1, 7, 255} {
			granted := n >= 0 && n <= 9999 && n-have >= 0
			wantCrdTxOk(t, c, impl.CrdTx{Have: have, Granted: n, Sent: n - have}, granted)
			sent := n >= 0 && n+have <= 9999
			wantCrdTxOk(t, c, impl.CrdTx{Have: have, Granted: n + have, Sent: n}, sent)
		}
	}
}

// Have that is Granted less Sent, and each other one about it.
func TestCrdTxOkOfHaveThatIsNotGrantedLessSent(t *testing.T) {
	c := txOpts()[1]
	for granted := range 20 {
		for sent := range 20 {
			for have := range 20 {
				wantCrdTxOk(t, c, impl.CrdTx{Have: have, Granted: granted, Sent: sent}, granted-sent == have)
			}
		}
	}
	for _, n := range badCrdCounts() {
		wantCrdTxOk(t, c, impl.CrdTx{Have: n[0], Granted: n[1], Sent: n[2]}, false)
	}
}

// As many pieces that wait as may, and one more.
func TestCrdTxOkOfQueue(t *testing.T) {
	for _, c := range txOpts() {
		for waits := range 30 {
			wantCrdTxOk(t, c, crdTxOf(c, 0, 0, waits), waits <= 24)
			wantCrdTxOk(t, c, crdTxOf(c, 300, 50, waits), waits <= 24)
		}
	}
}

// A piece that is not ok, or has more than Mps bytes, at each place.
func TestCrdTxOkOfPieces(t *testing.T) {
	bad := badParts()
	for _, c := range txOpts() {
		pieces := append(okParts(), bad...)
		for i, p := range pieces {
			s := crdTxOf(c, 9, 3, 24)
			s.Queue[i%24] = p
			wantCrdTxOk(t, c, s, i < len(pieces)-len(bad) && len(p.Data) <= c.Mps)
		}
		for at := range 24 {
			for _, size := range []int{c.Mps, c.Mps + 1} {
				s := crdTxOf(c, 9, 3, 24)
				s.Queue[at] = impl.SegPart{Seg: impl.SegEnd, Data: sameBytes(size, 3)}
				wantCrdTxOk(t, c, s, size == c.Mps)
			}
		}
	}
}

func TestCrdTxOkOfEachState(t *testing.T) {
	for _, c := range txOpts() {
		for _, s := range crdTxStates(c) {
			wantCrdTxOk(t, c, s, true)
		}
		for _, s := range badCrdTxStates(c) {
			wantCrdTxOk(t, c, s, false)
		}
	}
}

// Out from below 0 to beyond CrdTop, with each Join of some, at its end or not.
func TestCrdRxOkOfOut(t *testing.T) {
	wantCrdRxOk(t, impl.CrdRx{}, true)
	for _, dead := range []bool{false, true} {
		for _, j := range someJoins() {
			for out := -260; out <= 520; out++ {
				wantCrdRxOk(t, impl.CrdRx{Out: out, Join: j, Dead: dead}, out >= 0 && out <= 255)
			}
		}
	}
}

func TestCrdRxOkOfJoin(t *testing.T) {
	for _, dead := range []bool{false, true} {
		for _, out := range []int{0, 1, 6, 255} {
			for _, j := range okJoins() {
				wantCrdRxOk(t, impl.CrdRx{Out: out, Join: j, Dead: dead}, true)
			}
			for _, j := range badJoins() {
				wantCrdRxOk(t, impl.CrdRx{Out: out, Join: j, Dead: dead}, false)
			}
		}
	}
	wantCrdRxOk(t, impl.CrdRx{Join: impl.SegJoin{Got: make([]byte, 0, 3)}}, true)
}

func TestCrdRxOkOfEachState(t *testing.T) {
	for _, r := range crdRxStates() {
		wantCrdRxOk(t, r, true)
	}
	for _, r := range badCrdRxStates() {
		wantCrdRxOk(t, r, false)
	}
}

func TestCrdPutKnown(t *testing.T) {
	c := impl.CfgOpts{Mode: 2, Win: 1, Mps: 2, Mtu: 5, Try: 1}
	had := impl.SegPart{Seg: impl.SegAll, Len: 1, Data: []byte("x")}
	rows := []struct {
		sdu  string
		want []impl.SegPart
		ok   bool
	}{
		{"", []impl.SegPart{had, {}}, true},
		{"ab", []impl.SegPart{had, {Len: 2, Data: []byte("ab")}}, true},
		{"abc", []impl.SegPart{had, {Seg: 1, Len: 3, Data: []byte("ab")}, {Seg: 3, Data: []byte("c")}}, true},
		{"abcde", []impl.SegPart{had, {Seg: 1, Len: 5, Data: []byte("ab")}, {Seg: 2, Data: []byte("cd")}, {Seg: 3, Data: []byte("e")}}, true},
		{"abcdef", []impl.SegPart{had}, false},
	}
	for _, r := range rows {
		for _, sent := range []int{4, 7} {
			s := impl.CrdTx{Have: 7 - sent, Queue: []impl.SegPart{had}, Granted: 7, Sent: sent}
			got, ok := impl.CrdPut(c, s, []byte(r.sdu))
			want := s
			want.Queue = r.want
			if ok != r.ok || !crdTxSame(got, want) {
				t.Errorf("CrdPut of %q = %+v, %v, want %+v", r.sdu, got, ok, want)
			}
			s.Dead = true
			if got, ok := impl.CrdPut(c, s, []byte(r.sdu)); ok || !crdTxSame(got, s) {
				t.Errorf("CrdPut of %q at its end = %+v, %v", r.sdu, got, ok)
			}
		}
	}
}

// Each size of a message, up to far beyond, with each Mps, and each Mtu at the size and about it.
func TestCrdPutOfEachSize(t *testing.T) {
	for mps := 1; mps <= impl.FrmMax; mps++ {
		for size := range 28 {
			sdu := mixedBytes(uint32(size)+77, size)
			for mtu := max(1, size-1); mtu <= min(24, size+1); mtu++ {
				c := impl.CfgOpts{Mode: 2, Win: 2, Mps: mps, Mtu: mtu, Try: 2}
				if _, ok := wantCrdPut(t, c, crdTxOf(c, 9, 4, 0), sdu); ok != (size <= mtu) {
					t.Fatalf("CrdPut of %d bytes, Mtu %d: %v", size, mtu, ok)
				}
			}
			wantCrdPut(t, impl.CfgOpts{Mode: 2, Win: 2, Mps: mps, Mtu: 24, Try: 2}, impl.CrdTx{}, sdu)
		}
	}
	for _, size := range []int{25, 255, 256, 257, 65536} {
		if got, ok := impl.CrdPut(txOpts()[1], impl.CrdTx{}, sameBytes(size, 1)); ok || !noCrdTx(got) {
			t.Errorf("CrdPut of %d bytes = %+v, %v", size, got, ok)
		}
	}
}

// As many pieces as may still wait, and one more.
func TestCrdPutWhereMostWait(t *testing.T) {
	for mps := 1; mps <= impl.FrmMax; mps++ {
		c := impl.CfgOpts{Mode: 2, Win: 3, Mps: mps, Mtu: 24, Try: 2}
		for size := range 25 {
			sdu := mixedBytes(uint32(size)+99, size)
			pieces := max(1, (size+mps-1)/mps)
			for waits := range 25 {
				got, ok := wantCrdPut(t, c, crdTxOf(c, 5, 2, waits), sdu)
				if ok != (waits+pieces <= 24) || ok && len(got.Queue) != waits+pieces {
					t.Fatalf("%d wait, CrdPut of %d pieces = %+v, %v", waits, pieces, got, ok)
				}
			}
		}
	}
}

func TestCrdPutOfEachState(t *testing.T) {
	for _, c := range txOpts() {
		for _, s := range crdTxStates(c) {
			for _, size := range []int{0, 1, c.Mps, c.Mps + 1, c.Mtu, c.Mtu + 1} {
				if _, ok := wantCrdPut(t, c, s, mixedBytes(uint32(size), size)); ok && s.Dead {
					t.Fatalf("CrdPut(%+v, %+v) at its end", c, s)
				}
			}
		}
	}
}

// CrdPut is as TxPut: what waits then, and whether it is taken, is the same.
func TestCrdPutIsAsTxPut(t *testing.T) {
	for i, c := range eachWanted() {
		s := crdTxOf(c, 6, i%7, i%25)
		s.Dead = i%11 == 0
		sdu := mixedBytes(uint32(i), i%26)
		got, ok := impl.CrdPut(c, s, sdu)
		as, is := impl.TxPut(c, impl.TxState{Queue: s.Queue, Dead: s.Dead}, sdu)
		if ok != is || !slices.EqualFunc(got.Queue, as.Queue, partSame) {
			t.Fatalf("CrdPut(%+v, %+v, %v) = %+v, %v, TxPut %+v, %v", c, s, sdu, got, ok, as, is)
		}
	}
}

func TestCrdSendKnown(t *testing.T) {
	c := impl.CfgOpts{Mode: 2, Win: 1, Mps: 2, Mtu: 9, Try: 1}
	start := impl.SegPart{Seg: impl.SegStart, Len: 5, Data: []byte("ab")}
	more := impl.SegPart{Seg: impl.SegMore, Data: []byte("cd")}
	end, none := impl.SegPart{Seg: impl.SegEnd, Data: []byte("e")}, impl.SegPart{}
	s := impl.CrdTx{Have: 3, Queue: []impl.SegPart{start, more, end, none}, Granted: 10, Sent: 7}
	rows := []struct {
		f    impl.FrmFrame
		want impl.CrdTx
		ok   bool
	}{
		{impl.FrmFrame{Kind: 3, Seg: 1, Len: 5, Data: []byte("ab")}, impl.CrdTx{Have: 2, Queue: []impl.SegPart{more, end, none}, Granted: 10, Sent: 8}, true},
		{impl.FrmFrame{Kind: 3, Seg: 2, Data: []byte("cd")}, impl.CrdTx{Have: 1, Queue: []impl.SegPart{end, none}, Granted: 10, Sent: 9}, true},
		{impl.FrmFrame{Kind: 3, Seg: 3, Data: []byte("e")}, impl.CrdTx{Have: 0, Queue: []impl.SegPart{none}, Granted: 10, Sent: 10}, true},
		{impl.FrmFrame{}, impl.CrdTx{Have: 0, Queue: []impl.SegPart{none}, Granted: 10, Sent: 10}, false},
	}
	for i, r := range rows {
		next, f, ok := impl.CrdSend(c, s)
		if ok != r.ok || !frameSame(f, r.f) || !crdTxSame(next, r.want) {
			t.Fatalf("CrdSend %d = %+v, %+v, %v, want %+v, %+v", i, next, f, ok, r.want, r.f)
		}
		s = next
	}
	s, f, ok := impl.CrdSend(c, impl.CrdTake(c, s, 2))
	if !ok || !frameSame(f, impl.FrmFrame{Kind: 3}) || !crdTxSame(s, impl.CrdTx{Have: 1, Granted: 12, Sent: 11}) {
		t.Errorf("CrdSend of no bytes = %+v, %+v, %v", s, f, ok)
	}
	if got, f, ok := impl.CrdSend(c, s); ok || !isNothing(f) || !crdTxSame(got, s) {
		t.Errorf("CrdSend where none waits = %+v, %+v, %v", got, f, ok)
	}
}

// Each thing by itself that keeps a piece from being sent, and without it that it is.
func TestCrdSendWhereItMayNot(t *testing.T) {
	c := impl.CfgOpts{Mode: 2, Win: 3, Mps: 2, Mtu: 9, Try: 2}
	rows := []struct {
		name string
		s    impl.CrdTx
		want bool
	}{
		{"one credit, one waits", crdTxOf(c, 7, 6, 1), true},
		{"one credit, all wait", crdTxOf(c, 7, 6, 24), true},
		{"more credits", crdTxOf(c, 7, 2, 2), true},
		{"all credits", crdTxOf(c, 255, 0, 2), true},
		{"no credit", crdTxOf(c, 7, 7, 1), false},
		{"no credit ever", crdTxOf(c, 0, 0, 24), false},
		{"none waits", crdTxOf(c, 7, 6, 0), false},
		{"nothing at all", impl.CrdTx{}, false},
		{"TxTop", crdTxOf(c, 9999, 9999, 2), false},
		{"one below TxTop", crdTxOf(c, 9999, 9998, 2), true},
		{"one below TxTop, no credit", crdTxOf(c, 9998, 9998, 2), false},
	}
	for _, r := range rows {
		if _, f, ok := wantCrdSend(t, c, r.s); ok != r.want || ok == isNothing(f) {
			t.Errorf("%s: CrdSend = %+v, %v", r.name, f, ok)
		}
		r.s.Dead = true
		if got, f, ok := wantCrdSend(t, c, r.s); ok || !isNothing(f) || !crdTxSame(got, r.s) {
			t.Errorf("%s, at its end: CrdSend(%+v) = %+v, %+v, %v", r.name, r.s, got, f, ok)
		}
	}
}

func TestCrdSendOfEachState(t *testing.T) {
	for _, c := range txOpts() {
		for _, s := range crdTxStates(c) {
			wantCrdSend(t, c, s)
		}
	}
}

// Each piece that may be is sent as it is.
func TestCrdSendOfEachPiece(t *testing.T) {
	c := txOpts()[1]
	for _, p := range okParts() {
		_, f, ok := wantCrdSend(t, c, impl.CrdTx{Have: 2, Queue: []impl.SegPart{p, {}}, Granted: 5, Sent: 3})
		if !ok || !frameSame(f, costs(p)) || !impl.FrmOk(f) {
			t.Fatalf("%+v is sent as %+v, %v", p, f, ok)
		}
	}
}

func TestCrdTakeKnown(t *testing.T) {
	c := impl.CfgOpts{Mode: 2, Win: 1, Mps: 3, Mtu: 9, Try: 1}
	queue := []impl.SegPart{{Seg: impl.SegMore, Data: []byte("ab")}}
	of := func(have, granted, sent int, dead bool) impl.CrdTx {
		return impl.CrdTx{Have: have, Queue: queue, Granted: granted, Sent: sent, Dead: dead}
	}
	rows := []struct {
		name string
		s    impl.CrdTx
		n    int
		want impl.CrdTx
	}{
		{"below 0", of(4, 6, 2, false), -1, impl.CrdTx{}},
		{"0", of(4, 6, 2, false), 0, impl.CrdTx{}},
		{"1", of(4, 6, 2, false), 1, of(5, 7, 2, false)},
		{"CrdTop, of none", of(0, 6, 6, false), 255, of(255, 261, 6, false)},
		{"CrdTop, of one", of(1, 6, 5, false), 255, of(1, 6, 5, true)},
		{"above CrdTop, of none", of(0, 6, 6, false), 256, impl.CrdTx{}},
		{"above CrdTop", of(4, 6, 2, false), 256, impl.CrdTx{}},
		{"up to CrdTop", of(4, 6, 2, false), 251, of(255, 257, 2, false)},
		{"one beyond CrdTop", of(4, 6, 2, false), 252, of(4, 6, 2, true)},
		{"at CrdTop, one more", of(255, 257, 2, false), 1, of(255, 257, 2, true)},
		{"up to TxTop", of(2, 9990, 9988, false), 9, of(11, 9999, 9988, false)},
		{"one beyond TxTop", of(2, 9990, 9988, false), 10, of(2, 9990, 9988, true)},
		{"at TxTop, one more", of(0, 9999, 9999, false), 1, of(0, 9999, 9999, true)},
		{"CrdTop up to TxTop", of(0, 9744, 9744, false), 255, of(255, 9999, 9744, false)},
		{"CrdTop beyond TxTop", of(0, 9745, 9745, false), 255, of(0, 9745, 9745, true)},
		{"beyond both", of(200, 9990, 9790, false), 100, of(200, 9990, 9790, true)},
		{"at its end, that may be", of(4, 6, 2, true), 3, of(4, 6, 2, true)},
		{"at its end, beyond CrdTop", of(4, 6, 2, true), 255, of(4, 6, 2, true)},
		{"at its end, beyond TxTop", of(0, 9999, 9999, true), 1, of(0, 9999, 9999, true)},
		{"at its end, 0", of(4, 6, 2, true), 0, impl.CrdTx{}},
		{"at its end, below 0", of(4, 6, 2, true), -7, impl.CrdTx{}},
		{"at its end, above CrdTop", of(4, 6, 2, true), 256, impl.CrdTx{}},
		{"not ok", of(5, 6, 2, false), 1, impl.CrdTx{}},
		{"not ok, at its end", of(5, 6, 2, true), 1, impl.CrdTx{}},
	}
	for _, r := range rows {
		if got := impl.CrdTake(c, r.s, r.n); !crdTxSame(got, r.want) {
			t.Errorf("%s: CrdTake(%+v, %d) = %+v, want %+v", r.name, r.s, r.n, got, r.want)
		}
	}
}

// Each grant that may be, one beyond on either side, and far beyond, of each state.
func TestCrdTakeOfEachGrant(t *testing.T) {
	for _, c := range txOpts()[:3] {
		for _, s := range crdTxStates(c) {
			if len(s.Queue) > 2 {
				continue
			}
			for n := -2; n <= 258; n++ {
				wantCrdTake(t, c, s, n)
			}
			for _, n := range []int{-255, -256, 511, 512, 9999, 1 << 32, 1<<32 + 1, math.MaxInt, math.MinInt, math.MaxInt - 254, math.MinInt + 1} {
				if got := impl.CrdTake(c, s, n); !noCrdTx(got) {
					t.Fatalf("CrdTake(%+v, %+v, %d) = %+v", c, s, n, got)
				}
			}
		}
	}
	for _, c := range txOpts() {
		for _, s := range crdTxStates(c) {
			for _, n := range []int{0, 1, 6, 254, 255, 256} {
				wantCrdTake(t, c, s, n)
			}
		}
	}
}

func TestCrdGrantKnown(t *testing.T) {
	join := impl.SegJoin{Len: 5, Got: []byte("he")}
	rows := []struct {
		out  int
		want int
		more int
	}{
		{0, 6, 6}, {1, 6, 5}, {2, 6, 4}, {3, 6, 3}, {4, 6, 2}, {5, 6, 1}, {6, 6, 0}, {7, 7, 0}, {254, 254, 0}, {255, 255, 0},
	}
	for _, row := range rows {
		r := impl.CrdRx{Out: row.out, Join: join}
		var want impl.FrmFrame
		if row.more > 0 {
			want = impl.FrmFrame{Kind: impl.FrmGrant, Len: row.more}
		}
		got, f, ok := impl.CrdGrant(r)
		if ok != (row.more > 0) || !frameSame(f, want) || !crdRxSame(got, impl.CrdRx{Out: row.want, Join: join}) {
			t.Errorf("CrdGrant(%+v) = %+v, %+v, %v", r, got, f, ok)
		}
		r.Dead = true
		if got, f, ok := impl.CrdGrant(r); ok || !isNothing(f) || !crdRxSame(got, r) {
			t.Errorf("CrdGrant(%+v) = %+v, %+v, %v", r, got, f, ok)
		}
	}
}

func TestCrdGrantOfEachState(t *testing.T) {
	for out := range 256 {
		for _, j := range someJoins() {
			wantCrdGrant(t, impl.CrdRx{Out: out, Join: j})
			wantCrdGrant(t, impl.CrdRx{Out: out, Join: j, Dead: true})
		}
	}
}

func TestCrdGrantOfWhatIsNotOk(t *testing.T) {
	for _, r := range badCrdRxStates() {
		if got, f, ok := impl.CrdGrant(r); ok || !isNothing(f) || !noCrdRx(got) {
			t.Fatalf("CrdGrant(%+v) = %+v, %+v, %v", r, got, f, ok)
		}
	}
}

// What a piece leaves, and tells, with a credit out, with more, and with none.
func TestCrdHearOfAPiece(t *testing.T) {
	c := impl.CfgOpts{Mode: 2, Win: 1, Mps: 4, Mtu: 9, Try: 1}
	begun := impl.SegJoin{Len: 9, Got: []byte("abcd")}
	nearly := impl.SegJoin{Len: 9, Got: []byte("abcdefgh")}
	none := impl.SegJoin{}
	part := func(seg int, length int, data string) impl.SegPart {
		return impl.SegPart{Seg: seg, Len: length, Data: []byte(data)}
	}
	rows := []struct {
		name string
		join impl.SegJoin
		p    impl.SegPart
		left impl.SegJoin
		sdus [][]byte
		// long is what is longer than both use, and costs nothing; bad is what does not fit, and costs a credit.
		long, bad bool
	}{
		{"all of a message", none, part(0, 2, "ab"), none, [][]byte{[]byte("ab")}, false, false},
		{"all of a message that has no bytes", none, part(0, 0, ""), none, [][]byte{{}}, false, false},
		{"all of a message, Mps bytes", none, part(0, 4, "abcd"), none, [][]byte{[]byte("abcd")}, false, false},
		{"all of a message, more than Mps bytes", none, part(0, 5, "abcde"), none, nil, true, false},
		{"all of a message behind a beginning", begun, part(0, 2, "ab"), none, nil, false, true},
		{"a beginning, Len Mtu", none, part(1, 9, "abcd"), begun, nil, false, false},
		{"a beginning, Len above Mtu", none, part(1, 10, "abcd"), none, nil, true, false},
		{"a beginning, more than Mps bytes", none, part(1, 9, "abcde"), none, nil, true, false},
		{"a beginning behind a beginning", begun, part(1, 9, "abcd"), none, nil, false, true},
		{"a beginning above Mtu that does not fit", begun, part(1, 10, "abcd"), begun, nil, true, false},
		{"what goes on", begun, part(2, 0, "efgh"), nearly, nil, false, false},
		{"what goes on, more than Mps bytes", begun, part(2, 0, "efghi"), begun, nil, true, false},
		{"what goes on behind nothing", none, part(2, 0, "efgh"), none, nil, false, true},
		{"what goes on up to the end", nearly, part(2, 0, "i"), none, nil, false, true},
		{"an end", nearly, part(3, 0, "i"), none, [][]byte{[]byte("abcdefghi")}, false, false},
		{"an end that comes too early", begun, part(3, 0, "i"), none, nil, false, true},
		{"an end with too much", nearly, part(3, 0, "ij"), none, nil, false, true},
		{"an end behind nothing", none, part(3, 0, "i"), none, nil, false, true},
		{"an end, more than Mps bytes", begun, part(3, 0, "efghi"), begun, nil, true, false},
	}
	for _, row := range rows {
		f := costs(row.p)
		for _, out := range []int{1, 2, 6, 255} {
			r := impl.CrdRx{Out: out, Join: row.join}
			want := impl.CrdRx{Out: out - 1, Join: row.left, Dead: row.bad}
			if row.long {
				want = impl.CrdRx{Out: out, Join: row.join, Dead: true}
			}
			if got, sdus := impl.CrdHear(c, r, f); !crdRxSame(got, want) || !messagesSame(sdus, row.sdus) {
				t.Errorf("%s: CrdHear(%+v, %+v) = %+v, %v, want %+v, %v", row.name, r, f, got, sdus, want, row.sdus)
			}
			r.Dead = true
			if got, sdus := impl.CrdHear(c, r, f); !crdRxSame(got, r) || len(sdus) != 0 {
				t.Errorf("%s, at its end: CrdHear(%+v, %+v) = %+v, %v", row.name, r, f, got, sdus)
			}
		}
		want := impl.CrdRx{Join: row.join, Dead: true}
		if got, sdus := impl.CrdHear(c, impl.CrdRx{Join: row.join}, f); !crdRxSame(got, want) || len(sdus) != 0 {
			t.Errorf("%s, none out: CrdHear = %+v, %v, want %+v", row.name, got, sdus, want)
		}
	}
}

func TestCrdHearOfEachStateAndPiece(t *testing.T) {
	frames := costsAll(okParts())
	for _, c := range txOpts() {
		for _, r := range crdRxStates() {
			for _, f := range frames {
				wantCrdHear(t, c, r, f)
			}
		}
	}
}

// All that may have come of a message, and each piece.
func TestCrdHearOfEachJoinAndPiece(t *testing.T) {
	frames := costsAll(okParts())
	for _, c := range txOpts() {
		for i, j := range okJoins() {
			for _, f := range frames {
				wantCrdHear(t, c, impl.CrdRx{Out: 1 + i%7, Join: j}, f)
			}
		}
	}
}

// Each Mps with each size, and each Mtu with each Len: at it, and above it.
func TestCrdHearAtMpsAndMtu(t *testing.T) {
	one := impl.CrdRx{Out: 1}
	for mps := 1; mps <= impl.FrmMax; mps++ {
		c := impl.CfgOpts{Mode: 2, Win: 2, Mps: mps, Mtu: 24, Try: 1}
		for size := range 9 {
			got, sdus := impl.CrdHear(c, one, costs(impl.SegPart{Len: size, Data: sameBytes(size, 5)}))
			if fits := size <= mps; got.Dead == fits || got.Out == 0 != fits || len(sdus) == 1 != fits {
				t.Errorf("Mps %d, %d bytes: %+v, %v", mps, size, got, sdus)
			}
		}
	}
	for mtu := 1; mtu <= impl.SduMax; mtu++ {
		c := impl.CfgOpts{Mode: 2, Win: 2, Mps: 8, Mtu: mtu, Try: 1}
		for length := 2; length <= 24; length++ {
			got, sdus := impl.CrdHear(c, one, costs(impl.SegPart{Seg: 1, Len: length, Data: []byte{5}}))
			if fits := length <= mtu; got.Dead == fits || got.Out == 0 != fits || got.Join.Len == length != fits || len(sdus) != 0 {
				t.Errorf("Mtu %d, Len %d: %+v, %v", mtu, length, got, sdus)
			}
		}
		for size := range 9 {
			got, sdus := impl.CrdHear(c, one, costs(impl.SegPart{Len: size, Data: sameBytes(size, 5)}))
			if fits := size <= mtu; got.Dead == fits || len(sdus) == 1 != fits {
				t.Errorf("Mtu %d, %d bytes: %+v, %v", mtu, size, got, sdus)
			}
		}
	}
}

func TestCrdHearOfWhatMayNotBeWanted(t *testing.T) {
	states := crdRxStates()
	for i, c := range badOpts() {
		for k := range 8 {
			r := states[(i*8+k)%len(states)]
			wantNoCrdHear(t, c, r, costs(impl.SegPart{}))
			wantNoCrdHear(t, c, r, costs(impl.SegPart{Len: 1, Data: []byte{1}}))
			wantNoCrdHear(t, c, r, costs(impl.SegPart{Seg: 2, Data: []byte{1}}))
		}
	}
}

func TestCrdHearOfEachThatMayBeWanted(t *testing.T) {
	states, frames := crdRxStates(), costsAll(okParts())
	for i, c := range eachWanted() {
		for k := range 20 {
			n := 20*i + k
			wantCrdHear(t, c, states[n*37%len(states)], frames[n*53%len(frames)])
			wantCrdHear(t, c, impl.CrdRx{Out: n % 3}, frames[n*11%len(frames)])
		}
	}
}

// A frame that is no FrmPiece that is ok answers nothing, of one that is at its end, or has none out, too.
func TestCrdHearOfOtherFrames(t *testing.T) {
	frames := noPieceFrames()
	for _, c := range txOpts() {
		for _, r := range crdRxStates() {
			for _, f := range frames {
				wantNoCrdHear(t, c, r, f)
			}
		}
	}
}

// What is not ok answers nothing, whatever is asked of it.
func TestCrdOfWhatIsNotOk(t *testing.T) {
	for _, c := range txOpts() {
		for _, s := range badCrdTxStates(c) {
			wantNoCrdTx(t, c, s)
		}
		for _, r := range badCrdRxStates() {
			for _, p := range []impl.SegPart{{}, {Len: 1, Data: []byte{1}}, {Seg: 2, Data: []byte{1}}, {Seg: 3, Data: []byte{1}}} {
				wantNoCrdHear(t, c, r, costs(p))
			}
		}
	}
}

// Promise 4: behind CrdHear of a piece one credit less is out, and a message, if all of it is there, is told; a piece for which none is out, that is too long, or does not fit, ends it, and nothing is told; who is at its end takes nothing.
func TestPromise4APieceForWhichThereIsNoCreditEndsIt(t *testing.T) {
	taken, told, none, long, unfit := 0, 0, 0, 0, 0
	frames := costsAll(okParts())
	for _, c := range txOpts() {
		for _, r := range crdRxStates() {
			for _, f := range frames {
				got, sdus := impl.CrdHear(c, r, f)
				wantCrdRxOk(t, got, true)
				join, sdu, how := joinByWords(r.Join, impl.SegPart{Seg: f.Seg, Len: f.Len, Data: f.Data})
				tooLong := f.Len > c.Mtu || len(f.Data) > c.Mps
				switch {
				case r.Dead:
					if !crdRxSame(got, r) || len(sdus) != 0 {
						t.Fatalf("CrdHear(%+v, %+v, %+v) = %+v, %v: at its end", c, r, f, got, sdus)
					}
				case r.Out == 0 || tooLong || how == impl.JoinBad:
					if !got.Dead || len(sdus) != 0 {
						t.Fatalf("CrdHear(%+v, %+v, %+v) = %+v, %v: not at its end", c, r, f, got, sdus)
					}
					if r.Out == 0 {
						none++
					} else if tooLong {
						long++
					} else {
						unfit++
					}
				default:
					taken++
					var want [][]byte
					if how == impl.JoinAll {
						told++
						want = [][]byte{sdu}
					}
					if got.Dead || got.Out != r.Out-1 || !joinSame(got.Join, join) || !messagesSame(sdus, want) {
						t.Fatalf("CrdHear(%+v, %+v, %+v) = %+v, %v: not taken", c, r, f, got, sdus)
					}
				}
			}
		}
	}
	if taken == 0 || told == 0 || none == 0 || long == 0 || unfit == 0 {
		t.Fatalf("%d taken, %d told, %d without credit, %d too long, %d that did not fit", taken, told, none, long, unfit)
	}
}

// Promise 4, from a grant on: just so many pieces are taken, the one behind them ends it, and none behind that is told.
func TestPromise4JustSoManyAreTaken(t *testing.T) {
	for out := range 256 {
		for _, c := range txOpts() {
			r := impl.CrdRx{Out: out}
			for n := range out + 3 {
				next, sdus := impl.CrdHear(c, r, costs(impl.SegPart{Len: 1, Data: []byte{byte(n)}}))
				if paid := n < out; next.Dead == paid || len(sdus) == 1 != paid || next.Out != max(0, out-n-1) {
					t.Fatalf("%d out, piece %d: %+v, %v", out, n, next, sdus)
				}
				r = next
			}
		}
	}
}

// Promise 39: behind CrdPut who sends for credits is ok, with the credits it had; a message that it takes waits behind all, in pieces; one that it does not take leaves it as it is.
func TestPromise39WhatIsTakenWaitsForCredits(t *testing.T) {
	takes, leaves := 0, 0
	for _, c := range txOpts() {
		for _, s := range crdTxStates(c) {
			for size := range 27 {
				sdu := mixedBytes(uint32(size)+5, size)
				got, ok := impl.CrdPut(c, s, sdu)
				wantCrdTxOk(t, c, got, true)
				if got.Have != s.Have || got.Granted != s.Granted || got.Sent != s.Sent || got.Dead != s.Dead {
					t.Fatalf("CrdPut(%+v, %+v, %v) = %+v, %v: other credits", c, s, sdu, got, ok)
				}
				want := s.Queue
				if ok {
					takes++
					want = slices.Concat(s.Queue, impl.SegCut(sdu, c.Mps))
				} else {
					leaves++
				}
				if !slices.EqualFunc(got.Queue, want, partSame) {
					t.Fatalf("CrdPut(%+v, %+v, %v) = %+v, %v: other pieces wait", c, s, sdu, got, ok)
				}
				_, messages, _ := putAll(got.Queue[len(s.Queue):])
				if ok && !messagesSame(messages, [][]byte{sdu}) {
					t.Fatalf("CrdPut(%+v, %+v, %v) = %+v: the pieces are %v", c, s, sdu, got, messages)
				}
			}
		}
	}
	if takes == 0 || leaves == 0 {
		t.Fatalf("%d taken, %d not", takes, leaves)
	}
}

// Promise 40: behind CrdSend who sends for credits is ok; what it sends is the piece that waited first, and it has one credit less; without a credit, or a piece, nothing turns.
func TestPromise40APieceCostsACredit(t *testing.T) {
	sends, without := 0, 0
	for _, c := range txOpts() {
		for _, s := range crdTxStates(c) {
			got, f, ok := impl.CrdSend(c, s)
			wantCrdTxOk(t, c, got, true)
			if may := !s.Dead && s.Have > 0 && len(s.Queue) > 0; ok != may {
				t.Fatalf("CrdSend(%+v, %+v) = %v", c, s, ok)
			}
			if !ok {
				without++
				if !crdTxSame(got, s) || !isNothing(f) {
					t.Fatalf("CrdSend(%+v, %+v) = %+v, %+v: nothing turns", c, s, got, f)
				}
				continue
			}
			sends++
			if !impl.FrmOk(f) || !frameSame(f, costs(s.Queue[0])) {
				t.Fatalf("CrdSend(%+v, %+v) sends %+v", c, s, f)
			}
			want := impl.CrdTx{Have: s.Have - 1, Queue: s.Queue[1:], Granted: s.Granted, Sent: s.Sent + 1}
			if !crdTxSame(got, want) {
				t.Fatalf("CrdSend(%+v, %+v) = %+v, want %+v", c, s, got, want)
			}
		}
	}
	if sends == 0 || without == 0 {
		t.Fatalf("%d sent, %d not", sends, without)
	}
}

// Promise 41: behind CrdTake who sends for credits has what it had, and what it was granted; if that is beyond CrdTop it is at its end, with what it had.
func TestPromise41WhoIsGrantedTooMuchIsAtItsEnd(t *testing.T) {
	c := txOpts()[4]
	goesOn, ends := 0, 0
	for have := range 256 {
		for _, sent := range []int{0, 1, 200, 9489} {
			for n := 1; n <= 255; n++ {
				s := crdTxOf(c, sent+have, sent, n%3)
				got := impl.CrdTake(c, s, n)
				wantCrdTxOk(t, c, got, true)
				if !slices.EqualFunc(got.Queue, s.Queue, partSame) || got.Sent != s.Sent {
					t.Fatalf("CrdTake(%+v, %d) = %+v: it turns what is not granted", s, n, got)
				}
				if have+n > 255 {
					ends++
					s.Dead = true
					if !crdTxSame(got, s) {
						t.Fatalf("CrdTake(%+v, %d) = %+v: beyond CrdTop", s, n, got)
					}
					continue
				}
				goesOn++
				if got.Dead || got.Have != have+n || got.Granted != sent+have+n {
					t.Fatalf("CrdTake(%+v, %d) = %+v", s, n, got)
				}
			}
		}
	}
	if goesOn == 0 || ends == 0 {
		t.Fatalf("%d go on, %d at their end", goesOn, ends)
	}
}

// Promise 42: behind CrdGrant as many credits are out as may be, and the grant is those that were not; where there is nothing to grant, nothing turns.
func TestPromise42WhatIsGrantedIsWhatIsMissing(t *testing.T) {
	grants := 0
	for out := range 256 {
		for _, j := range someJoins() {
			for _, dead := range []bool{false, true} {
				r := impl.CrdRx{Out: out, Join: j, Dead: dead}
				got, f, ok := impl.CrdGrant(r)
				wantCrdRxOk(t, got, true)
				if ok != (out < impl.CrdMax && !dead) {
					t.Fatalf("CrdGrant(%+v) = %v", r, ok)
				}
				if !ok {
					if !crdRxSame(got, r) || !isNothing(f) {
						t.Fatalf("CrdGrant(%+v) = %+v, %+v: nothing turns", r, got, f)
					}
					continue
				}
				grants++
				if got.Out != impl.CrdMax || out+f.Len != got.Out || f.Kind != impl.FrmGrant || !impl.FrmOk(f) {
					t.Fatalf("CrdGrant(%+v) = %+v, %+v", r, got, f)
				}
				if got.Dead || !joinSame(got.Join, j) {
					t.Fatalf("CrdGrant(%+v) = %+v: it turns what is not granted", r, got)
				}
				if more, f, again := impl.CrdGrant(got); again || !crdRxSame(more, got) || !isNothing(f) {
					t.Fatalf("CrdGrant(%+v) = %+v, once more %+v, %+v", r, got, more, f)
				}
			}
		}
	}
	if grants == 0 {
		t.Fatal("nothing was granted")
	}
}

// Promise 43: of what is ok with a credit more than that it is not; with one more granted, and sent, it is, if that is not too much.
func TestPromise43CreditsAreWhatWasGrantedLessWhatWasSent(t *testing.T) {
	for _, c := range txOpts() {
		for granted := range 10000 {
			for _, have := range []int{0, 1, 6, 254, 255} {
				if have > granted {
					continue
				}
				s := crdTxOf(c, granted, granted-have, granted%3)
				s.Dead = granted%7 == 0
				wantCrdTxOk(t, c, s, true)
				more := s
				more.Have++
				wantCrdTxOk(t, c, more, false)
				more = s
				more.Granted, more.Sent = s.Granted+1, s.Sent+1
				wantCrdTxOk(t, c, more, granted+1 <= 9999)
			}
		}
	}
}

// Promise 44: of what is ok with nothing come of a message it is; with more out than may be it is not.
func TestPromise44WhatIsOutIsCounted(t *testing.T) {
	for out := range 256 {
		for _, j := range okJoins() {
			for _, dead := range []bool{false, true} {
				wantCrdRxOk(t, impl.CrdRx{Out: out, Join: j, Dead: dead}, true)
				wantCrdRxOk(t, impl.CrdRx{Out: out, Dead: dead}, true)
				for _, more := range []int{256, 257, 256 + out, 512 + out} {
					wantCrdRxOk(t, impl.CrdRx{Out: more, Join: j, Dead: dead}, false)
				}
			}
		}
	}
}

// crdLink is who sends for credits and who hears, on a link that loses nothing, and what has come.
type crdLink struct {
	tx   impl.CrdTx
	rx   impl.CrdRx
	came [][]byte
}

// step lets a piece be sent, and heard at once; where there is no credit one grant comes ahead of it. False, if none waits.
func (l *crdLink) step(t *testing.T, c impl.CfgOpts) bool {
	t.Helper()
	if len(l.tx.Queue) == 0 {
		return false
	}
	if l.tx.Have == 0 {
		rx, f, ok := impl.CrdGrant(l.rx)
		if !ok {
			t.Fatalf("%+v: nothing is granted by %+v, where %+v has none", c, l.rx, l.tx)
		}
		l.rx, l.tx = rx, impl.CrdTake(c, l.tx, f.Len)
	}
	tx, f, ok := impl.CrdSend(c, l.tx)
	if !ok {
		t.Fatalf("%+v: %+v sends nothing", c, l.tx)
	}
	rx, sdus := impl.CrdHear(c, l.rx, f)
	l.tx, l.rx, l.came = tx, rx, append(l.came, sdus...)
	if rx.Out != tx.Have {
		t.Fatalf("%+v: %+v has other credits than %+v has out", c, tx, rx)
	}
	return true
}

// sendAll lets messages be taken, one that finds no room once enough has gone ahead of it, and sends them all.
func (l *crdLink) sendAll(t *testing.T, c impl.CfgOpts, sdus [][]byte) {
	t.Helper()
	for i, sdu := range sdus {
		tx, ok := impl.CrdPut(c, l.tx, sdu)
		for !ok {
			if !l.step(t, c) {
				t.Fatalf("%+v: message %d is not taken, and none waits", c, i)
			}
			tx, ok = impl.CrdPut(c, l.tx, sdu)
		}
		l.tx = tx
	}
	for l.step(t, c) {
	}
}

// Promise 81: of messages that who sends takes, each piece heard at once, and credits granted where there are none: all come, in order, and nobody is at its end.
func TestPromise81ForCreditsAllComesAtOnce(t *testing.T) {
	for _, c := range eachWanted() {
		if c.Try != 2 || c.Win != 1 {
			continue
		}
		sdus := [][]byte{nil, mixedBytes(1, c.Mtu), mixedBytes(2, min(c.Mps, c.Mtu)), mixedBytes(3, min(c.Mps+1, c.Mtu)), nil, mixedBytes(4, (c.Mtu+1)/2), mixedBytes(5, c.Mtu)}
		var l crdLink
		l.sendAll(t, c, sdus)
		if !messagesSame(l.came, sdus) || l.tx.Dead || l.rx.Dead || len(l.tx.Queue) != 0 || !noJoin(l.rx.Join) {
			t.Fatalf("%+v: of %v there came %v; %+v, %+v", c, sdus, l.came, l.tx, l.rx)
		}
	}
}

// Promise 81, up to the last grant of CrdMax that TxTop has room for; the one behind it is beyond TxTop, and ends who sends.
func TestPromise81UpToTxTop(t *testing.T) {
	c := impl.CfgOpts{Mode: 2, Win: 1, Mps: 2, Mtu: 5, Try: 1}
	var sdus [][]byte
	for n := range 3332 {
		sdus = append(sdus, mixedBytes(uint32(n), 5))
	}
	var l crdLink
	l.sendAll(t, c, sdus)
	if !messagesSame(l.came, sdus) || l.tx.Dead || l.rx.Dead || l.tx.Sent != 9996 || l.tx.Granted != 9996 || l.rx.Out != 0 {
		t.Fatalf("of %d there came %d; %+v, %+v", len(sdus), len(l.came), l.tx, l.rx)
	}
	_, f, _ := impl.CrdGrant(l.rx)
	if got := impl.CrdTake(c, l.tx, f.Len); !got.Dead || got.Have != 0 || got.Granted != 9996 {
		t.Errorf("CrdTake(%+v, %d) = %+v", l.tx, f.Len, got)
	}
	if got := impl.CrdTake(c, l.tx, 3); got.Dead || got.Have != 3 || got.Granted != 9999 {
		t.Errorf("CrdTake(%+v, 3) = %+v", l.tx, got)
	}
}

// Promise 82: who sends for credits, granted once from nothing, sends as many pieces as were granted at most, and as many as wait, if they are fewer.
func TestPromise82OneGrantIsSoManyPieces(t *testing.T) {
	for _, c := range txOpts() {
		for waits := range 25 {
			for _, n := range []int{1, 2, 3, 5, 6, 7, 12, 22, 23, 24, 25, 26, 100, 254, 255} {
				// From nothing, but for what waits; and, likewise, of one that has none left.
				for _, sent := range []int{0, 77, 9744} {
					s := impl.CrdTake(c, crdTxOf(c, sent, sent, waits), n)
					wantSoMany(t, c, s, min(n, waits))
				}
			}
		}
	}
}

// wantSoMany lets who sends for credits send as long as it may: just so many pieces, those that waited first, in order, each for one credit.
func wantSoMany(t *testing.T, c impl.CfgOpts, begin impl.CrdTx, want int) {
	t.Helper()
	s := begin
	for n := range want {
		next, f, ok := impl.CrdSend(c, s)
		if !ok || !frameSame(f, costs(begin.Queue[n])) {
			t.Fatalf("of %+v piece %d is %+v, %v", begin, n, f, ok)
		}
		s = next
	}
	if next, f, ok := impl.CrdSend(c, s); ok || !isNothing(f) || !crdTxSame(next, s) {
		t.Fatalf("of %+v one more than %d is sent: %+v, %+v", begin, want, next, f)
	}
	if s.Have != begin.Have-want || s.Sent != begin.Sent+want || s.Granted != begin.Granted || s.Dead {
		t.Fatalf("of %+v there is left, behind %d pieces, %+v", begin, want, s)
	}
}

// crdTalk is two that use credits, with what is on its way between them: grants to the one, pieces to the other one.
type crdTalk struct {
	tx     impl.CrdTx
	rx     impl.CrdRx
	grants []int
	pieces []impl.FrmFrame
	took   [][]byte
	came   [][]byte
}

// happen is one thing more that happens, each held against the words.
func (k *crdTalk) happen(t *testing.T, c impl.CfgOpts, upTo func(n int) int) {
	t.Helper()
	switch upTo(6) {
	case 0:
		sdu := mixedBytes(uint32(upTo(1000)), upTo(c.Mtu+2))
		tx, ok := wantCrdPut(t, c, k.tx, sdu)
		if k.tx = tx; ok {
			k.took = append(k.took, sdu)
		}
	case 1, 2:
		tx, f, ok := wantCrdSend(t, c, k.tx)
		if k.tx = tx; ok {
			k.pieces = append(k.pieces, f)
		}
	case 3:
		rx, f, ok := wantCrdGrant(t, k.rx)
		if k.rx = rx; ok {
			k.grants = append(k.grants, f.Len)
		}
	case 4:
		if len(k.grants) > 0 {
			k.tx = wantCrdTake(t, c, k.tx, k.grants[0])
			k.grants = k.grants[1:]
		}
	case 5:
		if len(k.pieces) > 0 {
			rx, sdus := wantCrdHear(t, c, k.rx, k.pieces[0])
			k.rx, k.came, k.pieces = rx, append(k.came, sdus...), k.pieces[1:]
		}
	}
}

// Many long ways on a link that keeps all: at each step as the words say, both ok and neither at its end; each credit is somewhere; what has come is a beginning of what was taken.
func TestCrdInManyOrders(t *testing.T) {
	seed := uint32(9)
	upTo := func(n int) int {
		seed = seed*1664525 + 1013904223
		return int(seed>>8) % n
	}
	all := eachWanted()
	came, broke := 0, 0
	for range 2000 {
		c := all[upTo(len(all))]
		var k crdTalk
		for range 100 {
			k.happen(t, c, upTo)
			wantCrdTxOk(t, c, k.tx, true)
			wantCrdRxOk(t, k.rx, true)
			if k.tx.Dead || k.rx.Dead {
				t.Fatalf("%+v: %+v", c, k)
			}
			onTheWay := 0
			for _, n := range k.grants {
				onTheWay += n
			}
			if k.rx.Out != k.tx.Have+onTheWay+len(k.pieces) || k.rx.Out > 6 || k.tx.Sent > k.tx.Granted {
				t.Fatalf("%+v: a credit is nowhere: %+v", c, k)
			}
			if len(k.came) > len(k.took) || !messagesSame(k.came, k.took[:len(k.came)]) {
				t.Fatalf("%+v: of %v there came %v", c, k.took, k.came)
			}
			if k.tx.Have == 0 && len(k.tx.Queue) > 0 {
				broke++
			}
		}
		came += len(k.came)
	}
	if came == 0 || broke == 0 {
		t.Fatalf("%d came, %d times there was no credit", came, broke)
	}
}

// crdTxSpans is all memory that who sends for credits reaches, spare room included.
func crdTxSpans(s impl.CrdTx) []span {
	return spansOf(impl.TxState{Queue: s.Queue})
}

// crdRxSpans is all memory that an answer of who grants reaches, spare room included.
func crdRxSpans(r impl.CrdRx, sdus [][]byte) []span {
	return rxSpansOf(impl.RxState{Join: r.Join}, sdus, nil)
}

// What is handed in stays as it was, what lies behind its end too; no list of what is answered shares memory with it, or with another one; nor is it turned when what was handed in is turned.
func TestCrdTxSharesNothing(t *testing.T) {
	for _, c := range txOpts() {
		for i, s := range crdTxStates(c) {
			queue, allQueue, queueBytes := roomOf(s.Queue)
			size := i % (c.Mtu + 2)
			sdu, allSdu := inRoom(mixedBytes(uint32(i), size))
			in := s
			in.Queue = queue
			memory := func() string { return fmt.Sprint(in, allQueue, queueBytes, allSdu) }
			before := memory()
			handed := append(crdTxSpans(in), spanOf(sdu))

			put, _ := impl.CrdPut(c, in, sdu)
			sent, f, _ := impl.CrdSend(c, in)
			took := impl.CrdTake(c, in, 1+i%255)
			impl.CrdTxOk(c, in)
			if memory() != before {
				t.Fatalf("%+v, %+v: something was written into an argument, or behind its end", c, s)
			}
			wantApart(t, "CrdPut", slices.Concat(handed, crdTxSpans(put)))
			wantApart(t, "CrdSend", append(slices.Concat(handed, crdTxSpans(sent)), spanOf(f.Data)))
			wantApart(t, "CrdTake", slices.Concat(handed, crdTxSpans(took)))
			wantApart(t, "three answers", append(slices.Concat(crdTxSpans(put), crdTxSpans(sent), crdTxSpans(took)), spanOf(f.Data)))

			scribble(allSdu)
			for _, list := range queueBytes {
				scribble(list)
			}
			for at := range allQueue {
				allQueue[at] = impl.SegPart{Seg: 90}
			}
			wantPut, _ := crdPutByWords(c, s, mixedBytes(uint32(i), size))
			wantSent, wantF, _ := crdSendByWords(c, s)
			wantTook := crdTakeByWords(c, s, 1+i%255)
			if !crdTxSame(put, wantPut) || !crdTxSame(sent, wantSent) || !frameSame(f, wantF) || !crdTxSame(took, wantTook) {
				t.Fatalf("%+v, %+v: an answer turns with what was handed in", c, s)
			}
		}
	}
}

func TestCrdRxSharesNothing(t *testing.T) {
	parts := okParts()
	for _, c := range txOpts() {
		for i, r := range crdRxStates() {
			for k := range 40 {
				f := costs(parts[(i*7+k*13)%len(parts)])
				in, heard := r, f
				var allGot, allData []byte
				in.Join.Got, allGot = inRoom(r.Join.Got)
				heard.Data, allData = inRoom(f.Data)
				before := fmt.Sprint(in, heard, allGot, allData)
				handed := []span{spanOf(allGot), spanOf(allData)}

				got, sdus := impl.CrdHear(c, in, heard)
				granted, grant, _ := impl.CrdGrant(in)
				impl.CrdRxOk(in)
				if fmt.Sprint(in, heard, allGot, allData) != before {
					t.Fatalf("%+v, %+v: something was written into an argument, or behind its end", r, f)
				}
				wantApart(t, "CrdHear", slices.Concat(handed, crdRxSpans(got, sdus)))
				wantApart(t, "CrdGrant", append(slices.Concat(handed, crdRxSpans(granted, nil)), spanOf(grant.Data)))
				wantApart(t, "two answers", slices.Concat(crdRxSpans(got, sdus), crdRxSpans(granted, nil)))

				scribble(allGot)
				scribble(allData)
				want, wantSdus := crdHearByWords(c, r, f)
				if !crdRxSame(got, want) || !messagesSame(sdus, wantSdus) {
					t.Fatalf("CrdHear(%+v, %+v, %+v) turns with what was handed in", c, r, f)
				}
				if want, _, _ := crdGrantByWords(r); !crdRxSame(granted, want) {
					t.Fatalf("CrdGrant(%+v) turns with what was handed in", r)
				}
			}
		}
	}
}

// Where the same bytes are handed in twice, in two pieces that wait, as message and piece, or as what has come and as what comes, the answers are as of two.
func TestCrdOfOneListTwice(t *testing.T) {
	c := txOpts()[1]
	list := []byte("abcd")
	p := impl.SegPart{Seg: impl.SegMore, Data: list}
	s := impl.CrdTx{Have: 2, Queue: []impl.SegPart{p, p, p}, Granted: 2}
	put, _ := wantCrdPut(t, c, s, list)
	sent, f, _ := wantCrdSend(t, c, s)
	took := wantCrdTake(t, c, s, 3)
	wantApart(t, "CrdPut", append(crdTxSpans(put), spanOf(list)))
	wantApart(t, "CrdSend", append(crdTxSpans(sent), spanOf(f.Data), spanOf(list)))
	wantApart(t, "CrdTake", append(crdTxSpans(took), spanOf(list)))
	for _, seg := range []int{impl.SegMore, impl.SegEnd} {
		for _, size := range []int{3, 4} {
			r := impl.CrdRx{Out: 2, Join: impl.SegJoin{Len: 8, Got: list}}
			got, sdus := wantCrdHear(t, c, r, costs(impl.SegPart{Seg: seg, Data: list[:size]}))
			wantApart(t, "CrdHear", append(crdRxSpans(got, sdus), spanOf(list)))
		}
	}
	if string(list) != "abcd" {
		t.Errorf("the bytes are %q", list)
	}
}

func TestCrdKeepsNothingBetweenCalls(t *testing.T) {
	rxs, badRxs, frames, others := crdRxStates(), badCrdRxStates(), costsAll(rxPieces()), noPieceFrames()
	for _, c := range txOpts() {
		txs, badTxs := crdTxStates(c), badCrdTxStates(c)
		for i := range 2000 {
			impl.CrdPut(c, txs[i*53%len(txs)], mixedBytes(uint32(i), i%26))
			impl.CrdSend(c, txs[i*59%len(txs)])
			impl.CrdTake(c, badTxs[i%len(badTxs)], i%300)
			impl.CrdHear(c, rxs[i*61%len(rxs)], others[i*7%len(others)])
			impl.CrdGrant(badRxs[i*3%len(badRxs)])
			s, r := txs[i*37%len(txs)], rxs[i*41%len(rxs)]
			wantCrdPut(t, c, s, mixedBytes(uint32(i), i%(c.Mtu+1)))
			wantCrdSend(t, c, s)
			wantCrdTake(t, c, s, i%260)
			wantCrdGrant(t, r)
			wantCrdHear(t, c, r, frames[i*11%len(frames)])
		}
	}
}
