package tests

import (
	"bytes"
	"fmt"
	"math"
	"slices"
	"testing"

	"loop.example/linkboy/impl"
)

// readByWords is chapter 2's words for FrmRead: the frame whose bytes these are.
func readByWords(list []byte) (impl.FrmFrame, bool) {
	if len(list) < 7 {
		return impl.FrmFrame{}, false
	}
	signs := int(list[2])
	f := impl.FrmFrame{
		Kind: int(list[0]), Seq: int(list[1]) / 16, Ack: int(list[1]) % 16,
		Poll: signs%2 == 1, Final: signs/2%2 == 1, Say: signs / 4 % 4, Seg: signs / 16,
		Len: int(list[3]), Data: list[5 : len(list)-2],
	}
	if !okByWords(f) || !bytes.Equal(putByWords(bodyByWords(f)), list) {
		return impl.FrmFrame{}, false
	}
	return f, true
}

// bytesOf is the bytes of a frame that is ok.
func bytesOf(f impl.FrmFrame) []byte {
	return putByWords(bodyByWords(f))
}

// wldOkByWords is chapter 9's words for two ends that are ok, with the bounds written out.
func wldOkByWords(w impl.WldWorld) bool {
	if len(w.Ends) != 2 || len(w.Net) != 2 || w.Link != 0 && w.Link != 1 {
		return false
	}
	for _, e := range w.Ends {
		if !txOkByWords(w.Cfg, e.Tx) || !rxOkByWords(e.Rx) || !crdTxOkByWords(w.Cfg, e.Ctx) || !crdRxOkByWords(e.Crx) {
			return false
		}
		if len(e.Put) > 60 || len(e.Got) > 60 {
			return false
		}
		for _, sdu := range slices.Concat(e.Put, e.Got) {
			if len(sdu) > 24 {
				return false
			}
		}
	}
	for _, list := range w.Net {
		if len(list) > 30 {
			return false
		}
		for _, m := range list {
			if len(m.Bytes) > 15 {
				return false
			}
		}
	}
	return true
}

// wldStepByWords is chapter 9's words for WldStep.
func wldStepByWords(w impl.WldWorld, e impl.EvEvent) impl.WldWorld {
	if !wldOkByWords(w) {
		return impl.WldWorld{}
	}
	if e.Who != 0 && e.Who != 1 {
		return w
	}
	w.Ends, w.Net = slices.Clone(w.Ends), slices.Clone(w.Net)
	switch e.Kind {
	case 7:
		return hearsByWords(w, e.Who)
	case 8:
		if len(w.Net[e.Who]) > 0 {
			w.Net[e.Who] = w.Net[e.Who][1:]
		}
		return w
	case 9:
		return bendsByWords(w, e)
	case 10:
		w.Net = [][]impl.NetMsg{nil, nil}
		w.Link = 1 - w.Link
		return w
	case 11:
		if len(w.Net[e.Who]) < 30 && len(e.Data) <= 15 {
			w.Net[e.Who] = slices.Concat(w.Net[e.Who], []impl.NetMsg{{Bytes: e.Data}})
		}
		return w
	}
	if w.Cfg.Mode == 1 {
		return numsByWords(w, e)
	}
	return crdsByWords(w, e)
}

// saysByWords is what is said by one: on its way to the other one, behind all, if there are fewer than NetMax.
func saysByWords(w impl.WldWorld, who int, says []impl.FrmFrame) impl.WldWorld {
	for _, f := range says {
		if len(w.Net[1-who]) < 30 {
			w.Net[1-who] = slices.Concat(w.Net[1-who], []impl.NetMsg{{Bytes: bytesOf(f)}})
		}
	}
	return w
}

// numsByWords is chapter 9's first table.
func numsByWords(w impl.WldWorld, e impl.EvEvent) impl.WldWorld {
	end := &w.Ends[e.Who]
	var says []impl.FrmFrame
	var f impl.FrmFrame
	ok := false
	switch e.Kind {
	case 1:
		if len(end.Put) == 60 {
			return w
		}
		if end.Tx, ok = txPutByWords(w.Cfg, end.Tx, e.Data); ok {
			end.Put = slices.Concat(end.Put, [][]byte{e.Data})
		}
	case 2:
		if len(w.Net[1-e.Who]) == 30 {
			return w
		}
		if end.Tx, f, ok = txSendByWords(w.Cfg, end.Tx, end.Rx.Expect); ok {
			says = []impl.FrmFrame{f}
		}
	case 3:
		if end.Tx, f, ok = txTickByWords(w.Cfg, end.Tx, end.Rx.Expect, end.Rx.Busy); ok {
			says = []impl.FrmFrame{f}
		}
	case 4:
		end.Rx, says = rxBusyByWords(end.Rx, e.V == 1)
	case 5:
		if !end.Rx.Dead {
			says = rxSaysByWords(end.Rx, false)
		}
	}
	return saysByWords(w, e.Who, says)
}

// crdsByWords is chapter 9's words for ModeCredit.
func crdsByWords(w impl.WldWorld, e impl.EvEvent) impl.WldWorld {
	end := &w.Ends[e.Who]
	var says []impl.FrmFrame
	var f impl.FrmFrame
	ok := false
	switch {
	case e.Kind == 1 && len(end.Put) < 60:
		if end.Ctx, ok = crdPutByWords(w.Cfg, end.Ctx, e.Data); ok {
			end.Put = slices.Concat(end.Put, [][]byte{e.Data})
		}
	case e.Kind == 2 && len(w.Net[1-e.Who]) < 30:
		if end.Ctx, f, ok = crdSendByWords(w.Cfg, end.Ctx); ok {
			says = []impl.FrmFrame{f}
		}
	case e.Kind == 6 && len(w.Net[1-e.Who]) < 30:
		if end.Crx, f, ok = crdGrantByWords(end.Crx); ok {
			says = []impl.FrmFrame{f}
		}
	}
	return saysByWords(w, e.Who, says)
}

// hearsByWords is chapter 9's words for EvHear.
func hearsByWords(w impl.WldWorld, who int) impl.WldWorld {
	if len(w.Net[who]) == 0 {
		return w
	}
	f, ok := readByWords(w.Net[who][0].Bytes)
	w.Net[who] = w.Net[who][1:]
	if !ok {
		return w
	}
	end := &w.Ends[who]
	var sdus [][]byte
	var says []impl.FrmFrame
	switch {
	case w.Cfg.Mode == 1 && (f.Kind == 1 || f.Kind == 2):
		end.Tx = txHearByWords(w.Cfg, end.Tx, f)
		end.Rx, sdus, says = rxHearByWords(w.Cfg, end.Rx, f)
	case w.Cfg.Mode == 2 && f.Kind == 4:
		end.Ctx = crdTakeByWords(w.Cfg, end.Ctx, f.Len)
	case w.Cfg.Mode == 2 && f.Kind == 3:
		end.Crx, sdus = crdHearByWords(w.Cfg, end.Crx, f)
	}
	if len(end.Got) < 60 {
		end.Got = slices.Concat(end.Got, sdus)
	}
	return saysByWords(w, who, says)
}

// bendsByWords is chapter 9's words for EvBend.
func bendsByWords(w impl.WldWorld, e impl.EvEvent) impl.WldWorld {
	if len(w.Net[e.Who]) == 0 {
		return w
	}
	first := w.Net[e.Who][0]
	if e.At < 0 || e.At >= len(first.Bytes) || e.V < 1 || e.V > 255 || first.Bent {
		return w
	}
	bent := impl.NetMsg{Bent: true, Bytes: turned(first.Bytes, e.At, byte(e.V))}
	w.Net[e.Who] = slices.Concat([]impl.NetMsg{bent}, w.Net[e.Who][1:])
	return w
}

// wldRunByWords is chapter 9's words for WldRun.
func wldRunByWords(w impl.WldWorld, events []impl.EvEvent) impl.WldWorld {
	if !wldOkByWords(w) || len(events) > 400 {
		return impl.WldWorld{}
	}
	for _, e := range events {
		w = wldStepByWords(w, e)
	}
	return w
}

// heardByWords is chapter 9's words for all being heard.
func heardByWords(w impl.WldWorld) impl.WldWorld {
	for range 2 {
		for who := range 2 {
			coming := 0
			if who < len(w.Net) {
				coming = len(w.Net[who])
			}
			for range coming {
				w = wldStepByWords(w, impl.EvEvent{Kind: 7, Who: who})
			}
		}
	}
	return w
}

// wldCalmByWords is chapter 9's words for WldCalm.
func wldCalmByWords(w impl.WldWorld, n int) impl.WldWorld {
	if !wldOkByWords(w) || n > 100 {
		return impl.WldWorld{}
	}
	if n < 1 {
		return w
	}
	w = heardByWords(w)
	for range n {
		for _, kind := range []int{4, 6, 3} {
			w = heardByWords(wldStepByWords(w, impl.EvEvent{Kind: kind, Who: 0}))
			w = heardByWords(wldStepByWords(w, impl.EvEvent{Kind: kind, Who: 1}))
		}
		for who := range 2 {
			for range 10 {
				w = wldStepByWords(w, impl.EvEvent{Kind: 2, Who: who})
			}
			w = heardByWords(w)
			w = heardByWords(wldStepByWords(w, impl.EvEvent{Kind: 5, Who: 1 - who}))
		}
	}
	return w
}

func netSame(a []impl.NetMsg, b []impl.NetMsg) bool {
	return slices.EqualFunc(a, b, func(x, y impl.NetMsg) bool { return x.Bent == y.Bent && bytes.Equal(x.Bytes, y.Bytes) })
}

func endSame(a impl.WldEnd, b impl.WldEnd) bool {
	return txSame(a.Tx, b.Tx) && rxSame(a.Rx, b.Rx) && crdTxSame(a.Ctx, b.Ctx) && crdRxSame(a.Crx, b.Crx) &&
		messagesSame(a.Put, b.Put) && messagesSame(a.Got, b.Got)
}

func wldSame(a impl.WldWorld, b impl.WldWorld) bool {
	return a.Cfg == b.Cfg && a.Link == b.Link && slices.EqualFunc(a.Ends, b.Ends, endSame) && slices.EqualFunc(a.Net, b.Net, netSame)
}

func noWld(w impl.WldWorld) bool {
	return wldSame(w, impl.WldWorld{})
}

// deepMessages is messages with memory of their own; likewise the two below.
func deepMessages(list [][]byte) [][]byte {
	list = slices.Clone(list)
	for i := range list {
		list[i] = bytes.Clone(list[i])
	}
	return list
}

func deepParts(list []impl.SegPart) []impl.SegPart {
	list = slices.Clone(list)
	for i := range list {
		list[i].Data = bytes.Clone(list[i].Data)
	}
	return list
}

func deepWorld(w impl.WldWorld) impl.WldWorld {
	w.Ends, w.Net = slices.Clone(w.Ends), slices.Clone(w.Net)
	for i := range w.Ends {
		e := &w.Ends[i]
		e.Tx.Flight, e.Tx.Queue, e.Ctx.Queue = deepParts(e.Tx.Flight), deepParts(e.Tx.Queue), deepParts(e.Ctx.Queue)
		e.Rx.Join.Got, e.Crx.Join.Got = bytes.Clone(e.Rx.Join.Got), bytes.Clone(e.Crx.Join.Got)
		e.Put, e.Got = deepMessages(e.Put), deepMessages(e.Got)
	}
	for i, list := range w.Net {
		w.Net[i] = slices.Clone(list)
		for k := range w.Net[i] {
			w.Net[i][k].Bytes = bytes.Clone(list[k].Bytes)
		}
	}
	return w
}

// wldWith is two ends with something turned in them; the lists are their own.
func wldWith(w impl.WldWorld, turn func(w *impl.WldWorld)) impl.WldWorld {
	w = deepWorld(w)
	turn(&w)
	return w
}

// wldOpts is what both use, in either mode.
func wldOpts() []impl.CfgOpts {
	var list []impl.CfgOpts
	for _, c := range txOpts() {
		list = append(list, optsWith(c, 0, impl.ModeNum), optsWith(c, 0, impl.ModeCredit))
	}
	return list
}

func numOpts() impl.CfgOpts {
	return impl.CfgOpts{Mode: impl.ModeNum, Win: 3, Mps: 2, Mtu: 20, Try: 2}
}

func crdOpts() impl.CfgOpts {
	return impl.CfgOpts{Mode: impl.ModeCredit, Win: 3, Mps: 2, Mtu: 20, Try: 2}
}

// newUpTo is a source of numbers, each below what it is asked for, the same ones on every run.
func newUpTo(seed uint32) func(n int) int {
	seed = seed*2654435761 + 97
	return func(n int) int {
		seed = seed*1664525 + 1013904223
		return int(seed>>8) % n
	}
}

func oneOf[T any](upTo func(n int) int, list ...T) T {
	return list[upTo(len(list))]
}

// messagesOf is so many messages, of sizes up to that.
func messagesOf(upTo func(n int) int, n int, most int) [][]byte {
	var list [][]byte
	for range n {
		list = append(list, mixedBytes(uint32(upTo(1000)), upTo(most+1)))
	}
	return list
}

// mixedEnd is an end that is ok, but comes from no beginning.
func mixedEnd(c impl.CfgOpts, upTo func(n int) int) impl.WldEnd {
	out := upTo(c.Win + 1)
	tx := txOf(c, oneOf(upTo, 0, 5, 14, 4001, 9990, 9998-out, 9999-out, 9998, 9999), out, oneOf(upTo, 0, 1, 2, 12, 22, 23, 24))
	tx.Sent, tx.Tries = upTo(out+1), upTo(c.Try+1)
	tx.Asks, tx.Held, tx.Dead = upTo(3) == 0, upTo(3) == 0, upTo(8) == 0
	rx := rxOf(oneOf(upTo, 0, 3, 7, 8, 4001, 9998, 9999), oneOf(upTo, someJoins()...))
	rx.Again, rx.Busy, rx.Dead = upTo(2) == 0, upTo(3) == 0, upTo(8) == 0
	granted := oneOf(upTo, crdGranted()...)
	ctx := crdTxOf(c, granted[0], granted[1], oneOf(upTo, 0, 1, 2, 22, 23, 24))
	ctx.Dead = upTo(8) == 0
	crx := impl.CrdRx{Out: oneOf(upTo, 0, 1, 2, 5, 6, 7, 255), Join: oneOf(upTo, someJoins()...), Dead: upTo(8) == 0}
	return impl.WldEnd{
		Tx: tx, Rx: rx, Ctx: ctx, Crx: crx,
		Put: messagesOf(upTo, oneOf(upTo, 0, 1, 3, 58, 59, 60), 24), Got: messagesOf(upTo, oneOf(upTo, 0, 1, 3, 58, 59, 60), 24),
	}
}

// mixedFrame is a frame that an end may hear: mostly one that says what may have come, and carries what fits; now and then any other one.
func mixedFrame(c impl.CfgOpts, e impl.WldEnd, upTo func(n int) int) impl.FrmFrame {
	ack := (e.Tx.Acked + upTo(len(e.Tx.Flight)+1)) % 8
	if upTo(12) == 0 {
		ack = upTo(8)
	}
	piece := fitting(c, e.Rx.Join, upTo)
	if upTo(12) == 0 {
		piece = oneOf(upTo, rxPieces()...)
	}
	switch upTo(6) {
	case 0:
		f := carries((e.Rx.Expect+max(0, upTo(10)-4))%8, piece)
		f.Ack, f.Final = ack, upTo(4) == 0
		return f
	case 1:
		return say(ack, upTo(3))
	case 2:
		return answer(ack, upTo(3))
	case 3:
		return poll(ack, upTo(3))
	case 4:
		return impl.FrmFrame{Kind: impl.FrmGrant, Len: oneOf(upTo, 1, 2, 5, 6, 249, 250, 254, 255)}
	}
	if upTo(12) > 0 {
		piece = fitting(c, e.Crx.Join, upTo)
	}
	return costs(piece)
}

// mixedNet is what is on its way to an end: frames, some of them bent, and bytes that are no frame.
func mixedNet(c impl.CfgOpts, e impl.WldEnd, upTo func(n int) int) []impl.NetMsg {
	var list []impl.NetMsg
	for range oneOf(upTo, 0, 1, 2, 5, 28, 29, 30) {
		m := impl.NetMsg{Bytes: bytesOf(mixedFrame(c, e, upTo))}
		switch upTo(8) {
		case 0:
			m = impl.NetMsg{Bent: true, Bytes: turned(m.Bytes, upTo(len(m.Bytes)), byte(1+upTo(255)))}
		case 1:
			m.Bytes = mixedBytes(uint32(upTo(1000)), upTo(16))
		case 2:
			m.Bent = true
		}
		list = append(list, m)
	}
	return list
}

// mixedWorld is two ends that are ok, but come from no beginning.
func mixedWorld(c impl.CfgOpts, upTo func(n int) int) impl.WldWorld {
	w := impl.WldWorld{Cfg: c, Link: upTo(2)}
	for range 2 {
		e := mixedEnd(c, upTo)
		w.Ends, w.Net = append(w.Ends, e), append(w.Net, mixedNet(c, e, upTo))
	}
	return w
}

// someWorlds is two ends that are ok: at their beginning, and from none, for each that both use.
func someWorlds(each int) []impl.WldWorld {
	upTo := newUpTo(uint32(each))
	var list []impl.WldWorld
	for _, c := range wldOpts() {
		list = append(list, impl.WldNew(c))
		for range each {
			list = append(list, mixedWorld(c, upTo))
		}
	}
	return list
}

// badWorlds is two ends that are not ok: with one thing wrong each.
func badWorlds() []impl.WldWorld {
	upTo := newUpTo(11)
	list := []impl.WldWorld{{}, {Link: 1}, {Cfg: numOpts()}, {Cfg: crdOpts(), Ends: make([]impl.WldEnd, 2)}, {Cfg: crdOpts(), Net: make([][]impl.NetMsg, 2)}}
	for _, c := range []impl.CfgOpts{numOpts(), crdOpts()} {
		for _, w := range []impl.WldWorld{impl.WldNew(c), mixedWorld(c, upTo)} {
			add := func(turn func(w *impl.WldWorld)) { list = append(list, wldWith(w, turn)) }
			for _, n := range append(farNumbers(), 2, 3) {
				add(func(w *impl.WldWorld) { w.Link = n })
			}
			for _, bad := range someBadOpts() {
				add(func(w *impl.WldWorld) { w.Cfg = bad })
			}
			for _, n := range []int{0, 1, 3, 4} {
				add(func(w *impl.WldWorld) { w.Ends = slices.Repeat(w.Ends, 2)[:n] })
				add(func(w *impl.WldWorld) { w.Net = slices.Repeat(w.Net, 2)[:n] })
				add(func(w *impl.WldWorld) {
					w.Ends, w.Net = slices.Repeat(w.Ends, 2)[:n], slices.Repeat(w.Net, 2)[:n]
				})
			}
			for who := range 2 {
				addBadEnds(c, who, add)
			}
		}
	}
	return list
}

// addBadEnds turns one thing of an end, or of what is on its way to it, into what is not ok.
func addBadEnds(c impl.CfgOpts, who int, add func(turn func(w *impl.WldWorld))) {
	tx, rx, ctx, crx := badTxStates(c), badRxStates(), badCrdTxStates(c), badCrdRxStates()
	for i := range 12 {
		add(func(w *impl.WldWorld) { w.Ends[who].Tx = tx[i*101%len(tx)] })
		add(func(w *impl.WldWorld) { w.Ends[who].Rx = rx[i*101%len(rx)] })
		add(func(w *impl.WldWorld) { w.Ends[who].Ctx = ctx[i*101%len(ctx)] })
		add(func(w *impl.WldWorld) { w.Ends[who].Crx = crx[i*101%len(crx)] })
	}
	many, long := make([][]byte, 61), [][]byte{nil, {1}, sameBytes(25, 3)}
	add(func(w *impl.WldWorld) { w.Ends[who].Put = many })
	add(func(w *impl.WldWorld) { w.Ends[who].Got = many })
	add(func(w *impl.WldWorld) { w.Ends[who].Put = long })
	add(func(w *impl.WldWorld) { w.Ends[who].Got = long })
	add(func(w *impl.WldWorld) { w.Net[who] = make([]impl.NetMsg, 31) })
	add(func(w *impl.WldWorld) { w.Net[who] = []impl.NetMsg{{}, {Bytes: sameBytes(16, 1)}} })
	add(func(w *impl.WldWorld) { w.Net[who] = []impl.NetMsg{{Bytes: sameBytes(16, 1), Bent: true}, {}} })
}

func wantWldOk(t *testing.T, w impl.WldWorld, want bool) {
	t.Helper()
	if got := impl.WldOk(w); got != want {
		t.Fatalf("WldOk(%+v) = %v", w, got)
	}
}

// wantStep is WldStep held against the words, and answers it; likewise the two below.
func wantStep(t *testing.T, w impl.WldWorld, e impl.EvEvent) impl.WldWorld {
	t.Helper()
	got := impl.WldStep(w, e)
	if want := wldStepByWords(w, e); !wldSame(got, want) {
		t.Fatalf("WldStep(%+v, %+v) = %+v, want %+v", w, e, got, want)
	}
	return got
}

func wantRun(t *testing.T, w impl.WldWorld, events []impl.EvEvent) impl.WldWorld {
	t.Helper()
	got := impl.WldRun(w, events)
	if want := wldRunByWords(w, events); !wldSame(got, want) {
		t.Fatalf("WldRun(%+v, %+v) = %+v, want %+v", w, events, got, want)
	}
	return got
}

func wantCalmed(t *testing.T, w impl.WldWorld, n int) impl.WldWorld {
	t.Helper()
	got := impl.WldCalm(w, n)
	if want := wldCalmByWords(w, n); !wldSame(got, want) {
		t.Fatalf("WldCalm(%+v, %d) = %+v, want %+v", w, n, got, want)
	}
	return got
}

// wantAsIs is a step that leaves two ends as they are.
func wantAsIs(t *testing.T, w impl.WldWorld, e impl.EvEvent) {
	t.Helper()
	if got := impl.WldStep(w, e); !wldSame(got, w) {
		t.Fatalf("WldStep(%+v, %+v) = %+v", w, e, got)
	}
}

// wantBehind is a step behind which two ends are as they were, but for what is turned.
func wantBehind(t *testing.T, w impl.WldWorld, e impl.EvEvent, turn func(w *impl.WldWorld)) impl.WldWorld {
	t.Helper()
	got := impl.WldStep(w, e)
	if want := wldWith(w, turn); !wldSame(got, want) {
		t.Fatalf("WldStep(%+v, %+v) = %+v, want %+v", w, e, got, want)
	}
	return got
}

// comes is frames on their way to one, nothing of them bent.
func comes(w impl.WldWorld, who int, frames ...impl.FrmFrame) impl.WldWorld {
	return wldWith(w, func(w *impl.WldWorld) {
		for _, f := range frames {
			w.Net[who] = append(w.Net[who], impl.NetMsg{Bytes: bytesOf(f)})
		}
	})
}

// crowded is so many frames more on their way to one, that say nothing new.
func crowded(w impl.WldWorld, who int, n int) impl.WldWorld {
	return comes(w, who, slices.Repeat([]impl.FrmFrame{say(0, impl.SayGo)}, n)...)
}

// onWay lets a frame be on its way to one, behind all.
func onWay(w *impl.WldWorld, who int, f impl.FrmFrame) {
	w.Net[who] = append(w.Net[who], impl.NetMsg{Bytes: bytesOf(f)})
}

// eachEvent is each Kind and one beyond on either side, of Who at 0 and 1, and one beyond on either side; of those that have parts some.
func eachEvent(c impl.CfgOpts) []impl.EvEvent {
	var list []impl.EvEvent
	for _, who := range []int{-1, 0, 1, 2} {
		for kind := 0; kind <= 12; kind++ {
			list = append(list, impl.EvEvent{Kind: kind, Who: who})
		}
		for _, size := range []int{1, c.Mps, c.Mtu, c.Mtu + 1, 15, 16, 24, 25, 40} {
			sdu := mixedBytes(uint32(size), size)
			list = append(list, impl.EvEvent{Kind: impl.EvPut, Who: who, Data: sdu}, impl.EvEvent{Kind: impl.EvInject, Who: who, Data: sdu})
		}
		for _, v := range []int{-1, 1, 2, 257} {
			list = append(list, impl.EvEvent{Kind: impl.EvBusy, Who: who, V: v})
		}
		for _, v := range []int{-255, -1, 1, 128, 255, 256, 257} {
			for _, at := range []int{-1, 0, 1, 6, 7, 14, 15} {
				list = append(list, impl.EvEvent{Kind: impl.EvBend, Who: who, At: at, V: v})
			}
		}
		// Parts that a Kind does not speak of turn nothing.
		for kind := 0; kind <= 12; kind++ {
			list = append(list, impl.EvEvent{Kind: kind, Who: who, At: 3, V: 1, Data: []byte{1}})
		}
	}
	for _, n := range farNumbers() {
		list = append(list, impl.EvEvent{Kind: n}, impl.EvEvent{Kind: impl.EvHear, Who: n}, impl.EvEvent{Kind: impl.EvMove, Who: n},
			impl.EvEvent{Kind: impl.EvBend, At: n, V: 1}, impl.EvEvent{Kind: impl.EvBend, V: n}, impl.EvEvent{Kind: impl.EvBusy, V: n})
	}
	return list
}

func TestWldConstants(t *testing.T) {
	got := []int{
		impl.EvPut, impl.EvSend, impl.EvTick, impl.EvBusy, impl.EvAck, impl.EvGrant, impl.EvHear, impl.EvLose, impl.EvBend, impl.EvMove, impl.EvInject,
		impl.NetMax, impl.EvMaxRun, impl.CalmMax, impl.GotMax, impl.SduMax, impl.FrmMax, impl.WinMax, impl.CrdMax, impl.ModeNum, impl.ModeCredit,
	}
	if want := []int{1, 2, 3, 4, 5, 6, 7, 8, 9, 10, 11, 30, 400, 100, 60, 24, 8, 4, 6, 1, 2}; !slices.Equal(got, want) {
		t.Errorf("constants %v, want %v", got, want)
	}
}

func TestWldNewOfWhatMayNotBeWanted(t *testing.T) {
	for _, c := range badOpts() {
		if got := impl.WldNew(c); !noWld(got) || got.Ends != nil || got.Net != nil {
			t.Fatalf("WldNew(%+v) = %+v", c, got)
		}
	}
	if got := impl.WldNew(impl.CfgOpts{}); !noWld(got) {
		t.Fatalf("WldNew of nothing at all = %+v", got)
	}
}

func TestWldOkOfWldNew(t *testing.T) {
	for _, c := range eachWanted() {
		wantWldOk(t, impl.WldNew(c), true)
	}
	for _, c := range badOpts() {
		wantWldOk(t, impl.WldNew(c), false)
	}
	wantWldOk(t, impl.WldWorld{}, false)
}

func TestWldOkOfSomeWorlds(t *testing.T) {
	for _, w := range someWorlds(100) {
		wantWldOk(t, w, true)
		wantWldOk(t, deepWorld(w), true)
	}
	for _, w := range badWorlds() {
		wantWldOk(t, w, false)
	}
}

// No end, one, two and three, with a Net of none, one list, two and three.
func TestWldOkOfHowManyEnds(t *testing.T) {
	for _, c := range wldOpts() {
		for ends := range 4 {
			for lists := range 4 {
				w := impl.WldWorld{Cfg: c, Ends: make([]impl.WldEnd, ends), Net: make([][]impl.NetMsg, lists)}
				wantWldOk(t, w, ends == 2 && lists == 2)
			}
		}
	}
}

func TestWldOkOfLink(t *testing.T) {
	for _, c := range wldOpts() {
		w := impl.WldNew(c)
		for w.Link = -2; w.Link <= 3; w.Link++ {
			wantWldOk(t, w, w.Link == 0 || w.Link == 1)
		}
		for _, w.Link = range farNumbers() {
			wantWldOk(t, w, false)
		}
	}
}

// Each of the four parts of either end is not ok by itself; in either mode all four count.
func TestWldOkOfEachPartOfAnEnd(t *testing.T) {
	for _, c := range wldOpts() {
		for who := range 2 {
			wantPart := func(ok bool, turn func(e *impl.WldEnd)) {
				t.Helper()
				wantWldOk(t, wldWith(impl.WldNew(c), func(w *impl.WldWorld) { turn(&w.Ends[who]) }), ok)
			}
			for _, s := range badTxStates(c) {
				wantPart(false, func(e *impl.WldEnd) { e.Tx = s })
			}
			for _, r := range badRxStates() {
				wantPart(false, func(e *impl.WldEnd) { e.Rx = r })
			}
			for _, s := range badCrdTxStates(c) {
				wantPart(false, func(e *impl.WldEnd) { e.Ctx = s })
			}
			for _, r := range badCrdRxStates() {
				wantPart(false, func(e *impl.WldEnd) { e.Crx = r })
			}
			wantPart(true, func(e *impl.WldEnd) { e.Tx = txOf(c, 9998, c.Win, 24) })
			wantPart(true, func(e *impl.WldEnd) { e.Rx = rxOf(9999, impl.SegJoin{Len: 24, Got: []byte{1}}) })
			wantPart(true, func(e *impl.WldEnd) { e.Ctx = crdTxOf(c, 9999, 9744, 24) })
			wantPart(true, func(e *impl.WldEnd) { e.Crx = impl.CrdRx{Out: 255} })
			wantPart(true, func(e *impl.WldEnd) { e.Tx.Dead, e.Rx.Dead, e.Ctx.Dead, e.Crx.Dead = true, true, true, true })
		}
	}
}

// Put and Got with GotMax messages and one more, with a message of SduMax bytes and one more, first or last; whatever Mtu is.
func TestWldOkOfMessages(t *testing.T) {
	for _, c := range wldOpts() {
		for who := range 2 {
			for n := 55; n <= 63; n++ {
				wantWldOk(t, wldWith(impl.WldNew(c), func(w *impl.WldWorld) { w.Ends[who].Put = make([][]byte, n) }), n <= 60)
				wantWldOk(t, wldWith(impl.WldNew(c), func(w *impl.WldWorld) { w.Ends[who].Got = make([][]byte, n) }), n <= 60)
			}
			for size := 20; size <= 28; size++ {
				for at := range 3 {
					list := make([][]byte, 3)
					list[at] = sameBytes(size, 7)
					wantWldOk(t, wldWith(impl.WldNew(c), func(w *impl.WldWorld) { w.Ends[who].Put = list }), size <= 24)
					wantWldOk(t, wldWith(impl.WldNew(c), func(w *impl.WldWorld) { w.Ends[who].Got = list }), size <= 24)
				}
			}
		}
	}
}

// NetMax frames on their way to either, and one more; a frame of FrmMax + 7 bytes, and one more, first or last, bent or not.
func TestWldOkOfWhatIsOnItsWay(t *testing.T) {
	for _, c := range wldOpts() {
		for who := range 2 {
			for n := 25; n <= 33; n++ {
				wantWldOk(t, wldWith(impl.WldNew(c), func(w *impl.WldWorld) { w.Net[who] = make([]impl.NetMsg, n) }), n <= 30)
			}
			for size := range 20 {
				for at := range 3 {
					list := make([]impl.NetMsg, 3)
					list[at] = impl.NetMsg{Bent: at == 1, Bytes: sameBytes(size, 7)}
					wantWldOk(t, wldWith(impl.WldNew(c), func(w *impl.WldWorld) { w.Net[who] = list }), size <= 15)
				}
			}
		}
	}
}

// Of two ends that are not ok each step, run and calm is nothing, a calm of no rounds, or fewer, too.
func TestWldOfWhatIsNotOk(t *testing.T) {
	events := eachEvent(numOpts())
	for _, w := range badWorlds() {
		for i := range events {
			if e := events[i]; !noWld(impl.WldStep(w, e)) {
				t.Fatalf("WldStep(%+v, %+v) is something", w, e)
			}
		}
		for _, n := range []int{0, 1, 2, 400, 401} {
			if !noWld(impl.WldRun(w, make([]impl.EvEvent, n))) {
				t.Fatalf("WldRun(%+v), of %d, is something", w, n)
			}
		}
		for _, n := range append(farNumbers(), 0, 1, 2, 100, 101) {
			if !noWld(impl.WldCalm(w, n)) {
				t.Fatalf("WldCalm(%+v, %d) is something", w, n)
			}
		}
	}
}

func TestWldStepOfEachWorldAndEvent(t *testing.T) {
	for i, w := range someWorlds(40) {
		for k, e := range eachEvent(w.Cfg) {
			// All of the lower ones, and of the many others each in turn.
			if k < 60 || (i+k)%3 == 0 {
				wantStep(t, w, e)
			}
		}
	}
}

// Who is neither: as they are, whatever would happen.
func TestWldStepOfNobody(t *testing.T) {
	for i, w := range someWorlds(20) {
		for kind := 0; kind <= 12; kind++ {
			for _, who := range append(farNumbers(), 2, 3) {
				wantAsIs(t, w, impl.EvEvent{Kind: kind, Who: who, At: i % 7, V: 1, Data: []byte{1}})
			}
		}
	}
}

func TestWldStepOfNoKind(t *testing.T) {
	for _, w := range someWorlds(20) {
		for _, kind := range append(farNumbers(), 0, 12, 13) {
			for who := range 2 {
				wantAsIs(t, w, impl.EvEvent{Kind: kind, Who: who, V: 1, Data: []byte{1}})
			}
		}
	}
}

// What happens in the other mode alone turns nothing.
func TestWldStepOfTheOtherMode(t *testing.T) {
	for _, w := range someWorlds(40) {
		for who := range 2 {
			if w.Cfg.Mode == impl.ModeNum {
				wantAsIs(t, w, impl.EvEvent{Kind: impl.EvGrant, Who: who})
				continue
			}
			wantAsIs(t, w, impl.EvEvent{Kind: impl.EvTick, Who: who})
			wantAsIs(t, w, impl.EvEvent{Kind: impl.EvBusy, Who: who, V: 1})
			wantAsIs(t, w, impl.EvEvent{Kind: impl.EvBusy, Who: who})
			wantAsIs(t, w, impl.EvEvent{Kind: impl.EvAck, Who: who})
		}
	}
}

func TestWldStepPut(t *testing.T) {
	for _, c := range []impl.CfgOpts{numOpts(), crdOpts()} {
		for who := range 2 {
			w := impl.WldNew(c)
			for _, sdu := range [][]byte{nil, []byte("a"), []byte("hello"), mixedBytes(1, 20)} {
				wantBehind(t, w, impl.EvEvent{Kind: impl.EvPut, Who: who, Data: sdu}, func(w *impl.WldWorld) {
					e := &w.Ends[who]
					e.Put = [][]byte{sdu}
					if c.Mode == impl.ModeNum {
						e.Tx.Queue = cutByWords(sdu, 2)
					} else {
						e.Ctx.Queue = cutByWords(sdu, 2)
					}
				})
			}
			// Longer than both agreed; no room; at its end; as many taken as may be noted.
			wantAsIs(t, w, impl.EvEvent{Kind: impl.EvPut, Who: who, Data: mixedBytes(1, 21)})
			wantAsIs(t, w, impl.EvEvent{Kind: impl.EvPut, Who: who, Data: mixedBytes(1, 40)})
			full := wldWith(w, func(w *impl.WldWorld) {
				w.Ends[who].Tx.Queue, w.Ends[who].Ctx.Queue = txParts(1, 24, 2), txParts(1, 24, 2)
			})
			wantAsIs(t, full, impl.EvEvent{Kind: impl.EvPut, Who: who, Data: []byte("a")})
			ended := wldWith(w, func(w *impl.WldWorld) { w.Ends[who].Tx.Dead, w.Ends[who].Ctx.Dead = true, true })
			wantAsIs(t, ended, impl.EvEvent{Kind: impl.EvPut, Who: who, Data: []byte("a")})
			for n := 58; n <= 60; n++ {
				took := wldWith(w, func(w *impl.WldWorld) { w.Ends[who].Put = make([][]byte, n) })
				got := wantStep(t, took, impl.EvEvent{Kind: impl.EvPut, Who: who, Data: []byte("a")})
				if len(got.Ends[who].Put) != min(n+1, 60) || n == 60 && !wldSame(got, took) {
					t.Fatalf("%d were taken, and then %d: %+v", n, len(got.Ends[who].Put), got)
				}
			}
		}
	}
}

func TestWldStepSend(t *testing.T) {
	parts := cutByWords([]byte("hello"), 2)
	for who := range 2 {
		num := wldWith(impl.WldNew(numOpts()), func(w *impl.WldWorld) {
			w.Ends[who].Tx.Queue, w.Ends[who].Rx = parts, rxOf(13, impl.SegJoin{})
		})
		crd := wldWith(impl.WldNew(crdOpts()), func(w *impl.WldWorld) {
			w.Ends[who].Ctx = impl.CrdTx{Have: 2, Granted: 2, Queue: parts}
		})
		send := impl.EvEvent{Kind: impl.EvSend, Who: who}
		for n := range 30 {
			wantBehind(t, crowded(num, 1-who, n), send, func(w *impl.WldWorld) {
				tx := &w.Ends[who].Tx
				tx.Flight, tx.Queue, tx.Sent, tx.Next = parts[:1], parts[1:], 1, 1
				f := carries(0, parts[0])
				f.Ack = 5
				onWay(w, 1-who, f)
			})
			wantBehind(t, crowded(crd, 1-who, n), send, func(w *impl.WldWorld) {
				ctx := &w.Ends[who].Ctx
				ctx.Queue, ctx.Have, ctx.Sent = parts[1:], 1, 1
				onWay(w, 1-who, costs(parts[0]))
			})
		}
		// NetMax on their way to the other one keep it back; as many to itself do not.
		wantAsIs(t, crowded(num, 1-who, 30), send)
		wantAsIs(t, crowded(crd, 1-who, 30), send)
		for _, w := range []impl.WldWorld{crowded(num, who, 30), crowded(crd, who, 30)} {
			if got := wantStep(t, w, send); len(got.Net[1-who]) != 1 {
				t.Fatalf("WldStep(%+v, %+v) = %+v", w, send, got)
			}
		}
		wantAsIs(t, impl.WldNew(numOpts()), send)
		wantAsIs(t, impl.WldNew(crdOpts()), send)
		wantAsIs(t, wldWith(crd, func(w *impl.WldWorld) { w.Ends[who].Ctx.Have, w.Ends[who].Ctx.Granted = 0, 0 }), send)
		wantAsIs(t, wldWith(num, func(w *impl.WldWorld) { w.Ends[who].Tx.Held = true }), send)
		wantAsIs(t, wldWith(num, func(w *impl.WldWorld) { w.Ends[who].Tx.Dead = true }), send)
		wantAsIs(t, wldWith(crd, func(w *impl.WldWorld) { w.Ends[who].Ctx.Dead = true }), send)
	}
}

func TestWldStepGrant(t *testing.T) {
	for who := range 2 {
		grant := impl.EvEvent{Kind: impl.EvGrant, Who: who}
		for out := range 9 {
			w := wldWith(impl.WldNew(crdOpts()), func(w *impl.WldWorld) { w.Ends[who].Crx.Out = out })
			if out >= 6 {
				wantAsIs(t, w, grant)
				continue
			}
			for n := range 30 {
				wantBehind(t, crowded(w, 1-who, n), grant, func(w *impl.WldWorld) {
					w.Ends[who].Crx.Out = 6
					onWay(w, 1-who, impl.FrmFrame{Kind: impl.FrmGrant, Len: 6 - out})
				})
			}
			wantAsIs(t, crowded(w, 1-who, 30), grant)
			wantAsIs(t, wldWith(w, func(w *impl.WldWorld) { w.Ends[who].Crx.Dead = true }), grant)
			if got := wantStep(t, crowded(w, who, 30), grant); len(got.Net[1-who]) != 1 || got.Ends[who].Crx.Out != 6 {
				t.Fatalf("out %d, NetMax to who grants: %+v", out, got)
			}
		}
		wantAsIs(t, impl.WldNew(numOpts()), grant)
	}
}

func TestWldStepTick(t *testing.T) {
	for who := range 2 {
		tick := impl.EvEvent{Kind: impl.EvTick, Who: who}
		for _, busy := range []bool{false, true} {
			w := wldWith(impl.WldNew(numOpts()), func(w *impl.WldWorld) {
				e := &w.Ends[who]
				e.Tx, e.Rx = txOf(w.Cfg, 3, 2, 1), rxOf(6, impl.SegJoin{})
				e.Rx.Busy = busy
			})
			asks := poll(6, impl.SayGo)
			if busy {
				asks.Say = impl.SayWait
			}
			for _, n := range []int{0, 1, 28, 29} {
				wantBehind(t, crowded(w, 1-who, n), tick, func(w *impl.WldWorld) {
					w.Ends[who].Tx.Asks, w.Ends[who].Tx.Tries = true, 1
					onWay(w, 1-who, asks)
				})
			}
			// It has asked, though what it says finds no room.
			wantBehind(t, crowded(w, 1-who, 30), tick, func(w *impl.WldWorld) {
				w.Ends[who].Tx.Asks, w.Ends[who].Tx.Tries = true, 1
			})
			often := wldWith(w, func(w *impl.WldWorld) { w.Ends[who].Tx.Asks, w.Ends[who].Tx.Tries = true, 2 })
			ended := wantBehind(t, often, tick, func(w *impl.WldWorld) { w.Ends[who].Tx.Dead = true })
			wantAsIs(t, ended, tick)
		}
		wantAsIs(t, impl.WldNew(numOpts()), tick)
	}
}

func TestWldStepBusy(t *testing.T) {
	for who := range 2 {
		for _, was := range []bool{false, true} {
			w := wldWith(impl.WldNew(numOpts()), func(w *impl.WldWorld) {
				w.Ends[who].Rx = rxOf(6, impl.SegJoin{})
				w.Ends[who].Rx.Busy, w.Ends[who].Rx.Again = was, true
			})
			for _, v := range append(farNumbers(), 0, 1, 2, 3) {
				e := impl.EvEvent{Kind: impl.EvBusy, Who: who, V: v}
				ended := wldWith(w, func(w *impl.WldWorld) { w.Ends[who].Rx.Dead = true })
				wantAsIs(t, ended, e)
				if was == (v == 1) {
					wantAsIs(t, w, e)
					continue
				}
				what := impl.SayGo
				if v == 1 {
					what = impl.SayWait
				}
				for _, n := range []int{0, 29, 30} {
					wantBehind(t, crowded(w, 1-who, n), e, func(w *impl.WldWorld) {
						w.Ends[who].Rx.Busy, w.Ends[who].Rx.Again = v == 1, false
						if n < 30 {
							onWay(w, 1-who, say(6, what))
						}
					})
				}
			}
		}
	}
}

func TestWldStepAck(t *testing.T) {
	for who := range 2 {
		ack := impl.EvEvent{Kind: impl.EvAck, Who: who}
		for _, busy := range []bool{false, true} {
			w := wldWith(impl.WldNew(numOpts()), func(w *impl.WldWorld) {
				w.Ends[who].Rx = rxOf(7, impl.SegJoin{})
				w.Ends[who].Rx.Busy, w.Ends[who].Rx.Again = busy, true
			})
			said := say(7, impl.SayGo)
			if busy {
				said.Say = impl.SayWait
			}
			for _, n := range []int{0, 1, 28, 29} {
				wantBehind(t, crowded(w, 1-who, n), ack, func(w *impl.WldWorld) { onWay(w, 1-who, said) })
			}
			wantAsIs(t, crowded(w, 1-who, 30), ack)
			wantAsIs(t, wldWith(w, func(w *impl.WldWorld) { w.Ends[who].Rx.Dead = true }), ack)
			// Who sends is another one: at its end it does not keep who hears from saying how far all has come.
			still := wldWith(w, func(w *impl.WldWorld) {
				w.Ends[who].Tx.Dead, w.Ends[who].Ctx.Dead, w.Ends[who].Crx.Dead = true, true, true
			})
			wantBehind(t, still, ack, func(w *impl.WldWorld) { onWay(w, 1-who, said) })
		}
	}
}

func hears(who int) impl.EvEvent {
	return impl.EvEvent{Kind: impl.EvHear, Who: who}
}

// None on its way: nothing comes, is lost, or bent.
func TestWldStepOfNoneOnItsWay(t *testing.T) {
	for _, c := range wldOpts() {
		for who := range 2 {
			for _, w := range []impl.WldWorld{impl.WldNew(c), crowded(impl.WldNew(c), 1-who, 3)} {
				for _, kind := range []int{impl.EvHear, impl.EvLose} {
					wantAsIs(t, w, impl.EvEvent{Kind: kind, Who: who})
				}
				for _, at := range []int{-1, 0, 1} {
					wantAsIs(t, w, impl.EvEvent{Kind: impl.EvBend, Who: who, At: at, V: 1})
				}
			}
		}
	}
}

// hearing is two ends to one of which frames come: it has two pieces on their way, expects 6, and has a credit out, in either mode.
func hearing(c impl.CfgOpts, who int, frames ...impl.FrmFrame) impl.WldWorld {
	w := wldWith(impl.WldNew(c), func(w *impl.WldWorld) {
		e := &w.Ends[who]
		e.Tx, e.Rx = txOf(c, 3, 2, 1), rxOf(6, impl.SegJoin{Len: 4, Got: []byte("ab")})
		e.Ctx, e.Crx = crdTxOf(c, 9, 7, 3), impl.CrdRx{Out: 2, Join: impl.SegJoin{Len: 4, Got: []byte("ab")}}
		e.Put, e.Got = [][]byte{[]byte("what it took")}, [][]byte{[]byte("what came")}
	})
	return comes(w, who, frames...)
}

// gone is two ends behind the first frame on its way to one, if nothing else turns.
func gone(w *impl.WldWorld, who int) {
	w.Net[who] = w.Net[who][1:]
}

func TestWldStepHearByNumbers(t *testing.T) {
	c := numOpts()
	more, last := impl.SegPart{Seg: impl.SegMore, Data: []byte("c")}, impl.SegPart{Seg: impl.SegEnd, Data: []byte("cd")}
	for who := range 2 {
		// A piece that tells how far all has come: both who sends and who hears turn.
		f := carries(6, last)
		f.Ack = 4
		wantBehind(t, hearing(c, who, f, say(0, 0)), hears(who), func(w *impl.WldWorld) {
			gone(w, who)
			e := &w.Ends[who]
			e.Tx.Flight, e.Tx.Sent, e.Tx.Acked, e.Tx.Count = e.Tx.Flight[1:], 1, 4, 4
			e.Rx = rxOf(7, impl.SegJoin{})
			e.Got = append(e.Got, []byte("abcd"))
		})
		f = carries(6, more)
		f.Ack = 3
		wantBehind(t, hearing(c, who, f), hears(who), func(w *impl.WldWorld) {
			gone(w, who)
			w.Ends[who].Rx = rxOf(7, impl.SegJoin{Len: 4, Got: []byte("abc")})
		})
		// One is missing: that is said.
		f = carries(7, last)
		f.Ack = 3
		wantBehind(t, hearing(c, who, f), hears(who), func(w *impl.WldWorld) {
			gone(w, who)
			w.Ends[who].Rx.Again = true
			onWay(w, 1-who, say(6, impl.SayAgain))
		})
		// An answer is asked for, and what is said of waiting is heard.
		wantBehind(t, hearing(c, who, poll(5, impl.SayWait)), hears(who), func(w *impl.WldWorld) {
			gone(w, who)
			tx := &w.Ends[who].Tx
			tx.Flight, tx.Sent, tx.Acked, tx.Count, tx.Held = nil, 0, 5, 5, true
			onWay(w, 1-who, answer(6, impl.SayGo))
		})
		wantBehind(t, crowded(hearing(c, who, poll(3, impl.SayGo)), 1-who, 30), hears(who), func(w *impl.WldWorld) { gone(w, who) })
		wantBehind(t, hearing(c, who, say(3, impl.SayAgain)), hears(who), func(w *impl.WldWorld) {
			gone(w, who)
			w.Ends[who].Tx.Sent = 0
		})
		// More has come than was sent: who sends is at its end, who hears takes the piece.
		f = carries(6, last)
		f.Ack = 6
		wantBehind(t, hearing(c, who, f), hears(who), func(w *impl.WldWorld) {
			gone(w, who)
			e := &w.Ends[who]
			e.Tx.Dead, e.Rx, e.Got = true, rxOf(7, impl.SegJoin{}), append(e.Got, []byte("abcd"))
		})
		// Who hears is at its end: who sends goes on to hear how far all has come.
		ended := wldWith(hearing(c, who, f), func(w *impl.WldWorld) { w.Ends[who].Rx.Dead, w.Net[who][0].Bytes = true, bytesOf(say(5, impl.SayGo)) })
		wantBehind(t, ended, hears(who), func(w *impl.WldWorld) {
			gone(w, who)
			tx := &w.Ends[who].Tx
			tx.Flight, tx.Sent, tx.Acked, tx.Count = nil, 0, 5, 5
		})
		// What is for credits comes, and turns nothing.
		for _, f := range []impl.FrmFrame{costs(last), {Kind: impl.FrmGrant, Len: 1}, {Kind: impl.FrmGrant, Len: 255}} {
			wantBehind(t, hearing(c, who, f), hears(who), func(w *impl.WldWorld) { gone(w, who) })
		}
	}
}

func TestWldStepHearForCredits(t *testing.T) {
	c := crdOpts()
	more, last := impl.SegPart{Seg: impl.SegMore, Data: []byte("c")}, impl.SegPart{Seg: impl.SegEnd, Data: []byte("cd")}
	for who := range 2 {
		wantBehind(t, hearing(c, who, costs(last)), hears(who), func(w *impl.WldWorld) {
			gone(w, who)
			w.Ends[who].Crx = impl.CrdRx{Out: 1}
			w.Ends[who].Got = append(w.Ends[who].Got, []byte("abcd"))
		})
		wantBehind(t, hearing(c, who, costs(more)), hears(who), func(w *impl.WldWorld) {
			gone(w, who)
			w.Ends[who].Crx = impl.CrdRx{Out: 1, Join: impl.SegJoin{Len: 4, Got: []byte("abc")}}
		})
		for _, n := range []int{1, 6, 253} {
			wantBehind(t, hearing(c, who, impl.FrmFrame{Kind: impl.FrmGrant, Len: n}), hears(who), func(w *impl.WldWorld) {
				gone(w, who)
				w.Ends[who].Ctx.Have, w.Ends[who].Ctx.Granted = 2+n, 9+n
			})
		}
		wantBehind(t, hearing(c, who, impl.FrmFrame{Kind: impl.FrmGrant, Len: 254}), hears(who), func(w *impl.WldWorld) {
			gone(w, who)
			w.Ends[who].Ctx.Dead = true
		})
		none := wldWith(hearing(c, who, costs(last)), func(w *impl.WldWorld) { w.Ends[who].Crx.Out = 0 })
		wantBehind(t, none, hears(who), func(w *impl.WldWorld) {
			gone(w, who)
			w.Ends[who].Crx.Dead = true
		})
		// What is by numbers comes, and turns nothing.
		for _, f := range []impl.FrmFrame{carries(6, last), carries(7, last), say(4, impl.SayAgain), say(7, impl.SayWait), poll(3, 0), answer(3, 0)} {
			wantBehind(t, hearing(c, who, f), hears(who), func(w *impl.WldWorld) { gone(w, who) })
		}
	}
}

// Bytes that are no frame, and such as were bent, come and turn nothing; whether they are marked as Bent does not count.
func TestWldStepHearOfNoFrame(t *testing.T) {
	last := impl.SegPart{Seg: impl.SegEnd, Data: []byte("cd")}
	for _, c := range []impl.CfgOpts{numOpts(), crdOpts()} {
		f := bytesOf(carries(6, last))
		if c.Mode == impl.ModeCredit {
			f = bytesOf(costs(last))
		}
		for who := range 2 {
			lists := [][]byte{nil, {0}, {0, 0}, mixedBytes(1, 7), mixedBytes(2, 15), sameBytes(15, 0), f[:len(f)-1], append(bytes.Clone(f), 0)}
			for at := range f {
				lists = append(lists, turned(f, at, 1), turned(f, at, 128), turned(f, at, 255))
			}
			for _, list := range lists {
				for _, bent := range []bool{false, true} {
					w := wldWith(hearing(c, who), func(w *impl.WldWorld) { w.Net[who] = []impl.NetMsg{{Bent: bent, Bytes: list}, {Bytes: f}} })
					wantBehind(t, w, hears(who), func(w *impl.WldWorld) { gone(w, who) })
				}
			}
			marked := wldWith(hearing(c, who), func(w *impl.WldWorld) { w.Net[who] = []impl.NetMsg{{Bent: true, Bytes: f}} })
			if got := wantStep(t, marked, hears(who)); len(got.Ends[who].Got) != 2 {
				t.Fatalf("a frame that is whole, and marked as Bent, does not come: %+v", got)
			}
		}
	}
}

// Where GotMax messages came one more is taken, but not noted.
func TestWldStepHearWhereGotMaxCame(t *testing.T) {
	last := impl.SegPart{Seg: impl.SegEnd, Data: []byte("cd")}
	for _, c := range []impl.CfgOpts{numOpts(), crdOpts()} {
		f := carries(6, last)
		f.Ack = 3
		if c.Mode == impl.ModeCredit {
			f = costs(last)
		}
		for who := range 2 {
			for n := 58; n <= 60; n++ {
				w := wldWith(hearing(c, who, f), func(w *impl.WldWorld) { w.Ends[who].Got = make([][]byte, n) })
				wantBehind(t, w, hears(who), func(w *impl.WldWorld) {
					gone(w, who)
					e := &w.Ends[who]
					if c.Mode == impl.ModeNum {
						e.Rx = rxOf(7, impl.SegJoin{})
					} else {
						e.Crx = impl.CrdRx{Out: 1}
					}
					if n < 60 {
						e.Got = append(e.Got, []byte("abcd"))
					}
				})
			}
		}
	}
}

func TestWldStepLose(t *testing.T) {
	for _, c := range []impl.CfgOpts{numOpts(), crdOpts()} {
		for who := range 2 {
			w := crowded(hearing(c, who, poll(3, 0), carries(6, impl.SegPart{}), costs(impl.SegPart{})), 1-who, 2)
			for range 3 {
				w = wantBehind(t, w, impl.EvEvent{Kind: impl.EvLose, Who: who}, func(w *impl.WldWorld) { gone(w, who) })
			}
			wantAsIs(t, w, impl.EvEvent{Kind: impl.EvLose, Who: who})
		}
	}
}

// At at each byte, and beyond on either side; V at each that turns a byte, and beyond.
func TestWldStepBend(t *testing.T) {
	for _, c := range []impl.CfgOpts{numOpts(), crdOpts()} {
		for who := range 2 {
			f := impl.FrmFrame{Kind: impl.FrmPiece, Len: 2, Data: []byte("ab")}
			w := crowded(comes(impl.WldNew(c), who, f, f), 1-who, 2)
			size := len(bytesOf(f))
			for at := -2; at <= size+2; at++ {
				for _, v := range append(farNumbers(), 0, 1, 2, 128, 254, 255, 256, 257) {
					e := impl.EvEvent{Kind: impl.EvBend, Who: who, At: at, V: v}
					if at < 0 || at >= size || v < 1 || v > 255 {
						wantAsIs(t, w, e)
						continue
					}
					bent := wantBehind(t, w, e, func(w *impl.WldWorld) {
						w.Net[who][0].Bent = true
						w.Net[who][0].Bytes[at] ^= byte(v)
					})
					// One that was Bent is not bent back, nor on.
					wantAsIs(t, bent, e)
					wantAsIs(t, bent, impl.EvEvent{Kind: impl.EvBend, Who: who, At: 0, V: 255})
				}
			}
			for _, at := range farNumbers() {
				wantAsIs(t, w, impl.EvEvent{Kind: impl.EvBend, Who: who, At: at, V: 1})
			}
			empty := wldWith(w, func(w *impl.WldWorld) { w.Net[who][0].Bytes = nil })
			wantAsIs(t, empty, impl.EvEvent{Kind: impl.EvBend, Who: who, V: 1})
		}
	}
}

func TestWldStepMove(t *testing.T) {
	for _, c := range []impl.CfgOpts{numOpts(), crdOpts()} {
		for link := range 2 {
			for who := range 2 {
				w := crowded(hearing(c, who, poll(3, 0), carries(6, impl.SegPart{})), 1-who, 30)
				w.Link = link
				for by := range 2 {
					wantBehind(t, w, impl.EvEvent{Kind: impl.EvMove, Who: by}, func(w *impl.WldWorld) {
						w.Link = 1 - link
						w.Net = [][]impl.NetMsg{nil, nil}
					})
				}
			}
		}
	}
}

func TestWldStepInject(t *testing.T) {
	for _, c := range []impl.CfgOpts{numOpts(), crdOpts()} {
		for who := range 2 {
			for size := range 20 {
				for _, n := range []int{0, 1, 28, 29, 30} {
					w := crowded(crowded(impl.WldNew(c), who, n), 1-who, 30)
					e := impl.EvEvent{Kind: impl.EvInject, Who: who, Data: mixedBytes(uint32(size), size)}
					if size > 15 || n == 30 {
						wantAsIs(t, w, e)
						continue
					}
					wantBehind(t, w, e, func(w *impl.WldWorld) { w.Net[who] = append(w.Net[who], impl.NetMsg{Bytes: e.Data}) })
				}
			}
		}
	}
}

// Who sends, ok with more on its way than TxTop has room for, is told that all of it has come: it is not ok any more, and so nothing is left at the next step.
func TestWldBeyondTxTop(t *testing.T) {
	c := numOpts()
	for who := range 2 {
		w := wldWith(impl.WldNew(c), func(w *impl.WldWorld) { w.Ends[who].Tx = txOf(c, 9998, 3, 0) })
		w = comes(w, who, say(1, impl.SayGo), say(1, impl.SayGo))
		beyond := wantStep(t, w, hears(who))
		if beyond.Ends[who].Tx.Count != 10001 || impl.WldOk(beyond) {
			t.Fatalf("%+v", beyond)
		}
		for _, e := range []impl.EvEvent{hears(who), hears(1 - who), {Kind: 99}, {Who: 2}} {
			if !noWld(impl.WldStep(beyond, e)) || !noWld(impl.WldRun(w, []impl.EvEvent{hears(who), e})) {
				t.Fatalf("behind what is not ok any more %+v leaves something", e)
			}
		}
		if !noWld(impl.WldCalm(w, 1)) || !noWld(impl.WldCalm(w, 3)) {
			t.Fatal("a calm leaves something of what is not ok any more")
		}
		wantRun(t, w, []impl.EvEvent{hears(1 - who), hears(who)})
	}
}

// mixedEvent is something that may happen to two ends, mostly what turns something.
func mixedEvent(w impl.WldWorld, upTo func(n int) int) impl.EvEvent {
	e := impl.EvEvent{Kind: 1 + upTo(11), Who: upTo(2)}
	switch e.Kind {
	case impl.EvPut:
		e.Data = mixedBytes(uint32(upTo(1000)), upTo(w.Cfg.Mtu+2))
	case impl.EvBusy:
		e.V = upTo(3)
	case impl.EvBend:
		e.At, e.V = upTo(9), upTo(257)
	case impl.EvInject:
		e.Data = mixedBytes(uint32(upTo(1000)), upTo(17))
		if wldOkByWords(w) && upTo(4) > 0 {
			e.Data = bytesOf(mixedFrame(w.Cfg, w.Ends[e.Who], upTo))
		}
	}
	if upTo(30) == 0 {
		e.Who, e.Kind = upTo(4)-1, upTo(13)
	}
	return e
}

func mixedEvents(w impl.WldWorld, n int, upTo func(n int) int) []impl.EvEvent {
	var list []impl.EvEvent
	for range n {
		list = append(list, mixedEvent(w, upTo))
	}
	return list
}

func TestWldRunOfNone(t *testing.T) {
	for _, w := range someWorlds(40) {
		for _, events := range [][]impl.EvEvent{nil, {}, make([]impl.EvEvent, 0, 5)} {
			if got := impl.WldRun(w, events); !wldSame(got, w) {
				t.Fatalf("WldRun(%+v), of none, = %+v", w, got)
			}
		}
	}
}

// Of EvMaxRun, of one fewer, and of more.
func TestWldRunAtEvMaxRun(t *testing.T) {
	upTo := newUpTo(3)
	for _, w := range someWorlds(2) {
		for _, n := range []int{398, 399, 400} {
			wantRun(t, w, mixedEvents(w, n, upTo))
			if got := impl.WldRun(w, make([]impl.EvEvent, n)); !wldSame(got, w) {
				t.Fatalf("WldRun of %d times nothing = %+v", n, got)
			}
		}
		for _, n := range []int{401, 402, 800, 5000} {
			if !noWld(impl.WldRun(w, mixedEvents(w, n, upTo))) || !noWld(impl.WldRun(w, make([]impl.EvEvent, n))) {
				t.Fatalf("WldRun(%+v), of %d, is something", w, n)
			}
		}
	}
}

func TestWldRunOfEachWorld(t *testing.T) {
	upTo := newUpTo(4)
	for _, w := range someWorlds(60) {
		wantRun(t, w, mixedEvents(w, 1+upTo(40), upTo))
	}
}

func TestWldCalmRounds(t *testing.T) {
	for i, w := range someWorlds(40) {
		for _, n := range append(farNumbers(), 0) {
			if got := impl.WldCalm(w, n); n < 1 && !wldSame(got, w) {
				t.Fatalf("WldCalm(%+v, %d) = %+v", w, n, got)
			}
		}
		for _, n := range []int{101, 102, 200, 1000, math.MaxInt} {
			if got := impl.WldCalm(w, n); !noWld(got) {
				t.Fatalf("WldCalm(%+v, %d) = %+v", w, n, got)
			}
		}
		wantCalmed(t, w, 1)
		wantCalmed(t, w, 2)
		if i%40 == 0 {
			wantCalmed(t, w, 99)
			wantCalmed(t, w, 100)
		}
	}
}

// All that is on its way at the beginning is heard ahead of the first round, and what is said to it, too.
func TestWldCalmHearsAllFirst(t *testing.T) {
	c := numOpts()
	for who := range 2 {
		// Who sends has asked as often as it may, and the answer is on its way: it is heard ahead of EvTick.
		w := wldWith(impl.WldNew(c), func(w *impl.WldWorld) {
			w.Ends[who].Tx = txOf(c, 0, 1, 0)
			w.Ends[who].Tx.Flight[0] = impl.SegPart{Len: 2, Data: []byte("ab")}
			w.Ends[who].Tx.Asks, w.Ends[who].Tx.Tries = true, 2
		})
		for _, answered := range []impl.WldWorld{comes(w, who, answer(0, impl.SayGo)), comes(w, 1-who, poll(0, impl.SayGo))} {
			got := wantCalmed(t, answered, 1)
			if impl.WldDead(got) || len(got.Ends[1-who].Got) != 1 || got.Ends[who].Tx.Count != 1 {
				t.Fatalf("who was answered: %+v", got)
			}
		}
		if got := wantCalmed(t, w, 1); !got.Ends[who].Tx.Dead || len(got.Ends[1-who].Got) != 0 {
			t.Fatalf("who was not answered: %+v", got)
		}
	}
	// What is said to what is heard is heard the second time; what is said to that is not heard ahead of the first round: two that each ask.
	both := comes(comes(impl.WldNew(c), 0, poll(0, 0)), 1, poll(0, 0))
	if got := wantCalmed(t, both, 1); len(got.Net[0]) != 0 || len(got.Net[1]) != 0 {
		t.Fatalf("%+v", got)
	}
}

// A round in either mode: nobody is busy any more, credits are granted, as many pieces come as may be on their way.
func TestWldCalmOfOneRound(t *testing.T) {
	for _, c := range []impl.CfgOpts{numOpts(), crdOpts()} {
		w := impl.WldNew(c)
		for who := range 2 {
			w = impl.WldRun(w, []impl.EvEvent{
				{Kind: impl.EvPut, Who: who, Data: mixedBytes(uint32(who), 20)}, {Kind: impl.EvPut, Who: who, Data: []byte("a")},
				{Kind: impl.EvBusy, Who: who, V: 1},
			})
		}
		got := wantCalmed(t, w, 1)
		for who, e := range got.Ends {
			num, crd := 3, 0
			if c.Mode == impl.ModeCredit {
				num, crd = 0, 6
			}
			if e.Rx.Busy || len(e.Got) != 0 || e.Rx.Count != num || e.Tx.Count != num || e.Ctx.Sent != crd || e.Ctx.Granted != crd || e.Crx.Out != 0 {
				t.Fatalf("end %d behind a round: %+v", who, e)
			}
		}
		if got := wantCalmed(t, w, 4); len(got.Ends[0].Got) != 2 || len(got.Ends[1].Got) != 2 {
			t.Fatalf("%+v behind four rounds: %+v", c, got)
		}
		for who := range 2 {
			ended := wldWith(w, func(w *impl.WldWorld) { w.Ends[who].Tx.Dead, w.Ends[who].Ctx.Dead = true, true })
			if got := wantCalmed(t, ended, 4); len(got.Ends[1-who].Got) != 0 || len(got.Ends[who].Got) != 2 {
				t.Fatalf("%+v, end %d sends nothing any more: %+v", c, who, got)
			}
			ended = wldWith(w, func(w *impl.WldWorld) { w.Ends[who].Rx.Dead, w.Ends[who].Crx.Dead = true, true })
			if got := wantCalmed(t, ended, 4); len(got.Ends[who].Got) != 0 || len(got.Ends[1-who].Got) != 2 {
				t.Fatalf("%+v, end %d hears nothing any more: %+v", c, who, got)
			}
		}
	}
}

// The example at the end of the document, step by step.
func TestWldInTheExample(t *testing.T) {
	c, _ := impl.CfgMeet(impl.CfgOpts{Mode: 1, Win: 4, Mps: 2, Mtu: 20, Try: 3}, impl.CfgOpts{Mode: 1, Win: 3, Mps: 5, Mtu: 24, Try: 2})
	ev := func(kind int, who int) impl.EvEvent { return impl.EvEvent{Kind: kind, Who: who} }
	first := []impl.EvEvent{
		{Kind: impl.EvPut, Data: []byte("hello")}, ev(impl.EvSend, 0), ev(impl.EvSend, 0), ev(impl.EvSend, 0), ev(impl.EvLose, 1), hears(1), hears(1), hears(0), ev(impl.EvSend, 0),
		{Kind: impl.EvBend, Who: 1, At: 6, V: 1}, hears(1), ev(impl.EvMove, 0),
	}
	w := wantRun(t, impl.WldNew(c), first)
	if w.Link != 1 || len(w.Ends[1].Got) != 0 || !w.Ends[1].Rx.Again || impl.TxLeft(w.Ends[0].Tx) != 3 || len(w.Net[0])+len(w.Net[1]) != 0 {
		t.Fatalf("behind the move: %+v", w)
	}
	rest := []impl.EvEvent{
		ev(impl.EvTick, 0), hears(1), hears(0), ev(impl.EvSend, 0), ev(impl.EvSend, 0), ev(impl.EvSend, 0), hears(1), hears(1), hears(1), ev(impl.EvAck, 1), hears(0),
	}
	w = wantRun(t, w, rest)
	if w.Link != 1 || !messagesSame(w.Ends[1].Got, [][]byte{[]byte("hello")}) || len(w.Ends[0].Got) != 0 || impl.TxLeft(w.Ends[0].Tx) != 0 || impl.WldDead(w) {
		t.Fatalf("at the end: %+v", w)
	}
	if len(w.Ends[0].Put) != 1 || len(w.Ends[1].Put) != 0 || len(w.Net[0])+len(w.Net[1]) != 0 {
		t.Fatalf("at the end: %+v", w)
	}
}

// worldSpans is all memory that two ends reach, spare room included.
func worldSpans(w impl.WldWorld) []span {
	list := []span{spanOf(w.Ends), spanOf(w.Net)}
	for _, e := range w.Ends[:cap(w.Ends)] {
		list = append(list, spansOf(e.Tx)...)
		list = append(list, crdTxSpans(e.Ctx)...)
		list = append(list, rxSpansOf(e.Rx, e.Put, nil)...)
		list = append(list, crdRxSpans(e.Crx, e.Got)...)
	}
	for _, net := range w.Net[:cap(w.Net)] {
		list = append(list, spanOf(net))
		for _, m := range net[:cap(net)] {
			list = append(list, spanOf(m.Bytes))
		}
	}
	return list
}

// memory is lists that each lie in room of their own: how all of it is now, where it lies, and what turns all of it.
type memory struct {
	shows []func() string
	turns []func()
	spans []span
}

// layOut is a list with room ahead of it and behind its end, in which something else lies.
func layOut[T any](m *memory, list []T, filler T) []T {
	all := slices.Concat([]T{filler, filler}, list, []T{filler, filler, filler})
	m.shows = append(m.shows, func() string { return fmt.Sprint(all) })
	m.turns = append(m.turns, func() {
		for i := range all {
			all[i] = filler
		}
	})
	m.spans = append(m.spans, spanOf(all))
	return all[2 : 2+len(list)]
}

func (m *memory) bytes(list []byte) []byte {
	return layOut(m, list, 0xA5)
}

func (m *memory) messages(list [][]byte) [][]byte {
	list = slices.Clone(list)
	for i := range list {
		list[i] = m.bytes(list[i])
	}
	return layOut(m, list, []byte{72})
}

func (m *memory) parts(list []impl.SegPart) []impl.SegPart {
	list = slices.Clone(list)
	for i := range list {
		list[i].Data = m.bytes(list[i].Data)
	}
	return layOut(m, list, impl.SegPart{Seg: 70, Len: 71, Data: []byte{72}})
}

func (m *memory) events(list []impl.EvEvent) []impl.EvEvent {
	list = slices.Clone(list)
	for i := range list {
		list[i].Data = m.bytes(list[i].Data)
	}
	return layOut(m, list, impl.EvEvent{Kind: impl.EvMove, Data: []byte{73}})
}

func (m *memory) world(w impl.WldWorld) impl.WldWorld {
	ends, nets := slices.Clone(w.Ends), slices.Clone(w.Net)
	for i := range ends {
		e := &ends[i]
		e.Tx.Flight, e.Tx.Queue, e.Ctx.Queue = m.parts(e.Tx.Flight), m.parts(e.Tx.Queue), m.parts(e.Ctx.Queue)
		e.Rx.Join.Got, e.Crx.Join.Got = m.bytes(e.Rx.Join.Got), m.bytes(e.Crx.Join.Got)
		e.Put, e.Got = m.messages(e.Put), m.messages(e.Got)
	}
	for i, net := range nets {
		net = slices.Clone(net)
		for k := range net {
			net[k].Bytes = m.bytes(net[k].Bytes)
		}
		nets[i] = layOut(m, net, impl.NetMsg{Bytes: []byte{74}})
	}
	w.Ends, w.Net = layOut(m, ends, impl.WldEnd{Put: [][]byte{{75}}}), layOut(m, nets, []impl.NetMsg{{Bent: true}})
	return w
}

func (m *memory) show() string {
	text := ""
	for _, show := range m.shows {
		text += show()
	}
	return text
}

// wantOwn is an answer of two ends that lie in room: nothing is written there, the answer shares none of it, no two of its lists share any, and it does not turn with it.
func wantOwn(t *testing.T, what string, m *memory, call func() impl.WldWorld, want impl.WldWorld) {
	t.Helper()
	before := m.show()
	got := call()
	if m.show() != before {
		t.Fatalf("%s: something was written into an argument, or behind its end", what)
	}
	wantApart(t, what, slices.Concat(m.spans, worldSpans(got)))
	for _, turn := range m.turns {
		turn()
	}
	if !wldSame(got, want) {
		t.Fatalf("%s turns with what was handed in: %+v, want %+v", what, got, want)
	}
}

// eachSharing is things that happen, one of each Kind and Who at least, with something to share.
func eachSharing(w impl.WldWorld, upTo func(n int) int) []impl.EvEvent {
	var list []impl.EvEvent
	for who := range 2 {
		for kind := 1; kind <= 11; kind++ {
			e := impl.EvEvent{Kind: kind, Who: who, At: 1, V: 1, Data: mixedBytes(uint32(kind), upTo(min(w.Cfg.Mtu, 15)+1))}
			list = append(list, e)
		}
	}
	return append(list, impl.EvEvent{Kind: impl.EvInject, Data: mixedBytes(1, 16)}, impl.EvEvent{Kind: 12}, impl.EvEvent{Kind: impl.EvHear, Who: 2})
}

func TestWldSharesNothing(t *testing.T) {
	upTo := newUpTo(21)
	for i, w := range someWorlds(6) {
		for k, e := range eachSharing(w, upTo) {
			if (i+k)%2 == 0 {
				continue
			}
			m := &memory{}
			in, events := m.world(w), m.events([]impl.EvEvent{e})
			wantOwn(t, "WldStep", m, func() impl.WldWorld { return impl.WldStep(in, events[0]) }, wldStepByWords(w, e))
		}
		for _, n := range []int{0, 1, 60} {
			m, list := &memory{}, mixedEvents(w, n, upTo)
			in, events := m.world(w), m.events(list)
			wantOwn(t, "WldRun", m, func() impl.WldWorld { return impl.WldRun(in, events) }, wldRunByWords(w, list))
		}
		for _, n := range []int{-1, 0, 1, 3, 101} {
			m := &memory{}
			in := m.world(w)
			wantOwn(t, "WldCalm", m, func() impl.WldWorld { return impl.WldCalm(in, n) }, wldCalmByWords(w, n))
		}
		m := &memory{}
		in := m.world(w)
		before := m.show()
		if !impl.WldOk(in) || impl.WldDead(in) != impl.WldDead(w) || m.show() != before {
			t.Fatalf("WldOk or WldDead of %+v, in room", w)
		}
	}
}

// What is not ok is not written into either, however many rounds.
func TestWldCalmOfWhatIsNotOkTurnsNothing(t *testing.T) {
	for _, w := range badWorlds() {
		for _, n := range []int{-1, 0, 1} {
			m := &memory{}
			in := m.world(w)
			wantOwn(t, "WldCalm", m, func() impl.WldWorld { return impl.WldCalm(in, n) }, impl.WldWorld{})
		}
	}
}

func TestWldNewSharesNothing(t *testing.T) {
	for _, c := range wldOpts() {
		a, b := impl.WldNew(c), impl.WldNew(c)
		wantApart(t, "WldNew", slices.Concat(worldSpans(a), worldSpans(b)))
		a.Ends[0].Put = [][]byte{{1}}
		a.Net[1] = []impl.NetMsg{{Bent: true}}
		if !wldSame(b, impl.WldNew(c)) || len(impl.WldNew(c).Net[1]) != 0 {
			t.Fatalf("WldNew(%+v) turns with another one", c)
		}
	}
}

// Two answers of the same world share nothing, nor do answers of an answer.
func TestWldAnswersAreApart(t *testing.T) {
	upTo := newUpTo(22)
	for _, w := range someWorlds(6) {
		// Pieces on their way, and such as wait, lie side by side there.
		w = deepWorld(w)
		for _, e := range eachSharing(w, upTo) {
			a, b := impl.WldStep(w, e), impl.WldStep(w, e)
			c := impl.WldStep(a, e)
			wantApart(t, "three answers", slices.Concat(worldSpans(w), worldSpans(a), worldSpans(b), worldSpans(c), []span{spanOf(e.Data)}))
		}
	}
}

// Where one list is handed in many times, all answers are as of many.
func TestWldOfOneListTwice(t *testing.T) {
	list := []byte("abcd")
	for _, c := range []impl.CfgOpts{{Mode: 1, Win: 4, Mps: 8, Mtu: 24, Try: 5}, {Mode: 2, Win: 4, Mps: 8, Mtu: 24, Try: 5}} {
		parts := slices.Repeat([]impl.SegPart{{Len: 4, Data: list}}, 3)
		messages := [][]byte{list, list}
		join := impl.SegJoin{Len: 8, Got: list}
		e := impl.WldEnd{
			Tx: impl.TxState{Next: 3, Flight: parts, Sent: 2, Queue: parts}, Rx: impl.RxState{Join: join},
			Ctx: impl.CrdTx{Have: 3, Granted: 3, Queue: parts}, Crx: impl.CrdRx{Out: 3, Join: join},
			Put: messages, Got: messages,
		}
		f := carries(0, impl.SegPart{Seg: impl.SegEnd, Data: list})
		if c.Mode == impl.ModeCredit {
			f = costs(impl.SegPart{Seg: impl.SegEnd, Data: list})
		}
		net := slices.Repeat([]impl.NetMsg{{Bytes: bytesOf(f)}}, 3)
		w := impl.WldWorld{Cfg: c, Ends: []impl.WldEnd{e, e}, Net: [][]impl.NetMsg{net, net}}
		before := deepWorld(w)
		for _, kind := range []int{1, 2, 3, 4, 5, 6, 7, 8, 9, 10, 11, 12} {
			got := wantStep(t, w, impl.EvEvent{Kind: kind, At: 1, V: 1, Data: list})
			wantApart(t, "WldStep", append(worldSpans(got), spanOf(list), spanOf(parts), spanOf(messages), spanOf(net)))
		}
		wantApart(t, "WldRun", append(worldSpans(wantRun(t, w, []impl.EvEvent{hears(0), hears(1), hears(0)})), spanOf(list)))
		wantApart(t, "WldCalm", append(worldSpans(wantCalmed(t, w, 2)), spanOf(list)))
		wantApart(t, "WldCalm of none", append(worldSpans(wantCalmed(t, w, 0)), spanOf(list)))
		if !wldSame(w, before) {
			t.Errorf("what was handed in was turned: %+v", w)
		}
	}
}

func TestWldKeepsNothingBetweenCalls(t *testing.T) {
	upTo := newUpTo(23)
	worlds, bad := someWorlds(30), badWorlds()
	for i := range 3000 {
		other := worlds[upTo(len(worlds))]
		impl.WldStep(other, mixedEvent(other, upTo))
		impl.WldStep(bad[i%len(bad)], impl.EvEvent{Kind: 1 + i%11})
		impl.WldRun(other, mixedEvents(other, 5, upTo))
		impl.WldCalm(bad[i*7%len(bad)], 1)
		w := worlds[i%len(worlds)]
		wantStep(t, w, mixedEvent(w, upTo))
		if i%10 == 0 {
			wantRun(t, w, mixedEvents(w, 10, upTo))
			wantCalmed(t, w, 1)
		}
	}
}
