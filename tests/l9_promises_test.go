package tests

import (
	"bytes"
	"slices"
	"testing"

	"loop.example/linkboy/impl"
)

// What may happen: on a link that keeps all; on one that loses, bends and moves; and with bytes put in from elsewhere.
func keepingKinds() []int {
	return []int{impl.EvPut, impl.EvSend, impl.EvTick, impl.EvBusy, impl.EvAck, impl.EvGrant, impl.EvHear}
}

func losingKinds() []int {
	return append(keepingKinds(), impl.EvLose, impl.EvBend, impl.EvMove)
}

func anyKinds() []int {
	return append(losingKinds(), impl.EvInject)
}

// wayLong is how many things happen on a way: enough for numbers to come round.
const wayLong = 250

// turn is a thing that happens on a way from WldNew on: two ends ahead of it, and behind it.
type turn struct {
	before impl.WldWorld
	event  impl.EvEvent
	after  impl.WldWorld
}

// way is one of many ways from WldNew on: what both use, and how often each Kind happens, are each way's own.
type way struct {
	upTo    func(n int) int
	weights map[int]int
	kinds   []int
	all     int
	world   impl.WldWorld
}

func newWay(seed uint32, mode int, kinds []int) *way {
	upTo := newUpTo(seed)
	k := &way{upTo: upTo, weights: map[int]int{}, kinds: kinds}
	most := map[int]int{
		impl.EvPut: 12, impl.EvSend: 30, impl.EvTick: 8, impl.EvBusy: 4, impl.EvAck: 10, impl.EvGrant: 10, impl.EvHear: 40,
		impl.EvLose: 8, impl.EvBend: 8, impl.EvMove: 2, impl.EvInject: 10,
	}
	for _, kind := range kinds {
		// Often a Kind happens seldom, or not at all; some happen for sure.
		k.weights[kind] = upTo(most[kind]/oneOf(upTo, 1, 2, 8) + 1)
		if kind == impl.EvPut || kind == impl.EvSend || kind == impl.EvHear {
			k.weights[kind]++
		}
		k.all += k.weights[kind]
	}
	c := impl.CfgOpts{Mode: mode, Win: 1 + upTo(4), Mps: 1 + upTo(8), Mtu: 1 + upTo(24), Try: 1 + upTo(5)}
	k.world = impl.WldNew(c)
	return k
}

// kind is one of those that may happen, each as often as the way has it.
func (k *way) kind() int {
	at := k.upTo(k.all)
	for _, kind := range k.kinds {
		if at < k.weights[kind] {
			return kind
		}
		at -= k.weights[kind]
	}
	return 0
}

// event is what happens next.
func (k *way) event() impl.EvEvent {
	e := impl.EvEvent{Kind: k.kind(), Who: k.upTo(2)}
	switch e.Kind {
	case impl.EvPut:
		e.Data = mixedBytes(uint32(k.upTo(100000)), k.upTo(oneOf(k.upTo, 4, k.world.Cfg.Mtu+2)))
	case impl.EvBusy:
		e.V = k.upTo(3)
	case impl.EvBend:
		e.At, e.V = k.upTo(9), 1+k.upTo(255)
	case impl.EvInject:
		e.Data = k.injected(e.Who)
	}
	return e
}

// injected is bytes from elsewhere: what one might hear, what is on its way to either, once more, or no frame.
func (k *way) injected(who int) []byte {
	switch net := k.world.Net[k.upTo(2)]; k.upTo(6) {
	case 0:
		return mixedBytes(uint32(k.upTo(1000)), k.upTo(17))
	case 1:
		return putByWords(mixedBytes(uint32(k.upTo(1000)), k.upTo(14)))
	case 2:
		if len(net) > 0 {
			return bytes.Clone(net[k.upTo(len(net))].Bytes)
		}
	}
	return bytesOf(mixedFrame(k.world.Cfg, k.world.Ends[who], k.upTo))
}

// step lets one thing more happen.
func (k *way) step() turn {
	e := k.event()
	is := turn{before: k.world, event: e, after: impl.WldStep(k.world, e)}
	k.world = is.after
	return is
}

// eachWay is many ways, so many steps each, of which each step is looked at.
func eachWay(mode int, kinds []int, ways int, look func(seed int, is turn)) {
	for seed := range ways {
		k := newWay(uint32(seed), mode, kinds)
		for range wayLong {
			look(seed, k.step())
		}
	}
}

// eachEnd is where many ways, of some or many steps, end.
func eachEnd(mode int, kinds []int, ways int, look func(k *way)) {
	for seed := range ways {
		k := newWay(uint32(seed), mode, kinds)
		for range 20 + k.upTo(wayLong) {
			k.step()
		}
		look(k)
	}
}

func modes() []int {
	return []int{impl.ModeNum, impl.ModeCredit}
}

// isBeginning says whether messages are the first ones of others.
func isBeginning(list [][]byte, of [][]byte) bool {
	return len(list) <= len(of) && messagesSame(list, of[:len(list)])
}

// whole frames on their way to one, that were not bent.
func framesTo(t *testing.T, w impl.WldWorld, who int) []impl.FrmFrame {
	t.Helper()
	var list []impl.FrmFrame
	for _, m := range w.Net[who] {
		if m.Bent {
			continue
		}
		f, ok := readByWords(m.Bytes)
		if !ok {
			t.Fatalf("%v is on its way to %d, and no frame", m.Bytes, who)
		}
		list = append(list, f)
	}
	return list
}

// newTo is the frames that a step has let be on their way to one.
func newTo(is turn, who int) []impl.FrmFrame {
	var list []impl.FrmFrame
	if is.event.Kind == impl.EvMove || is.event.Kind == impl.EvInject {
		return nil
	}
	from := len(is.before.Net[who])
	if gone := is.event.Kind == impl.EvHear || is.event.Kind == impl.EvLose; gone && is.event.Who == who {
		from = max(0, from-1)
	}
	for _, m := range is.after.Net[who][from:] {
		f, _ := readByWords(m.Bytes)
		list = append(list, f)
	}
	return list
}

// heardIn is the frame that comes to one in a step, if one does.
func heardIn(is turn, who int) (impl.FrmFrame, bool) {
	if is.event.Kind != impl.EvHear || is.event.Who != who || len(is.before.Net[who]) == 0 {
		return impl.FrmFrame{}, false
	}
	return readByWords(is.before.Net[who][0].Bytes)
}

// Promise 5: at each step what has come to each is a beginning of what the other one took.
func TestPromise5WhatComesIsWhatWasTaken(t *testing.T) {
	came, rounds, moved := 0, 0, 0
	eachWay(impl.ModeNum, losingKinds(), 600, func(seed int, is turn) {
		for who, e := range is.after.Ends {
			if !isBeginning(e.Got, is.after.Ends[1-who].Put) {
				t.Fatalf("way %d: to %d there came %v, of %v", seed, who, e.Got, is.after.Ends[1-who].Put)
			}
			if len(e.Got) > len(is.before.Ends[who].Got) {
				came++
				if e.Rx.Count > 8 {
					rounds++
				}
				if is.after.Link == 1 {
					moved++
				}
			}
		}
	})
	if came < 100 || rounds == 0 || moved == 0 {
		t.Fatalf("%d came, %d of them once numbers came round, %d on the other link", came, rounds, moved)
	}
}

// Promise 5, by hand: numbers come round six times, with a loss, a bend and a move in each round.
func TestPromise5RoundAndRound(t *testing.T) {
	for win := 1; win <= 4; win++ {
		c := impl.CfgOpts{Mode: impl.ModeNum, Win: win, Mps: 1, Mtu: 3, Try: 5}
		w := impl.WldNew(c)
		var sdus [][]byte
		for n := range 18 {
			sdus = append(sdus, []byte{byte(n), byte(n), byte(n + 1)})
			w = impl.WldStep(w, impl.EvEvent{Kind: impl.EvPut, Data: sdus[n]})
			for _, harm := range []impl.EvEvent{{Kind: impl.EvLose, Who: 1}, {Kind: impl.EvBend, Who: 1, At: n % 8, V: 1 + n}, {Kind: impl.EvMove}} {
				sends := slices.Repeat([]impl.EvEvent{{Kind: impl.EvSend}}, win)
				w = impl.WldRun(w, append(sends, harm))
				w = impl.WldRun(w, slices.Repeat([]impl.EvEvent{hears(1), hears(0)}, win))
				w = impl.WldRun(w, []impl.EvEvent{{Kind: impl.EvTick}, hears(1), hears(0)})
				if !isBeginning(w.Ends[1].Got, sdus) {
					t.Fatalf("Win %d, message %d, behind %+v: %v", win, n, harm, w.Ends[1].Got)
				}
			}
			w = impl.WldCalm(w, 4)
		}
		if !messagesSame(w.Ends[1].Got, sdus) || w.Ends[1].Rx.Count != 54 || impl.WldDead(w) {
			t.Fatalf("Win %d: %+v", win, w)
		}
	}
}

// wantAllCome is two ends by numbers, behind a calm: all that each took has come to the other one, and nothing is left.
func wantAllCome(t *testing.T, w impl.WldWorld) {
	t.Helper()
	for who, e := range w.Ends {
		if !messagesSame(e.Got, w.Ends[1-who].Put) || impl.TxLeft(e.Tx) != 0 || len(e.Ctx.Queue) != 0 {
			t.Fatalf("%+v: to %d there came %v, of %v; %d are left", w.Cfg, who, e.Got, w.Ends[1-who].Put, impl.TxLeft(e.Tx)+len(e.Ctx.Queue))
		}
	}
}

// Promise 6: in 40 calm rounds all that each took has come to the other one, and nothing is left, unless one of both is at its end.
func TestPromise6InACalmAllComes(t *testing.T) {
	alive, late, ended := 0, 0, 0
	eachEnd(impl.ModeNum, losingKinds(), 500, func(k *way) {
		w := impl.WldCalm(k.world, 40)
		if impl.WldDead(w) {
			ended++
			return
		}
		wantAllCome(t, w)
		alive++
		if !messagesSame(k.world.Ends[0].Put, k.world.Ends[1].Got) {
			late++
		}
	})
	t.Log(alive, late, ended)
	if alive == 0 || late == 0 || ended == 0 {
		t.Fatalf("%d were not at their end, %d of them had something to come, %d were", alive, late, ended)
	}
}

// Promise 6 where most is left: as many pieces wait, and are on their way, as may, for each Win, all on its way lost.
func TestPromise6OfAllThatMayWait(t *testing.T) {
	for win := 1; win <= 4; win++ {
		w := impl.WldNew(impl.CfgOpts{Mode: impl.ModeNum, Win: win, Mps: 1, Mtu: 1, Try: 1})
		for who := range 2 {
			for n := range 24 + win {
				w = impl.WldRun(w, []impl.EvEvent{{Kind: impl.EvPut, Who: who, Data: []byte{byte(n)}}, {Kind: impl.EvSend, Who: who}})
			}
		}
		w = impl.WldStep(w, impl.EvEvent{Kind: impl.EvMove})
		if len(w.Ends[0].Tx.Flight) != win || len(w.Ends[1].Tx.Queue) != 24 {
			t.Fatalf("Win %d: %+v", win, w)
		}
		w = impl.WldCalm(w, 40)
		if wantAllCome(t, w); impl.WldDead(w) || len(w.Ends[0].Got) != 24+win {
			t.Fatalf("Win %d: %+v", win, w)
		}
	}
}

// Promise 7: who sends has counted no more pieces that have come than who hears has, and that no more than were sent; so each piece that comes, with the number that comes next, is the one that comes next.
func TestPromise7NumbersThatComeRound(t *testing.T) {
	behind, rounds, taken := 0, 0, 0
	eachWay(impl.ModeNum, losingKinds(), 600, func(seed int, is turn) {
		for who, e := range is.after.Ends {
			tx, count := is.after.Ends[1-who].Tx, e.Rx.Count
			if tx.Count > count || count > tx.Count+len(tx.Flight) {
				t.Fatalf("way %d: %d has counted %d, who sends %+v", seed, who, count, tx)
			}
			if tx.Count < count {
				behind++
			}
			if f, ok := heardIn(is, who); ok && f.Kind == impl.FrmData && count > is.before.Ends[who].Rx.Count {
				taken++
				if count > 8 {
					rounds++
				}
				was := is.before.Ends[1-who].Tx
				p := was.Flight[is.before.Ends[who].Rx.Count-was.Count]
				if !partSame(p, impl.SegPart{Seg: f.Seg, Len: f.Len, Data: f.Data}) {
					t.Fatalf("way %d: %d takes %+v, and %+v comes next", seed, who, f, p)
				}
			}
		}
	})
	t.Log(behind, rounds, taken)
	if behind == 0 || rounds == 0 || taken == 0 {
		t.Fatalf("%d times who sends had counted fewer, %d were taken, %d of them once numbers came round", behind, taken, rounds)
	}
}

// Promise 8: for credits, on a link that keeps all, at each step what has come to each is a beginning of what the other one took; and neither is at its end.
func TestPromise8ForCreditsWhatComesIsWhatWasTaken(t *testing.T) {
	came := 0
	eachWay(impl.ModeCredit, keepingKinds(), 600, func(seed int, is turn) {
		for who, e := range is.after.Ends {
			if !isBeginning(e.Got, is.after.Ends[1-who].Put) {
				t.Fatalf("way %d: to %d there came %v, of %v", seed, who, e.Got, is.after.Ends[1-who].Put)
			}
			came += len(e.Got) - len(is.before.Ends[who].Got)
		}
		if impl.WldDead(is.after) {
			t.Fatalf("way %d: at its end: %+v", seed, is.after)
		}
	})
	if came == 0 {
		t.Fatal("nothing came")
	}
}

// Promise 9: for credits, on a link that keeps all, in 20 calm rounds all that each took has come to the other one, and nothing waits.
func TestPromise9ForCreditsAllComesInACalm(t *testing.T) {
	late := 0
	eachEnd(impl.ModeCredit, keepingKinds(), 500, func(k *way) {
		if !messagesSame(k.world.Ends[0].Put, k.world.Ends[1].Got) {
			late++
		}
		wantAllCome(t, impl.WldCalm(k.world, 20))
	})
	if late == 0 {
		t.Fatal("nothing had to come")
	}
}

// Promise 10: no more pieces were sent for credits than were granted; who sends never has more than CrdTop, and who grants has no more out than CrdMax, whatever is put in.
func TestPromise10NobodySendsWithoutCredit(t *testing.T) {
	for _, mode := range modes() {
		var sent, granted [2]int
		last, pieces, top := -1, 0, 0
		eachWay(mode, anyKinds(), 600, func(seed int, is turn) {
			if seed != last {
				last, sent, granted = seed, [2]int{}, [2]int{}
			}
			for who, e := range is.after.Ends {
				if f, ok := heardIn(is, who); ok && f.Kind == impl.FrmGrant {
					granted[who] += f.Len
				}
				for _, f := range newTo(is, 1-who) {
					if f.Kind == impl.FrmPiece {
						sent[who]++
						pieces++
					}
				}
				if sent[who] > granted[who] || e.Ctx.Sent != sent[who] || e.Ctx.Sent > e.Ctx.Granted || e.Ctx.Granted > granted[who] {
					t.Fatalf("way %d: %d has sent %d, and was granted %d: %+v", seed, who, sent[who], granted[who], e.Ctx)
				}
				if e.Ctx.Have < 0 || e.Ctx.Have > 255 || e.Crx.Out < 0 || e.Crx.Out > 6 {
					t.Fatalf("way %d: %d has %+v, %+v", seed, who, e.Ctx, e.Crx)
				}
				top = max(top, e.Ctx.Have)
			}
		})
		if mode == impl.ModeCredit && (pieces == 0 || top < 200) || mode == impl.ModeNum && pieces > 0 {
			t.Fatalf("mode %d: %d pieces were sent for credits, %d is the most that one had", mode, pieces, top)
		}
	}
}

// Promise 45: by numbers who hears is never at its end; and who sends comes to its end just where it would ask, and has asked as often as it may.
func TestPromise45WhoIsAtItsEndAskedTooOften(t *testing.T) {
	ended, asked := 0, 0
	eachWay(impl.ModeNum, losingKinds(), 600, func(seed int, is turn) {
		for who, e := range is.after.Ends {
			was := is.before.Ends[who].Tx
			waits := len(was.Flight) > 0 || was.Held || was.Asks
			ends := is.event.Kind == impl.EvTick && is.event.Who == who && waits && was.Tries == is.before.Cfg.Try
			if e.Rx.Dead || !was.Dead && e.Tx.Dead != ends {
				t.Fatalf("way %d: behind %+v %d is %+v, and was %+v", seed, is.event, who, e.Tx, was)
			}
			if ends && !was.Dead {
				ended++
			}
			if e.Tx.Tries > was.Tries {
				asked++
			}
		}
	})
	if ended == 0 || asked == 0 {
		t.Fatalf("%d came to their end, %d times one asked", ended, asked)
	}
}

// Promise 46: for credits, on a link that keeps all, what is out at who grants is what the other one has, what is on its way to it, and pieces that are on their way back.
func TestPromise46EachCreditIsSomewhere(t *testing.T) {
	grants, pieces := 0, 0
	eachWay(impl.ModeCredit, keepingKinds(), 600, func(seed int, is turn) {
		for who, e := range is.after.Ends {
			sum := is.after.Ends[1-who].Ctx.Have
			for _, f := range framesTo(t, is.after, 1-who) {
				if f.Kind == impl.FrmGrant {
					sum += f.Len
					grants++
				}
			}
			for _, f := range framesTo(t, is.after, who) {
				if f.Kind == impl.FrmPiece {
					sum++
					pieces++
				}
			}
			if e.Crx.Out != sum {
				t.Fatalf("way %d: %d are out at %d, and %d somewhere: %+v", seed, e.Crx.Out, who, sum, is.after)
			}
		}
	})
	if grants == 0 || pieces == 0 {
		t.Fatalf("%d grants, %d pieces on their way", grants, pieces)
	}
}

// Promise 47: whatever happens, and whatever is put in from elsewhere, two ends are ok behind each step, and behind a calm round.
func TestPromise47TwoEndsStayTwoEnds(t *testing.T) {
	for _, mode := range modes() {
		eachWay(mode, anyKinds(), 400, func(seed int, is turn) {
			if !wldOkByWords(is.after) || !impl.WldOk(is.after) {
				t.Fatalf("way %d: behind %+v %+v is not ok", seed, is.event, is.after)
			}
		})
		eachEnd(mode, anyKinds(), 200, func(k *way) {
			if calm := impl.WldCalm(k.world, 1+k.upTo(3)); !wldOkByWords(calm) || !impl.WldOk(calm) {
				t.Fatalf("behind a calm %+v is not ok", calm)
			}
		})
	}
}

// Promise 48: WldNew of what may be used has taken nothing, and nothing has come, or is on its way; of anything else it is nothing.
func TestPromise48TwoEndsBeginWithNothing(t *testing.T) {
	for _, c := range eachWanted() {
		w := impl.WldNew(c)
		if w.Cfg != c || len(w.Ends) != 2 || len(w.Net) != 2 || w.Link != 0 || len(w.Net[0])+len(w.Net[1]) != 0 {
			t.Fatalf("WldNew(%+v) = %+v", c, w)
		}
		for _, e := range w.Ends {
			if !endSame(e, impl.WldEnd{}) {
				t.Fatalf("WldNew(%+v) = %+v", c, w)
			}
		}
	}
	for _, c := range badOpts() {
		if !noWld(impl.WldNew(c)) {
			t.Fatalf("WldNew(%+v) is something", c)
		}
	}
}

// Promise 49: WldRun of two lists, together at most EvMaxRun, one behind the other, is that of the second one behind the first one; and one by one it is WldStep.
func TestPromise49FirstPartAndThenTheRest(t *testing.T) {
	upTo := newUpTo(49)
	worlds := someWorlds(6)
	for _, mode := range modes() {
		eachEnd(mode, anyKinds(), 20, func(k *way) { worlds = append(worlds, k.world) })
	}
	for _, w := range worlds {
		for _, n := range []int{0, 1, 2, 17, 399, 400} {
			events := mixedEvents(w, n, upTo)
			all := impl.WldRun(w, events)
			for _, at := range []int{0, n / 3, n} {
				if got := impl.WldRun(impl.WldRun(w, events[:at]), events[at:]); !wldSame(got, all) {
					t.Fatalf("WldRun(%+v, %+v) in two, at %d, = %+v, at once %+v", w, events, at, got, all)
				}
			}
			one := w
			for _, e := range events {
				one = impl.WldStep(one, e)
			}
			if !wldSame(one, all) {
				t.Fatalf("WldRun(%+v, %+v) one by one = %+v, at once %+v", w, events, one, all)
			}
		}
	}
}

// Promise 50: WldCalm of none, or less, leaves two ends as they are; of what is not ok, or of too many, it is nothing; nobody takes a message meanwhile.
func TestPromise50ACalmOfNoRounds(t *testing.T) {
	for _, mode := range modes() {
		eachEnd(mode, anyKinds(), 100, func(k *way) {
			w := k.world
			if !wldSame(impl.WldCalm(w, 0), w) || !wldSame(impl.WldCalm(w, -1), w) || !wldSame(impl.WldCalm(w, -100), w) {
				t.Fatalf("a calm of no rounds turns %+v", w)
			}
			if !noWld(impl.WldCalm(w, 101)) {
				t.Fatalf("a calm of too many rounds is something")
			}
			for _, n := range []int{1, 5, 100} {
				calm := impl.WldCalm(w, n)
				for who := range 2 {
					if !messagesSame(calm.Ends[who].Put, w.Ends[who].Put) || !isBeginning(w.Ends[who].Got, calm.Ends[who].Got) {
						t.Fatalf("in %d calm rounds %+v becomes %+v", n, w.Ends[who], calm.Ends[who])
					}
				}
				if calm.Cfg != w.Cfg || calm.Link != w.Link {
					t.Fatalf("in %d calm rounds %+v becomes %+v", n, w, calm)
				}
			}
		})
	}
	for _, w := range badWorlds() {
		for _, n := range []int{-100, -1, 0, 1, 100, 101} {
			if !noWld(impl.WldCalm(w, n)) {
				t.Fatalf("WldCalm(%+v, %d) is something", w, n)
			}
		}
	}
}

// Promise 51: to bend the first frame on its way to one, and to let it come, leaves what to lose it leaves.
func TestPromise51WhatIsBentIsAsGoodAsLost(t *testing.T) {
	for _, mode := range modes() {
		bent := 0
		eachWay(mode, losingKinds(), 300, func(seed int, is turn) {
			w, upTo := is.after, newUpTo(uint32(seed))
			for who := range 2 {
				if len(w.Net[who]) == 0 {
					continue
				}
				size := len(w.Net[who][0].Bytes)
				for _, at := range []int{0, size - 1, upTo(size)} {
					e := impl.EvEvent{Kind: impl.EvBend, Who: who, At: at, V: 1 + upTo(255)}
					got := impl.WldStep(impl.WldStep(w, e), hears(who))
					if want := impl.WldStep(w, impl.EvEvent{Kind: impl.EvLose, Who: who}); !wldSame(got, want) {
						t.Fatalf("way %d: bent by %+v, and heard: %+v, lost: %+v", seed, e, got, want)
					}
					bent++
				}
			}
		})
		if bent == 0 {
			t.Fatal("nothing was bent")
		}
	}
}

// Promise 51 of each byte, and each V, of a frame of each kind.
func TestPromise51EachByte(t *testing.T) {
	last := impl.SegPart{Seg: impl.SegEnd, Data: []byte("cd")}
	for _, c := range []impl.CfgOpts{numOpts(), crdOpts()} {
		for _, f := range []impl.FrmFrame{carries(6, last), poll(5, impl.SayWait), answer(4, impl.SayAgain), costs(last), {Kind: impl.FrmGrant, Len: 3}} {
			w := hearing(c, 1, f)
			lost := impl.WldStep(w, impl.EvEvent{Kind: impl.EvLose, Who: 1})
			for at := range bytesOf(f) {
				for v := 1; v <= 255; v++ {
					got := impl.WldRun(w, []impl.EvEvent{{Kind: impl.EvBend, Who: 1, At: at, V: v}, hears(1)})
					if !wldSame(got, lost) {
						t.Fatalf("%+v, byte %d bent by %d, and heard: %+v", f, at, v, got)
					}
				}
			}
		}
	}
}

// Promise 52: EvMove leaves both ends as they are, and nothing on its way; moved twice it is on the first link again.
func TestPromise52WhoMovesLosesWhatIsOnItsWay(t *testing.T) {
	for _, mode := range modes() {
		lost := 0
		eachWay(mode, losingKinds(), 300, func(seed int, is turn) {
			w := is.after
			lost += len(w.Net[0]) + len(w.Net[1])
			once := impl.WldStep(w, impl.EvEvent{Kind: impl.EvMove, Who: seed % 2})
			if once.Cfg != w.Cfg || !slices.EqualFunc(once.Ends, w.Ends, endSame) || len(once.Net) != 2 || len(once.Net[0])+len(once.Net[1]) != 0 || once.Link != 1-w.Link {
				t.Fatalf("way %d: %+v moved is %+v", seed, w, once)
			}
			twice := impl.WldStep(once, impl.EvEvent{Kind: impl.EvMove})
			if twice.Link != w.Link || !slices.EqualFunc(twice.Ends, w.Ends, endSame) || len(twice.Net[0])+len(twice.Net[1]) != 0 {
				t.Fatalf("way %d: %+v moved twice is %+v", seed, w, twice)
			}
		})
		if lost == 0 {
			t.Fatal("nothing was on its way")
		}
	}
}

// Promise 53: what each took, and what came to each, only grows, by one at most; what both use stays.
func TestPromise53WhatHasComeStays(t *testing.T) {
	for _, mode := range modes() {
		took, came := 0, 0
		eachWay(mode, anyKinds(), 400, func(seed int, is turn) {
			if is.after.Cfg != is.before.Cfg {
				t.Fatalf("way %d: %+v is used, and %+v was", seed, is.after.Cfg, is.before.Cfg)
			}
			for who, e := range is.after.Ends {
				was := is.before.Ends[who]
				put, got := len(e.Put)-len(was.Put), len(e.Got)-len(was.Got)
				if !isBeginning(was.Put, e.Put) || !isBeginning(was.Got, e.Got) || put > 1 || got > 1 {
					t.Fatalf("way %d: behind %+v %d has %v and %v, and had %v and %v", seed, is.event, who, e.Put, e.Got, was.Put, was.Got)
				}
				took, came = took+put, came+got
			}
		})
		if took == 0 || came == 0 {
			t.Fatalf("%d were taken, %d came", took, came)
		}
	}
}

// Promise 53 up to GotMax, and beyond: all that comes from elsewhere is noted up to there, and stays.
func TestPromise53UpToGotMax(t *testing.T) {
	for _, c := range []impl.CfgOpts{numOpts(), crdOpts()} {
		w := impl.WldNew(c)
		for n := range 70 {
			f := carries(n%8, impl.SegPart{Len: 1, Data: []byte{byte(n)}})
			f.Ack = 0
			if c.Mode == impl.ModeCredit {
				f = costs(impl.SegPart{Len: 1, Data: []byte{byte(n)}})
			}
			w = impl.WldRun(w, []impl.EvEvent{{Kind: impl.EvGrant, Who: 1}, {Kind: impl.EvLose}, {Kind: impl.EvInject, Who: 1, Data: bytesOf(f)}, hears(1)})
			got := w.Ends[1].Got
			if len(got) != min(n+1, 60) || !bytes.Equal(got[len(got)-1], []byte{byte(min(n, 59))}) || !impl.WldOk(w) || impl.WldDead(w) {
				t.Fatalf("behind %d messages: %+v", n+1, w)
			}
		}
	}
}

// wantEnded is a step of one of whose parts some are at their end: these stay as they were, and say nothing.
func wantEnded(t *testing.T, seed int, is turn, who int) (ended bool) {
	t.Helper()
	was, e := is.before.Ends[who], is.after.Ends[who]
	still := !was.Tx.Dead || txSame(was.Tx, e.Tx)
	still = still && (!was.Rx.Dead || rxSame(was.Rx, e.Rx))
	still = still && (!was.Ctx.Dead || crdTxSame(was.Ctx, e.Ctx))
	still = still && (!was.Crx.Dead || crdRxSame(was.Crx, e.Crx))
	if !still {
		t.Fatalf("way %d: behind %+v %d, at its end, turns: %+v, %+v", seed, is.event, who, was, e)
	}
	if (was.Rx.Dead || was.Crx.Dead) && len(e.Got) != len(was.Got) {
		t.Fatalf("way %d: behind %+v something comes to %d, at its end", seed, is.event, who)
	}
	if (was.Tx.Dead || was.Ctx.Dead) && len(e.Put) != len(was.Put) {
		t.Fatalf("way %d: behind %+v %d, at its end, takes something", seed, is.event, who)
	}
	for _, f := range newTo(is, 1-who) {
		sends := f.Kind == impl.FrmData || f.Kind == impl.FrmSay && f.Poll
		hears := f.Kind == impl.FrmSay && !f.Poll
		if sends && was.Tx.Dead || hears && was.Rx.Dead || f.Kind == impl.FrmPiece && was.Ctx.Dead || f.Kind == impl.FrmGrant && was.Crx.Dead {
			t.Fatalf("way %d: behind %+v %d, at its end, sends %+v", seed, is.event, who, f)
		}
	}
	return was.Tx.Dead || was.Rx.Dead || was.Ctx.Dead || was.Crx.Dead
}

// Promise 54: once who sends, or hears, is at its end, it sends nothing, and nothing comes to it, any more.
func TestPromise54WhoIsAtItsEndIsSoForGood(t *testing.T) {
	for _, mode := range modes() {
		var ended [4]int
		eachWay(mode, anyKinds(), 600, func(seed int, is turn) {
			for who := range 2 {
				if !wantEnded(t, seed, is, who) {
					continue
				}
				was := is.before.Ends[who]
				for i, dead := range []bool{was.Tx.Dead, was.Rx.Dead, was.Ctx.Dead, was.Crx.Dead} {
					if dead {
						ended[i]++
					}
				}
			}
		})
		if mode == impl.ModeNum && (ended[0] == 0 || ended[1] == 0) || mode == impl.ModeCredit && (ended[2] == 0 || ended[3] == 0) {
			t.Fatalf("mode %d: of the four parts so many were at their end: %v", mode, ended)
		}
	}
}

// Promise 55: of two ends that use numbers what is for credits stays as it began; and the other way round.
func TestPromise55WhoUsesTheOneDoesNotUseTheOther(t *testing.T) {
	for _, mode := range modes() {
		eachWay(mode, anyKinds(), 400, func(seed int, is turn) {
			for who, e := range is.after.Ends {
				if mode == impl.ModeNum && (!noCrdTx(e.Ctx) || !noCrdRx(e.Crx)) || mode == impl.ModeCredit && (!noTx(e.Tx) || !noRx(e.Rx)) {
					t.Fatalf("way %d, mode %d: behind %+v %d is %+v", seed, mode, is.event, who, e)
				}
			}
		})
	}
}

// Promise 56: at most NetMax frames are on their way to each, at most QueMost pieces wait, at most as many as both agreed are on their way for all that who sends knows.
func TestPromise56NoMoreIsOnItsWayThanMayBe(t *testing.T) {
	net, waits, out := 0, 0, 0
	for _, mode := range modes() {
		eachWay(mode, anyKinds(), 600, func(seed int, is turn) {
			for who, e := range is.after.Ends {
				on := len(is.after.Net[who])
				if on > 30 || len(e.Tx.Queue) > 24 || len(e.Ctx.Queue) > 24 || len(e.Tx.Flight) > is.after.Cfg.Win || e.Tx.Sent > len(e.Tx.Flight) {
					t.Fatalf("way %d: behind %+v %d frames are on their way to %d, %+v", seed, is.event, on, who, e)
				}
				net, waits, out = max(net, on), max(waits, len(e.Tx.Queue), len(e.Ctx.Queue)), max(out, len(e.Tx.Flight))
			}
		})
	}
	t.Log(net, waits, out)
	if net != 30 || waits != 24 || out != 4 {
		t.Fatalf("at most %d frames were on their way, %d pieces waited, %d were on their way", net, waits, out)
	}
}

// Promise 56 where one thing is said on and on.
func TestPromise56WhereAllIsCrowded(t *testing.T) {
	for who := range 2 {
		num, crd := impl.WldNew(numOpts()), impl.WldNew(crdOpts())
		num = impl.WldRun(num, []impl.EvEvent{{Kind: impl.EvPut, Who: who, Data: []byte("ab")}, {Kind: impl.EvSend, Who: who}})
		for n := range 40 {
			num = impl.WldRun(num, []impl.EvEvent{{Kind: impl.EvAck, Who: who}, {Kind: impl.EvBusy, Who: who, V: n % 2}, {Kind: impl.EvInject, Who: who, Data: bytesOf(poll(0, 0))}})
			crd = impl.WldRun(crd, []impl.EvEvent{{Kind: impl.EvInject, Who: 1 - who, Data: []byte{1}}, {Kind: impl.EvGrant, Who: who}})
		}
		if len(num.Net[1-who]) != 30 || len(num.Net[who]) != 30 || len(crd.Net[1-who]) != 30 || !impl.WldOk(num) || !impl.WldOk(crd) {
			t.Fatalf("%+v, %+v", num, crd)
		}
		// It answers all that it hears, and nothing finds room.
		num = impl.WldRun(num, slices.Repeat([]impl.EvEvent{hears(who), {Kind: impl.EvTick, Who: who}}, 30))
		if len(num.Net[1-who]) != 30 || len(num.Net[who]) != 0 || !impl.WldOk(num) {
			t.Fatalf("%+v", num)
		}
	}
}

// Promise 57: as long as one is busy nothing comes to it; and who was told to wait sends no piece till it is told to go on, or answered.
func TestPromise57WhoIsBusyTakesNothing(t *testing.T) {
	busy, held := 0, 0
	var waits [2]bool
	last := -1
	eachWay(impl.ModeNum, losingKinds(), 600, func(seed int, is turn) {
		if seed != last {
			last, waits = seed, [2]bool{}
		}
		for who, e := range is.after.Ends {
			was := is.before.Ends[who]
			if was.Rx.Busy && (len(e.Got) != len(was.Got) || e.Rx.Count != was.Rx.Count || !joinSame(e.Rx.Join, was.Rx.Join)) {
				t.Fatalf("way %d: behind %+v something comes to %d, which is busy", seed, is.event, who)
			}
			if f, ok := heardIn(is, who); ok && was.Rx.Busy && f.Kind == impl.FrmData {
				busy++
			}
			for _, f := range newTo(is, 1-who) {
				if waits[who] && f.Kind == impl.FrmData {
					t.Fatalf("way %d: behind %+v %d, which was told to wait, sends %+v", seed, is.event, who, f)
				}
			}
			if waits[who] && is.event.Kind == impl.EvSend && is.event.Who == who && impl.TxLeft(was.Tx) > 0 {
				held++
			}
			if f, ok := heardIn(is, who); ok && f.Kind == impl.FrmSay {
				waits[who] = f.Say == impl.SayWait
			}
		}
	})
	if busy == 0 || held == 0 {
		t.Fatalf("%d pieces came to who was busy, %d times who was told to wait would send", busy, held)
	}
}

// Promise 58: a step of one, that is not what comes to the other one, leaves the other one as it is.
func TestPromise58WhatOneSendsTheOtherOneAloneHears(t *testing.T) {
	for _, mode := range modes() {
		eachWay(mode, anyKinds(), 400, func(seed int, is turn) {
			other := 1 - is.event.Who
			if !endSame(is.before.Ends[other], is.after.Ends[other]) {
				t.Fatalf("way %d: behind %+v the other one is %+v, and was %+v", seed, is.event, is.after.Ends[other], is.before.Ends[other])
			}
			// Nor does what it sends go on its way to itself: that grows by what is put in alone.
			own, was := is.after.Net[is.event.Who], is.before.Net[is.event.Who]
			if is.event.Kind != impl.EvInject && len(own) > len(was) {
				t.Fatalf("way %d: behind %+v there is more on its way to the same one", seed, is.event)
			}
		})
	}
}

// Promise 59: WldDead is so if who sends, or hears, of either, is; of WldNew it is not.
func TestPromise59OneThatIsAtItsEndIsTold(t *testing.T) {
	for _, c := range eachWanted() {
		if impl.WldDead(impl.WldNew(c)) {
			t.Fatalf("WldDead of WldNew(%+v)", c)
		}
	}
	if impl.WldDead(impl.WldWorld{}) {
		t.Fatal("WldDead of nothing at all")
	}
	turns := []func(e *impl.WldEnd){
		func(e *impl.WldEnd) { e.Tx.Dead = true }, func(e *impl.WldEnd) { e.Rx.Dead = true },
		func(e *impl.WldEnd) { e.Ctx.Dead = true }, func(e *impl.WldEnd) { e.Crx.Dead = true },
	}
	for _, w := range append(someWorlds(20), badWorlds()...) {
		alive := wldWith(w, func(w *impl.WldWorld) {
			for who := range w.Ends {
				e := &w.Ends[who]
				e.Tx.Dead, e.Rx.Dead, e.Ctx.Dead, e.Crx.Dead = false, false, false, false
			}
		})
		if impl.WldDead(alive) {
			t.Fatalf("WldDead(%+v)", alive)
		}
		for who := range min(2, len(w.Ends)) {
			for _, end := range turns {
				if ended := wldWith(alive, func(w *impl.WldWorld) { end(&w.Ends[who]) }); !impl.WldDead(ended) {
					t.Fatalf("not WldDead(%+v)", ended)
				}
			}
		}
	}
}

// Promise 60: behind 40 calm rounds, if none is at its end, one round more leaves what each took, what came to it, and how much it counted, as it is.
func TestPromise60WhatAllHasComeStaysSo(t *testing.T) {
	alive := 0
	eachEnd(impl.ModeNum, losingKinds(), 300, func(k *way) {
		w := impl.WldCalm(k.world, 40)
		if impl.WldDead(w) {
			return
		}
		alive++
		more := impl.WldCalm(w, 1)
		for who, e := range more.Ends {
			was := w.Ends[who]
			if !messagesSame(e.Put, was.Put) || !messagesSame(e.Got, was.Got) || e.Tx.Count != was.Tx.Count || e.Rx.Count != was.Rx.Count || impl.WldDead(more) {
				t.Fatalf("one round more: %+v, and it was %+v", e, was)
			}
		}
	})
	if alive == 0 {
		t.Fatal("all were at their end")
	}
}

// roundAbout is two ends the other way round.
func roundAbout(w impl.WldWorld) impl.WldWorld {
	w.Ends, w.Net = slices.Clone(w.Ends), slices.Clone(w.Net)
	slices.Reverse(w.Ends)
	slices.Reverse(w.Net)
	return w
}

// Promise 83: what happens to the one, of two ends the other way round, is what happens to the other one.
func TestPromise83BothEndsAreAlike(t *testing.T) {
	for _, mode := range modes() {
		eachWay(mode, anyKinds(), 400, func(seed int, is turn) {
			e := is.event
			e.Who = 1 - e.Who
			if got := impl.WldStep(roundAbout(is.before), e); !wldSame(got, roundAbout(is.after)) {
				t.Fatalf("way %d: %+v leaves %+v, the other way round %+v", seed, is.event, is.after, got)
			}
		})
	}
	for _, w := range someWorlds(20) {
		for _, e := range eachEvent(w.Cfg) {
			if e.Who == 0 || e.Who == 1 {
				mirrored := e
				mirrored.Who = 1 - e.Who
				if got, want := impl.WldStep(roundAbout(w), mirrored), roundAbout(impl.WldStep(w, e)); !wldSame(got, want) {
					t.Fatalf("%+v leaves %+v, the other way round %+v", e, want, got)
				}
			}
		}
	}
}

// Promise 84: of two ends on the other link what happens is the same, but for the link.
func TestPromise84OnWhichLinkMakesNoDifference(t *testing.T) {
	for _, mode := range modes() {
		var links [2]int
		eachWay(mode, anyKinds(), 400, func(seed int, is turn) {
			links[is.before.Link]++
			w := is.before
			w.Link = 1 - w.Link
			got := impl.WldStep(w, is.event)
			got.Link = 1 - got.Link
			if !wldSame(got, is.after) {
				t.Fatalf("way %d: %+v leaves %+v, on the other link %+v", seed, is.event, is.after, got)
			}
		})
		if links[0] == 0 || links[1] == 0 {
			t.Fatalf("mode %d: on the links %v", mode, links)
		}
	}
}

// Promise 85: EvLose takes the first frame on its way to one, and nothing else; where none is, nothing turns.
func TestPromise85WhatIsLostWasThere(t *testing.T) {
	for _, mode := range modes() {
		lost, none := 0, 0
		eachWay(mode, losingKinds(), 300, func(seed int, is turn) {
			for who := range 2 {
				w := is.after
				got := impl.WldStep(w, impl.EvEvent{Kind: impl.EvLose, Who: who})
				if len(w.Net[who]) == 0 {
					none++
					if !wldSame(got, w) {
						t.Fatalf("way %d: with none on its way %+v becomes %+v", seed, w, got)
					}
					continue
				}
				lost++
				same := got.Cfg == w.Cfg && got.Link == w.Link && slices.EqualFunc(got.Ends, w.Ends, endSame)
				if !same || !netSame(got.Net[who], w.Net[who][1:]) || !netSame(got.Net[1-who], w.Net[1-who]) {
					t.Fatalf("way %d: what is lost to %d turns %+v into %+v", seed, who, w, got)
				}
			}
		})
		if lost == 0 || none == 0 {
			t.Fatalf("%d were lost, %d times there was none", lost, none)
		}
	}
}

// Promise 86: bytes put in from elsewhere that are no frame, once all ahead of them has been lost, come without turning anything.
func TestPromise86WhatIsNoFrameIsAsGoodAsLost(t *testing.T) {
	for _, mode := range modes() {
		eachWay(mode, losingKinds(), 200, func(seed int, is turn) {
			w, upTo := is.after, newUpTo(uint32(seed))
			for who := range 2 {
				junk := [][]byte{nil, mixedBytes(uint32(seed), upTo(16)), turned(bytesOf(mixedFrame(w.Cfg, w.Ends[who], upTo)), upTo(7), byte(1+upTo(255)))}
				for _, list := range junk {
					if _, ok := readByWords(list); ok {
						continue
					}
					got := impl.WldStep(w, impl.EvEvent{Kind: impl.EvInject, Who: who, Data: list})
					got = impl.WldRun(got, slices.Repeat([]impl.EvEvent{{Kind: impl.EvLose, Who: who}}, len(w.Net[who])))
					if got = impl.WldStep(got, hears(who)); !wldSame(got, wldWith(w, func(w *impl.WldWorld) { w.Net[who] = nil })) {
						t.Fatalf("way %d: behind %v %+v is %+v", seed, list, w, got)
					}
				}
			}
		})
	}
}

// Promise 87: of each frame on its way to one, that was not bent, all that it says has come was sent, and has not been let go of beyond that.
func TestPromise87NobodyIsToldOfWhatItDidNotSend(t *testing.T) {
	told := 0
	eachWay(impl.ModeNum, losingKinds(), 600, func(seed int, is turn) {
		for who, e := range is.after.Ends {
			ahead := 0
			for _, f := range framesTo(t, is.after, who) {
				far := farByWords(e.Tx.Acked, f.Ack)
				if far > len(e.Tx.Flight) || far < ahead || e.Tx.Count+far > is.after.Ends[1-who].Rx.Count {
					t.Fatalf("way %d: behind %+v %d is told %+v, with %+v", seed, is.event, who, f, e.Tx)
				}
				if far > 0 {
					told++
				}
				ahead = far
			}
		}
	})
	if told == 0 {
		t.Fatal("nobody was told anything")
	}
}

// Promise 88: of each piece on its way to one, not bent, that has the number which comes next, its bytes are those of the piece that comes next of the other one.
func TestPromise88WhatIsOnItsWayIsWhatWasSent(t *testing.T) {
	next, rounds := 0, 0
	eachWay(impl.ModeNum, losingKinds(), 600, func(seed int, is turn) {
		for who, e := range is.after.Ends {
			var pieces []impl.SegPart
			for _, sdu := range is.after.Ends[1-who].Put {
				pieces = append(pieces, cutByWords(sdu, is.after.Cfg.Mps)...)
			}
			for _, f := range framesTo(t, is.after, who) {
				if f.Kind != impl.FrmData || f.Seq != e.Rx.Expect {
					continue
				}
				next++
				if e.Rx.Count > 8 {
					rounds++
				}
				if e.Rx.Count >= len(pieces) || !partSame(pieces[e.Rx.Count], impl.SegPart{Seg: f.Seg, Len: f.Len, Data: f.Data}) {
					t.Fatalf("way %d: behind %+v %+v is on its way to %d, where piece %d of %+v comes next", seed, is.event, f, who, e.Rx.Count, pieces)
				}
			}
		}
	})
	t.Log(next, rounds)
	if next == 0 || rounds == 0 {
		t.Fatalf("%d came next, %d of them once numbers came round", next, rounds)
	}
}

// Promise 89: where none takes a message no piece is on its way, and nothing comes.
func TestPromise89WhoTakesNothingSendsNothing(t *testing.T) {
	said := 0
	for seed := range 400 {
		k := newWay(uint32(seed), impl.ModeNum, losingKinds())
		for range wayLong {
			e := k.event()
			if e.Kind == impl.EvPut {
				// One that is longer than both agreed is not taken.
				e.Data = mixedBytes(uint32(seed), k.world.Cfg.Mtu+1+k.upTo(9))
			}
			k.world = impl.WldStep(k.world, e)
			for who, end := range k.world.Ends {
				for _, f := range framesTo(t, k.world, who) {
					if f.Kind != impl.FrmSay {
						t.Fatalf("way %d: behind %+v %+v is on its way to %d", seed, e, f, who)
					}
					said++
				}
				if len(end.Got) != 0 || len(end.Put) != 0 || end.Rx.Count != 0 || !noJoin(end.Rx.Join) {
					t.Fatalf("way %d: behind %+v something came to %d: %+v", seed, e, who, end)
				}
			}
		}
	}
	if said == 0 {
		t.Fatal("nothing was said")
	}
}

// Promise 90: where just the first one takes messages, then in 40 calm rounds all has come to the second one, unless one is at its end, and nothing to the first.
func TestPromise90OneWayDoesNotHangOnTheOther(t *testing.T) {
	alive, came := 0, 0
	for seed := range 400 {
		k := newWay(uint32(seed), impl.ModeNum, losingKinds())
		for range 20 + k.upTo(wayLong) {
			e := k.event()
			if e.Kind == impl.EvPut {
				e.Who = 0
			}
			k.world = impl.WldStep(k.world, e)
		}
		w := impl.WldCalm(k.world, 40)
		if len(w.Ends[0].Got) != 0 || len(w.Ends[1].Put) != 0 || !isBeginning(w.Ends[1].Got, w.Ends[0].Put) {
			t.Fatalf("way %d: %+v", seed, w)
		}
		if impl.WldDead(w) {
			continue
		}
		alive++
		came += len(w.Ends[1].Got)
		if wantAllCome(t, w); len(w.Ends[1].Got) != len(k.world.Ends[0].Put) {
			t.Fatalf("way %d: %+v", seed, w)
		}
	}
	if alive == 0 || came == 0 {
		t.Fatalf("%d were not at their end, %d came", alive, came)
	}
}

// Promise 91: each message that one took, and each that came to one, has at most as many bytes as both agreed.
func TestPromise91NoMessageIsLongerThanBothAgreed(t *testing.T) {
	for _, mode := range modes() {
		most := 0
		eachWay(mode, anyKinds(), 400, func(seed int, is turn) {
			for who, e := range is.after.Ends {
				for _, sdu := range slices.Concat(e.Put, e.Got) {
					if len(sdu) > is.after.Cfg.Mtu {
						t.Fatalf("way %d: behind %+v %d has %v, and Mtu is %d", seed, is.event, who, sdu, is.after.Cfg.Mtu)
					}
					if len(sdu) == is.after.Cfg.Mtu {
						most++
					}
				}
			}
		})
		if most == 0 {
			t.Fatal("no message was as long as may be")
		}
	}
	// What is put in from elsewhere says that it is longer, or is.
	for _, c := range []impl.CfgOpts{{Mode: 1, Win: 1, Mps: 8, Mtu: 5, Try: 1}, {Mode: 2, Win: 1, Mps: 8, Mtu: 5, Try: 1}} {
		for _, p := range []impl.SegPart{{Seg: impl.SegStart, Len: 6, Data: []byte("abc")}, {Len: 6, Data: []byte("abcdef")}, {Len: 8, Data: mixedBytes(1, 8)}} {
			end := impl.SegPart{Seg: impl.SegEnd, Data: []byte("def")}
			first, last := carries(0, p), carries(1, end)
			first.Ack, last.Ack = 0, 0
			if c.Mode == impl.ModeCredit {
				first, last = costs(p), costs(end)
			}
			w := impl.WldRun(impl.WldNew(c), []impl.EvEvent{{Kind: impl.EvGrant}, {Kind: impl.EvInject, Data: bytesOf(first)}, hears(0), {Kind: impl.EvInject, Data: bytesOf(last)}, hears(0)})
			e := w.Ends[0]
			if len(e.Got) != 0 || e.Rx.Dead == e.Crx.Dead || e.Tx.Dead || !impl.WldOk(w) {
				t.Fatalf("%+v behind %+v: %+v", c, p, w)
			}
		}
	}
}

// Promise 92: who sends has asked no more often than both agreed, for an answer that has not come.
func TestPromise92NobodyAsksMoreOftenThanItMay(t *testing.T) {
	most := 0
	var asked [2]int
	last := -1
	eachWay(impl.ModeNum, anyKinds(), 600, func(seed int, is turn) {
		if seed != last {
			last, asked = seed, [2]int{}
		}
		for who, e := range is.after.Ends {
			for _, f := range newTo(is, 1-who) {
				if f.Poll {
					asked[who]++
				}
			}
			if f, ok := heardIn(is, who); ok && f.Final {
				asked[who] = 0
			}
			if e.Tx.Tries > is.after.Cfg.Try || asked[who] > is.after.Cfg.Try {
				t.Fatalf("way %d: behind %+v %d has asked %d times: %+v", seed, is.event, who, asked[who], e.Tx)
			}
			if asked[who] == is.after.Cfg.Try {
				most++
			}
		}
	})
	if most == 0 {
		t.Fatal("nobody asked as often as it may")
	}
}

// Promise 93: for credits, on a link that keeps all, a piece put in from elsewhere, that comes where no credit is out, ends who hears it, and no message comes of it.
func TestPromise93WhoSendsWithoutCreditIsCutOff(t *testing.T) {
	cut, later := 0, 0
	eachWay(impl.ModeCredit, keepingKinds(), 600, func(seed int, is turn) {
		for who, e := range is.after.Ends {
			if e.Crx.Out != 0 {
				continue
			}
			for _, p := range []impl.SegPart{{}, {Len: 1, Data: []byte{1}}, fitting(is.after.Cfg, e.Crx.Join, newUpTo(uint32(seed)))} {
				w := impl.WldStep(is.after, impl.EvEvent{Kind: impl.EvInject, Who: who, Data: bytesOf(costs(p))})
				// What is ahead of it comes first: grants alone, as pieces on their way would be credits that are out.
				w = impl.WldRun(w, slices.Repeat([]impl.EvEvent{hears(who)}, len(w.Net[who])))
				if got := w.Ends[who]; !got.Crx.Dead || !messagesSame(got.Got, e.Got) || got.Crx.Out != 0 || !impl.WldDead(w) {
					t.Fatalf("way %d: of %+v behind %+v: %+v", seed, p, e, got)
				}
				cut++
				if len(e.Got) > 0 {
					later++
				}
			}
		}
	})
	if cut == 0 || later == 0 {
		t.Fatalf("%d were cut off, %d of them once something had come", cut, later)
	}
}

// Promise 94: for credits, on a link that keeps all, EvTick, EvBusy and EvAck leave all as it is.
func TestPromise94WhereNothingIsLostCreditsMoveAlone(t *testing.T) {
	eachWay(impl.ModeCredit, keepingKinds(), 300, func(seed int, is turn) {
		for who := range 2 {
			for _, e := range []impl.EvEvent{{Kind: impl.EvTick}, {Kind: impl.EvBusy, V: 1}, {Kind: impl.EvBusy}, {Kind: impl.EvAck}} {
				e.Who = who
				if got := impl.WldStep(is.after, e); !wldSame(got, is.after) {
					t.Fatalf("way %d: behind %+v %+v is %+v", seed, e, is.after, got)
				}
			}
		}
	})
}

// Many ways in either mode, with all that may happen: at each step as the words say.
func TestWldInManyOrders(t *testing.T) {
	for _, mode := range modes() {
		eachWay(mode, anyKinds(), 500, func(seed int, is turn) {
			if want := wldStepByWords(is.before, is.event); !wldSame(is.after, want) {
				t.Fatalf("way %d: WldStep(%+v, %+v) = %+v, want %+v", seed, is.before, is.event, is.after, want)
			}
		})
		eachEnd(mode, anyKinds(), 60, func(k *way) { wantCalmed(t, k.world, 1+k.upTo(8)) })
		eachEnd(mode, losingKinds(), 60, func(k *way) { wantCalmed(t, k.world, 1+k.upTo(8)) })
	}
}
