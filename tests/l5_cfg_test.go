package tests

import (
	"math"
	"slices"
	"testing"

	"loop.example/linkboy/impl"
)

// noOpts is what is wanted where nothing is.
var noOpts impl.CfgOpts

// noSaid is what is said where nothing is.
var noSaid impl.NegMsg

// optsMost is the most of Mode, Win, Mps, Mtu and Try, as the document's table has them.
var optsMost = [5]int{2, 4, 8, 24, 5}

func partsOf(c impl.CfgOpts) [5]int {
	return [5]int{c.Mode, c.Win, c.Mps, c.Mtu, c.Try}
}

func optsOf(parts [5]int) impl.CfgOpts {
	return impl.CfgOpts{Mode: parts[0], Win: parts[1], Mps: parts[2], Mtu: parts[3], Try: parts[4]}
}

func optsWith(c impl.CfgOpts, part int, n int) impl.CfgOpts {
	parts := partsOf(c)
	parts[part] = n
	return optsOf(parts)
}

// wantedByWords is chapter 5's words for what may be wanted.
func wantedByWords(c impl.CfgOpts) bool {
	for i, n := range partsOf(c) {
		if n < 1 || n > optsMost[i] {
			return false
		}
	}
	return true
}

// meetByWords is chapter 5's words for CfgMeet.
func meetByWords(a impl.CfgOpts, b impl.CfgOpts) (impl.CfgOpts, bool) {
	if !wantedByWords(a) || !wantedByWords(b) || a.Mode != b.Mode {
		return noOpts, false
	}
	least, other := partsOf(a), partsOf(b)
	for i := range least {
		least[i] = min(least[i], other[i])
	}
	return optsOf(least), true
}

// agreesByWords is chapter 5's words for one that agrees and is ok.
func agreesByWords(s impl.NegState) bool {
	for _, yes := range []impl.CfgOpts{s.Mine, s.Yours} {
		if yes != noOpts && !wantedByWords(yes) {
			return false
		}
	}
	return wantedByWords(s.Own) && wantedByWords(s.Asks)
}

// hearByWords is chapter 5's words for NegHear. Where Asks and Opts are of two modes, and so meet at nothing, it asks on for what it did, as promises 24 and 73 have it ok there.
func hearByWords(s impl.NegState, m impl.NegMsg) (impl.NegState, impl.NegMsg, bool) {
	if !agreesByWords(s) || m.Kind < 1 || m.Kind > 3 || !wantedByWords(m.Opts) {
		return impl.NegState{}, noSaid, false
	}
	meet, one := meetByWords(s.Own, m.Opts)
	less, asked := meetByWords(s.Asks, m.Opts)
	switch {
	case !one:
		s.Fails = true
	case m.Kind == 1 && meet == m.Opts:
		s.Yours = m.Opts
		return s, impl.NegMsg{Kind: 2, Opts: m.Opts}, true
	case m.Kind == 1:
		return s, impl.NegMsg{Kind: 3, Opts: meet}, true
	case m.Kind == 2 && m.Opts == s.Asks:
		s.Mine = m.Opts
	case m.Kind == 3 && s.Mine == noOpts && asked:
		s.Asks = less
	}
	return s, noSaid, false
}

// noMore says whether the one has no more of anything than the other one.
func noMore(c impl.CfgOpts, than impl.CfgOpts) bool {
	return c.Win <= than.Win && c.Mps <= than.Mps && c.Mtu <= than.Mtu && c.Try <= than.Try
}

// wantedOpts is what may be wanted: of each part the bounds and one between, in both modes.
func wantedOpts() []impl.CfgOpts {
	var list []impl.CfgOpts
	for mode := 1; mode <= 2; mode++ {
		for _, win := range []int{1, 2, 4} {
			for _, mps := range []int{1, 5, 8} {
				for _, mtu := range []int{1, 11, 24} {
					for _, try := range []int{1, 3, 5} {
						list = append(list, impl.CfgOpts{Mode: mode, Win: win, Mps: mps, Mtu: mtu, Try: try})
					}
				}
			}
		}
	}
	return list
}

// eachWanted is all that may be wanted.
func eachWanted() []impl.CfgOpts {
	var list []impl.CfgOpts
	parts := [5]int{1, 1, 1, 1, 1}
	for {
		list = append(list, optsOf(parts))
		at := 0
		for at < 5 && parts[at] == optsMost[at] {
			parts[at] = 1
			at++
		}
		if at == 5 {
			return list
		}
		parts[at]++
	}
}

// fewOpts is what may be wanted, and much of it not the one more than the other.
func fewOpts() []impl.CfgOpts {
	return []impl.CfgOpts{
		{Mode: 1, Win: 4, Mps: 8, Mtu: 24, Try: 5},
		{Mode: 1, Win: 4, Mps: 3, Mtu: 20, Try: 2},
		{Mode: 1, Win: 2, Mps: 8, Mtu: 24, Try: 5},
		{Mode: 1, Win: 2, Mps: 3, Mtu: 20, Try: 2},
		{Mode: 1, Win: 1, Mps: 1, Mtu: 1, Try: 1},
		{Mode: 1, Win: 3, Mps: 8, Mtu: 2, Try: 4},
		{Mode: 2, Win: 4, Mps: 3, Mtu: 20, Try: 2},
		{Mode: 2, Win: 2, Mps: 3, Mtu: 20, Try: 2},
		{Mode: 2, Win: 2, Mps: 8, Mtu: 24, Try: 5},
	}
}

// badOpts is what may not be wanted: nothing, and of each part one beyond each bound, and far beyond, all others in bounds.
func badOpts() []impl.CfgOpts {
	list := []impl.CfgOpts{{}, {Mode: 1}, {Mode: 2}, {Win: 1, Mps: 1, Mtu: 1, Try: 1}, {Win: 4, Mps: 8, Mtu: 24, Try: 5}, {Try: 1}}
	numbers := append(farNumbers(), 0, math.MaxInt-1, math.MinInt+1, 1<<32+1, 256+1, 65536+1)
	for part, most := range optsMost {
		for _, c := range fewOpts() {
			list = append(list, optsWith(c, part, most+1))
			for _, n := range numbers {
				list = append(list, optsWith(c, part, n))
			}
		}
	}
	return slices.DeleteFunc(list, wantedByWords)
}

// someBadOpts is a few of them, where all of them would be too many.
func someBadOpts() []impl.CfgOpts {
	c := fewOpts()[3]
	return []impl.CfgOpts{
		optsWith(c, 0, 0), optsWith(c, 0, 3), optsWith(c, 1, 0), optsWith(c, 1, 5), optsWith(c, 2, 0), optsWith(c, 2, 9),
		optsWith(c, 3, 0), optsWith(c, 3, 25), optsWith(c, 4, 0), optsWith(c, 4, 6), optsWith(c, 4, -1), {Mode: 1},
	}
}

// statesOf is each that agrees, its four parts taken from lists, and it Fails or not.
func statesOf(own, asks, mine, yours []impl.CfgOpts) []impl.NegState {
	var list []impl.NegState
	for _, o := range own {
		for _, a := range asks {
			for _, m := range mine {
				for _, y := range yours {
					s := impl.NegState{Own: o, Asks: a, Mine: m, Yours: y}
					list = append(list, s)
					s.Fails = true
					list = append(list, s)
				}
			}
		}
	}
	return list
}

// okStates is each that agrees and is ok, of a few things that may be wanted: also such as come from no beginning.
func okStates() []impl.NegState {
	few := fewOpts()
	yes := append([]impl.CfgOpts{noOpts}, few...)
	return statesOf(few, few, yes, yes)
}

// badStates is each with one part at least that may not be wanted, all others ok.
func badStates() []impl.NegState {
	some := fewOpts()[2:7:7]
	yes := append([]impl.CfgOpts{noOpts}, some...)
	bad := someBadOpts()
	none := append([]impl.CfgOpts{noOpts}, bad...)
	return slices.Concat(
		statesOf(none, some, yes, yes[:3]), statesOf(some, none, yes, yes[:3]),
		statesOf(some, some[:2], bad, yes), statesOf(some, some[:2], yes, bad),
		statesOf(none[:4], none[:4], none[:4], none[:4]),
	)
}

// someSaid is each Kind of each of a few things that may be wanted.
func someSaid() []impl.NegMsg {
	var list []impl.NegMsg
	for kind := 1; kind <= 3; kind++ {
		for _, c := range fewOpts() {
			list = append(list, impl.NegMsg{Kind: kind, Opts: c})
		}
	}
	return list
}

// wantHear is one behind what it hears held against the words, and answers it.
func wantHear(t *testing.T, s impl.NegState, m impl.NegMsg) (impl.NegState, impl.NegMsg, bool) {
	t.Helper()
	got, said, says := impl.NegHear(s, m)
	want, wantSaid, wantSays := hearByWords(s, m)
	if got != want || said != wantSaid || says != wantSays {
		t.Fatalf("NegHear(%+v, %+v) = %+v, %+v, %v, want %+v, %+v, %v", s, m, got, said, says, want, wantSaid, wantSays)
	}
	return got, said, says
}

func wantDone(t *testing.T, s impl.NegState, want impl.CfgOpts, is bool) {
	t.Helper()
	if got, ok := impl.NegDone(s); got != want || ok != is {
		t.Fatalf("NegDone(%+v) = %+v, %v, want %+v, %v", s, got, ok, want, is)
	}
}

func TestCfgConstants(t *testing.T) {
	got := []int{
		impl.ModeNum, impl.ModeCredit, impl.WinMax, impl.TryMax, impl.FrmMax, impl.SduMax, impl.CrdMax, impl.CrdTop,
		impl.NegAsk, impl.NegYes, impl.NegBut,
	}
	if want := []int{1, 2, 4, 5, 8, 24, 6, 255, 1, 2, 3}; !slices.Equal(got, want) {
		t.Errorf("constants %v, want %v", got, want)
	}
}

// Each part at both bounds, and one beyond on either side, all others in bounds.
func TestCfgOkAtTheBounds(t *testing.T) {
	rows := []struct {
		part, n int
		want    bool
	}{
		{0, 0, false}, {0, 1, true}, {0, 2, true}, {0, 3, false},
		{1, 0, false}, {1, 1, true}, {1, 4, true}, {1, 5, false},
		{2, 0, false}, {2, 1, true}, {2, 8, true}, {2, 9, false},
		{3, 0, false}, {3, 1, true}, {3, 24, true}, {3, 25, false},
		{4, 0, false}, {4, 1, true}, {4, 5, true}, {4, 6, false},
	}
	for _, r := range rows {
		for _, c := range wantedOpts() {
			c = optsWith(c, r.part, r.n)
			if got := impl.CfgOk(c); got != r.want {
				t.Fatalf("CfgOk(%+v) = %v", c, got)
			}
		}
	}
}

func TestCfgOkOfEachPartTogether(t *testing.T) {
	for mode := -1; mode <= 4; mode++ {
		for win := -1; win <= 6; win++ {
			for mps := -1; mps <= 10; mps++ {
				for mtu := -1; mtu <= 26; mtu++ {
					for try := -1; try <= 7; try++ {
						c := impl.CfgOpts{Mode: mode, Win: win, Mps: mps, Mtu: mtu, Try: try}
						if got := impl.CfgOk(c); got != wantedByWords(c) {
							t.Fatalf("CfgOk(%+v) = %v", c, got)
						}
					}
				}
			}
		}
	}
}

func TestCfgOkFarBeyond(t *testing.T) {
	for part := range 5 {
		for _, n := range []int{math.MaxInt, math.MinInt, math.MaxInt - 1, math.MinInt + 1, -1, 256 + 1, 1<<32 + 1, 1<<16 + 1} {
			for _, c := range fewOpts() {
				if c = optsWith(c, part, n); impl.CfgOk(c) {
					t.Errorf("CfgOk(%+v)", c)
				}
			}
		}
	}
	for _, c := range badOpts() {
		if impl.CfgOk(c) {
			t.Errorf("CfgOk(%+v)", c)
		}
	}
}

func TestCfgOkOfNothing(t *testing.T) {
	if impl.CfgOk(impl.CfgOpts{}) {
		t.Error("nothing may be wanted")
	}
}

func TestCfgMeetKnown(t *testing.T) {
	rows := []struct {
		a, b, want impl.CfgOpts
		ok         bool
	}{
		{impl.CfgOpts{Mode: 1, Win: 4, Mps: 3, Mtu: 20, Try: 2}, impl.CfgOpts{Mode: 1, Win: 2, Mps: 8, Mtu: 24, Try: 5}, impl.CfgOpts{Mode: 1, Win: 2, Mps: 3, Mtu: 20, Try: 2}, true},
		{impl.CfgOpts{Mode: 1, Win: 4, Mps: 2, Mtu: 20, Try: 3}, impl.CfgOpts{Mode: 1, Win: 3, Mps: 5, Mtu: 24, Try: 2}, impl.CfgOpts{Mode: 1, Win: 3, Mps: 2, Mtu: 20, Try: 2}, true},
		{impl.CfgOpts{Mode: 2, Win: 1, Mps: 8, Mtu: 1, Try: 5}, impl.CfgOpts{Mode: 2, Win: 4, Mps: 1, Mtu: 24, Try: 1}, impl.CfgOpts{Mode: 2, Win: 1, Mps: 1, Mtu: 1, Try: 1}, true},
		{impl.CfgOpts{Mode: 2, Win: 4, Mps: 8, Mtu: 24, Try: 5}, impl.CfgOpts{Mode: 2, Win: 4, Mps: 8, Mtu: 24, Try: 5}, impl.CfgOpts{Mode: 2, Win: 4, Mps: 8, Mtu: 24, Try: 5}, true},
		{impl.CfgOpts{Mode: 1, Win: 4, Mps: 8, Mtu: 24, Try: 5}, impl.CfgOpts{Mode: 2, Win: 4, Mps: 8, Mtu: 24, Try: 5}, noOpts, false},
		{impl.CfgOpts{Mode: 1, Win: 4, Mps: 8, Mtu: 24, Try: 5}, noOpts, noOpts, false},
		{impl.CfgOpts{Mode: 1, Win: 4, Mps: 8, Mtu: 25, Try: 5}, impl.CfgOpts{Mode: 1, Win: 4, Mps: 8, Mtu: 24, Try: 5}, noOpts, false},
	}
	for _, r := range rows {
		for range 2 {
			if got, ok := impl.CfgMeet(r.a, r.b); got != r.want || ok != r.ok {
				t.Errorf("CfgMeet(%+v, %+v) = %+v, %v", r.a, r.b, got, ok)
			}
			r.a, r.b = r.b, r.a
		}
	}
}

func TestCfgMeetOfEachTwo(t *testing.T) {
	list := wantedOpts()
	for _, a := range list {
		for _, b := range list {
			got, ok := impl.CfgMeet(a, b)
			if want, is := meetByWords(a, b); got != want || ok != is {
				t.Fatalf("CfgMeet(%+v, %+v) = %+v, %v, want %+v, %v", a, b, got, ok, want, is)
			}
		}
	}
}

// All that may be wanted, with each of a few on either side.
func TestCfgMeetOfAllThatMayBeWanted(t *testing.T) {
	all := eachWanted()
	if len(all) != 2*4*8*24*5 {
		t.Fatalf("%d things may be wanted", len(all))
	}
	for _, a := range all {
		for _, b := range fewOpts() {
			want, is := meetByWords(a, b)
			if got, ok := impl.CfgMeet(a, b); got != want || ok != is {
				t.Fatalf("CfgMeet(%+v, %+v) = %+v, %v", a, b, got, ok)
			}
			if got, ok := impl.CfgMeet(b, a); got != want || ok != is {
				t.Fatalf("CfgMeet(%+v, %+v) = %+v, %v", b, a, got, ok)
			}
		}
	}
}

// Where one of both, or both, may not be wanted, two meet at nothing.
func TestCfgMeetOfWhatMayNotBeWanted(t *testing.T) {
	meetsNothing := func(a impl.CfgOpts, b impl.CfgOpts) {
		if got, ok := impl.CfgMeet(a, b); got != noOpts || ok {
			t.Fatalf("CfgMeet(%+v, %+v) = %+v, %v", a, b, got, ok)
		}
	}
	bad := badOpts()
	for _, a := range bad {
		for _, b := range fewOpts() {
			meetsNothing(a, b)
			meetsNothing(b, a)
		}
		for _, b := range bad {
			meetsNothing(a, b)
		}
	}
}

// Promise 22: CfgMeet of two that want one mode is ok, no more of anything than either wants, and of each as much as one of them does.
func TestPromise22TheLesser(t *testing.T) {
	list := wantedOpts()
	for _, a := range list {
		for _, b := range list {
			got, ok := impl.CfgMeet(a, b)
			if a.Mode != b.Mode {
				if ok || got != noOpts {
					t.Fatalf("two modes: CfgMeet(%+v, %+v) = %+v, %v", a, b, got, ok)
				}
				continue
			}
			if !ok || !impl.CfgOk(got) || !noMore(got, a) || !noMore(got, b) {
				t.Fatalf("CfgMeet(%+v, %+v) = %+v, %v", a, b, got, ok)
			}
			one, other := partsOf(a), partsOf(b)
			for i, n := range partsOf(got) {
				if n != one[i] && n != other[i] {
					t.Fatalf("CfgMeet(%+v, %+v) = %+v: what neither wants", a, b, got)
				}
			}
		}
	}
}

// Promise 22: the other way round it is the same; and of what they meet at and either it is that.
func TestPromise22TheOtherWayRound(t *testing.T) {
	list := append(wantedOpts(), badOpts()...)
	for _, a := range list {
		for _, b := range list {
			got, ok := impl.CfgMeet(a, b)
			if back, is := impl.CfgMeet(b, a); back != got || is != ok {
				t.Fatalf("CfgMeet(%+v, %+v) = %+v, %v, the other way round %+v, %v", a, b, got, ok, back, is)
			}
			if !ok {
				continue
			}
			for _, either := range []impl.CfgOpts{a, b} {
				if again, is := impl.CfgMeet(got, either); again != got || !is {
					t.Fatalf("CfgMeet of %+v, at which they meet, and %+v = %+v, %v", got, either, again, is)
				}
			}
		}
	}
}

// Promise 23: of what may be wanted, with 1 of each it may; with 0 of any it may not.
func TestPromise23WithLess(t *testing.T) {
	for _, c := range eachWanted() {
		if !impl.CfgOk(c) {
			t.Fatalf("CfgOk(%+v) is false", c)
		}
		least := impl.CfgOpts{Mode: c.Mode, Win: 1, Mps: 1, Mtu: 1, Try: 1}
		if !impl.CfgOk(least) {
			t.Fatalf("CfgOk(%+v) is false: 1 of each", least)
		}
		for part := range 5 {
			if one := optsWith(c, part, 1); !impl.CfgOk(one) {
				t.Fatalf("CfgOk(%+v) is false: 1 of one", one)
			}
			if none := optsWith(c, part, 0); impl.CfgOk(none) {
				t.Fatalf("CfgOk(%+v): 0 of one", none)
			}
		}
	}
}

// Promise 99: CfgMeet of what two meet at, and a third one wants, is that of the first, and what the others meet at, where all want one mode.
func TestPromise99ThreeMeet(t *testing.T) {
	list := wantedOpts()
	for _, a := range list {
		for _, b := range list {
			if a.Mode != b.Mode {
				continue
			}
			ab, _ := impl.CfgMeet(a, b)
			for _, c := range list {
				if c.Mode != a.Mode {
					continue
				}
				bc, _ := impl.CfgMeet(b, c)
				left, ok := impl.CfgMeet(ab, c)
				right, is := impl.CfgMeet(a, bc)
				if left != right || !ok || !is {
					t.Fatalf("%+v, %+v and %+v meet at %+v, %v, or at %+v, %v", a, b, c, left, ok, right, is)
				}
			}
		}
	}
}

// Promise 99: of one, and itself, CfgMeet is it.
func TestPromise99OneAndItself(t *testing.T) {
	for _, c := range eachWanted() {
		if got, ok := impl.CfgMeet(c, c); got != c || !ok {
			t.Fatalf("CfgMeet(%+v) of itself = %+v, %v", c, got, ok)
		}
	}
}

func TestNegNew(t *testing.T) {
	for _, c := range eachWanted() {
		if got := impl.NegNew(c); got != (impl.NegState{Own: c, Asks: c}) {
			t.Fatalf("NegNew(%+v) = %+v", c, got)
		}
	}
	for _, c := range badOpts() {
		if got := impl.NegNew(c); got != (impl.NegState{}) {
			t.Fatalf("NegNew(%+v) = %+v", c, got)
		}
	}
}

// Own, Asks, Mine and Yours each nothing, each something that may be wanted, each something that may not; Fails or not.
func TestNegOkOfEachPart(t *testing.T) {
	list := slices.Concat([]impl.CfgOpts{noOpts}, fewOpts()[3:7], someBadOpts())
	seen := map[bool]int{}
	for _, s := range statesOf(list, list, list, list) {
		want := agreesByWords(s)
		seen[want]++
		if got := impl.NegOk(s); got != want {
			t.Fatalf("NegOk(%+v) = %v", s, got)
		}
	}
	if seen[true] != 4*4*5*5*2 || seen[false] == 0 {
		t.Fatalf("ok or not: %v", seen)
	}
}

func TestNegOkKnown(t *testing.T) {
	c, other, bad := fewOpts()[3], fewOpts()[8], optsWith(fewOpts()[3], 4, 6)
	rows := []struct {
		s    impl.NegState
		want bool
	}{
		{impl.NegState{}, false},
		{impl.NegState{Own: c, Asks: c}, true},
		{impl.NegState{Own: c, Asks: other}, true},
		{impl.NegState{Own: c, Asks: c, Fails: true}, true},
		{impl.NegState{Own: c, Asks: c, Mine: c, Yours: other}, true},
		{impl.NegState{Own: c}, false},
		{impl.NegState{Asks: c}, false},
		{impl.NegState{Own: bad, Asks: c}, false},
		{impl.NegState{Own: c, Asks: bad}, false},
		{impl.NegState{Own: c, Asks: c, Mine: bad}, false},
		{impl.NegState{Own: c, Asks: c, Yours: bad}, false},
		{impl.NegState{Mine: c, Yours: c}, false},
		{impl.NegState{Fails: true}, false},
	}
	for _, r := range rows {
		if got := impl.NegOk(r.s); got != r.want {
			t.Errorf("NegOk(%+v) = %v", r.s, got)
		}
	}
}

func TestNegOkFarBeyond(t *testing.T) {
	c := fewOpts()[0]
	for _, bad := range badOpts() {
		states := []impl.NegState{{Own: bad, Asks: c}, {Own: c, Asks: bad}, {Own: c, Asks: c, Mine: bad}, {Own: c, Asks: c, Yours: bad}}
		for i, s := range states {
			if want := i >= 2 && bad == noOpts; impl.NegOk(s) != want {
				t.Fatalf("NegOk(%+v) = %v", s, !want)
			}
		}
	}
}

func TestNegSayKnown(t *testing.T) {
	c, less, bad := fewOpts()[0], fewOpts()[3], optsWith(fewOpts()[3], 1, 0)
	asks := impl.NegMsg{Kind: impl.NegAsk, Opts: less}
	rows := []struct {
		s    impl.NegState
		want impl.NegMsg
		ok   bool
	}{
		{impl.NegState{Own: c, Asks: less}, asks, true},
		{impl.NegState{Own: c, Asks: less, Yours: c}, asks, true},
		{impl.NegState{Own: c, Asks: less, Mine: less}, noSaid, false},
		{impl.NegState{Own: c, Asks: less, Mine: c}, noSaid, false},
		{impl.NegState{Own: c, Asks: less, Fails: true}, noSaid, false},
		{impl.NegState{Own: c, Asks: bad}, noSaid, false},
		{impl.NegState{Own: bad, Asks: less}, noSaid, false},
		{impl.NegState{Own: c, Asks: less, Mine: bad}, noSaid, false},
		{impl.NegState{Own: c, Asks: less, Yours: bad}, noSaid, false},
		{impl.NegState{}, noSaid, false},
	}
	for _, r := range rows {
		if got, ok := impl.NegSay(r.s); got != r.want || ok != r.ok {
			t.Errorf("NegSay(%+v) = %+v, %v", r.s, got, ok)
		}
	}
}

func TestNegSayOfWhatIsNotOk(t *testing.T) {
	for _, s := range badStates() {
		if agreesByWords(s) {
			t.Fatalf("%+v is ok", s)
		}
		if got, ok := impl.NegSay(s); got != noSaid || ok {
			t.Fatalf("NegSay(%+v) = %+v, %v", s, got, ok)
		}
	}
}

func TestNegHearKnown(t *testing.T) {
	own := impl.CfgOpts{Mode: 1, Win: 2, Mps: 8, Mtu: 24, Try: 3}
	less := impl.CfgOpts{Mode: 1, Win: 1, Mps: 8, Mtu: 20, Try: 3}
	more := impl.CfgOpts{Mode: 1, Win: 4, Mps: 3, Mtu: 20, Try: 3}
	meet := impl.CfgOpts{Mode: 1, Win: 2, Mps: 3, Mtu: 20, Try: 3}
	most := impl.CfgOpts{Mode: 1, Win: 3, Mps: 8, Mtu: 24, Try: 5}
	other := impl.CfgOpts{Mode: 2, Win: 1, Mps: 1, Mtu: 1, Try: 1}
	at := impl.NegState{Own: own, Asks: own}
	rows := []struct {
		s    impl.NegState
		m    impl.NegMsg
		next impl.NegState
		said impl.NegMsg
		says bool
	}{
		{at, impl.NegMsg{Kind: impl.NegAsk, Opts: less}, impl.NegState{Own: own, Asks: own, Yours: less}, impl.NegMsg{Kind: impl.NegYes, Opts: less}, true},
		{at, impl.NegMsg{Kind: impl.NegAsk, Opts: own}, impl.NegState{Own: own, Asks: own, Yours: own}, impl.NegMsg{Kind: impl.NegYes, Opts: own}, true},
		{at, impl.NegMsg{Kind: impl.NegAsk, Opts: more}, at, impl.NegMsg{Kind: impl.NegBut, Opts: meet}, true},
		{at, impl.NegMsg{Kind: impl.NegAsk, Opts: most}, at, impl.NegMsg{Kind: impl.NegBut, Opts: own}, true},
		{at, impl.NegMsg{Kind: impl.NegYes, Opts: own}, impl.NegState{Own: own, Asks: own, Mine: own}, noSaid, false},
		{at, impl.NegMsg{Kind: impl.NegYes, Opts: less}, at, noSaid, false},
		{at, impl.NegMsg{Kind: impl.NegBut, Opts: more}, impl.NegState{Own: own, Asks: meet}, noSaid, false},
		{at, impl.NegMsg{Kind: impl.NegBut, Opts: most}, at, noSaid, false},
		{impl.NegState{Own: own, Asks: meet, Yours: less}, impl.NegMsg{Kind: impl.NegAsk, Opts: most}, impl.NegState{Own: own, Asks: meet, Yours: less}, impl.NegMsg{Kind: impl.NegBut, Opts: own}, true},
		{impl.NegState{Own: own, Asks: meet, Yours: less}, impl.NegMsg{Kind: impl.NegAsk, Opts: meet}, impl.NegState{Own: own, Asks: meet, Yours: meet}, impl.NegMsg{Kind: impl.NegYes, Opts: meet}, true},
		{impl.NegState{Own: own, Asks: meet}, impl.NegMsg{Kind: impl.NegYes, Opts: own}, impl.NegState{Own: own, Asks: meet}, noSaid, false},
		{impl.NegState{Own: own, Asks: own, Mine: own}, impl.NegMsg{Kind: impl.NegBut, Opts: less}, impl.NegState{Own: own, Asks: own, Mine: own}, noSaid, false},
		{at, impl.NegMsg{Kind: impl.NegAsk, Opts: other}, impl.NegState{Own: own, Asks: own, Fails: true}, noSaid, false},
		{at, impl.NegMsg{Kind: impl.NegYes, Opts: other}, impl.NegState{Own: own, Asks: own, Fails: true}, noSaid, false},
		{at, impl.NegMsg{Kind: impl.NegBut, Opts: other}, impl.NegState{Own: own, Asks: own, Fails: true}, noSaid, false},
		{at, impl.NegMsg{Kind: 0, Opts: other}, impl.NegState{}, noSaid, false},
		{at, impl.NegMsg{Kind: 4, Opts: own}, impl.NegState{}, noSaid, false},
		{at, impl.NegMsg{Kind: -1, Opts: own}, impl.NegState{}, noSaid, false},
		{at, impl.NegMsg{Kind: impl.NegAsk}, impl.NegState{}, noSaid, false},
		{impl.NegState{}, impl.NegMsg{Kind: impl.NegAsk, Opts: own}, impl.NegState{}, noSaid, false},
	}
	for _, r := range rows {
		next, said, says := impl.NegHear(r.s, r.m)
		if next != r.next || said != r.said || says != r.says {
			t.Errorf("NegHear(%+v, %+v) = %+v, %+v, %v", r.s, r.m, next, said, says)
		}
	}
}

func TestNegHearOfEachStateAndSaid(t *testing.T) {
	heard := someSaid()
	for _, s := range okStates() {
		for _, m := range heard {
			wantHear(t, s, m)
		}
	}
}

// What one wants against all that may be said of it, at its beginning, and behind a yes of either.
func TestNegHearOfAllThatMayBeWanted(t *testing.T) {
	own := impl.CfgOpts{Mode: 1, Win: 3, Mps: 5, Mtu: 11, Try: 2}
	asks := impl.CfgOpts{Mode: 1, Win: 2, Mps: 5, Mtu: 9, Try: 2}
	states := statesOf([]impl.CfgOpts{own}, []impl.CfgOpts{own, asks}, []impl.CfgOpts{noOpts, own, asks}, []impl.CfgOpts{noOpts, asks})
	for _, c := range eachWanted() {
		for kind := 1; kind <= 3; kind++ {
			for _, s := range states {
				wantHear(t, s, impl.NegMsg{Kind: kind, Opts: c})
			}
		}
	}
}

// wantNothingHeard is that of what was said nothing is the answer.
func wantNothingHeard(t *testing.T, s impl.NegState, m impl.NegMsg) {
	t.Helper()
	if next, said, says := impl.NegHear(s, m); next != (impl.NegState{}) || said != noSaid || says {
		t.Fatalf("NegHear(%+v, %+v) = %+v, %+v, %v", s, m, next, said, says)
	}
}

// A Kind that is none is nothing, whatever the Opts: of another mode, too, where nobody comes to fail.
func TestNegHearOfNoKind(t *testing.T) {
	kinds := append(farNumbers(), 0, 4, 5, -3, 256+1, 256+2, 256+3, 1<<32+1)
	for _, kind := range kinds {
		for _, s := range okStates()[:3000] {
			wantNothingHeard(t, s, impl.NegMsg{Kind: kind, Opts: s.Asks})
		}
		for _, c := range append(fewOpts(), someBadOpts()...) {
			wantNothingHeard(t, impl.NegNew(fewOpts()[0]), impl.NegMsg{Kind: kind, Opts: c})
		}
	}
}

func TestNegHearOfWhatMayNotBeWanted(t *testing.T) {
	states := okStates()
	for i, bad := range append(badOpts(), noOpts) {
		for kind := 1; kind <= 3; kind++ {
			wantNothingHeard(t, states[i*37%len(states)], impl.NegMsg{Kind: kind, Opts: bad})
			wantNothingHeard(t, impl.NegNew(fewOpts()[0]), impl.NegMsg{Kind: kind, Opts: bad})
		}
	}
}

func TestNegHearOfWhatIsNotOk(t *testing.T) {
	for i, s := range badStates() {
		for kind := 0; kind <= 4; kind++ {
			wantNothingHeard(t, s, impl.NegMsg{Kind: kind, Opts: fewOpts()[i%len(fewOpts())]})
			wantNothingHeard(t, s, impl.NegMsg{Kind: kind, Opts: s.Own})
			wantNothingHeard(t, s, impl.NegMsg{Kind: kind, Opts: s.Asks})
		}
	}
}

// One that Fails already hears as any other one, and Fails on.
func TestNegHearOfOneThatFails(t *testing.T) {
	for _, s := range okStates() {
		if s.Fails {
			continue
		}
		failed := s
		failed.Fails = true
		for _, m := range someSaid() {
			next, said, says := impl.NegHear(s, m)
			next.Fails = true
			if got, back, is := impl.NegHear(failed, m); got != next || back != said || is != says {
				t.Fatalf("NegHear(%+v, %+v) = %+v, %+v, %v", failed, m, got, back, is)
			}
		}
	}
}

// Of NegYes and NegBut nothing is said, nor of another mode; of NegAsk, of one's own, something always is.
func TestNegHearSaysOfAskAlone(t *testing.T) {
	for _, s := range okStates() {
		for _, m := range someSaid() {
			_, said, says := impl.NegHear(s, m)
			want := m.Kind == impl.NegAsk && m.Opts.Mode == s.Own.Mode
			if says != want || !want && said != noSaid || want && said.Kind != impl.NegYes && said.Kind != impl.NegBut {
				t.Fatalf("NegHear(%+v, %+v) says %+v, %v", s, m, said, says)
			}
		}
	}
}

// The parts that a case does not name stay as they were.
func TestNegHearTurnsOnePartAtMost(t *testing.T) {
	turns := map[int]int{}
	for _, s := range okStates() {
		for _, m := range someSaid() {
			next, _, _ := impl.NegHear(s, m)
			want := s
			switch {
			case m.Opts.Mode != s.Own.Mode:
				want.Fails = true
			case m.Kind == impl.NegAsk:
				want.Yours = next.Yours
			case m.Kind == impl.NegYes:
				want.Mine = next.Mine
			case s.Mine == noOpts:
				want.Asks = next.Asks
			}
			if next != want {
				t.Fatalf("NegHear(%+v, %+v) = %+v: another part has turned", s, m, next)
			}
			if next != s {
				turns[m.Kind]++
			}
		}
	}
	if turns[1]*turns[2]*turns[3] == 0 {
		t.Fatalf("what has turned: %v", turns)
	}
}

// Who asks for another mode than it wants, which comes from no beginning, meets nobody behind NegBut, and asks on for it: so it is ok behind it (promise 24), and heard twice it is heard once (promise 73).
func TestNegHearButOfTwoModes(t *testing.T) {
	rows := 0
	for _, s := range okStates() {
		for _, c := range fewOpts() {
			if s.Asks.Mode == s.Own.Mode || c.Mode != s.Own.Mode {
				continue
			}
			rows++
			if next, said, says := impl.NegHear(s, impl.NegMsg{Kind: impl.NegBut, Opts: c}); next != s || said != noSaid || says {
				t.Fatalf("NegHear(%+v, NegBut of %+v) = %+v, %+v, %v", s, c, next, said, says)
			}
		}
	}
	if rows == 0 {
		t.Fatal("nobody asked for another mode than it wants")
	}
}

func TestNegDoneKnown(t *testing.T) {
	c, a, b, meet, other := fewOpts()[0], fewOpts()[1], fewOpts()[2], fewOpts()[3], fewOpts()[6]
	bad := optsWith(c, 3, 25)
	wantDone(t, impl.NegState{Own: c, Asks: c, Mine: a, Yours: a}, a, true)
	wantDone(t, impl.NegState{Own: c, Asks: c, Mine: a, Yours: b}, meet, true)
	wantDone(t, impl.NegState{Own: c, Asks: c, Mine: b, Yours: a}, meet, true)
	wantDone(t, impl.NegState{Own: c, Asks: a, Mine: c, Yours: meet}, meet, true)
	wantDone(t, impl.NegState{Own: meet, Asks: meet, Mine: c, Yours: c}, c, true)
	wantDone(t, impl.NegState{Own: c, Asks: c, Mine: other, Yours: other}, other, true)
	wantDone(t, impl.NegState{Own: c, Asks: c, Mine: a}, noOpts, false)
	wantDone(t, impl.NegState{Own: c, Asks: c, Yours: a}, noOpts, false)
	wantDone(t, impl.NegState{Own: c, Asks: c}, noOpts, false)
	wantDone(t, impl.NegState{Own: c, Asks: c, Mine: a, Yours: a, Fails: true}, noOpts, false)
	wantDone(t, impl.NegState{Own: bad, Asks: c, Mine: a, Yours: a}, noOpts, false)
	wantDone(t, impl.NegState{Own: c, Asks: bad, Mine: a, Yours: a}, noOpts, false)
	wantDone(t, impl.NegState{Own: c, Asks: c, Mine: bad, Yours: a}, noOpts, false)
	wantDone(t, impl.NegState{Own: c, Asks: c, Mine: a, Yours: bad}, noOpts, false)
	wantDone(t, impl.NegState{Mine: a, Yours: a}, noOpts, false)
	wantDone(t, impl.NegState{}, noOpts, false)
}

// Yeses of two modes, which come from no beginning, meet at nothing: nobody is done with that.
func TestNegDoneOfTwoModes(t *testing.T) {
	rows := 0
	for _, s := range okStates() {
		if s.Mine != noOpts && s.Yours != noOpts && s.Mine.Mode != s.Yours.Mode {
			rows++
			wantDone(t, s, noOpts, false)
		}
	}
	if rows == 0 {
		t.Fatal("nobody has yeses of two modes")
	}
}

func TestNegDoneOfWhatIsNotOk(t *testing.T) {
	for _, s := range badStates() {
		wantDone(t, s, noOpts, false)
	}
}

// Promise 24: behind NegHear one that agrees is ok, wants what it wanted, and asks for no more than it did.
func TestPromise24WhatTurns(t *testing.T) {
	for _, s := range okStates() {
		for _, m := range someSaid() {
			next, said, says := impl.NegHear(s, m)
			if !impl.NegOk(next) || next.Own != s.Own {
				t.Fatalf("NegHear(%+v, %+v) = %+v", s, m, next)
			}
			if !noMore(next.Asks, s.Asks) || next.Asks.Mode != s.Asks.Mode {
				t.Fatalf("NegHear(%+v, %+v) = %+v: asks for more", s, m, next)
			}
			if says && !impl.CfgOk(said.Opts) {
				t.Fatalf("NegHear(%+v, %+v) says %+v", s, m, said)
			}
		}
	}
}

// Promise 24: who is asked for no more than it wants says yes to it; for more it says what they meet at; of another mode nothing comes.
func TestPromise24WhatIsSaid(t *testing.T) {
	list := wantedOpts()
	for _, own := range list {
		for _, c := range list {
			s := impl.NegNew(own)
			next, said, says := impl.NegHear(s, impl.NegMsg{Kind: impl.NegAsk, Opts: c})
			meet, _ := impl.CfgMeet(own, c)
			switch {
			case c.Mode != own.Mode:
				if says || said != noSaid || !next.Fails || next.Yours != noOpts {
					t.Fatalf("%+v asked for %+v, of another mode: %+v, %+v, %v", own, c, next, said, says)
				}
			case noMore(c, own):
				if !says || said != (impl.NegMsg{Kind: impl.NegYes, Opts: c}) || next.Yours != c || next.Fails {
					t.Fatalf("%+v asked for %+v, no more: %+v, %+v, %v", own, c, next, said, says)
				}
			default:
				if !says || said != (impl.NegMsg{Kind: impl.NegBut, Opts: meet}) || next != s {
					t.Fatalf("%+v asked for %+v, more: %+v, %+v, %v", own, c, next, said, says)
				}
			}
		}
	}
}

// Promise 24: more of one thing alone is more.
func TestPromise24MoreOfOneThing(t *testing.T) {
	own := impl.CfgOpts{Mode: 2, Win: 2, Mps: 4, Mtu: 12, Try: 3}
	for part := 1; part < 5; part++ {
		for n := partsOf(own)[part] + 1; n <= optsMost[part]; n++ {
			c := optsWith(own, part, n)
			_, said, says := impl.NegHear(impl.NegNew(own), impl.NegMsg{Kind: impl.NegAsk, Opts: c})
			if !says || said != (impl.NegMsg{Kind: impl.NegBut, Opts: own}) {
				t.Errorf("%+v asked for %+v says %+v, %v", own, c, said, says)
			}
		}
	}
}

// Promise 25: NegSay of one that agrees is what it asks, as long as it has no yes, and it may come to something.
func TestPromise25WhoHasNoYesAsks(t *testing.T) {
	asked := 0
	for _, s := range okStates() {
		got, ok := impl.NegSay(s)
		if s.Mine != noOpts || s.Fails {
			if ok || got != noSaid {
				t.Fatalf("NegSay(%+v) = %+v, %v", s, got, ok)
			}
			continue
		}
		asked++
		if !ok || got != (impl.NegMsg{Kind: impl.NegAsk, Opts: s.Asks}) {
			t.Fatalf("NegSay(%+v) = %+v, %v", s, got, ok)
		}
	}
	if asked == 0 {
		t.Fatal("nobody asked")
	}
}

// Promise 25: NegNew asks for what it wants; of what may not be wanted nobody asks.
func TestPromise25NegNewAsks(t *testing.T) {
	for _, c := range eachWanted() {
		if got, ok := impl.NegSay(impl.NegNew(c)); !ok || got != (impl.NegMsg{Kind: impl.NegAsk, Opts: c}) {
			t.Fatalf("NegSay of NegNew(%+v) = %+v, %v", c, got, ok)
		}
	}
	for _, c := range badOpts() {
		if got, ok := impl.NegSay(impl.NegNew(c)); ok || got != noSaid {
			t.Fatalf("NegSay of NegNew(%+v) = %+v, %v", c, got, ok)
		}
	}
}

// Promise 26: NegDone of one that agrees is ok, if both said yes, and nothing has failed; and it is no more than either said yes to.
func TestPromise26WhoHasTwoYesesIsDone(t *testing.T) {
	seen := map[bool]int{}
	for _, s := range okStates() {
		got, ok := impl.NegDone(s)
		both := s.Mine != noOpts && s.Yours != noOpts
		want := both && !s.Fails && s.Mine.Mode == s.Yours.Mode
		seen[want]++
		if ok != want || !want && got != noOpts {
			t.Fatalf("NegDone(%+v) = %+v, %v", s, got, ok)
		}
		if !want {
			continue
		}
		meet, _ := impl.CfgMeet(s.Mine, s.Yours)
		if !impl.CfgOk(got) || !noMore(got, s.Mine) || !noMore(got, s.Yours) || got != meet {
			t.Fatalf("NegDone(%+v) = %+v", s, got)
		}
	}
	if seen[true] == 0 || seen[false] == 0 {
		t.Fatalf("done or not: %v", seen)
	}
}

// Promise 72: of who is ok with what it wants taken away it is not; with nothing said yes to it is.
func TestPromise72WhoAgreesWantsSomething(t *testing.T) {
	for _, s := range okStates() {
		if !impl.NegOk(s) {
			t.Fatalf("NegOk(%+v) is false", s)
		}
		wants, asks, mine, yours := s, s, s, s
		wants.Own, asks.Asks, mine.Mine, yours.Yours = noOpts, noOpts, noOpts, noOpts
		if impl.NegOk(wants) || impl.NegOk(asks) {
			t.Fatalf("%+v is ok with what it wants, or asks for, taken away", s)
		}
		if !impl.NegOk(mine) || !impl.NegOk(yours) {
			t.Fatalf("%+v is not ok without a yes", s)
		}
		mine.Yours = noOpts
		if !impl.NegOk(mine) {
			t.Fatalf("%+v is not ok without both yeses", s)
		}
	}
}

// Promise 73: the same said once more at once leaves one that agrees as it is, and is answered the same.
func TestPromise73HeardTwice(t *testing.T) {
	for _, s := range okStates() {
		for _, m := range someSaid() {
			once, said, says := impl.NegHear(s, m)
			twice, again, is := impl.NegHear(once, m)
			if twice != once || again != said || is != says {
				t.Fatalf("NegHear(%+v, %+v) = %+v, %+v, %v, once more %+v, %+v, %v", s, m, once, said, says, twice, again, is)
			}
		}
	}
}

// Promise 74: of two that want one mode, of which one wants no more of anything than the other one, that says yes to it at once; and else says what both meet at, to which it says yes.
func TestPromise74WhoWantsNoMore(t *testing.T) {
	list := wantedOpts()
	seen := map[bool]int{}
	for _, a := range list {
		for _, b := range list {
			if a.Mode != b.Mode {
				continue
			}
			x, y := impl.NegNew(a), impl.NegNew(b)
			asks, _ := impl.NegSay(x)
			y, said, _ := impl.NegHear(y, asks)
			seen[noMore(a, b)]++
			if noMore(a, b) {
				if said != (impl.NegMsg{Kind: impl.NegYes, Opts: a}) || y.Yours != a {
					t.Fatalf("%+v, which wants no more than %+v, hears %+v", a, b, said)
				}
				continue
			}
			meet, _ := impl.CfgMeet(a, b)
			if said != (impl.NegMsg{Kind: impl.NegBut, Opts: meet}) {
				t.Fatalf("%+v, which wants more than %+v, hears %+v", a, b, said)
			}
			x, _, _ = impl.NegHear(x, said)
			asks, _ = impl.NegSay(x)
			y, said, _ = impl.NegHear(y, asks)
			if said != (impl.NegMsg{Kind: impl.NegYes, Opts: meet}) || y.Yours != meet {
				t.Fatalf("%+v, told %+v by %+v, hears %+v", a, meet, b, said)
			}
		}
	}
	if seen[true] == 0 || seen[false] == 0 {
		t.Fatalf("no more, or more: %v", seen)
	}
}

// talk is two that agree, and what was said to each and may still come, once or more often.
type talk struct {
	ends [2]impl.NegState
	to   [2][]impl.NegMsg
}

func newTalk(a impl.CfgOpts, b impl.CfgOpts) talk {
	return talk{ends: [2]impl.NegState{impl.NegNew(a), impl.NegNew(b)}}
}

// say is the talk behind what one asks now: it may come to the other one.
func (k talk) say(who int) talk {
	if m, ok := impl.NegSay(k.ends[who]); ok {
		k.to[1-who] = append(slices.Clone(k.to[1-who]), m)
	}
	return k
}

// hear is the talk behind what comes to one, of what was said to it: that stays, as it may come once more.
func (k talk) hear(who int, m impl.NegMsg) talk {
	next, said, says := impl.NegHear(k.ends[who], m)
	k.ends[who] = next
	if says {
		k.to[1-who] = append(slices.Clone(k.to[1-who]), said)
	}
	return k
}

// drop is the talk without the at-th that may come to one.
func (k talk) drop(who int, at int) talk {
	k.to[who] = slices.Delete(slices.Clone(k.to[who]), at, at+1)
	return k
}

// saidBefore is the talk with each thing that may come no more than once, in one order: how often it may come makes no difference, where it stays.
func (k talk) saidBefore() talk {
	for who := range k.to {
		list := slices.Clone(k.to[who])
		slices.SortFunc(list, func(a, b impl.NegMsg) int {
			x, y := partsOf(a.Opts), partsOf(b.Opts)
			return slices.Compare(append([]int{a.Kind}, x[:]...), append([]int{b.Kind}, y[:]...))
		})
		k.to[who] = slices.Compact(list)
	}
	return k
}

// talkKey is a talk as a key of a map; no more than eight things are ever said to one.
type talkKey struct {
	ends [2]impl.NegState
	to   [2][8]impl.NegMsg
}

func (k talk) key(t *testing.T) talkKey {
	key := talkKey{ends: k.ends}
	for who := range k.to {
		if copy(key.to[who][:], k.to[who]) < len(k.to[who]) {
			t.Fatalf("%d things are said to one: %+v", len(k.to[who]), k.to[who])
		}
	}
	return key
}

// eachTalk is each talk of two that there is, from their beginning on, in whatever order they ask, and whatever of all that was said comes, as often and as late as may be. What is lost is what does not come.
func eachTalk(t *testing.T, a impl.CfgOpts, b impl.CfgOpts) []talk {
	list := []talk{newTalk(a, b)}
	seen := map[talkKey]bool{list[0].key(t): true}
	for at := 0; at < len(list); at++ {
		var next []talk
		for who := range 2 {
			next = append(next, list[at].say(who))
			for _, m := range list[at].to[who] {
				next = append(next, list[at].hear(who, m))
			}
		}
		for _, k := range next {
			k = k.saidBefore()
			if key := k.key(t); !seen[key] {
				seen[key] = true
				list = append(list, k)
			}
		}
	}
	return list
}

// twoWants is each way in which two may want: of each thing the first more, the second more, or both as much; in one mode, in the other one, and in two.
func twoWants() [][2]impl.CfgOpts {
	more, less := [5]int{1, 4, 7, 20, 5}, [5]int{1, 2, 3, 19, 1}
	var list [][2]impl.CfgOpts
	for how := range 81 {
		a, b := more, more
		for part, rest := 1, how; part < 5; part, rest = part+1, rest/3 {
			switch rest % 3 {
			case 1:
				a[part] = less[part]
			case 2:
				b[part] = less[part]
			}
		}
		for _, modes := range [][2]int{{1, 1}, {2, 2}, {1, 2}, {2, 1}} {
			a[0], b[0] = modes[0], modes[1]
			list = append(list, [2]impl.CfgOpts{optsOf(a), optsOf(b)})
		}
	}
	return list
}

// wantAgreed is promise 1 of a talk: whoever is done uses just what CfgMeet of what both want is.
func wantAgreed(t *testing.T, k talk, a impl.CfgOpts, b impl.CfgOpts) {
	t.Helper()
	meet, one := meetByWords(a, b)
	for who, s := range k.ends {
		if got, done := impl.NegDone(s); done && (!one || got != meet) {
			t.Fatalf("%+v and %+v: %d is done with %+v, want %+v, %v: %+v", a, b, who, got, meet, one, k)
		}
	}
}

// calm is a talk behind rounds in which each asks, and all comes, in order, with all that is said to it: in a round that does not come to its end no more than 1000 things do.
func (k talk) calm(rounds int, first int) talk {
	for range rounds {
		k = k.say(first).say(1 - first)
		for n := 0; n < 1000 && len(k.to[0])+len(k.to[1]) > 0; n++ {
			who := first
			if len(k.to[who]) == 0 {
				who = 1 - first
			}
			k = k.hear(who, k.to[who][0]).drop(who, 0)
		}
	}
	return k
}

// wantCalm is promise 2 of a talk: within six rounds both are done, if they want one mode; else one of both knows that nothing comes of it, and neither is done.
func wantCalm(t *testing.T, k talk, a impl.CfgOpts, b impl.CfgOpts) {
	t.Helper()
	meet, one := meetByWords(a, b)
	for first := range 2 {
		end := k.calm(6, first)
		x, doneX := impl.NegDone(end.ends[0])
		y, doneY := impl.NegDone(end.ends[1])
		fails := end.ends[0].Fails || end.ends[1].Fails
		if one && (!doneX || !doneY || x != meet || y != meet || fails) {
			t.Fatalf("%+v and %+v want one mode: %+v, behind it %+v", a, b, k, end)
		}
		if !one && (doneX || doneY || !fails) {
			t.Fatalf("%+v and %+v want two modes: %+v, behind it %+v", a, b, k, end)
		}
	}
}

// silent is the talk in which all that was said, and has not come, is lost.
func (k talk) silent() talk {
	k.to = [2][]impl.NegMsg{}
	return k
}

// Promise 1: of two who agree from their beginning on, whatever is lost, doubled or late: whoever is done uses just what CfgMeet of what both want is. Each talk that there is.
func TestPromise1WhoIsDoneIsAgreed(t *testing.T) {
	done := 0
	for _, two := range twoWants() {
		for _, k := range eachTalk(t, two[0], two[1]) {
			wantAgreed(t, k, two[0], two[1])
			x, doneX := impl.NegDone(k.ends[0])
			y, doneY := impl.NegDone(k.ends[1])
			if doneX && doneY {
				done++
				if x != y {
					t.Fatalf("both are done, with %+v and %+v: %+v", x, y, k)
				}
			}
		}
	}
	if done == 0 {
		t.Fatal("no two are done")
	}
}

// Promise 2: behind each talk that there is, what was said and has not come lost, or late, six calm rounds.
func TestPromise2TwoComeToAgree(t *testing.T) {
	for _, two := range twoWants() {
		for _, k := range eachTalk(t, two[0], two[1]) {
			wantCalm(t, k.silent(), two[0], two[1])
			wantCalm(t, k, two[0], two[1])
		}
	}
}

// Promises 1 and 2, of many who want whatever may be wanted, in long talks in which each thing said is kept, lost, or comes, and then stays or goes.
func TestPromise1And2InManyOrders(t *testing.T) {
	all := eachWanted()
	seed := uint32(1)
	upTo := func(n int) int {
		seed = seed*1664525 + 1013904223
		return int(seed>>8) % n
	}
	for range 20000 {
		a, b := all[upTo(len(all))], all[upTo(len(all))]
		k := newTalk(a, b)
		for range upTo(30) {
			who := upTo(2)
			if len(k.to[who]) == 0 || upTo(3) == 0 {
				k = k.say(who)
				continue
			}
			at := upTo(len(k.to[who]))
			how := upTo(4)
			if how > 0 {
				k = k.hear(who, k.to[who][at])
			}
			if how < 3 {
				k = k.drop(who, at)
			}
			wantAgreed(t, k, a, b)
		}
		wantCalm(t, k, a, b)
		wantCalm(t, k.silent(), a, b)
	}
}

// Each end, in each talk that there is, is ok, and hears what comes as the words say.
func TestNegHearInEachTalk(t *testing.T) {
	for _, two := range twoWants() {
		for _, k := range eachTalk(t, two[0], two[1]) {
			for who, s := range k.ends {
				if !impl.NegOk(s) || s.Own != two[who] {
					t.Fatalf("%+v is not ok, or wants another thing than %+v", s, two[who])
				}
				for _, m := range k.to[who] {
					wantHear(t, s, m)
				}
			}
		}
	}
}

func TestAgreeingKeepsNothingBetweenCalls(t *testing.T) {
	states, heard, bad := okStates(), someSaid(), badOpts()
	for i := range 20000 {
		s, m := states[i*37%len(states)], heard[i*11%len(heard)]
		impl.NegHear(states[i*53%len(states)], heard[i*5%len(heard)])
		impl.NegHear(s, impl.NegMsg{Kind: 4, Opts: m.Opts})
		impl.NegNew(bad[i%len(bad)])
		impl.CfgMeet(m.Opts, bad[i%len(bad)])
		impl.NegDone(states[i*29%len(states)])
		wantHear(t, s, m)
		want, is := meetByWords(s.Own, m.Opts)
		if got, ok := impl.CfgMeet(s.Own, m.Opts); got != want || ok != is {
			t.Fatalf("CfgMeet(%+v, %+v) = %+v, %v hangs on the calls ahead of it", s.Own, m.Opts, got, ok)
		}
	}
}
