package tests

import (
	"bytes"
	"fmt"
	"regexp"
	"slices"
	"strconv"
	"strings"
	"testing"

	"loop.example/linkboy/impl"
)

// hexByWords is chapter 10's words for HexText.
func hexByWords(list []byte) string {
	text := ""
	for _, b := range list {
		text += fmt.Sprintf("%02x", b)
	}
	return text
}

var hexShape = regexp.MustCompile(`\A(?:[0-9a-f][0-9a-f])*\z`)

// unhexByWords is chapter 10's words for HexRead.
func unhexByWords(s string) ([]byte, bool) {
	if !hexShape.MatchString(s) {
		return nil, false
	}
	var list []byte
	for ; s != ""; s = s[2:] {
		n, _ := strconv.ParseUint(s[:2], 16, 8)
		list = append(list, byte(n))
	}
	return list, true
}

// kindWords is the word of each Kind, from 1 on.
func kindWords() []string {
	return []string{"", "put", "send", "tick", "busy", "ack", "grant", "hear", "lose", "bend", "move", "inject"}
}

// textByWords is chapter 10's words for DskText.
func textByWords(e impl.EvEvent) string {
	if e.Kind < 1 || e.Kind > 11 || e.Who != 0 && e.Who != 1 {
		return ""
	}
	line := fmt.Sprintf("%s %d", kindWords()[e.Kind], e.Who)
	switch e.Kind {
	case 1, 11:
		if len(e.Data) > 24 {
			return ""
		}
		return line + " " + hexByWords(e.Data)
	case 4:
		if e.V == 1 {
			return line + " 1"
		}
		return line + " 0"
	case 9:
		if e.At < 0 || e.At > 99 || e.V < 1 || e.V > 255 {
			return ""
		}
		return fmt.Sprintf("%s %d %d", line, e.At, e.V)
	}
	return line
}

// The four shapes that lines have.
var lineShapes = []*regexp.Regexp{
	regexp.MustCompile(`\A(put|inject) ([01]) ((?:[0-9a-f][0-9a-f]){0,24})\z`),
	regexp.MustCompile(`\A(busy) ([01]) ([01])\z`),
	regexp.MustCompile(`\A(bend) ([01]) (0|[1-9][0-9]?) ([1-9][0-9]?|1[0-9][0-9]|2[0-4][0-9]|25[0-5])\z`),
	regexp.MustCompile(`\A(send|tick|ack|grant|hear|lose|move) ([01])\z`),
}

// eventByWords is chapter 10's words for DskEvent.
func eventByWords(line string) (impl.EvEvent, bool) {
	for shape, re := range lineShapes {
		m := re.FindStringSubmatch(line)
		if m == nil {
			continue
		}
		e := impl.EvEvent{Kind: slices.Index(kindWords(), m[1]), Who: int(m[2][0] - '0')}
		switch shape {
		case 0:
			e.Data, _ = unhexByWords(m[3])
		case 1:
			e.V = int(m[3][0] - '0')
		case 2:
			e.At, _ = strconv.Atoi(m[3])
			e.V, _ = strconv.Atoi(m[4])
		}
		return e, true
	}
	return impl.EvEvent{}, false
}

// boardByWords is chapter 10's words for DskBoard.
func boardByWords(w impl.WldWorld) []string {
	if !wldOkByWords(w) {
		return nil
	}
	list := []string{fmt.Sprintf("link %d", w.Link)}
	for _, e := range w.Ends {
		if e.Tx.Dead || e.Rx.Dead || e.Ctx.Dead || e.Crx.Dead {
			list = append(list, "end")
			break
		}
	}
	for who, e := range w.Ends {
		left := len(e.Tx.Flight) + len(e.Tx.Queue) + len(e.Ctx.Queue)
		list = append(list, fmt.Sprintf("end %d took %d left %d on its way %d", who, len(e.Put), left, len(w.Net[who])))
		for _, sdu := range e.Got {
			list = append(list, fmt.Sprintf("got %d %s", who, hexByWords(sdu)))
		}
	}
	return list
}

// deskByWords is chapter 10's words for DskRun.
func deskByWords(a impl.CfgOpts, b impl.CfgOpts, lines []string) []string {
	use, ok := meetByWords(a, b)
	if !ok {
		return []string{"apart"}
	}
	if len(lines) > 200 {
		return []string{"long"}
	}
	var list []string
	w := impl.WldNew(use)
	for i, line := range lines {
		if e, ok := eventByWords(line); ok {
			w = wldStepByWords(w, e)
		} else {
			list = append(list, fmt.Sprintf("line %d", i+1))
		}
	}
	return append(list, boardByWords(w)...)
}

func eventSame(a impl.EvEvent, b impl.EvEvent) bool {
	return a.Kind == b.Kind && a.Who == b.Who && a.At == b.At && a.V == b.V && bytes.Equal(a.Data, b.Data)
}

func wantHex(t *testing.T, list []byte, want string) {
	t.Helper()
	if got := impl.HexText(list); got != want {
		t.Fatalf("HexText(%v) = %q, want %q", list, got, want)
	}
}

// wantUnhex is HexRead held against the words.
func wantUnhex(t *testing.T, s string) ([]byte, bool) {
	t.Helper()
	got, ok := impl.HexRead(s)
	if want, is := unhexByWords(s); ok != is || !bytes.Equal(got, want) {
		t.Fatalf("HexRead(%q) = %v, %v, want %v, %v", s, got, ok, want, is)
	}
	return got, ok
}

func wantText(t *testing.T, e impl.EvEvent, want string) {
	t.Helper()
	if got := impl.DskText(e); got != want {
		t.Fatalf("DskText(%+v) = %q, want %q", e, got, want)
	}
}

// wantEvent is DskEvent held against the words.
func wantEvent(t *testing.T, line string) (impl.EvEvent, bool) {
	t.Helper()
	got, ok := impl.DskEvent(line)
	if want, is := eventByWords(line); ok != is || !eventSame(got, want) {
		t.Fatalf("DskEvent(%q) = %+v, %v, want %+v, %v", line, got, ok, want, is)
	}
	return got, ok
}

func wantNoEvent(t *testing.T, line string) {
	t.Helper()
	if got, ok := impl.DskEvent(line); ok || !eventSame(got, impl.EvEvent{}) {
		t.Fatalf("DskEvent(%q) = %+v, %v", line, got, ok)
	}
}

func wantBoard(t *testing.T, w impl.WldWorld, want ...string) {
	t.Helper()
	if got := impl.DskBoard(w); !slices.Equal(got, want) {
		t.Fatalf("DskBoard(%+v) = %q, want %q", w, got, want)
	}
}

func wantDesk(t *testing.T, a impl.CfgOpts, b impl.CfgOpts, lines []string, want ...string) {
	t.Helper()
	if got := impl.DskRun(a, b, lines); !slices.Equal(got, want) {
		t.Fatalf("DskRun(%+v, %+v, %q) = %q, want %q", a, b, lines, got, want)
	}
}

// deskEvents is what happens that has a line, or none: each Kind and one beyond on either side, each Who likewise, at the bounds of each part.
func deskEvents() []impl.EvEvent {
	var list []impl.EvEvent
	for kind := -1; kind <= 13; kind++ {
		for who := -2; who <= 3; who++ {
			for _, size := range []int{0, 1, 2, 15, 16, 23, 24, 25, 26, 48} {
				list = append(list, impl.EvEvent{Kind: kind, Who: who, Data: mixedBytes(uint32(size), size)})
			}
			for _, v := range []int{-255, -1, 0, 1, 2, 9, 10, 99, 100, 199, 200, 249, 250, 254, 255, 256, 257} {
				for _, at := range []int{-99, -1, 0, 1, 9, 10, 98, 99, 100, 101} {
					list = append(list, impl.EvEvent{Kind: kind, Who: who, At: at, V: v})
				}
			}
		}
		for _, n := range farNumbers() {
			list = append(list, impl.EvEvent{Kind: kind, Who: n}, impl.EvEvent{Kind: kind, At: n, V: 1}, impl.EvEvent{Kind: kind, V: n}, impl.EvEvent{Kind: n})
		}
	}
	return list
}

// deskLines is a line of each Kind and Who, at least, with parts at their bounds.
func deskLines() []string {
	var list []string
	for who := range 2 {
		for _, word := range []string{"send", "tick", "ack", "grant", "hear", "lose", "move"} {
			list = append(list, fmt.Sprintf("%s %d", word, who))
		}
		for _, word := range []string{"put", "inject"} {
			for _, data := range []string{"", "00", "ff", "68656c6c6f", strings.Repeat("9a", 24)} {
				list = append(list, fmt.Sprintf("%s %d %s", word, who, data))
			}
		}
		for _, rest := range []string{"busy %d 0", "busy %d 1", "bend %d 0 1", "bend %d 6 25", "bend %d 10 100", "bend %d 99 255"} {
			list = append(list, fmt.Sprintf(rest, who))
		}
	}
	return list
}

// nearLines is texts that are lines but for one byte: another one in its place, one more, one less, or two in each other's place.
func nearLines(line string) []string {
	var list []string
	for at := 0; at <= len(line); at++ {
		for b := range 256 {
			list = append(list, line[:at]+string([]byte{byte(b)})+line[at:])
			if at < len(line) {
				list = append(list, line[:at]+string([]byte{byte(b)})+line[at+1:])
			}
		}
		if at < len(line) {
			list = append(list, line[:at]+line[at+1:], line[:at], line[at:])
		}
		if at+1 < len(line) {
			list = append(list, line[:at]+string([]byte{line[at+1], line[at]})+line[at+2:])
		}
	}
	return list
}

// noLines is texts that are none.
func noLines() []string {
	return []string{
		"", " ", "  ", "\n", "\x00", "0", "1", "0 0", " 0", "-",
		"halt", "halt 0", "wait 0", "link 0", "end", "end 0", "line 1", "got 0 00", "pu 0 00", "puts 0 00", "sen 0", "sends 0", "send0", "send0 0", "injec 0 00", "injects 0 00",
		"Put 0 00", "PUT 0 00", "puT 0 00", "SEND 0", "Send 0", "MOVE 1", "Inject 0 00", "1 0", "2 0", "10 0", "EvSend 0",
		"put", "send", "tick", "busy", "ack", "grant", "hear", "lose", "bend", "move", "inject", "put ", "send ", "bend ", "inject ", "busy ",
		" send 0", "send 0 ", "send  0", "  send 0", "send 0  ", "send\t0", "send 0\n", "send 0\r", "\tsend 0", "send\u00a00", "send_0", "send,0", "send 0;",
		" put 0 00", "put  0 00", "put 0  00", "put 0 00 ", "put 0  ", " put 0 ", "put  0 ", " busy 0 1", "busy  0 1", "busy 0  1", "busy 0 1 ", " bend 0 0 1", "bend  0 0 1", "bend 0  0 1", "bend 0 0  1", "bend 0 0 1 ",
		"send 0 0", "send 0 1", "tick 0 00", "ack 1 1", "grant 0 6", "hear 1 0", "lose 0 0", "move 0 1", "move 1 0", "put 0 00 00", "put 0 00 0", "inject 0 00 ff", "busy 0 1 1", "bend 0 0 1 1", "send send 0", "send 0 send 0",
		"put 0", "put 1", "inject 0", "inject 1", "busy 0", "busy 1", "bend 0", "bend 0 0", "bend 0 0 ", "bend 0 1", "bend 1 99", "put 00", "put 68656c6c6f", "busy 0 ", "bend 0  1",
		"send 00", "send 01", "send 000", "send +0", "send +1", "send -0", "send -1", "send 2", "send 3", "send 10", "send 11", "send 0x0", "send 0.0", "send 1e0", "send one", "send a", "send 0_0",
		"put 2 00", "put -1 00", "put 01 00", "put +1 00", "inject 2 00", "inject 00 00", "inject -0 00",
		"busy 0 2", "busy 0 -1", "busy 0 00", "busy 0 01", "busy 0 +1", "busy 0 10", "busy 2 0", "busy 0 a", "busy 0 true", "busy 01 1",
		"bend 0 00 1", "bend 0 05 1", "bend 0 099 1", "bend 0 +5 1", "bend 0 -0 1", "bend 0 -1 1", "bend 0 100 1", "bend 0 101 1", "bend 0 999 1", "bend 0 a 1", "bend 0 1_0 1", "bend 0 0x1 1",
		"bend 0 0 0", "bend 0 0 00", "bend 0 0 01", "bend 0 0 +1", "bend 0 0 -1", "bend 0 0 -255", "bend 0 0 256", "bend 0 0 257", "bend 0 0 300", "bend 0 0 999", "bend 0 0 1000", "bend 0 0 ff", "bend 0 0 0255", "bend 2 0 1", "bend -1 0 1", "bend 00 0 1",
		"send 4294967296", "send 18446744073709551616", "send 18446744073709551617", "bend 0 18446744073709551616 1", "bend 0 0 18446744073709551617", "bend 0 0 4294967297", "busy 0 18446744073709551617",
		"send 99999999999999999999999999999999999999999999999999999999999999", "bend 0 0 -9223372036854775809", "bend 0 00000000000000000000000000000000000000001 1",
		"put 0 0", "put 0 a", "put 0 000", "put 0 68656c6c6", "put 0 0G", "put 0 G0", "put 0 0A", "put 0 A0", "put 0 FF", "put 0 fF", "put 0 0g", "put 0 g0", "put 0 6865zz6c6f", "put 0 68656c6c6F", "put 0 0x00", "put 0 -1", "put 0 +1", "put 0 \x00\x00", "put 0 \xff\xff", "put 0 é", "inject 0 0", "inject 0 0A", "inject 0 0g", "inject 1 F0",
		"put 0 " + strings.Repeat("00", 25), "inject 1 " + strings.Repeat("ff", 25), "put 0 " + strings.Repeat("0", 49), "put 0 " + strings.Repeat("0", 47),
	}
}

func TestDskConstants(t *testing.T) {
	if impl.DskMaxLines != 200 || impl.SduMax != 24 {
		t.Errorf("DskMaxLines %d, SduMax %d", impl.DskMaxLines, impl.SduMax)
	}
}

func TestHexTextKnown(t *testing.T) {
	wantHex(t, nil, "")
	wantHex(t, []byte{}, "")
	wantHex(t, []byte{0}, "00")
	wantHex(t, []byte{10}, "0a")
	wantHex(t, []byte{160}, "a0")
	wantHex(t, []byte{0x12}, "12")
	wantHex(t, []byte{255}, "ff")
	wantHex(t, []byte("hello"), "68656c6c6f")
	wantHex(t, []byte{0x01, 0x23, 0x45, 0x67, 0x89, 0xab, 0xcd, 0xef}, "0123456789abcdef")
	wantHex(t, make([]byte, 40), strings.Repeat("0", 80))
}

func TestHexTextOfEachByteAndOfMany(t *testing.T) {
	for b := range 256 {
		wantHex(t, []byte{byte(b)}, hexByWords([]byte{byte(b)}))
	}
	for _, list := range sampleLists() {
		// Beyond that writing the words' own text takes long.
		if len(list) < 5000 {
			wantHex(t, list, hexByWords(list))
		}
	}
	if got := impl.HexText(mixedBytes(1, 1<<20)); len(got) != 1<<21 || got[:40] != hexByWords(mixedBytes(1, 20)) {
		t.Errorf("HexText of many bytes has %d signs", len(got))
	}
}

func TestHexReadKnown(t *testing.T) {
	rows := map[string][]byte{"": nil, "00": {0}, "0a": {10}, "a0": {160}, "ff": {255}, "68656c6c6f": []byte("hello"), "0123456789abcdef": {0x01, 0x23, 0x45, 0x67, 0x89, 0xab, 0xcd, 0xef}}
	for s, want := range rows {
		if got, ok := impl.HexRead(s); !ok || !bytes.Equal(got, want) {
			t.Errorf("HexRead(%q) = %v, %v", s, got, ok)
		}
	}
	for _, s := range []string{"0", "a", "000", "0a0", "0A", "A0", "FF", "0g", "g0", "0x", "x0", " 0", "0 ", "00 ", " 00", "00 00", "-1", "+1", "0`", "0:", "0/", "0@", "G0", "é", "\x00\x00", "0\x00", "\xff0", "00\n"} {
		if got, ok := impl.HexRead(s); ok || len(got) != 0 {
			t.Errorf("HexRead(%q) = %v, %v", s, got, ok)
		}
	}
}

// Just 0 to 9 and a to f are signs, as the higher and as the lower one of two.
func TestHexReadOfEachSign(t *testing.T) {
	read := 0
	for high := range 256 {
		for low := range 256 {
			if _, ok := wantUnhex(t, string([]byte{byte(high), byte(low)})); ok {
				read++
			}
		}
		wantUnhex(t, string([]byte{byte(high)}))
	}
	if read != 256 {
		t.Errorf("%d texts of two signs are read", read)
	}
}

func TestHexReadOfOneSignThatIsNone(t *testing.T) {
	for _, size := range []int{2, 4, 6, 30, 48, 100} {
		text := impl.HexText(mixedBytes(uint32(size), size/2))
		if _, ok := wantUnhex(t, text); !ok {
			t.Fatalf("%q is not read", text)
		}
		for at := range size {
			for _, sign := range []byte{'g', 'A', 'F', ' ', 0, '`', ':', '/', '@', 128, 255, '\n', '-'} {
				s := text[:at] + string([]byte{sign}) + text[at+1:]
				if _, ok := wantUnhex(t, s); ok {
					t.Fatalf("%q is read", s)
				}
			}
			wantUnhex(t, text[:at])
			wantUnhex(t, text[at:])
		}
	}
}

// Promise 61: HexRead of HexText of bytes is them; what HexRead reads has that text; HexText is twice as long.
func TestPromise61BytesHaveTwoSignsEach(t *testing.T) {
	for _, list := range sampleLists() {
		text := impl.HexText(list)
		if got, ok := impl.HexRead(text); !ok || !bytes.Equal(got, list) || len(text) != 2*len(list) {
			t.Fatalf("of %d bytes HexText has %d signs, HexRead of it %d bytes, %v", len(list), len(text), len(got), ok)
		}
	}
	upTo := newUpTo(61)
	read := 0
	for range 20000 {
		text := make([]byte, upTo(9))
		for i := range text {
			text[i] = oneOf(upTo, []byte("00123456789abcdefabcdef9A")...)
		}
		if list, ok := impl.HexRead(string(text)); ok {
			read++
			if impl.HexText(list) != string(text) {
				t.Fatalf("HexRead(%q) = %v, that has another text", text, list)
			}
		}
	}
	if read < 1000 {
		t.Errorf("%d were read", read)
	}
}

// Promise 95: HexText of two lists of bytes is the same just if they are.
func TestPromise95BytesThatDifferHaveTextsThatDiffer(t *testing.T) {
	var lists [][]byte
	for _, list := range sampleLists() {
		if len(list) < 300 {
			lists = append(lists, list)
		}
	}
	for n := range 6 {
		lists = append(lists, sameBytes(n, 0), sameBytes(n, 16), sameBytes(n, 1), mixedBytes(3, n))
	}
	texts := map[string][]byte{}
	for _, list := range lists {
		text := impl.HexText(list)
		if was, ok := texts[text]; ok && !bytes.Equal(was, list) {
			t.Fatalf("%v and %v have one text", was, list)
		}
		if impl.HexText(bytes.Clone(list)) != text {
			t.Fatalf("%v has two texts", list)
		}
		texts[text] = list
		for at := range list {
			if other := impl.HexText(turned(list, at, byte(1+at%255))); other == text {
				t.Fatalf("%v, turned at %d, has the same text", list, at)
			}
		}
	}
	seen := map[string]int{}
	for n := range 65536 {
		seen[impl.HexText([]byte{byte(n >> 8), byte(n)})]++
	}
	if len(seen) != 65536 {
		t.Errorf("two bytes have %d texts", len(seen))
	}
}

func TestDskTextKnown(t *testing.T) {
	rows := []struct {
		e    impl.EvEvent
		want string
	}{
		{impl.EvEvent{Kind: impl.EvPut, Who: 0, Data: []byte("hello")}, "put 0 68656c6c6f"},
		{impl.EvEvent{Kind: impl.EvPut, Who: 1, Data: []byte{0, 255}}, "put 1 00ff"},
		{impl.EvEvent{Kind: impl.EvPut, Who: 1}, "put 1 "},
		{impl.EvEvent{Kind: impl.EvPut, Data: []byte{}}, "put 0 "},
		{impl.EvEvent{Kind: impl.EvPut, Data: sameBytes(24, 0x5a)}, "put 0 " + strings.Repeat("5a", 24)},
		{impl.EvEvent{Kind: impl.EvPut, Data: sameBytes(25, 0x5a)}, ""},
		{impl.EvEvent{Kind: impl.EvSend, Who: 1}, "send 1"},
		{impl.EvEvent{Kind: impl.EvTick}, "tick 0"},
		{impl.EvEvent{Kind: impl.EvBusy, V: 1}, "busy 0 1"},
		{impl.EvEvent{Kind: impl.EvBusy, Who: 1, V: 0}, "busy 1 0"},
		{impl.EvEvent{Kind: impl.EvBusy, V: 2}, "busy 0 0"},
		{impl.EvEvent{Kind: impl.EvBusy, V: -1}, "busy 0 0"},
		{impl.EvEvent{Kind: impl.EvAck, Who: 1}, "ack 1"},
		{impl.EvEvent{Kind: impl.EvGrant}, "grant 0"},
		{impl.EvEvent{Kind: impl.EvHear, Who: 1}, "hear 1"},
		{impl.EvEvent{Kind: impl.EvLose}, "lose 0"},
		{impl.EvEvent{Kind: impl.EvBend, Who: 1, At: 6, V: 1}, "bend 1 6 1"},
		{impl.EvEvent{Kind: impl.EvBend, At: 0, V: 255}, "bend 0 0 255"},
		{impl.EvEvent{Kind: impl.EvBend, At: 99, V: 10}, "bend 0 99 10"},
		{impl.EvEvent{Kind: impl.EvBend, At: 100, V: 1}, ""},
		{impl.EvEvent{Kind: impl.EvBend, At: -1, V: 1}, ""},
		{impl.EvEvent{Kind: impl.EvBend, At: 1, V: 0}, ""},
		{impl.EvEvent{Kind: impl.EvBend, At: 1, V: 256}, ""},
		{impl.EvEvent{Kind: impl.EvMove}, "move 0"},
		{impl.EvEvent{Kind: impl.EvMove, Who: 1}, "move 1"},
		{impl.EvEvent{Kind: impl.EvMove, Who: 2}, ""},
		{impl.EvEvent{Kind: impl.EvMove, Who: -1}, ""},
		{impl.EvEvent{Kind: impl.EvInject, Who: 1, Data: []byte{1, 0x10}}, "inject 1 0110"},
		{impl.EvEvent{Kind: impl.EvInject, Data: sameBytes(24, 1)}, "inject 0 " + strings.Repeat("01", 24)},
		{impl.EvEvent{Kind: impl.EvInject, Data: sameBytes(25, 1)}, ""},
		{impl.EvEvent{Kind: impl.EvInject}, "inject 0 "},
		{impl.EvEvent{}, ""},
		{impl.EvEvent{Kind: -1}, ""},
		{impl.EvEvent{Kind: 12}, ""},
	}
	for _, r := range rows {
		wantText(t, r.e, r.want)
	}
}

func TestDskTextByWords(t *testing.T) {
	for _, e := range deskEvents() {
		wantText(t, e, textByWords(e))
	}
}

// What a Kind does not use makes no difference.
func TestDskTextOfPartsThatAKindDoesNotUse(t *testing.T) {
	long := sameBytes(1000, 7)
	for who := range 2 {
		for _, n := range append(farNumbers(), 0, 1, 2, 99, 100) {
			for _, kind := range []int{impl.EvSend, impl.EvTick, impl.EvAck, impl.EvGrant, impl.EvHear, impl.EvLose, impl.EvMove} {
				wantText(t, impl.EvEvent{Kind: kind, Who: who, At: n, V: n, Data: long}, textByWords(impl.EvEvent{Kind: kind, Who: who}))
			}
			for _, kind := range []int{impl.EvPut, impl.EvInject} {
				wantText(t, impl.EvEvent{Kind: kind, Who: who, At: n, V: n, Data: []byte{9}}, textByWords(impl.EvEvent{Kind: kind, Who: who, Data: []byte{9}}))
			}
			for _, v := range []int{0, 1} {
				wantText(t, impl.EvEvent{Kind: impl.EvBusy, Who: who, At: n, V: v, Data: long}, textByWords(impl.EvEvent{Kind: impl.EvBusy, Who: who, V: v}))
			}
		}
		wantText(t, impl.EvEvent{Kind: impl.EvBend, Who: who, At: 99, V: 255, Data: long}, fmt.Sprintf("bend %d 99 255", who))
	}
}

func TestDskEventOfEachText(t *testing.T) {
	lines := 0
	for _, e := range deskEvents() {
		line := textByWords(e)
		if line == "" {
			continue
		}
		got, ok := wantEvent(t, line)
		if !ok || got.Kind != e.Kind || got.Who != e.Who {
			t.Fatalf("DskEvent(%q) = %+v, %v", line, got, ok)
		}
		lines++
	}
	for _, line := range deskLines() {
		if _, ok := wantEvent(t, line); !ok {
			t.Fatalf("%q is no line", line)
		}
	}
	if lines < 1000 {
		t.Errorf("%d have a line", lines)
	}
}

// What happens has nothing but what its line says.
func TestDskEventHasNothingElse(t *testing.T) {
	rows := map[string]impl.EvEvent{
		"put 0 ":           {Kind: impl.EvPut},
		"put 1 68656c6c6f": {Kind: impl.EvPut, Who: 1, Data: []byte("hello")},
		"send 0":           {Kind: impl.EvSend},
		"tick 1":           {Kind: impl.EvTick, Who: 1},
		"busy 1 0":         {Kind: impl.EvBusy, Who: 1},
		"busy 0 1":         {Kind: impl.EvBusy, V: 1},
		"ack 1":            {Kind: impl.EvAck, Who: 1},
		"grant 0":          {Kind: impl.EvGrant},
		"hear 1":           {Kind: impl.EvHear, Who: 1},
		"lose 0":           {Kind: impl.EvLose},
		"bend 1 0 255":     {Kind: impl.EvBend, Who: 1, V: 255},
		"bend 0 99 1":      {Kind: impl.EvBend, At: 99, V: 1},
		"move 1":           {Kind: impl.EvMove, Who: 1},
		"inject 0 00":      {Kind: impl.EvInject, Data: []byte{0}},
		"inject 1 ":        {Kind: impl.EvInject, Who: 1},
	}
	for line, want := range rows {
		if got, ok := impl.DskEvent(line); !ok || !eventSame(got, want) {
			t.Errorf("DskEvent(%q) = %+v, %v", line, got, ok)
		}
	}
}

func TestDskEventOfTextsThatAreNone(t *testing.T) {
	for _, line := range noLines() {
		wantNoEvent(t, line)
		if _, ok := eventByWords(line); ok {
			t.Fatalf("%q is one", line)
		}
	}
}

// A text of 70 bytes, and of one more; the longest line has 57.
func TestDskEventOfLongTexts(t *testing.T) {
	if e, ok := wantEvent(t, "inject 1 "+strings.Repeat("3c", 24)); !ok || len(e.Data) != 24 {
		t.Errorf("the longest line: %+v, %v", e, ok)
	}
	for size := 55; size <= 75; size++ {
		for _, begin := range []string{"put 0 ", "inject 0 ", "send 0", "send 0 ", "bend 0 0 1", "bend 0 0 1 ", "", "busy 0 "} {
			for _, fill := range []string{"0", "a", " ", "x", "\x00", "\xff"} {
				line := begin + strings.Repeat(fill, size-len(begin))
				if _, ok := wantEvent(t, line); ok && size > 57 {
					t.Fatalf("%q is one", line)
				}
			}
		}
	}
	for _, size := range []int{70, 71, 72, 1000, 1 << 20} {
		wantNoEvent(t, "put 0 "+strings.Repeat("0", size-6))
		wantNoEvent(t, "send "+strings.Repeat("0", size-5))
		wantNoEvent(t, strings.Repeat("send 0 ", size/7+1))
		wantNoEvent(t, strings.Repeat(" ", size))
	}
}

// Of texts that are lines but for one byte just those are read that are lines again; none with a byte beyond 127, or the byte 0.
func TestDskEventOfTextsNearToLines(t *testing.T) {
	read, none := 0, 0
	for _, line := range deskLines() {
		for _, near := range nearLines(line) {
			_, ok := wantEvent(t, near)
			if ok {
				read++
			} else {
				none++
			}
			odd := strings.ContainsFunc(near, func(r rune) bool { return r == 0 || r > 127 })
			if ok && odd {
				t.Fatalf("%q is one", near)
			}
		}
	}
	if read < 1000 || none < 1000 {
		t.Errorf("%d are read, %d are not", read, none)
	}
}

// Promise 62: DskEvent of DskText, where that is one of at most 70 bytes, has that line; and what DskEvent reads has it.
func TestPromise62WhatHappensHasALine(t *testing.T) {
	for _, e := range deskEvents() {
		line := impl.DskText(e)
		if len(line) > 57 {
			t.Fatalf("DskText(%+v) has %d bytes", e, len(line))
		}
		got, ok := impl.DskEvent(line)
		if ok != (line != "") || impl.DskText(got) != line {
			t.Fatalf("DskEvent(%q) = %+v, %v, of %+v", line, got, ok, e)
		}
	}
	read := 0
	look := func(line string) {
		if e, ok := impl.DskEvent(line); ok {
			read++
			wantText(t, e, line)
		}
	}
	for _, line := range deskLines() {
		look(line)
		for _, near := range nearLines(line) {
			look(near)
		}
	}
	upTo := newUpTo(62)
	for range 10000 {
		look(mixedLine(upTo))
	}
	if read < 10000 {
		t.Errorf("%d were read", read)
	}
}

// mixedLine is one of many lines.
func mixedLine(upTo func(n int) int) string {
	e := impl.EvEvent{Kind: 1 + upTo(11), Who: upTo(2), At: upTo(100), V: upTo(2)}
	switch e.Kind {
	case impl.EvPut, impl.EvInject:
		e.Data = mixedBytes(uint32(upTo(1000)), upTo(25))
	case impl.EvBend:
		e.V = 1 + upTo(255)
	}
	return textByWords(e)
}

// eventKey is what happens, so that it may be a map's key.
type eventKey struct {
	kind, who, at, v int
	data             string
}

// Promise 96: DskEvent of two lines that are ones, and differ, are two.
func TestPromise96LinesThatDifferSayTwoThings(t *testing.T) {
	lines := deskLines()
	for who := range 2 {
		for at := range 100 {
			for v := 1; v <= 255; v++ {
				lines = append(lines, fmt.Sprintf("bend %d %d %d", who, at, v))
			}
		}
		for b := range 256 {
			for _, word := range []string{"put", "inject"} {
				lines = append(lines, fmt.Sprintf("%s %d %02x", word, who, b), fmt.Sprintf("%s %d %02x00", word, who, b), fmt.Sprintf("%s %d 00%02x", word, who, b))
			}
		}
	}
	for _, line := range deskLines() {
		lines = append(lines, nearLines(line)...)
	}
	upTo := newUpTo(96)
	for range 20000 {
		lines = append(lines, mixedLine(upTo))
	}
	said := map[eventKey]string{}
	for _, line := range lines {
		e, ok := impl.DskEvent(line)
		if !ok {
			continue
		}
		key := eventKey{e.Kind, e.Who, e.At, e.V, string(e.Data)}
		if was, ok := said[key]; ok && was != line {
			t.Fatalf("%q and %q both say %+v", was, line, e)
		}
		said[key] = line
	}
	if len(said) < 50000 {
		t.Errorf("%d lines", len(said))
	}
}

func TestDskBoardOfWldNew(t *testing.T) {
	for _, c := range eachWanted() {
		wantBoard(t, impl.WldNew(c), "link 0", "end 0 took 0 left 0 on its way 0", "end 1 took 0 left 0 on its way 0")
	}
	for _, c := range []impl.CfgOpts{numOpts(), crdOpts()} {
		moved := impl.WldStep(impl.WldNew(c), impl.EvEvent{Kind: impl.EvMove})
		wantBoard(t, moved, "link 1", "end 0 took 0 left 0 on its way 0", "end 1 took 0 left 0 on its way 0")
		wantBoard(t, impl.WldStep(moved, impl.EvEvent{Kind: impl.EvMove, Who: 1}), "link 0", "end 0 took 0 left 0 on its way 0", "end 1 took 0 left 0 on its way 0")
	}
}

func TestDskBoardOfWhatIsNotOk(t *testing.T) {
	wantBoard(t, impl.WldWorld{})
	for _, w := range badWorlds() {
		wantBoard(t, w)
	}
	for _, c := range badOpts() {
		wantBoard(t, impl.WldNew(c))
	}
}

// One at its end: each of the four parts of either end, and all of them, tell it once.
func TestDskBoardOfOneAtItsEnd(t *testing.T) {
	turns := []func(e *impl.WldEnd){
		func(e *impl.WldEnd) { e.Tx.Dead = true }, func(e *impl.WldEnd) { e.Rx.Dead = true },
		func(e *impl.WldEnd) { e.Ctx.Dead = true }, func(e *impl.WldEnd) { e.Crx.Dead = true },
		func(e *impl.WldEnd) { e.Tx.Dead, e.Rx.Dead, e.Ctx.Dead, e.Crx.Dead = true, true, true, true },
	}
	for _, c := range wldOpts() {
		for _, end := range turns {
			for who := range 2 {
				w := wldWith(impl.WldNew(c), func(w *impl.WldWorld) { end(&w.Ends[who]) })
				wantBoard(t, w, "link 0", "end", "end 0 took 0 left 0 on its way 0", "end 1 took 0 left 0 on its way 0")
			}
			w := wldWith(impl.WldNew(c), func(w *impl.WldWorld) { end(&w.Ends[0]); end(&w.Ends[1]); w.Link = 1 })
			wantBoard(t, w, "link 1", "end", "end 0 took 0 left 0 on its way 0", "end 1 took 0 left 0 on its way 0")
		}
	}
}

// Messages that are taken, wait, and are on their way; and frames on their way to either.
func TestDskBoardOfWhatIsLeft(t *testing.T) {
	w := wantRun(t, impl.WldNew(numOpts()), []impl.EvEvent{
		{Kind: impl.EvPut, Data: []byte("hello")}, {Kind: impl.EvPut, Data: []byte("a")}, {Kind: impl.EvPut, Who: 1, Data: []byte("abc")},
		{Kind: impl.EvSend}, {Kind: impl.EvSend}, {Kind: impl.EvSend, Who: 1},
	})
	wantBoard(t, w, "link 0", "end 0 took 2 left 4 on its way 1", "end 1 took 1 left 2 on its way 2")
	w = wantRun(t, w, []impl.EvEvent{hears(1), hears(1), {Kind: impl.EvAck, Who: 1}, hears(0), hears(0)})
	wantBoard(t, w, "link 0", "end 0 took 2 left 2 on its way 0", "end 1 took 1 left 2 on its way 0")
	w = wantRun(t, impl.WldNew(crdOpts()), []impl.EvEvent{
		{Kind: impl.EvPut, Data: []byte("hello")}, {Kind: impl.EvPut, Who: 1, Data: []byte("abc")}, {Kind: impl.EvPut, Who: 1, Data: []byte("d")},
		{Kind: impl.EvSend}, {Kind: impl.EvGrant, Who: 1}, hears(0), {Kind: impl.EvSend}, {Kind: impl.EvGrant},
	})
	wantBoard(t, w, "link 0", "end 0 took 1 left 2 on its way 0", "end 1 took 2 left 3 on its way 2")
	// What waits by numbers, what is on its way, and what waits for credits, all count, and of either end just its own.
	for _, c := range wldOpts() {
		w := wldWith(impl.WldNew(c), func(w *impl.WldWorld) {
			w.Ends[0].Tx, w.Ends[0].Ctx = txOf(c, 3, 1, 5), crdTxOf(c, 20, 10, 24)
			w.Ends[1].Tx = txOf(c, 0, 1, 24)
			w.Ends[0].Put, w.Ends[1].Put = make([][]byte, 60), make([][]byte, 3)
			w.Net[0], w.Net[1] = make([]impl.NetMsg, 30), make([]impl.NetMsg, 7)
		})
		wantBoard(t, w, "link 0", "end 0 took 60 left 30 on its way 30", "end 1 took 3 left 25 on its way 7")
	}
}

// Messages that came to either, one of no bytes too, in the order in which they came, behind the line of the end to which they came.
func TestDskBoardOfWhatCame(t *testing.T) {
	for _, c := range wldOpts() {
		w := wldWith(impl.WldNew(c), func(w *impl.WldWorld) {
			w.Ends[0].Got = [][]byte{{0xff}, {}, {1, 2}}
			w.Ends[1].Got = [][]byte{nil, sameBytes(24, 0xc3)}
		})
		wantBoard(t, w, "link 0", "end 0 took 0 left 0 on its way 0", "got 0 ff", "got 0 ", "got 0 0102",
			"end 1 took 0 left 0 on its way 0", "got 1 ", "got 1 "+strings.Repeat("c3", 24))
	}
}

func TestDskBoardOfSomeWorlds(t *testing.T) {
	for _, w := range someWorlds(60) {
		wantBoard(t, w, boardByWords(w)...)
	}
	for _, mode := range modes() {
		eachEnd(mode, anyKinds(), 100, func(k *way) { wantBoard(t, k.world, boardByWords(k.world)...) })
	}
}

// Promise 63: DskBoard has a line for the link, one if one is at its end, one for each end, and one for each message that came; of what is not ok none.
func TestPromise63ABoardTellsWhatCame(t *testing.T) {
	ended, came := 0, 0
	look := func(w impl.WldWorld) {
		t.Helper()
		words := map[string]int{}
		board := impl.DskBoard(w)
		for _, line := range board {
			word, _, _ := strings.Cut(line, " ")
			if line == "end" {
				word = "at its end"
			}
			words[word]++
		}
		want := map[string]int{"link": 1, "end": 2, "got": len(w.Ends[0].Got) + len(w.Ends[1].Got), "at its end": 0}
		if impl.WldDead(w) {
			want["at its end"] = 1
			ended++
		}
		for word, n := range want {
			if words[word] != n {
				t.Fatalf("of %+v the board has %d lines for %s, want %d: %q", w, words[word], word, n, board)
			}
		}
		if len(board) != 3+want["got"]+want["at its end"] {
			t.Fatalf("of %+v the board has other lines: %q", w, board)
		}
		for who, e := range w.Ends {
			for _, sdu := range e.Got {
				if !slices.Contains(board, fmt.Sprintf("got %d %s", who, impl.HexText(sdu))) {
					t.Fatalf("of %+v the board does not tell %v: %q", w, sdu, board)
				}
				came++
			}
		}
	}
	for _, w := range someWorlds(40) {
		look(w)
	}
	for _, mode := range modes() {
		eachEnd(mode, anyKinds(), 150, func(k *way) { look(k.world) })
	}
	for _, w := range badWorlds() {
		if board := impl.DskBoard(w); len(board) != 0 {
			t.Fatalf("of %+v the board is %q", w, board)
		}
	}
	if ended == 0 || came == 0 {
		t.Errorf("%d were at their end, %d messages came", ended, came)
	}
}

// exampleWants is what the two of the document's example want, exampleLines its lines.
func exampleWants() (impl.CfgOpts, impl.CfgOpts) {
	return impl.CfgOpts{Mode: impl.ModeNum, Win: 4, Mps: 2, Mtu: 20, Try: 3}, impl.CfgOpts{Mode: impl.ModeNum, Win: 3, Mps: 5, Mtu: 24, Try: 2}
}

func exampleLines() []string {
	return []string{
		"put 0 68656c6c6f", "send 0", "send 0", "send 0", "lose 1", "hear 1", "hear 1", "hear 0", "send 0", "bend 1 6 1", "hear 1", "move 0",
		"tick 0", "hear 1", "hear 0", "send 0", "send 0", "send 0", "hear 1", "hear 1", "hear 1", "ack 1", "hear 0",
	}
}

func TestDskRunOfTheExample(t *testing.T) {
	a, b := exampleWants()
	lines := exampleLines()
	wantDesk(t, a, b, lines, "link 1", "end 0 took 1 left 0 on its way 0", "end 1 took 0 left 0 on its way 0", "got 1 68656c6c6f")
	for n := range lines {
		wantDesk(t, a, b, lines[:n], deskByWords(a, b, lines[:n])...)
		without := slices.Concat(lines[:n], lines[n+1:])
		wantDesk(t, a, b, without, deskByWords(a, b, without)...)
	}
}

func TestDskRunForCredits(t *testing.T) {
	c := crdOpts()
	lines := []string{"put 0 686921", "send 0", "grant 1", "hear 0", "send 0", "send 0", "send 0"}
	wantDesk(t, c, c, lines, "link 0", "end 0 took 1 left 0 on its way 0", "end 1 took 0 left 0 on its way 2")
	lines = append(lines, "hear 1", "hear 1")
	wantDesk(t, c, c, lines, "link 0", "end 0 took 1 left 0 on its way 0", "end 1 took 0 left 0 on its way 0", "got 1 686921")
	// By numbers the same lines end nothing, and grant nothing.
	wantDesk(t, numOpts(), numOpts(), lines, "link 0", "end 0 took 1 left 2 on its way 0", "end 1 took 0 left 0 on its way 0", "got 1 686921")
	// A piece for which there is no credit ends who hears it.
	piece := "inject 1 " + hexByWords(bytesOf(costs(impl.SegPart{Len: 1, Data: []byte{7}})))
	wantDesk(t, c, c, []string{piece, "hear 1"}, "link 0", "end", "end 0 took 0 left 0 on its way 0", "end 1 took 0 left 0 on its way 0")
}

// A message of no bytes comes in either mode.
func TestDskRunOfAMessageOfNoBytes(t *testing.T) {
	lines := []string{"put 0 ", "put 0 61", "put 0 ", "grant 1", "hear 0", "send 0", "send 0", "send 0", "hear 1", "hear 1", "hear 1"}
	for _, c := range []impl.CfgOpts{numOpts(), crdOpts()} {
		left := 0
		if c.Mode == impl.ModeNum {
			left = 3
		}
		wantDesk(t, c, c, lines, "link 0", fmt.Sprintf("end 0 took 3 left %d on its way 0", left), "end 1 took 0 left 0 on its way 0", "got 1 ", "got 1 61", "got 1 ")
	}
}

// Two that do not agree: with lines and without, with too many too.
func TestDskRunOfTwoThatDoNotAgree(t *testing.T) {
	ones := [][]string{nil, {}, exampleLines(), {"halt"}, {""}, slices.Repeat([]string{"move 0"}, 200), slices.Repeat([]string{"move 0"}, 201), slices.Repeat([]string{"halt"}, 201)}
	for _, lines := range ones {
		wantDesk(t, numOpts(), crdOpts(), lines, "apart")
		wantDesk(t, crdOpts(), numOpts(), lines, "apart")
		wantDesk(t, impl.CfgOpts{}, impl.CfgOpts{}, lines, "apart")
	}
	for _, c := range badOpts() {
		wantDesk(t, c, c, nil, "apart")
		for _, good := range fewOpts() {
			wantDesk(t, c, good, []string{"send 0"}, "apart")
			wantDesk(t, good, c, []string{"send 0"}, "apart")
		}
	}
}

func TestDskRunOfManyLines(t *testing.T) {
	for _, c := range []impl.CfgOpts{numOpts(), crdOpts()} {
		for n := 190; n <= 210; n++ {
			moves := slices.Repeat([]string{"move 1"}, n)
			if n > 200 {
				wantDesk(t, c, c, moves, "long")
				wantDesk(t, c, c, slices.Repeat([]string{""}, n), "long")
				continue
			}
			wantDesk(t, c, c, moves, fmt.Sprintf("link %d", n%2), "end 0 took 0 left 0 on its way 0", "end 1 took 0 left 0 on its way 0")
			var want []string
			for k := 1; k <= n; k++ {
				want = append(want, "line "+strconv.Itoa(k))
			}
			want = append(want, "link 0", "end 0 took 0 left 0 on its way 0", "end 1 took 0 left 0 on its way 0")
			wantDesk(t, c, c, slices.Repeat([]string{"halt"}, n), want...)
		}
		wantDesk(t, c, c, make([]string, 10000), "long")
		// All of 200 lines happen, the last one too.
		lines := append(slices.Repeat([]string{"tick 0"}, 199), "put 1 00")
		wantDesk(t, c, c, lines, "link 0", "end 0 took 0 left 0 on its way 0", "end 1 took 1 left 1 on its way 0")
	}
}

func TestDskRunOfNoLines(t *testing.T) {
	for _, c := range eachWanted() {
		for _, lines := range [][]string{nil, {}} {
			wantDesk(t, c, c, lines, "link 0", "end 0 took 0 left 0 on its way 0", "end 1 took 0 left 0 on its way 0")
		}
	}
}

// Lines that are none, at the beginning, in the middle, at the end: each is told, lines count from 1, and all others happen.
func TestDskRunOfLinesThatAreNone(t *testing.T) {
	c := numOpts()
	came := []string{"link 0", "end 0 took 1 left 1 on its way 0", "end 1 took 0 left 0 on its way 0", "got 1 6869"}
	rows := []struct {
		lines []string
		nones []string
	}{
		{[]string{"put 0 6869", "send 0", "hear 1"}, nil},
		{[]string{"halt", "put 0 6869", "send 0", "hear 1"}, []string{"line 1"}},
		{[]string{"put 0 6869", "send 00", "send 0", "hear 1"}, []string{"line 2"}},
		{[]string{"put 0 6869", "send 0", "hear 1", ""}, []string{"line 4"}},
		{[]string{"", "put 0 6869", " send 0", "send 0", "SEND 0", "hear 1", "hear 2"}, []string{"line 1", "line 3", "line 5", "line 7"}},
		{[]string{"put 0", "put 0 6869", "send 0", "x", "x", "hear 1"}, []string{"line 1", "line 4", "line 5"}},
	}
	for _, r := range rows {
		wantDesk(t, c, c, r.lines, slices.Concat(r.nones, came)...)
	}
	wantDesk(t, c, c, []string{"halt"}, "line 1", "link 0", "end 0 took 0 left 0 on its way 0", "end 1 took 0 left 0 on its way 0")
	for _, none := range noLines() {
		wantDesk(t, c, c, []string{"put 0 6869", none, "send 0", "hear 1"}, slices.Concat([]string{"line 2"}, came)...)
	}
}

// meeting is two that want what meets at that, and mostly more of this or that.
func meeting(c impl.CfgOpts, upTo func(n int) int) (impl.CfgOpts, impl.CfgOpts) {
	a, b := c, c
	for part := 1; part < 5; part++ {
		least := partsOf(c)[part]
		more := least + upTo(optsMost[part]-least+1)
		if upTo(2) == 0 {
			a = optsWith(a, part, more)
		} else {
			b = optsWith(b, part, more)
		}
	}
	return a, b
}

// deskWay is lines of a way from WldNew on, in which some are none, and where it ends.
func deskWay(seed int, mode int) (impl.WldWorld, []string, []string) {
	k := newWay(uint32(seed), mode, anyKinds())
	var lines, nones []string
	none := oneOf(k.upTo, 0, 2, 10, 40)
	long := k.upTo(201)
	for len(lines) < long {
		if none > 0 && k.upTo(none) == 0 {
			lines = append(lines, oneOf(k.upTo, noLines()...))
			nones = append(nones, fmt.Sprintf("line %d", len(lines)))
			continue
		}
		e := k.event()
		line := textByWords(e)
		if line == "" {
			continue
		}
		k.world = impl.WldStep(k.world, e)
		lines = append(lines, line)
	}
	return k.world, lines, nones
}

// Promise 64: if all lines are ones DskRun is DskBoard of the world behind them; each other one has a line ahead of that; where two do not agree it tells that alone.
func TestPromise64ARunByLines(t *testing.T) {
	came, ended, all := 0, 0, 0
	for seed := range 400 {
		for _, mode := range modes() {
			w, lines, nones := deskWay(seed, mode)
			a, b := meeting(w.Cfg, newUpTo(uint32(seed)))
			wantDesk(t, a, b, lines, slices.Concat(nones, impl.DskBoard(w))...)
			wantDesk(t, a, optsWith(b, 0, 3-mode), lines, "apart")
			came += len(w.Ends[0].Got) + len(w.Ends[1].Got)
			if impl.WldDead(w) {
				ended++
			}
			if len(nones) == 0 {
				all++
			}
		}
	}
	if came == 0 || ended == 0 || all == 0 {
		t.Errorf("%d messages came, %d were at their end, %d had no line that is none", came, ended, all)
	}
}

func TestDskRunByWords(t *testing.T) {
	wants := fewOpts()
	for seed := range 300 {
		_, lines, _ := deskWay(seed, modes()[seed%2])
		a, b := wants[seed%9], wants[seed/9%9]
		wantDesk(t, a, b, lines, deskByWords(a, b, lines)...)
	}
}

// Promise 97: DskRun of what two want is the same whichever of both is told first.
func TestPromise97WhoAgreesBothWaysRunsTheSame(t *testing.T) {
	wants := append(fewOpts(), someBadOpts()...)
	_, lines, _ := deskWay(97, impl.ModeNum)
	for _, lines := range [][]string{lines, nil, exampleLines(), slices.Repeat([]string{"move 0"}, 201)} {
		for _, a := range wants {
			for _, b := range wants {
				wantDesk(t, b, a, lines, impl.DskRun(a, b, lines)...)
			}
		}
	}
	for seed := range 200 {
		w, lines, _ := deskWay(seed, modes()[seed%2])
		a, b := meeting(w.Cfg, newUpTo(uint32(seed)))
		wantDesk(t, b, a, lines, impl.DskRun(a, b, lines)...)
	}
}

// Promise 98: DskRun of what two want is that of what both agree on, twice.
func TestPromise98WhatBothAgreeOnIsAllThatCounts(t *testing.T) {
	wants := append(fewOpts(), someBadOpts()...)
	_, lines, _ := deskWay(98, impl.ModeNum)
	for _, lines := range [][]string{lines, nil, exampleLines(), slices.Repeat([]string{"move 0"}, 201)} {
		for _, a := range wants {
			for _, b := range wants {
				meet, _ := impl.CfgMeet(a, b)
				wantDesk(t, a, b, lines, impl.DskRun(meet, meet, lines)...)
			}
		}
	}
	differ := 0
	for seed := range 200 {
		w, lines, _ := deskWay(seed, modes()[seed%2])
		a, b := meeting(w.Cfg, newUpTo(uint32(seed)))
		run := impl.DskRun(a, b, lines)
		wantDesk(t, w.Cfg, w.Cfg, lines, run...)
		if !slices.Equal(run, impl.DskRun(a, a, lines)) || !slices.Equal(run, impl.DskRun(b, b, lines)) {
			differ++
		}
	}
	if differ == 0 {
		t.Error("what each wants by itself ran the same everywhere")
	}
}

// What is handed in stays as it was, and what is answered is not turned when that is turned.
func TestHexSharesNothing(t *testing.T) {
	for _, list := range sampleLists() {
		if len(list) > 300 {
			continue
		}
		inside, all := inRoom(list)
		before := bytes.Clone(all)
		text := impl.HexText(inside)
		if !bytes.Equal(all, before) {
			t.Fatalf("HexText(%v) has written into its argument, or behind its end", list)
		}
		scribble(all)
		wantHex(t, list, text)
		if text != hexByWords(list) {
			t.Fatalf("HexText(%v) turns with its argument", list)
		}
		one, _ := impl.HexRead(text)
		two, _ := impl.HexRead(text)
		wantApart(t, "HexRead", []span{spanOf(one), spanOf(two)})
		scribble(one)
		if !bytes.Equal(two, list) || text != hexByWords(list) {
			t.Fatalf("HexRead(%q) turns with another answer", text)
		}
		if again, ok := impl.HexRead(text); !ok || !bytes.Equal(again, list) {
			t.Fatalf("HexRead(%q) keeps what was answered", text)
		}
	}
}

func TestDskTextAndDskEventShareNothing(t *testing.T) {
	for _, e := range deskEvents() {
		inside, all := inRoom(e.Data)
		before := bytes.Clone(all)
		in := e
		in.Data = inside
		line := impl.DskText(in)
		if !bytes.Equal(all, before) {
			t.Fatalf("DskText(%+v) has written into its argument, or behind its end", e)
		}
		scribble(all)
		if line != textByWords(e) {
			t.Fatalf("DskText(%+v) turns with its argument", e)
		}
		one, _ := impl.DskEvent(line)
		two, _ := impl.DskEvent(line)
		wantApart(t, "DskEvent", []span{spanOf(one.Data), spanOf(two.Data)})
		scribble(one.Data)
		wantEvent(t, line)
		if want, _ := eventByWords(line); !eventSame(two, want) {
			t.Fatalf("DskEvent(%q) turns with another answer", line)
		}
	}
}

// wantOwnLines is an answer of lines: nothing is written into what is handed in, or behind its end, the answer shares none of it, and does not turn with it.
func wantOwnLines(t *testing.T, what string, m *memory, call func() []string, want []string) {
	t.Helper()
	before := m.show()
	one, two := call(), call()
	if m.show() != before {
		t.Fatalf("%s: something was written into an argument, or behind its end", what)
	}
	wantApart(t, what, slices.Concat(m.spans, []span{spanOf(one), spanOf(two)}))
	for _, turn := range m.turns {
		turn()
	}
	for i := range two[:cap(two)] {
		two[:cap(two)][i] = "turned"
	}
	if !slices.Equal(one, want) {
		t.Fatalf("%s turns with what was handed in, or another answer: %q, want %q", what, one, want)
	}
}

func TestDskBoardSharesNothing(t *testing.T) {
	for _, w := range append(someWorlds(10), badWorlds()...) {
		m := &memory{}
		in := m.world(w)
		wantOwnLines(t, "DskBoard", m, func() []string { return impl.DskBoard(in) }, boardByWords(w))
	}
}

func TestDskRunSharesNothing(t *testing.T) {
	look := func(a impl.CfgOpts, b impl.CfgOpts, lines []string) {
		t.Helper()
		m := &memory{}
		in := layOut(m, lines, "move 0")
		wantOwnLines(t, "DskRun", m, func() []string { return impl.DskRun(a, b, in) }, deskByWords(a, b, lines))
	}
	for seed := range 60 {
		w, lines, _ := deskWay(seed, modes()[seed%2])
		look(w.Cfg, w.Cfg, lines)
		look(numOpts(), crdOpts(), lines)
	}
	look(numOpts(), numOpts(), nil)
	look(numOpts(), numOpts(), slices.Repeat([]string{"send 0"}, 201))
	look(numOpts(), numOpts(), slices.Repeat([]string{"halt"}, 200))
}

func TestLinesKeepNothingBetweenCalls(t *testing.T) {
	upTo := newUpTo(24)
	nones, worlds := noLines(), someWorlds(10)
	for i := range 3000 {
		impl.DskEvent(mixedLine(upTo))
		impl.DskEvent(nones[i%len(nones)])
		impl.HexRead(nones[i*7%len(nones)])
		impl.DskText(impl.EvEvent{Kind: upTo(14) - 1, Who: upTo(4) - 1, Data: mixedBytes(uint32(i), upTo(30))})
		impl.DskBoard(worlds[upTo(len(worlds))])
		line := mixedLine(upTo)
		if e, ok := wantEvent(t, line); !ok {
			t.Fatalf("%q is no line", line)
		} else {
			wantText(t, e, line)
		}
		wantUnhex(t, impl.HexText(mixedBytes(uint32(i), upTo(30))))
		w := worlds[i%len(worlds)]
		wantBoard(t, w, boardByWords(w)...)
		if i%30 == 0 {
			a, b := exampleWants()
			impl.DskRun(a, a, nones[:40])
			wantDesk(t, a, b, exampleLines(), "link 1", "end 0 took 1 left 0 on its way 0", "end 1 took 0 left 0 on its way 0", "got 1 68656c6c6f")
		}
	}
}
