package tests

import (
	"slices"
	"strings"
	"testing"

	"loop.example/g00480/impl"
)

// shortSigns lists the bytes that tell something apart within few of them.
var shortSigns = []string{"\x00", "\x01", "\x02", "\x03", "a", "\x10", "\x20", "\x30", "\x40", "\x62", "\x90", "\xc0", "\xe0", "\x80", "\xff"}

// readWhole reads all bytes at once, other than the program does.
func readWhole(s string) ([]impl.Packet, impl.Buf) {
	var list []impl.Packet
	for s != "" {
		p, n, code := readGet(s)
		switch code {
		case impl.GoBad:
			return list, badBuf
		case impl.GoWait:
			return list, holding(s)
		}
		list, s = append(list, p), s[n:]
	}
	return list, impl.Buf{}
}

// bytesOfEach lays pieces over memory of their own.
func bytesOfEach(pieces []string) [][]byte {
	var out [][]byte
	for _, s := range pieces {
		out = append(out, []byte(s))
	}
	return out
}

// wantFedAll asks for all that FeedAll answers.
func wantFedAll(t *testing.T, x impl.Buf, pieces []string, list []impl.Packet, want impl.Buf) {
	t.Helper()
	got, came := impl.FeedAll(x, bytesOfEach(pieces))
	if string(got.Held) != string(want.Held) || got.Bad != want.Bad || !slices.EqualFunc(came, list, alike) {
		t.Fatalf("FeedAll of %.90q and %v, %.90q: %.90q, %v, %d packets, not %.90q, %v, %d", x.Held, x.Bad, pieces, got.Held, got.Bad, len(came), want.Held, want.Bad, len(list))
	}
}

// A stream is bytes, and what is read of all of them at once.
type stream struct {
	s    string
	list []impl.Packet
	want impl.Buf
}

func streamOf(s string) stream {
	list, want := readWhole(s)
	return stream{s, list, want}
}

// check holds promise 7: these pieces are the stream's packets, and leave the same.
func (x stream) check(t *testing.T, pieces ...string) {
	t.Helper()
	wantFedAll(t, impl.Buf{}, pieces, x.list, x.want)
}

// checkTwo cuts the stream at a place, with empty pieces ahead, between and behind.
func (x stream) checkTwo(t *testing.T, at int) {
	t.Helper()
	a, b := x.s[:at], x.s[at:]
	x.check(t, a, b)
	x.check(t, "", a, b)
	x.check(t, a, "", b)
	x.check(t, a, b, "")
	x.check(t, "", "", a, "", "", b, "", "")
}

func (x stream) checkThree(t *testing.T, first, second int) {
	t.Helper()
	a, b, c := x.s[:first], x.s[first:second], x.s[second:]
	x.check(t, a, b, c)
	x.check(t, "", a, "", b, "", c, "")
}

// checkEach lays the bytes in pieces of one length, and holds what came after each of them against what was there by then.
func (x stream) checkEach(t *testing.T, size int) {
	t.Helper()
	var buf impl.Buf
	var all []impl.Packet
	var pieces []string
	for at := 0; at < len(x.s); at += size {
		end := min(at+size, len(x.s))
		next, came := impl.Feed(buf, []byte(x.s[at:end]))
		all, pieces, buf = append(all, came...), append(pieces, x.s[at:end]), next
		list, want := readWhole(x.s[:end])
		if string(buf.Held) != string(want.Held) || buf.Bad != want.Bad || !slices.EqualFunc(all, list, alike) || !impl.BufOk(buf) {
			t.Fatalf("%.90q in pieces of %d, up to %d: %.90q, %v, %d packets, not %.90q, %v, %d", x.s, size, end, buf.Held, buf.Bad, len(all), want.Held, want.Bad, len(list))
		}
	}
	x.check(t, pieces...)
}

// longPacket's length is of two bytes.
func longPacket() (impl.Packet, string) {
	p := impl.Packet{Type: impl.Unsubscribe, Id: 9, Names: []string{longText(60), longText(58) + "/#", "a"}}
	return p, bytesOf(p)
}

// mixedBytes is a word of many kinds, one of them with a length of two bytes, one behind the other.
func mixedBytes() string {
	_, long := longPacket()
	return "\xc0\x00" + "\x32\x06\x00\x01a\x00\x05x" + "\x62\x02\x00\x07" + "\x10\x0e\x00\x04MQTT\x04\x02\x00\x0a\x00\x02ab" + long + "\x82\x06\x00\x01\x00\x01+\x01" + "\x31\x04\x00\x01a\xc0" + "\xe0\x00"
}

// streams lists bytes that end as a packet does, that end within one, and that become none.
func streams() []stream {
	_, long := longPacket()
	s := mixedBytes()
	ends := []string{
		"", "\x30", "\x30\x03", "\x30\x03\x00", "\x82\x80", "\x82\x81\x01", long[:1], long[:2], long[:3], long[:4], "\x10\xff\xff\xff",
		"\x00", "\xff\xc0\x00", "\xc0\x80\x00\xc0\x00", "\xc0\x80\x80\x00\xc0\x00", "\x30\x80\x80\x80\x00\xc0\x00", "\x30\x80\x80\x80\x80\x01\xc0\x00", "\x30\xd5\x02\xc0\x00",
		"\x30\xff\xff\xff\x7f\xc0\x00", "\x40\x02\x00\x00\xc0\x00", "\x30\x03\x00\x01+\xc0\x00",
	}
	var out []stream
	for _, end := range ends {
		out = append(out, streamOf(s+end))
	}
	return out
}

func TestStreamsAreOfAllEnds(t *testing.T) {
	seen := [3]int{}
	_, long := longPacket()
	if len(long) < 130 || long[1]&0x80 == 0 {
		t.Errorf("%q", long[:3])
	}
	for _, x := range streams() {
		if len(x.list) != 8 {
			t.Errorf("%q: %d packets", x.s, len(x.list))
		}
		switch {
		case x.want.Bad:
			seen[impl.GoBad]++
		case len(x.want.Held) > 0:
			seen[impl.GoWait]++
		default:
			seen[impl.GoGood]++
		}
	}
	if slices.Contains(seen[:], 0) {
		t.Error(seen)
	}
}

func TestPiecesAtOnce(t *testing.T) {
	for _, x := range streams() {
		x.check(t, x.s)
		x.check(t, "", x.s)
		x.check(t, x.s, "")
		x.check(t, "", "", x.s, "", "")
	}
}

func TestPiecesOfEachLength(t *testing.T) {
	for _, x := range streams() {
		for size := 1; size <= len(x.s); size++ {
			x.checkEach(t, size)
		}
	}
}

// Byte by byte, with an empty piece ahead of each.
func TestPiecesWithEmptyOnesBetween(t *testing.T) {
	for _, x := range streams() {
		x.check(t, strings.Split(x.s, "")...)
		var pieces []string
		for at := range len(x.s) {
			pieces = append(pieces, "", x.s[at:at+1])
		}
		x.check(t, append(pieces, "")...)
	}
}

func TestTwoPiecesAtEveryPlace(t *testing.T) {
	for _, x := range streams() {
		for at := range len(x.s) + 1 {
			x.checkTwo(t, at)
		}
	}
}

func TestThreePiecesAtEveryTwoPlaces(t *testing.T) {
	for _, end := range []string{"", "\x30\x80", "\x30\xff\xff\xff\x7f\xc0\x00"} {
		x := streamOf(mixedBytes() + end)
		for second := range len(x.s) + 1 {
			for first := range second + 1 {
				x.checkThree(t, first, second)
			}
		}
	}
}

// All right packets, in two pieces at every place and byte by byte.
func TestAllRightPacketsInPieces(t *testing.T) {
	list, s, _ := allRight()
	x := streamOf(s)
	if !slices.EqualFunc(x.list, list, alike) || len(x.want.Held) != 0 || x.want.Bad {
		t.Fatal("not all are read")
	}
	for at := range len(s) + 1 {
		x.checkTwo(t, at)
	}
	for size := range 20 {
		x.checkEach(t, size+1)
	}
}

// Every two right packets, the first one cut at every place, and the second one too.
func TestEveryTwoPacketsInThreePieces(t *testing.T) {
	for _, a := range rightPackets {
		for _, b := range rightPackets {
			x := stream{a.want + b.want, []impl.Packet{a.p, b.p}, impl.Buf{}}
			for first := range len(a.want) + 1 {
				for second := range len(b.want) + 1 {
					x.check(t, x.s[:first], x.s[first:len(a.want)+second], x.s[len(a.want)+second:])
				}
			}
		}
	}
}

// Lengths of one byte to four, and what is none of them: each ends a piece wherever it may, behind a packet and ahead of one.
func TestPiecesThatEndWithinALength(t *testing.T) {
	_, long := longPacket()
	lengths := slices.Concat(cutLengths, wrongLengths, []string{"\x00", "\x02", "\x7f", "\x80\x01", "\xd4\x02", "\xd5\x02", "\xff\x7f", "\x80\x80\x01", "\xff\xff\x7f", "\x80\x80\x80\x01", "\xff\xff\xff\x7f"})
	for i := range len(rightFirst) {
		first := rightFirst[i : i+1]
		for _, length := range lengths {
			for _, tail := range []string{"", "\xc0", "\xc0\x00", long} {
				ahead := len("\xd0\x00" + first)
				x := streamOf("\xd0\x00" + first + length + tail)
				for second := range len(length) + 1 {
					for first := range second + 1 {
						x.check(t, x.s[:ahead+first], x.s[ahead+first:ahead+second], x.s[ahead+second:])
						x.check(t, x.s[:ahead-1], x.s[ahead-1:ahead+first], "", x.s[ahead+first:ahead+second], x.s[ahead+second:])
					}
				}
			}
		}
	}
}

// The longest that is waited for: one byte more is none.
func TestPiecesUpToMaxPacket(t *testing.T) {
	head := "\x30\xd4\x02"
	x := streamOf(head + strings.Repeat("x", 340))
	if !x.want.Bad {
		t.Fatal("340 bytes are a packet")
	}
	for _, size := range []int{1, 2, 3, 100, 339, 340, 342, 343} {
		x.checkEach(t, size)
		streamOf(x.s[:len(x.s)-1]).checkEach(t, size)
	}
	wantFedAll(t, impl.Buf{}, strings.Split(x.s[:len(x.s)-1], ""), nil, holding(x.s[:len(x.s)-1]))
	wantFedAll(t, impl.Buf{}, strings.Split(x.s, ""), nil, badBuf)
	wantFedAll(t, impl.Buf{}, []string{"\x30\xd5", "\x02"}, nil, badBuf)
}

// everyCut calls each with every way to cut s into pieces that are not empty.
func everyCut(s string, each func(pieces []string)) {
	if s == "" {
		each(nil)
		return
	}
	for cuts := range 1 << (len(s) - 1) {
		var pieces []string
		from := 0
		for at := 1; at <= len(s); at++ {
			if at == len(s) || cuts>>(at-1)&1 == 1 {
				pieces, from = append(pieces, s[from:at]), at
			}
		}
		each(pieces)
	}
}

// All short bytes, in all pieces.
func TestAllShortBytesInAllPieces(t *testing.T) {
	seen := map[bool]int{}
	allTexts(shortSigns, 4, func(s string) {
		x := streamOf(s)
		seen[x.want.Bad]++
		everyCut(s, func(pieces []string) { x.check(t, pieces...) })
	})
	if seen[true] == 0 || seen[false] == 0 {
		t.Error(seen)
	}
}

// Short packets one behind the other, in all pieces.
func TestShortPacketsInAllPieces(t *testing.T) {
	for _, s := range []string{"\xc0\x00\x30\x03\x00\x01a\x40\x02\x00\x01", "\x30\x05\x00\x01a\xc0\x00\xd0\x00\xe0", "\x40\x02\x00\x01\x20\x02\x00\x05\xc0\x80\x00\xc0"} {
		x := streamOf(s)
		everyCut(s, func(pieces []string) { x.check(t, pieces...) })
	}
}

// Every byte of all of them turned into telling ones: what it becomes comes of all pieces alike.
func TestTurnedBytesInPieces(t *testing.T) {
	s := mixedBytes()
	for at := range len(s) {
		for _, to := range tellingBytes {
			x := streamOf(s[:at] + string([]byte{to}) + s[at+1:])
			x.check(t, x.s)
			x.check(t, strings.Split(x.s, "")...)
			x.check(t, x.s[:at], x.s[at:])
			x.check(t, x.s[:at+1], x.s[at+1:])
		}
	}
}

// What is held ahead counts as a piece of its own.
func TestPiecesBehindWhatIsHeld(t *testing.T) {
	s := mixedBytes()
	for _, c := range rightPackets {
		x := streamOf(c.want + s)
		for at := range len(c.want) {
			wantFedAll(t, holding(c.want[:at]), []string{c.want[at:], s}, x.list, x.want)
			wantFedAll(t, holding(c.want[:at]), []string{c.want[at:] + s[:3], s[3:50], s[50:]}, x.list, x.want)
		}
	}
}

func TestNoPieces(t *testing.T) {
	for _, x := range slices.Concat(wrongBufs(), []impl.Buf{{}, badBuf, holding("\x30"), holding("\x30\x80"), holding("\x30\x03\x00")}) {
		wantFedAll(t, x, nil, nil, x)
		wantFedAll(t, x, []string{""}, nil, x)
		wantFedAll(t, x, []string{"", "", ""}, nil, x)
		if got, came := impl.FeedAll(x, [][]byte{}); string(got.Held) != string(x.Held) || got.Bad != x.Bad || len(came) != 0 {
			t.Errorf("%.90q: %.90q", x.Held, got.Held)
		}
		if got, came := impl.FeedAll(x, [][]byte{nil, {}, nil}); string(got.Held) != string(x.Held) || got.Bad != x.Bad || len(came) != 0 {
			t.Errorf("%.90q: %.90q", x.Held, got.Held)
		}
	}
}

// A piece that is none in the midst: what is behind it is no more read, though it is right.
func TestPiecesBehindWhatIsNone(t *testing.T) {
	for _, bad := range noPackets {
		for _, c := range rightPackets {
			wantFedAll(t, impl.Buf{}, []string{c.want, bad, c.want, "\xc0\x00"}, []impl.Packet{c.p}, badBuf)
			wantFedAll(t, impl.Buf{}, []string{c.want, c.want + bad, c.want}, []impl.Packet{c.p, c.p}, badBuf)
			wantFedAll(t, impl.Buf{}, []string{c.want + bad + c.want, c.want}, []impl.Packet{c.p}, badBuf)
			wantFedAll(t, impl.Buf{}, []string{bad, c.want, "", c.want[:1]}, nil, badBuf)
			wantFedAll(t, impl.Buf{}, []string{c.want[:1], c.want[1:], bad, c.want[:1], c.want[1:]}, []impl.Packet{c.p}, badBuf)
		}
	}
}

func TestPiecesForWrongBufs(t *testing.T) {
	_, s, _ := allRight()
	for _, x := range append(wrongBufs(), badBuf) {
		for _, pieces := range [][]string{{s}, {"\xc0\x00", "\xc0\x00"}, {"", "\xc0", "\x00"}, {"\x00"}, {"a", s, "\x30"}} {
			wantFedAll(t, x, pieces, nil, x)
		}
	}
}

func TestManyPieces(t *testing.T) {
	list, s, _ := allRight()
	var pieces []string
	for range 200 {
		pieces = append(pieces, s[:len(s)-1], s[len(s)-1:])
	}
	wantFedAll(t, impl.Buf{}, pieces, slices.Repeat(list, 200), impl.Buf{})
	wantFedAll(t, impl.Buf{}, []string{strings.Repeat("\xc0\x00", 20000) + "\xc0", "\x00\x30"}, many(impl.Packet{Type: impl.PingReq}, 20001), holding("\x30"))
}
