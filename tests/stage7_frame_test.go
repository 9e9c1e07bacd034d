package tests

import (
	"slices"
	"strings"
	"testing"

	"loop.example/g00480/impl"
)

func wantBufOk(t *testing.T, held string, bad bool, want bool) {
	t.Helper()
	if got := impl.BufOk(impl.Buf{Held: []byte(held), Bad: bad}); got != want {
		t.Errorf("BufOk(%.90q, %v): %v", held, bad, got)
	}
}

// waits are bytes that no packet has, but that may become one's, or none's.
var waits = []string{
	"\x10", "\xc0", "\x3d", "\x30\x80", "\x30\xff", "\x82\x81", "\x82\x80\x80", "\x10\xff\xff\xff", "\xc0\x80\x80\x80", "\x30\xd4\x02", "\x30\xd5\x82",
	"\x30\x03", "\x30\x03\x00\x01", "\x40\x02\x00", "\xc0\x01", "\x20\x05\xff\xff\xff\xff", "\x82\xd4\x02" + strings.Repeat("x", 339),
}

func TestBufOkOfNothing(t *testing.T) {
	for _, bad := range []bool{false, true} {
		wantBufOk(t, "", bad, true)
		if !impl.BufOk(impl.Buf{Bad: bad}) {
			t.Error("nothing is not right", bad)
		}
	}
}

// What is Bad holds nothing, not even what is right otherwise.
func TestBufOkOfPartsOfPackets(t *testing.T) {
	for _, c := range rightPackets {
		for end := 1; end < len(c.want); end++ {
			wantBufOk(t, c.want[:end], false, true)
			wantBufOk(t, c.want[:end], true, false)
		}
	}
	for _, s := range waits {
		wantBufOk(t, s, false, true)
		wantBufOk(t, s, true, false)
	}
}

func TestBufOkOfWholePackets(t *testing.T) {
	for _, c := range rightPackets {
		for _, bad := range []bool{false, true} {
			wantBufOk(t, c.want, bad, false)
			for _, next := range rightPackets {
				for end := range len(next.want) + 1 {
					wantBufOk(t, c.want+next.want[:end], bad, false)
				}
			}
		}
	}
}

func TestBufOkOfNoPackets(t *testing.T) {
	for _, s := range noPackets {
		for _, tail := range tails {
			wantBufOk(t, s+tail, false, false)
			wantBufOk(t, s+tail, true, false)
		}
	}
}

func TestBufOkOfAllShortBytes(t *testing.T) {
	seen := map[bool]int{}
	allTexts(shortSigns, 4, func(s string) {
		_, _, code := readGet(s)
		wantBufOk(t, s, false, code == impl.GoWait)
		wantBufOk(t, s, true, s == "")
		seen[code == impl.GoWait]++
	})
	if seen[true] == 0 || seen[false] == 0 {
		t.Error(seen)
	}
}

// The length that is waited for is met by the bytes behind the list, which are not there.
func TestBufOkDoesNotLookBehindItsList(t *testing.T) {
	for _, c := range rightPackets {
		b := []byte(c.want)
		for end := range b {
			if !impl.BufOk(impl.Buf{Held: b[:end]}) {
				t.Errorf("%q of %q is not right", b[:end], b)
			}
		}
	}
}

// wantFed asks for all that Feed answers.
func wantFed(t *testing.T, x impl.Buf, b string, list []impl.Packet, want impl.Buf) impl.Buf {
	t.Helper()
	got, came := impl.Feed(x, []byte(b))
	if string(got.Held) != string(want.Held) || got.Bad != want.Bad || !slices.EqualFunc(came, list, alike) {
		t.Fatalf("Feed of %.90q and %v, %.90q: %.90q, %v, %d packets, not %.90q, %v, %d", x.Held, x.Bad, b, got.Held, got.Bad, len(came), want.Held, want.Bad, len(list))
	}
	return got
}

// holding is a Buf of its own memory.
func holding(s string) impl.Buf {
	return impl.Buf{Held: []byte(s)}
}

var badBuf = impl.Buf{Bad: true}

func TestFeedOfNothing(t *testing.T) {
	wantFed(t, impl.Buf{}, "", nil, impl.Buf{})
	wantFed(t, badBuf, "", nil, badBuf)
	if x, came := impl.Feed(impl.Buf{}, nil); len(x.Held) != 0 || x.Bad || len(came) != 0 {
		t.Error(x, came)
	}
}

// No bytes leave what is held as it was.
func TestFeedOfNoBytes(t *testing.T) {
	for _, c := range rightPackets {
		for end := range len(c.want) {
			wantFed(t, holding(c.want[:end]), "", nil, holding(c.want[:end]))
		}
	}
	for _, s := range waits {
		wantFed(t, holding(s), "", nil, holding(s))
	}
}

// Each right packet, cut at every place, with nothing, a part of one and a whole one behind it.
func TestFeedOfWhatIsLeftOfAPacket(t *testing.T) {
	for _, c := range rightPackets {
		for at := range len(c.want) {
			x := holding(c.want[:at])
			wantFed(t, x, c.want[at:], []impl.Packet{c.p}, impl.Buf{})
			for _, next := range waits {
				wantFed(t, x, c.want[at:]+next, []impl.Packet{c.p}, holding(next))
			}
			for _, next := range rightPackets {
				wantFed(t, x, c.want[at:]+next.want, []impl.Packet{c.p, next.p}, impl.Buf{})
			}
		}
	}
}

// What is not all there yet is held, with all that was held ahead of it.
func TestFeedOfAPartOfAPacket(t *testing.T) {
	for _, c := range rightPackets {
		for at := range len(c.want) {
			for end := at; end < len(c.want); end++ {
				wantFed(t, holding(c.want[:at]), c.want[at:end], nil, holding(c.want[:end]))
			}
		}
	}
}

// Bytes that become none: those that are right ahead of it, and then it is Bad and holds nothing.
func TestFeedOfNoPackets(t *testing.T) {
	list, s, _ := allRight()
	for _, bad := range noPackets {
		for _, tail := range tails {
			wantFed(t, impl.Buf{}, bad+tail, nil, badBuf)
			wantFed(t, impl.Buf{}, s+bad+tail, list, badBuf)
		}
		for _, c := range rightPackets {
			for at := range len(c.want) {
				wantFed(t, holding(c.want[:at]), c.want[at:]+bad, []impl.Packet{c.p}, badBuf)
				wantFed(t, holding(c.want[:at]), c.want[at:]+bad+s, []impl.Packet{c.p}, badBuf)
			}
		}
	}
}

// Bytes that are waited for until the last one says that they are none.
func TestFeedOfWhatBecomesNone(t *testing.T) {
	for _, bad := range noPackets {
		at := 0
		for at < len(bad) && impl.BufOk(holding(bad[:at+1])) {
			at++
		}
		for from := range at + 1 {
			wantFed(t, holding(bad[:from]), bad[from:], nil, badBuf)
			wantFed(t, holding(bad[:from]), bad[from:]+"\xc0\x00", nil, badBuf)
		}
	}
}

// Nothing comes of what is Bad, whatever is laid behind it.
func TestFeedOfABadBuf(t *testing.T) {
	for _, c := range rightPackets {
		wantFed(t, badBuf, c.want, nil, badBuf)
		wantFed(t, badBuf, c.want[:1], nil, badBuf)
	}
	for _, s := range slices.Concat(waits, noPackets, tails) {
		wantFed(t, badBuf, s, nil, badBuf)
	}
	x := wantFed(t, impl.Buf{}, "\x00", nil, badBuf)
	for range 3 {
		x = wantFed(t, x, "\xc0\x00", nil, badBuf)
	}
}

// wrongBufs lists what is not right: what holds a packet or none's bytes, and what is Bad and holds something.
func wrongBufs() []impl.Buf {
	var out []impl.Buf
	for _, c := range rightPackets {
		out = append(out, holding(c.want), holding(c.want+"\xc0"), holding(c.want+"\x00"))
		out = append(out, impl.Buf{Held: []byte(c.want), Bad: true}, impl.Buf{Held: []byte(c.want[:1]), Bad: true})
	}
	for _, s := range noPackets {
		out = append(out, holding(s), impl.Buf{Held: []byte(s), Bad: true})
	}
	for _, s := range waits {
		out = append(out, impl.Buf{Held: []byte(s), Bad: true})
	}
	return out
}

func TestFeedOfWrongBufs(t *testing.T) {
	for _, x := range wrongBufs() {
		if impl.BufOk(x) {
			t.Fatalf("%.90q, %v is right", x.Held, x.Bad)
		}
		for _, b := range slices.Concat(tails, waits, noPackets) {
			wantFed(t, x, b, nil, x)
		}
		wantFed(t, x, "\x30\x03\x00\x01a", nil, x)
	}
}

// What Feed answers is right again, if it was.
func TestFeedAnswersRightBufs(t *testing.T) {
	for _, held := range append([]string{""}, waits...) {
		for _, b := range slices.Concat(tails, waits, noPackets) {
			if x, _ := impl.Feed(holding(held), []byte(b)); !impl.BufOk(x) {
				t.Errorf("Feed of %.90q, %.90q: %.90q, %v is not right", held, b, x.Held, x.Bad)
			}
		}
	}
}
