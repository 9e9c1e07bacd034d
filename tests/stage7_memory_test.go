package tests

import (
	"slices"
	"strings"
	"testing"

	"loop.example/g00480/impl"
)

// A feeding is what is held and a piece that comes.
type feeding struct {
	x impl.Buf
	b string
}

// feedings lists what is read, held, refused, and not right from the first on.
func feedings() []feeding {
	_, s, _ := allRight()
	out := []feeding{{impl.Buf{}, s}, {impl.Buf{}, s + "\x30\x80"}, {impl.Buf{}, s + "\x00"}}
	for _, c := range rightPackets {
		at := len(c.want) / 2
		out = append(out, feeding{impl.Buf{}, c.want}, feeding{impl.Buf{}, c.want[:at]}, feeding{holding(c.want[:at]), c.want[at:]}, feeding{holding(c.want[:at]), ""})
		out = append(out, feeding{holding(c.want[:at]), c.want[at:] + c.want[:at]}, feeding{holding(c.want[:at]), c.want[at:] + "\x00"})
	}
	for _, x := range append(wrongBufs(), badBuf) {
		out = append(out, feeding{x, ""}, feeding{x, "\xc0\x00"})
	}
	return out
}

// fed is all that was answered, in memory of its own.
type fed struct {
	held string
	bad  bool
	list []impl.Packet
}

func frozenFed(x impl.Buf, l []impl.Packet) fed {
	return fed{string(x.Held), x.Bad, frozenAll(l)}
}

// is asks whether an answer is still what it was.
func (f fed) is(x impl.Buf, l []impl.Packet) bool {
	return f.held == string(x.Held) && f.bad == x.Bad && slices.EqualFunc(f.list, l, alike)
}

// feeders lists the two ways to feed; FeedAll is handed b in three pieces.
func feeders() map[string]func(impl.Buf, []byte) (impl.Buf, []impl.Packet) {
	return map[string]func(impl.Buf, []byte) (impl.Buf, []impl.Packet){
		"Feed":    impl.Feed,
		"FeedAll": func(x impl.Buf, b []byte) (impl.Buf, []impl.Packet) { return impl.FeedAll(x, inThree(b)) },
		"FeedAll, none": func(x impl.Buf, _ []byte) (impl.Buf, []impl.Packet) {
			return impl.FeedAll(x, nil)
		},
	}
}

// inThree cuts b into pieces of the same memory, each with what is behind it as its spare room.
func inThree(b []byte) [][]byte {
	return [][]byte{b[:len(b)/3], b[len(b)/3 : len(b)/2], b[len(b)/2:]}
}

func turnAll(l []impl.Packet) {
	for _, p := range l {
		for _, turn := range turners(p) {
			turn()
		}
	}
}

func TestAskingLeavesBufsAlone(t *testing.T) {
	for _, f := range feedings() {
		held := withRoom(string(f.x.Held))
		impl.BufOk(impl.Buf{Held: held, Bad: f.x.Bad})
		if !untouched(held, string(f.x.Held)) {
			t.Fatalf("BufOk of %.90q writes into it", f.x.Held)
		}
	}
}

// Both arguments, and the room behind them, stay as they were when they are fed and when the answer turns.
func TestFeedingLeavesItsArgumentsAlone(t *testing.T) {
	for name, feed := range feeders() {
		for _, f := range feedings() {
			held, b := withRoom(string(f.x.Held)), withRoom(f.b)
			got, list := feed(impl.Buf{Held: held, Bad: f.x.Bad}, b)
			if !untouched(held, string(f.x.Held)) || !untouched(b, f.b) {
				t.Fatalf("%s of %.90q, %.90q writes into an argument", name, f.x.Held, f.b)
			}
			overwrite(got.Held)
			turnAll(list)
			if !untouched(held, string(f.x.Held)) || !untouched(b, f.b) {
				t.Fatalf("%s of %.90q, %.90q shares memory with an argument", name, f.x.Held, f.b)
			}
		}
	}
}

// The answer stays as it was when the arguments turn.
func TestFeedingDoesNotTurnWithItsArguments(t *testing.T) {
	for name, feed := range feeders() {
		for _, f := range feedings() {
			held, b := withRoom(string(f.x.Held)), withRoom(f.b)
			got, list := feed(impl.Buf{Held: held, Bad: f.x.Bad}, b)
			was := frozenFed(got, list)
			overwrite(held)
			overwrite(b)
			if !was.is(got, list) {
				t.Fatalf("%s of %.90q, %.90q turns as an argument turns", name, f.x.Held, f.b)
			}
		}
	}
}

// What is held shares no memory with a packet, nor with the list of them, nor a packet with another one.
func TestListsOfOneFeedingShareNoMemory(t *testing.T) {
	for name, feed := range feeders() {
		for _, f := range feedings() {
			got, list := feed(f.x, []byte(f.b))
			was := frozenFed(got, list)
			overwrite(got.Held)
			if !slices.EqualFunc(list, was.list, alike) {
				t.Fatalf("%s of %.90q, %.90q: a packet turns as what is held turns", name, f.x.Held, f.b)
			}
			overwrite(got.Held)
			turnAll(list)
			fill(list, impl.Packet{Type: 77})
			if string(got.Held) != was.held {
				t.Fatalf("%s of %.90q, %.90q: what is held turns as a packet turns", name, f.x.Held, f.b)
			}
		}
	}
}

func TestPacketsOfOneFeedingShareNoMemory(t *testing.T) {
	right, s, _ := allRight()
	for name, feed := range feeders() {
		if name == "FeedAll, none" {
			continue
		}
		for at := range right {
			_, list := feed(impl.Buf{}, []byte(s))
			turnAll(list[at : at+1])
			if !slices.EqualFunc(list[:at], right[:at], alike) || !slices.EqualFunc(list[at+1:], right[at+1:], alike) {
				t.Fatalf("%s: a list of %+v lies over another packet's", name, right[at])
			}
		}
	}
}

// No room is handed out behind what is held: what one answer lays there is not in another's memory.
func TestWhatIsHeldGoesOnTwoWays(t *testing.T) {
	for _, end := range []string{"", "\x30", "\x30\x05", "\x30\x05\x00\x01"} {
		x, _ := impl.Feed(impl.Buf{}, []byte("\xc0\x00"+end))
		first, second := append(x.Held, "first"...), append(x.Held, "other"...)
		if string(first) != end+"first" || string(second) != end+"other" || string(x.Held) != end {
			t.Errorf("%q: %q, %q", end, first, second)
		}
		for _, tail := range []string{"\x05\x00\x01a\x00\x00", "\x30"} {
			list, want := readWhole(end + tail)
			wantFed(t, x, tail, list, want)
			wantFed(t, x, tail, list, want)
		}
	}
}

// Two answers to the same call are told apart: neither is kept for the other.
func TestFeedingsAreNewEachTime(t *testing.T) {
	for name, feed := range feeders() {
		for _, f := range feedings() {
			first, firstList := feed(f.x, []byte(f.b))
			second, secondList := feed(f.x, []byte(f.b))
			was := frozenFed(second, secondList)
			overwrite(first.Held)
			turnAll(firstList)
			fill(firstList, impl.Packet{Type: 77})
			third, thirdList := feed(f.x, []byte(f.b))
			if !was.is(second, secondList) || !was.is(third, thirdList) {
				t.Fatalf("%s of %.90q, %.90q: two answers share memory", name, f.x.Held, f.b)
			}
		}
	}
}

// What is held may lie ahead of the piece in one memory, behind it, or over it.
func TestFeedingOverOneMemory(t *testing.T) {
	_, s, _ := allRight()
	for at := range len(s) {
		b := withRoom(s)
		list, want := readWhole(s)
		held := b[:at]
		if !impl.BufOk(impl.Buf{Held: held}) {
			list, want = nil, holding(s[:at])
		}
		got, came := impl.Feed(impl.Buf{Held: held}, b[at:])
		if string(got.Held) != string(want.Held) || got.Bad != want.Bad || !slices.EqualFunc(came, list, alike) || !untouched(b, s) {
			t.Fatalf("%d: %.90q, %v, %d packets", at, got.Held, got.Bad, len(came))
		}
	}
	b := withRoom("\x00\x01a\x30\x03")
	if got, came := impl.Feed(impl.Buf{Held: b[3:]}, b[:3]); len(came) != 1 || came[0].Topic != "a" || len(got.Held) != 0 || got.Bad || !untouched(b, "\x00\x01a\x30\x03") {
		t.Error(got, came)
	}
	b = withRoom("\x30")
	if got, came := impl.Feed(impl.Buf{Held: b}, b); len(came) != 0 || string(got.Held) != "\x30\x30" || got.Bad || !untouched(b, "\x30") {
		t.Error(got, came)
	}
	b = withRoom("\xc0\x00")
	if got, came := impl.FeedAll(impl.Buf{Held: b[:1]}, [][]byte{b[1:], b, b[:1], b[1:], b[:1]}); len(came) != 3 || string(got.Held) != "\xc0" || got.Bad || !untouched(b, "\xc0\x00") {
		t.Error(got, came)
	}
}

// The list of the pieces, and the room behind it, stays as it was; what lies behind it is not read.
func TestFeedAllLeavesItsListAlone(t *testing.T) {
	pieces := []string{"\xc0", "\x00\x30", "", "\x03\x00\x01", "a\xd0", "\x00\x00", "\xe0\x00"}
	for end := range len(pieces) + 1 {
		var laid [][]byte
		for _, s := range pieces {
			laid = append(laid, withRoom(s))
		}
		got, came := impl.FeedAll(impl.Buf{}, laid[:end])
		list, want := readWhole(strings.Join(pieces[:end], ""))
		if !slices.EqualFunc(came, list, alike) || string(got.Held) != string(want.Held) || got.Bad != want.Bad {
			t.Errorf("%d: %d packets, %q, %v", end, len(came), got.Held, got.Bad)
		}
		for i, b := range laid {
			if !untouched(b, pieces[i]) {
				t.Errorf("%d: FeedAll writes into piece %d", end, i)
			}
		}
		overwrite(got.Held)
		for i, b := range laid {
			if !untouched(b, pieces[i]) {
				t.Errorf("%d: piece %d turns as what is held turns", end, i)
			}
		}
	}
}

// What lies behind the lengths of what is held and of a piece is not read.
func TestFeedingDoesNotLookBehindItsLists(t *testing.T) {
	for _, c := range rightPackets {
		b := []byte(c.want + c.want)
		for end := range len(c.want) {
			for at := range end + 1 {
				got, came := impl.Feed(impl.Buf{Held: b[:at]}, b[at:end])
				if string(got.Held) != c.want[:end] || got.Bad || len(came) != 0 {
					t.Fatalf("%q, %q: %q, %d packets", b[:at], b[at:end], got.Held, len(came))
				}
			}
		}
	}
}
