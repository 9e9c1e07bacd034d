package tests

import (
	"slices"
	"strings"
	"testing"

	"loop.example/g00480/impl"
)

// allRight lists all right packets, one behind the other, and where each of them ends.
func allRight() (list []impl.Packet, s string, ends []int) {
	for _, c := range rightPackets {
		list, s = append(list, c.p), s+c.want
		ends = append(ends, len(s))
	}
	return list, s, ends
}

func wantAll(t *testing.T, s string, list []impl.Packet, want int) {
	t.Helper()
	got, code := impl.ReadAll([]byte(s))
	if code != want || !slices.EqualFunc(got, list, alike) {
		t.Fatalf("ReadAll(%.90q): %d packets, %d, not %d, %d", s, len(got), code, len(list), want)
	}
}

func TestReadAllOfNothing(t *testing.T) {
	wantAll(t, "", nil, impl.GoGood)
	if l, code := impl.ReadAll(nil); len(l) != 0 || code != impl.GoGood {
		t.Error(l, code)
	}
}

func TestReadAllOfOne(t *testing.T) {
	for _, c := range rightPackets {
		wantAll(t, c.want, []impl.Packet{c.p}, impl.GoGood)
		for end := 1; end < len(c.want); end++ {
			wantAll(t, c.want[:end], nil, impl.GoWait)
		}
	}
}

func TestReadAllOfEachTwo(t *testing.T) {
	for _, a := range rightPackets {
		for _, b := range rightPackets {
			wantAll(t, a.want+b.want, []impl.Packet{a.p, b.p}, impl.GoGood)
			for end := 1; end < len(b.want); end++ {
				wantAll(t, a.want+b.want[:end], []impl.Packet{a.p}, impl.GoWait)
			}
		}
	}
}

// All right packets behind each other, cut at every place: those that are there, and GoWait of the one that is cut.
func TestReadAllCutAtEveryPlace(t *testing.T) {
	list, s, ends := allRight()
	for end := range len(s) + 1 {
		n, border := slices.BinarySearch(ends, end)
		if border {
			n++
		}
		if border || end == 0 {
			wantAll(t, s[:end], list[:n], impl.GoGood)
		} else {
			wantAll(t, s[:end], list[:n], impl.GoWait)
		}
	}
}

// noPackets lists bytes that are no packet's, whatever comes behind.
var noPackets = []string{
	"\x00", "\xff", "\x36", "\x38\x03\x00\x01a", "\x60\x02\x00\x01", "\xc1\x00", "\xc0\x80\x00", "\xc0\x80\x80\x80\x80", "\x30\xd5\x02",
	"\xc0\x01x", "\x40\x02\x00\x00", "\x20\x02\x01\x01", "\x30\x02\x00\x00", "\x30\x03\x00\x01+", "\x82\x02\x00\x01", "\x90\x03\x00\x01\x03", "\x10\x0c\x00\x04MQTT\x00\x01\x00\x00\x00\x00",
}

// Nothing is read behind what is refused, and all that is ahead of it is.
func TestReadAllUpToWhatIsRefused(t *testing.T) {
	list, s, ends := allRight()
	for _, bad := range noPackets {
		for _, tail := range append([]string{s}, tails...) {
			wantAll(t, bad+tail, nil, impl.GoBad)
		}
		for i, end := range ends {
			wantAll(t, s[:end]+bad, list[:i+1], impl.GoBad)
			wantAll(t, s[:end]+bad+s[end:], list[:i+1], impl.GoBad)
			wantAll(t, s[:end]+bad+"\xc0\x00", list[:i+1], impl.GoBad)
		}
	}
}

// What is waited for within what is there is waited for, though a packet of its own stands in it.
func TestReadAllDoesNotLookInto(t *testing.T) {
	wantAll(t, "\xc0\x00\x30\x0a\x00\x01a\xc0\x00\xd0\x00", []impl.Packet{{Type: impl.PingReq}}, impl.GoWait)
	wantAll(t, "\x30\x05\x00\x01a\xc0\x00\xd0\x00", []impl.Packet{{Type: impl.Publish, Topic: "a", Body: []byte{0xc0, 0}}, {Type: impl.PingResp}}, impl.GoGood)
}

func TestReadAllIsGetPacketOfEach(t *testing.T) {
	_, s, _ := allRight()
	for at := range len(s) {
		var list []impl.Packet
		rest := s[at:]
		code := impl.GoGood
		for rest != "" && code == impl.GoGood {
			var p impl.Packet
			var n int
			if p, n, code = readGet(rest); code == impl.GoGood {
				list, rest = append(list, p), rest[n:]
			}
		}
		wantAll(t, s[at:], list, code)
	}
}

func TestReadAllOfMany(t *testing.T) {
	list, s, _ := allRight()
	wantAll(t, strings.Repeat(s, 50), slices.Repeat(list, 50), impl.GoGood)
	wantAll(t, strings.Repeat(s, 50)+"\x10", slices.Repeat(list, 50), impl.GoWait)
	wantAll(t, strings.Repeat("\xc0\x00", 20000)+"\xf0", many(impl.Packet{Type: impl.PingReq}, 20000), impl.GoBad)
}

func wantWritten(t *testing.T, list []impl.Packet, want string) {
	t.Helper()
	if got := impl.WriteAll(list); string(got) != want {
		t.Fatalf("WriteAll of %d packets: %.90q, not %.90q", len(list), got, want)
	}
}

func TestWriteAllOfNothing(t *testing.T) {
	wantWritten(t, nil, "")
	wantWritten(t, []impl.Packet{}, "")
}

func TestWriteAll(t *testing.T) {
	for _, a := range rightPackets {
		wantWritten(t, []impl.Packet{a.p}, a.want)
		for _, b := range rightPackets {
			wantWritten(t, []impl.Packet{a.p, b.p}, a.want+b.want)
		}
	}
	list, s, _ := allRight()
	wantWritten(t, list, s)
	wantWritten(t, slices.Repeat(list, 50), strings.Repeat(s, 50))
}

// wrongPackets lists packets that have no bytes.
var wrongPackets = []impl.Packet{
	{}, {Type: 15}, {Type: -1}, {Type: impl.PubAck}, {Type: impl.PingReq, Id: 1}, {Type: impl.Publish, Topic: "+"}, {Type: impl.Publish, Topic: "a", Dup: true},
	{Type: impl.ConnAck, Code: 1, Present: true}, {Type: impl.Connect, HasPass: true}, {Type: impl.Subscribe, Id: 1}, {Type: impl.SubAck, Id: 1, Codes: []int{3}}, {Type: impl.Unsubscribe, Names: []string{"a"}},
}

// Packets that are not right leave nothing, wherever they stand.
func TestWriteAllOfWrongOnes(t *testing.T) {
	wantWritten(t, wrongPackets, "")
	list, s, _ := allRight()
	for _, wrong := range wrongPackets {
		wantWritten(t, []impl.Packet{wrong}, "")
		wantWritten(t, []impl.Packet{wrong, wrong}, "")
		for at := range len(list) + 1 {
			wantWritten(t, slices.Insert(slices.Clone(list), at, wrong), s)
		}
	}
	wantWritten(t, slices.Concat(wrongPackets, list, wrongPackets), s)
}

// Promise 6, of many: what is written is read, and what is read is written.
func TestWhatIsWrittenIsRead(t *testing.T) {
	list, s, _ := allRight()
	for from := range list {
		for to := from; to <= len(list); to++ {
			wantAll(t, string(impl.WriteAll(list[from:to])), list[from:to], impl.GoGood)
		}
	}
	for at := range len(s) {
		for _, x := range tellingBytes {
			b := []byte(s)
			b[at] = x
			got, code := impl.ReadAll(b)
			put := impl.WriteAll(got)
			if !strings.HasPrefix(string(b), string(put)) || (code == impl.GoGood) != (len(put) == len(b)) {
				t.Fatalf("%d at %d: %d packets, %d", x, at, len(got), code)
			}
		}
	}
}
