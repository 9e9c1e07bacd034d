package tests

import (
	"slices"
	"strings"
	"testing"

	"loop.example/g00480/impl"
)

func TestReadConstants(t *testing.T) {
	if impl.MaxPacket != 340 {
		t.Error(impl.MaxPacket)
	}
}

// tails lists what may come behind: nothing, what is right, what is cut and what is none.
var tails = []string{"", "\x00", "\x01", "a", "\x80", "\xff", "\xc0", "\xc0\x00", "\x30\x03\x00\x01a", "\xff\xff\xff\xff\xff", strings.Repeat("\x00", 400), strings.Repeat("x", 400), strings.Repeat("\xff", 400)}

func wantRead(t *testing.T, s string, p impl.Packet, size int) {
	t.Helper()
	got, n, code := impl.GetPacket([]byte(s))
	if code != impl.GoGood || n != size || !alike(got, p) {
		t.Errorf("GetPacket(%.90q): %+v, %d, %d, not %+v, %d", s, got, n, code, p, size)
	}
}

// wantUnread asks that nothing is answered beside the code.
func wantUnread(t *testing.T, s string, want int) {
	t.Helper()
	got, n, code := impl.GetPacket([]byte(s))
	if code != want || n != 0 || !alike(got, impl.Packet{}) {
		t.Errorf("GetPacket(%.90q): %+v, %d, %d, not %d", s, got, n, code, want)
	}
}

// wantRefused asks that what is refused stays refused, whatever comes behind.
func wantRefused(t *testing.T, s string) {
	t.Helper()
	for _, tail := range tails {
		wantUnread(t, s+tail, impl.GoBad)
	}
}

// wantBack holds a right packet against promise 6: it comes back of its bytes, whatever is behind them, and is waited for wherever they are cut.
func wantBack(t *testing.T, p impl.Packet, s string) {
	t.Helper()
	for _, tail := range tails {
		wantRead(t, s+tail, p, len(s))
	}
	for end := range len(s) {
		wantUnread(t, s[:end], impl.GoWait)
	}
}

func TestRightPacketsComeBack(t *testing.T) {
	for _, c := range rightPackets {
		wantBack(t, c.p, c.want)
		wantRead(t, string(impl.PutPacket(c.p)), c.p, len(c.want))
	}
}

func TestLongPacketsComeBack(t *testing.T) {
	for _, p := range []impl.Packet{
		{
			Type: impl.Connect, Level: 255, Client: longText(60), Clean: true, Keep: 65535, HasWill: true, WTopic: longText(60), WBody: longBytes(40), WQos: 2, WRetain: true,
			HasUser: true, User: strings.Repeat("\u20ac", 20), HasPass: true, Pass: longBytes(60),
		},
		{Type: impl.Publish, Topic: longText(60), Dup: true, Qos: 2, Retain: true, Id: 65535, Body: longBytes(40)},
		{Type: impl.Publish, Topic: longText(60), Body: longBytes(40)},
		{Type: impl.Subscribe, Id: 65535, Wants: many(impl.Want{Filter: longText(58) + "/#", Qos: 2}, 4)},
		{Type: impl.Unsubscribe, Id: 65535, Names: many("+/+/+/+/+/"+longText(50), 4)},
		{Type: impl.Unsubscribe, Id: 1, Names: []string{longText(60), longText(58), "a"}},
		{Type: impl.Unsubscribe, Id: 1, Names: []string{longText(60), longText(59), "a"}},
		{Type: impl.SubAck, Id: 65535, Codes: many(128, 4)},
	} {
		wantBack(t, p, bytesOf(p))
	}
}

// Every number and every length that a kind names, at its edges.
func TestPartsAtTheirEdgesComeBack(t *testing.T) {
	for _, c := range slices.Concat(numberParts, lengthParts) {
		for _, n := range []int{c.first, min(c.first+1, c.last), max(c.first, c.last-1), c.last} {
			p := c.with(n)
			wantBack(t, p, bytesOf(p))
		}
	}
}

// rightFirst lists each first byte that some kind has.
const rightFirst = "\x10\x20\x30\x31\x32\x33\x34\x35\x3a\x3b\x3c\x3d\x40\x50\x62\x70\x82\x90\xa2\xb0\xc0\xd0\xe0"

func TestNoByte(t *testing.T) {
	wantUnread(t, "", impl.GoWait)
	if _, n, code := impl.GetPacket(nil); n != 0 || code != impl.GoWait {
		t.Error(n, code)
	}
}

// behindFirst lists what may stand behind a first byte: nothing, lengths of all kinds, and right packets' bytes.
func behindFirst() []string {
	out := slices.Concat(cutLengths, wrongLengths, []string{"\x00", "\x01", "\x02\x00", "\xd4\x02", "\xd5\x02", "\xd5\x02" + strings.Repeat("x", 341)})
	for _, c := range rightPackets {
		out = append(out, c.want[1:])
	}
	return out
}

// A first byte that no kind has is refused ahead of all else, whatever comes behind.
func TestFirstBytes(t *testing.T) {
	for first := range 256 {
		s := string([]byte{byte(first)})
		if strings.Contains(rightFirst, s) {
			wantUnread(t, s, impl.GoWait)
			continue
		}
		for _, tail := range behindFirst() {
			wantRefused(t, s+tail)
		}
	}
}

// Each kind's byte with each of its lower bits turned.
func TestFirstBytesWithABitTurned(t *testing.T) {
	for _, c := range rightPackets {
		if c.p.Type == impl.Publish {
			continue
		}
		for bits := 1; bits < 16; bits++ {
			s := string([]byte{c.want[0] ^ byte(bits)}) + c.want[1:]
			wantRefused(t, s[:1])
			wantRefused(t, s)
		}
	}
}

func TestFirstBytesOfPublish(t *testing.T) {
	for low := range 16 {
		dup, qos, retain := low&8 != 0, low>>1&3, low&1 != 0
		s := string([]byte{byte(impl.Publish*16 + low)})
		if qos == 3 || dup && qos == 0 {
			wantRefused(t, s)
			wantRefused(t, s+"\x05\x00\x01a\x00\x07")
			continue
		}
		p := impl.Packet{Type: impl.Publish, Dup: dup, Qos: qos, Retain: retain, Topic: "a"}
		if qos == 0 {
			p.Body = []byte{0, 7}
		} else {
			p.Id = 7
		}
		wantBack(t, p, s+"\x05\x00\x01a\x00\x07")
	}
}

var cutLengths = []string{"", "\x80", "\x81", "\xff", "\x80\x80", "\xff\xff", "\x80\x80\x80", "\xff\xff\xff", "\xd5\x82"}

var wrongLengths = []string{
	"\x80\x00", "\x81\x00", "\xff\x00", "\x80\x80\x00", "\xff\xff\x00", "\x80\x80\x80\x00", "\xff\xff\xff\x00",
	"\x80\x80\x80\x80", "\xff\xff\xff\xff", "\x80\x80\x80\x80\x01", "\x80\x80\x80\x80\x00", "\x82\x80\x80\x80\x00\x00\x07",
}

// Every answer of GetLen, behind every first byte.
func TestLengthsOfPackets(t *testing.T) {
	for i := range len(rightFirst) {
		first := rightFirst[i : i+1]
		for _, s := range cutLengths {
			wantUnread(t, first+s, impl.GoWait)
		}
		for _, s := range wrongLengths {
			wantRefused(t, first+s)
		}
	}
}

// A right packet's length in a longer form, whose last byte is 0, is none.
func TestLengthsInALongerForm(t *testing.T) {
	for _, c := range rightPackets {
		for zeros := range 3 {
			form := string([]byte{c.want[1] | 0x80}) + strings.Repeat("\x80", zeros) + "\x00"
			wantRefused(t, c.want[:1]+form)
			wantRefused(t, c.want[:1]+form+c.want[2:])
		}
	}
}

// A length of MaxPacket is waited for, and then is no packet's; one past it is refused at once.
func TestLengthsAtMaxPacket(t *testing.T) {
	few := []int{0, 1, 2, 100, 338, 339}
	enough := []int{340, 341, 342, 400, 1000}
	for i := range len(rightFirst) {
		first := rightFirst[i : i+1]
		for _, fill := range []string{"\x00", "\x01", "a", "\xff"} {
			for _, n := range few {
				wantUnread(t, first+"\xd4\x02"+strings.Repeat(fill, n), impl.GoWait)
			}
			for _, n := range enough {
				wantUnread(t, first+"\xd4\x02"+strings.Repeat(fill, n), impl.GoBad)
			}
			for _, n := range slices.Concat(few, enough) {
				wantUnread(t, first+"\xd5\x02"+strings.Repeat(fill, n), impl.GoBad)
			}
		}
		for _, n := range []int{341, 342, 383, 384, 468, 512, 16383, 16384, 16384 + 300, 65536 + 3, 2097151, 2097152, impl.MaxLen - 1, impl.MaxLen} {
			wantRefused(t, string(impl.PutLen([]byte(first), n)))
		}
	}
}

// Every length up to past MaxPacket, with every number of bytes that tells something apart.
func TestEveryLength(t *testing.T) {
	for i := range len(rightFirst) {
		for n := range 360 {
			head := string(impl.PutLen([]byte(rightFirst[i:i+1]), n))
			for _, there := range []int{0, 1, n - 1, n, n + 1} {
				if there >= 0 {
					checkGet(t, head+strings.Repeat("\x00", there))
				}
			}
		}
	}
}

// What lies behind a list's length is not read.
func TestBytesBehindTheListAreNotRead(t *testing.T) {
	for _, c := range rightPackets {
		b := []byte(c.want + c.want)
		for end := range len(c.want) {
			if got, n, code := impl.GetPacket(b[:end]); code != impl.GoWait || n != 0 || !alike(got, impl.Packet{}) {
				t.Errorf("%q: %+v, %d, %d", b[:end], got, n, code)
			}
		}
		if _, n, code := impl.GetPacket(b[:len(c.want)]); code != impl.GoGood || n != len(c.want) {
			t.Errorf("%q: %d, %d", c.want, n, code)
		}
	}
}
