package tests

import (
	"slices"
	"strings"
	"testing"

	"loop.example/g00480/impl"
)

var spareWant = impl.Want{Filter: "spare", Qos: 77}

// A laidPacket is a packet over memory that may be turned: each text over bytes with spare room, each list ahead of some.
type laidPacket struct {
	p     impl.Packet
	texts [][]byte
	was   []string
}

func (l *laidPacket) text(s string) string {
	b := withRoom(s)
	l.texts, l.was = append(l.texts, b), append(l.was, strings.Clone(s))
	return over(b)
}

func (l *laidPacket) bytes(b []byte) []byte {
	out := withRoom(string(b))
	l.texts, l.was = append(l.texts, out), append(l.was, string(b))
	return out
}

// roomBehind lays x ahead of room that is full of spare.
func roomBehind[T any](x []T, spare T) []T {
	l := slices.Concat(x, many(spare, 5))
	return l[:len(x)]
}

func layPacket(p impl.Packet) *laidPacket {
	l := &laidPacket{}
	l.p = p
	l.p.Topic, l.p.Client, l.p.WTopic, l.p.User = l.text(p.Topic), l.text(p.Client), l.text(p.WTopic), l.text(p.User)
	l.p.Body, l.p.WBody, l.p.Pass = l.bytes(p.Body), l.bytes(p.WBody), l.bytes(p.Pass)
	l.p.Wants, l.p.Names, l.p.Codes = roomBehind(p.Wants, spareWant), roomBehind(p.Names, "spare"), roomBehind(p.Codes, 77)
	for i, w := range l.p.Wants {
		l.p.Wants[i].Filter = l.text(w.Filter)
	}
	for i, name := range l.p.Names {
		l.p.Names[i] = l.text(name)
	}
	return l
}

func spareUntouched[T comparable](l []T, spare T) bool {
	return slices.Equal(l[len(l):cap(l)][:5], many(spare, 5))
}

// untouchedAs asks whether the memory is as it was laid for p.
func (l *laidPacket) untouchedAs(p impl.Packet) bool {
	for i, b := range l.texts {
		if !untouched(b, l.was[i]) {
			return false
		}
	}
	return alike(l.p, p) && spareUntouched(l.p.Wants, spareWant) && spareUntouched(l.p.Names, "spare") && spareUntouched(l.p.Codes, 77)
}

// turn turns every byte that the packet's texts and lists lie over.
func (l *laidPacket) turn() {
	for _, b := range l.texts {
		overwrite(b)
	}
	for i := range l.p.Codes {
		l.p.Codes[i] ^= 0xff
	}
}

// memoryPackets lists right packets and wrong ones.
func memoryPackets() []impl.Packet {
	out := []impl.Packet{
		{},
		{Type: 99, Topic: "a", Body: []byte("b"), Client: "c", WTopic: "w", WBody: []byte("x"), User: "u", Pass: []byte("p"), Wants: []impl.Want{{Filter: "f", Qos: 1}}, Names: []string{"n"}, Codes: []int{1}},
		{Type: impl.Publish, Topic: "+", Body: []byte("b")},
		{Type: impl.Publish, Topic: "a", Body: longBytes(41)},
		{Type: impl.Subscribe, Id: 1, Wants: []impl.Want{{Filter: "a"}, {Filter: "a+", Qos: 1}}},
		{Type: impl.Unsubscribe, Id: 1, Names: []string{"a", "\xff"}},
		{Type: impl.SubAck, Id: 1, Codes: []int{0, 3}},
		{Type: impl.Connect, Client: "c", Pass: []byte("p")},
	}
	for _, c := range rightPackets {
		out = append(out, c.p)
	}
	return out
}

func TestPacketsAreLeftAlone(t *testing.T) {
	for _, p := range memoryPackets() {
		a, b := layPacket(p), layPacket(p)
		impl.PacketOk(a.p)
		if !impl.SamePacket(a.p, b.p) || !impl.SamePacket(a.p, a.p) || !impl.SamePacket(a.p, p) {
			t.Errorf("%+v is not the same as itself", p)
		}
		impl.PutPacket(a.p)
		if !a.untouchedAs(p) || !b.untouchedAs(p) {
			t.Fatalf("a call writes into %+v", p)
		}
	}
}

func TestBytesOfPacketsShareNoMemory(t *testing.T) {
	for _, p := range memoryPackets() {
		l := layPacket(p)
		got := impl.PutPacket(l.p)
		was := string(got)
		l.turn()
		if string(got) != was {
			t.Fatalf("the bytes of %+v turn as it turns", p)
		}
		l.turn()
		overwrite(got)
		if !l.untouchedAs(p) {
			t.Fatalf("%+v turns as its bytes turn", p)
		}
	}
}

// Two answers to the same call are told apart: neither is kept for the other.
func TestBytesOfPacketsAreNewEachTime(t *testing.T) {
	for _, p := range memoryPackets() {
		first, second := impl.PutPacket(p), impl.PutPacket(p)
		was := string(second)
		overwrite(first)
		if string(second) != was || string(impl.PutPacket(p)) != was {
			t.Fatalf("two answers of the bytes of %+v share memory", p)
		}
	}
}

// One packet's lists may be pieces of one list.
func TestPacketsOverOneMemory(t *testing.T) {
	b := withRoom("abc")
	p := impl.Packet{Type: impl.Connect, HasWill: true, WTopic: over(b[:1]), WBody: b[:2], HasUser: true, User: over(b), HasPass: true, Pass: b}
	if got, want := string(impl.PutPacket(p)), "\x10\x1d\x00\x04MQTT\x00\xc4\x00\x00\x00\x00\x00\x01a\x00\x02ab\x00\x03abc\x00\x03abc"; got != want || !untouched(b, "abc") {
		t.Errorf("%q", got)
	}
}
