package tests

import (
	"strings"
	"testing"

	"loop.example/g00480/impl"
)

// framed lays a right length between a first byte and what follows.
func framed(first byte, s string) string {
	return string(impl.PutLen([]byte{first}, len(s))) + s
}

// wantNoPacket asks that all that is there is refused, and waited for as long as it is not there.
func wantNoPacket(t *testing.T, first byte, s string) {
	t.Helper()
	wantRefused(t, framed(first, s))
	whole := framed(first, s)
	for end := range len(whole) {
		wantUnread(t, whole[:end], impl.GoWait)
	}
}

const (
	connectHead = "\x00\x04MQTT\x04"
	noKeep      = "\x00\x00"
	noClient    = "\x00\x00"
)

// connectWith spells out a Connect with these flags, and these bytes behind its Keep.
func connectWith(flags byte, s string) string {
	return connectHead + string([]byte{flags}) + noKeep + s
}

func TestWrongTextsAreNotRead(t *testing.T) {
	for _, s := range wrongTexts {
		wantNoPacket(t, 0x10, connectWith(0, counted(s)))
		wantNoPacket(t, 0x10, connectWith(0x80, noClient+counted(s)))
		wantNoPacket(t, 0x10, connectWith(0xc0, noClient+counted(s)+"\x00\x01p"))
	}
	for _, s := range []string{"", "a", "+", "#", "a/b/c/d/e/f/g", "\u20ac", "\ufffd", longText(60)} {
		wantBack(t, impl.Packet{Type: impl.Connect, Level: 4, Client: s, HasUser: true, User: s}, framed(0x10, connectWith(0x80, counted(s)+counted(s))))
	}
}

func TestWrongTopicsAreNotRead(t *testing.T) {
	for _, s := range wrongTopics {
		for _, body := range []string{"", "x", "\x00\x01"} {
			wantNoPacket(t, 0x30, counted(s)+body)
			wantNoPacket(t, 0x31, counted(s)+body)
			wantNoPacket(t, 0x32, counted(s)+"\x00\x01"+body)
			wantNoPacket(t, 0x3d, counted(s)+"\x00\x01"+body)
			wantNoPacket(t, 0x10, connectWith(4, noClient+counted(s)+counted(body)))
		}
	}
}

func TestWrongFiltersAreNotRead(t *testing.T) {
	for _, s := range wrongFilters {
		for n := 1; n <= impl.MaxWants; n++ {
			for at := range n {
				want := func(i int) string {
					if i == at {
						return counted(s)
					}
					return counted("a")
				}
				wants, names := "\x00\x01", "\x00\x01"
				for i := range n {
					wants += want(i) + "\x01"
					names += want(i)
				}
				wantNoPacket(t, 0x82, wants)
				wantNoPacket(t, 0xa2, names)
			}
		}
	}
}

// A name of the protocol that is not `MQTT`, however near.
func TestWrongProtocolsAreNotRead(t *testing.T) {
	behind := "\x04\x00\x00\x00\x00\x00"
	wantBack(t, impl.Packet{Type: impl.Connect, Level: 4}, framed(0x10, "\x00\x04MQTT"+behind))
	for _, s := range []string{"", "M", "MQT", "MQTT ", "MQTTT", "mqtt", "MQTt", "MQTX", "XQTT", "MQIsdp", "\x00QTT", "MQ\xffT", longText(60), longText(61)} {
		wantNoPacket(t, 0x10, counted(s)+behind)
	}
	for _, head := range []string{"\x00\x03MQTT", "\x00\x05MQTT", "\x01\x04MQTT", "\x04\x00MQTT", "\xff\xffMQTT", "MQTT"} {
		wantNoPacket(t, 0x10, head+behind)
	}
}

// connectParts spells out what the flags say is there.
func connectParts(flags int) string {
	s := counted("c")
	if flags&4 != 0 {
		s += counted("w") + counted("!")
	}
	if flags&128 != 0 {
		s += counted("u")
	}
	if flags&64 != 0 {
		s += counted("p")
	}
	return s
}

// flagsRight lists by its parts which flags some Connect has.
func flagsRight(flags int) bool {
	will := flags&4 != 0
	if flags&1 != 0 || flags&64 != 0 && flags&128 == 0 {
		return false
	}
	return will && flags&24 != 24 || !will && flags&(8|16|32) == 0
}

// connectOf lays out the packet of right flags whose parts connectParts spells.
func connectOf(flags int) impl.Packet {
	p := impl.Packet{Type: impl.Connect, Level: 4, Client: "c", Clean: flags&2 != 0, WQos: flags >> 3 & 3, WRetain: flags&32 != 0}
	if flags&4 != 0 {
		p.HasWill, p.WTopic, p.WBody = true, "w", []byte("!")
	}
	if flags&128 != 0 {
		p.HasUser, p.User = true, "u"
	}
	if flags&64 != 0 {
		p.HasPass, p.Pass = true, []byte("p")
	}
	return p
}

// All flags: each with the parts that it says are there, and with fewer or more of them.
func TestFlagsOfConnect(t *testing.T) {
	right := 0
	for flags := range 256 {
		told := connectParts(flags)
		if flagsRight(flags) {
			right++
			wantBack(t, connectOf(flags), framed(0x10, connectWith(byte(flags), told)))
		} else {
			wantNoPacket(t, 0x10, connectWith(byte(flags), told))
		}
		for _, parts := range []int{0, 4, 64, 128, 4 | 64, 4 | 128, 64 | 128, 4 | 64 | 128} {
			// As many parts are as good as those that are told.
			if s := connectParts(parts); len(s) != len(told) {
				wantNoPacket(t, 0x10, connectWith(byte(flags), s))
			}
		}
	}
	// 2 of Clean, 3 of User and Pass, 1 without a will and 6 with one
	if right != 2*3*7 {
		t.Error(right)
	}
}

// A part that counts more bytes than are to follow, though more come behind the packet.
func TestPartsLongerThanWhatFollows(t *testing.T) {
	for _, c := range []struct {
		first byte
		s     string
	}{
		{0x10, ""}, {0x10, "\x00"}, {0x10, "\x00\x04"}, {0x10, "\x00\x04MQT"}, {0x10, "\x00\x04MQTT"}, {0x10, connectHead},
		{0x10, connectHead + "\x00"}, {0x10, connectHead + "\x00\x00"}, {0x10, connectHead + "\x00\x00\x00"}, {0x10, connectWith(0, "\x00")},
		{0x10, connectWith(0, "\x00\x01")}, {0x10, connectWith(0, "\x00\x03ab")}, {0x10, connectWith(0, "\xff\xffab")},
		{0x10, connectWith(4, noClient)}, {0x10, connectWith(4, noClient+"\x00\x02w")}, {0x10, connectWith(4, noClient+"\x00\x01w")},
		{0x10, connectWith(4, noClient+"\x00\x01w\x00")}, {0x10, connectWith(4, noClient+"\x00\x01w\x00\x01")}, {0x10, connectWith(4, noClient+"\x00\x01w\x00\x03!!")},
		{0x10, connectWith(128, noClient)}, {0x10, connectWith(128, noClient+"\x00\x01")}, {0x10, connectWith(192, noClient+"\x00\x01u")},
		{0x10, connectWith(192, noClient+"\x00\x01u\x00")}, {0x10, connectWith(192, noClient+"\x00\x01u\x00\x02p")},
		{0x20, ""}, {0x20, "\x00"},
		{0x30, ""}, {0x30, "\x00"}, {0x30, "\x00\x01"}, {0x30, "\x00\x02a"}, {0x30, "\x01\x00a"}, {0x30, "\x00\x3c" + longText(59)},
		{0x32, ""}, {0x32, "\x00\x01a"}, {0x32, "\x00\x01a\x00"}, {0x34, "\x00\x01a\x01"}, {0x34, "\x00\x03a\x00\x01"},
		{0x82, ""}, {0x82, "\x00"}, {0x82, "\x00\x01\x00"}, {0x82, "\x00\x01\x00\x01"}, {0x82, "\x00\x01\x00\x01a"}, {0x82, "\x00\x01\x00\x02a\x00"},
		{0x82, "\x00\x01\x00\x01a\x00\x00"}, {0x82, "\x00\x01\x00\x01a\x00\x00\x01"}, {0x82, "\x00\x01\x00\x01a\x00\x00\x01b"}, {0x82, "\x00\x01\x00\x01a\x00\x00\x02b\x00"},
		{0x90, ""}, {0x90, "\x00"},
		{0xa2, ""}, {0xa2, "\x00"}, {0xa2, "\x00\x01\x00"}, {0xa2, "\x00\x01\x00\x01"}, {0xa2, "\x00\x01\x00\x02a"}, {0xa2, "\x00\x01\x00\x01a\x00"}, {0xa2, "\x00\x01\x00\x01a\x00\x02b"},
	} {
		wantNoPacket(t, c.first, c.s)
	}
	for _, first := range []byte{0x40, 0x50, 0x62, 0x70, 0xb0} {
		wantNoPacket(t, first, "")
		wantNoPacket(t, first, "\x00")
		wantNoPacket(t, first, "\x01")
	}
}

// Bytes that are left over within a packet, but of a Publish, whose Body they are, and of lists, which go on.
func TestBytesLeftOverWithinAPacket(t *testing.T) {
	for _, c := range rightPackets {
		if c.p.Type == impl.Publish {
			continue
		}
		for _, more := range []string{"\x00", "\x01", "\x03", "x", "\xff", "\x00\x00", "\x00\x01", "\x03\x03", "xyz", "\xc0\x00"} {
			if c.p.Type == impl.SubAck && strings.Trim(more, "\x00\x01\x02\x80") == "" {
				continue
			}
			wantNoPacket(t, c.want[0], c.want[2:]+more)
		}
	}
}

func TestListsOfPackets(t *testing.T) {
	for n := range 12 {
		wants, names, codes := "\x00\x01"+strings.Repeat("\x00\x01a\x02", n), "\x00\x01"+strings.Repeat("\x00\x01a", n), "\x00\x01"+strings.Repeat("\x80", n)
		if n == 0 || n > 4 {
			wantNoPacket(t, 0x82, wants)
			wantNoPacket(t, 0xa2, names)
			wantNoPacket(t, 0x90, codes)
			continue
		}
		wantBack(t, impl.Packet{Type: impl.Subscribe, Id: 1, Wants: many(impl.Want{Filter: "a", Qos: 2}, n)}, framed(0x82, wants))
		wantBack(t, impl.Packet{Type: impl.Unsubscribe, Id: 1, Names: many("a", n)}, framed(0xa2, names))
		wantBack(t, impl.Packet{Type: impl.SubAck, Id: 1, Codes: many(128, n)}, framed(0x90, codes))
	}
	wantNoPacket(t, 0x90, "\x00\x01"+strings.Repeat("\x00", 338))
}

func TestIdsOfPackets(t *testing.T) {
	wantNoPacket(t, 0x32, "\x00\x01a\x00\x00")
	wantNoPacket(t, 0x3d, "\x00\x01a\x00\x00x")
	wantNoPacket(t, 0x82, "\x00\x00\x00\x01a\x00")
	wantNoPacket(t, 0x90, "\x00\x00\x00")
	wantNoPacket(t, 0xa2, "\x00\x00\x00\x01a")
	for kind, first := range map[int]byte{impl.PubAck: 0x40, impl.PubRec: 0x50, impl.PubRel: 0x62, impl.PubComp: 0x70, impl.UnsubAck: 0xb0} {
		wantNoPacket(t, first, "\x00\x00")
		for _, id := range []int{1, 2, 255, 256, 257, 32767, 32768, 65534, 65535} {
			wantBack(t, impl.Packet{Type: kind, Id: id}, framed(first, word(id)))
		}
	}
}

func TestCodesOfPackets(t *testing.T) {
	for code := range 256 {
		for present := range 256 {
			s := string([]byte{byte(present), byte(code)})
			if present == 0 && code <= 5 || present == 1 && code == 0 {
				wantBack(t, impl.Packet{Type: impl.ConnAck, Present: present == 1, Code: code}, framed(0x20, s))
			} else {
				wantUnread(t, framed(0x20, s), impl.GoBad)
			}
		}
		sub, want := framed(0x90, "\x00\x01\x00"+string([]byte{byte(code)})), framed(0x82, "\x00\x01\x00\x01a\x01\x00\x01b"+string([]byte{byte(code)}))
		if code <= 2 || code == 128 {
			wantBack(t, impl.Packet{Type: impl.SubAck, Id: 1, Codes: []int{0, code}}, sub)
		} else {
			wantRefused(t, sub)
		}
		if code <= 2 {
			wantBack(t, impl.Packet{Type: impl.Subscribe, Id: 1, Wants: []impl.Want{{Filter: "a", Qos: 1}, {Filter: "b", Qos: code}}}, want)
		} else {
			wantRefused(t, want)
		}
	}
	wantNoPacket(t, 0x20, "\x01\x01")
	wantNoPacket(t, 0x20, "\x01\x05")
	wantNoPacket(t, 0x20, "\x00\x06")
	wantNoPacket(t, 0x20, "\x02\x00")
}

// What is too long for its part, though each length is told rightly.
func TestPartsThatAreTooLong(t *testing.T) {
	for n := range 80 {
		body, pass, will := strings.Repeat("b", n), connectWith(192, noClient+counted("u")+counted(strings.Repeat("p", n))), connectWith(4, noClient+counted("w")+counted(strings.Repeat("b", n)))
		if n <= 40 {
			wantRead(t, framed(0x30, counted("a")+body), impl.Packet{Type: impl.Publish, Topic: "a", Body: []byte(body)}, 5+n)
			wantRead(t, framed(0x10, will), impl.Packet{Type: impl.Connect, Level: 4, HasWill: true, WTopic: "w", WBody: []byte(body)}, 19+n)
		} else {
			wantNoPacket(t, 0x30, counted("a")+body)
			wantNoPacket(t, 0x32, counted("a")+"\x00\x01"+body)
			wantNoPacket(t, 0x10, will)
		}
		if n <= 60 {
			wantRead(t, framed(0x10, pass), impl.Packet{Type: impl.Connect, Level: 4, HasUser: true, User: "u", HasPass: true, Pass: []byte(strings.Repeat("p", n))}, 19+n)
		} else {
			wantNoPacket(t, 0x10, pass)
		}
	}
}
