package tests

import (
	"bytes"
	"math"
	"slices"
	"strings"
	"testing"

	"loop.example/g00480/impl"
)

func TestPacketConstants(t *testing.T) {
	kinds := []int{
		impl.Connect, impl.ConnAck, impl.Publish, impl.PubAck, impl.PubRec, impl.PubRel, impl.PubComp,
		impl.Subscribe, impl.SubAck, impl.Unsubscribe, impl.UnsubAck, impl.PingReq, impl.PingResp, impl.Disconnect,
	}
	for i, n := range kinds {
		if n != i+1 {
			t.Errorf("the kind at %d is %d", i, n)
		}
	}
	if impl.MaxBody != 40 || impl.MaxWants != 4 {
		t.Error(impl.MaxBody, impl.MaxWants)
	}
}

func longText(n int) string {
	return strings.Repeat("x", n)
}

func longBytes(n int) []byte {
	return bytes.Repeat([]byte{0xff}, n)
}

// rightPackets lists packets that are right, each with its bytes spelt out.
var rightPackets = []struct {
	p    impl.Packet
	want string
}{
	{impl.Packet{Type: impl.Connect}, "\x10\x0c\x00\x04MQTT\x00\x00\x00\x00\x00\x00"},
	{impl.Packet{Type: impl.Connect, Level: 4, Client: "ab"}, "\x10\x0e\x00\x04MQTT\x04\x00\x00\x00\x00\x02ab"},
	{impl.Packet{Type: impl.Connect, Level: 255, Clean: true, Keep: 65535}, "\x10\x0c\x00\x04MQTT\xff\x02\xff\xff\x00\x00"},
	{impl.Packet{Type: impl.Connect, Level: 3, Keep: 258, Client: "\u20ac"}, "\x10\x0f\x00\x04MQTT\x03\x00\x01\x02\x00\x03\u20ac"},
	{impl.Packet{Type: impl.Connect, HasWill: true, WTopic: "w"}, "\x10\x11\x00\x04MQTT\x00\x04\x00\x00\x00\x00\x00\x01w\x00\x00"},
	{impl.Packet{Type: impl.Connect, HasWill: true, WTopic: "w/x", WBody: []byte{0, 255}, WQos: 1}, "\x10\x15\x00\x04MQTT\x00\x0c\x00\x00\x00\x00\x00\x03w/x\x00\x02\x00\xff"},
	{impl.Packet{Type: impl.Connect, HasWill: true, WTopic: "w", WQos: 2, WRetain: true}, "\x10\x11\x00\x04MQTT\x00\x34\x00\x00\x00\x00\x00\x01w\x00\x00"},
	{impl.Packet{Type: impl.Connect, HasUser: true}, "\x10\x0e\x00\x04MQTT\x00\x80\x00\x00\x00\x00\x00\x00"},
	{impl.Packet{Type: impl.Connect, HasUser: true, User: "u"}, "\x10\x0f\x00\x04MQTT\x00\x80\x00\x00\x00\x00\x00\x01u"},
	{impl.Packet{Type: impl.Connect, HasUser: true, HasPass: true}, "\x10\x10\x00\x04MQTT\x00\xc0\x00\x00\x00\x00\x00\x00\x00\x00"},
	{impl.Packet{Type: impl.Connect, HasUser: true, User: "u", HasPass: true, Pass: []byte{0}}, "\x10\x12\x00\x04MQTT\x00\xc0\x00\x00\x00\x00\x00\x01u\x00\x01\x00"},
	{
		impl.Packet{Type: impl.Connect, Level: 4, Client: "a", Clean: true, Keep: 10, HasWill: true, WTopic: "w", WBody: []byte("!"), WQos: 2, WRetain: true, HasUser: true, User: "u", HasPass: true, Pass: []byte("p")},
		"\x10\x19\x00\x04MQTT\x04\xf6\x00\x0a\x00\x01a\x00\x01w\x00\x01!\x00\x01u\x00\x01p",
	},
	{impl.Packet{Type: impl.ConnAck}, "\x20\x02\x00\x00"},
	{impl.Packet{Type: impl.ConnAck, Present: true}, "\x20\x02\x01\x00"},
	{impl.Packet{Type: impl.ConnAck, Code: 1}, "\x20\x02\x00\x01"},
	{impl.Packet{Type: impl.ConnAck, Code: 5}, "\x20\x02\x00\x05"},
	{impl.Packet{Type: impl.Publish, Topic: "a"}, "\x30\x03\x00\x01a"},
	{impl.Packet{Type: impl.Publish, Topic: "a", Retain: true, Body: []byte("x")}, "\x31\x04\x00\x01ax"},
	{impl.Packet{Type: impl.Publish, Topic: "a/b", Qos: 1, Id: 1, Body: []byte{0, 10, 255}}, "\x32\x0a\x00\x03a/b\x00\x01\x00\x0a\xff"},
	{impl.Packet{Type: impl.Publish, Topic: "a", Qos: 1, Id: 65535, Dup: true}, "\x3a\x05\x00\x01a\xff\xff"},
	{impl.Packet{Type: impl.Publish, Topic: "a", Qos: 2, Id: 258, Retain: true}, "\x35\x05\x00\x01a\x01\x02"},
	{impl.Packet{Type: impl.Publish, Topic: "a", Qos: 2, Id: 5, Dup: true, Retain: true}, "\x3d\x05\x00\x01a\x00\x05"},
	{impl.Packet{Type: impl.PubAck, Id: 1}, "\x40\x02\x00\x01"},
	{impl.Packet{Type: impl.PubRec, Id: 256}, "\x50\x02\x01\x00"},
	{impl.Packet{Type: impl.PubRel, Id: 7}, "\x62\x02\x00\x07"},
	{impl.Packet{Type: impl.PubComp, Id: 65535}, "\x70\x02\xff\xff"},
	{impl.Packet{Type: impl.Subscribe, Id: 1, Wants: []impl.Want{{Filter: "a"}}}, "\x82\x06\x00\x01\x00\x01a\x00"},
	{
		impl.Packet{Type: impl.Subscribe, Id: 258, Wants: []impl.Want{{Filter: "a/#", Qos: 2}, {Filter: "+", Qos: 1}, {Filter: "+", Qos: 1}, {Filter: "/"}}},
		"\x82\x14\x01\x02\x00\x03a/#\x02\x00\x01+\x01\x00\x01+\x01\x00\x01/\x00",
	},
	{impl.Packet{Type: impl.SubAck, Id: 1, Codes: []int{128}}, "\x90\x03\x00\x01\x80"},
	{impl.Packet{Type: impl.SubAck, Id: 513, Codes: []int{2, 0, 128, 1}}, "\x90\x06\x02\x01\x02\x00\x80\x01"},
	{impl.Packet{Type: impl.Unsubscribe, Id: 1, Names: []string{"#"}}, "\xa2\x05\x00\x01\x00\x01#"},
	{impl.Packet{Type: impl.Unsubscribe, Id: 65535, Names: []string{"b", "a/+", "a", "b"}}, "\xa2\x10\xff\xff\x00\x01b\x00\x03a/+\x00\x01a\x00\x01b"},
	{impl.Packet{Type: impl.UnsubAck, Id: 7}, "\xb0\x02\x00\x07"},
	{impl.Packet{Type: impl.PingReq}, "\xc0\x00"},
	{impl.Packet{Type: impl.PingResp}, "\xd0\x00"},
	{impl.Packet{Type: impl.Disconnect}, "\xe0\x00"},
}

func TestRightPackets(t *testing.T) {
	for _, c := range rightPackets {
		if !impl.PacketOk(c.p) {
			t.Errorf("%+v is not right", c.p)
		}
		if got := impl.PutPacket(c.p); string(got) != c.want {
			t.Errorf("%+v: %q, not %q", c.p, got, c.want)
		}
	}
}

func TestRightPacketsAreOfEachKind(t *testing.T) {
	seen := map[int]bool{}
	for _, c := range rightPackets {
		seen[c.p.Type] = true
	}
	if len(seen) != 14 {
		t.Error(seen)
	}
}

// wantNone holds a packet against promise 5.
func wantNone(t *testing.T, p impl.Packet) {
	t.Helper()
	if impl.PacketOk(p) {
		t.Errorf("%+v is right", p)
	}
	if b := impl.PutPacket(p); len(b) != 0 {
		t.Errorf("%+v has bytes: %x", p, b)
	}
}

// wantSome asks of a right packet that its bytes begin with its kind and say how many follow.
func wantSome(t *testing.T, p impl.Packet) {
	t.Helper()
	b := impl.PutPacket(p)
	if !impl.PacketOk(p) || len(b) == 0 {
		t.Errorf("%+v is not right", p)
		return
	}
	n, next, code := impl.GetLen(b, 1)
	if int(b[0])>>4 != p.Type || code != impl.GoGood || n != len(b)-next {
		t.Errorf("%+v: %x", p, b)
	}
}

func TestNoKinds(t *testing.T) {
	for _, n := range []int{0, -1, -3, 15, 16, 17, 19, 255, 256, 259, 1<<32 + 3, 1<<60 + 12, math.MinInt, math.MinInt + 12, math.MaxInt} {
		for _, c := range rightPackets {
			p := c.p
			p.Type = n
			wantNone(t, p)
		}
		wantNone(t, impl.Packet{Type: n})
	}
}

// Parts that hang on others, which are not there.
func TestPartsThatHangOnOthers(t *testing.T) {
	for _, p := range []impl.Packet{
		{Type: impl.Connect, WTopic: "w"},
		{Type: impl.Connect, WBody: []byte("x")},
		{Type: impl.Connect, WBody: []byte{0}},
		{Type: impl.Connect, WQos: 1},
		{Type: impl.Connect, WQos: -1},
		{Type: impl.Connect, WRetain: true},
		{Type: impl.Connect, User: "u"},
		{Type: impl.Connect, HasPass: true},
		{Type: impl.Connect, HasPass: true, Pass: []byte("p")},
		{Type: impl.Connect, Pass: []byte("p")},
		{Type: impl.Connect, HasUser: true, Pass: []byte("p")},
		{Type: impl.Connect, HasUser: true, User: "u", Pass: []byte{0}},
		{Type: impl.Connect, HasWill: true, WTopic: "w", User: "u"},
		{Type: impl.Connect, HasWill: true, WTopic: "w", HasPass: true},
		{Type: impl.Connect, HasUser: true, HasPass: true, WTopic: "w"},
		{Type: impl.Connect, HasUser: true, HasPass: true, WQos: 2},
		{Type: impl.Connect, HasUser: true, HasPass: true, WRetain: true},
		{Type: impl.ConnAck, Code: 1, Present: true},
		{Type: impl.ConnAck, Code: 5, Present: true},
		{Type: impl.Publish, Topic: "a", Dup: true},
		{Type: impl.Publish, Topic: "a", Id: 1},
		{Type: impl.Publish, Topic: "a", Id: -1},
		{Type: impl.Publish, Topic: "a", Id: 65536},
		{Type: impl.Publish, Topic: "a", Dup: true, Id: 1},
		{Type: impl.Publish, Topic: "a", Qos: 1},
		{Type: impl.Publish, Topic: "a", Qos: 2},
		{Type: impl.Publish, Topic: "a", Qos: 1, Dup: true},
		{Type: impl.Publish, Topic: "a", Qos: -1},
		{Type: impl.Publish, Topic: "a", Qos: -1, Id: 1},
	} {
		wantNone(t, p)
	}
}

func aWill(set func(*impl.Packet)) impl.Packet {
	p := impl.Packet{Type: impl.Connect, HasWill: true, WTopic: "w"}
	set(&p)
	return p
}

func aUser(set func(*impl.Packet)) impl.Packet {
	p := impl.Packet{Type: impl.Connect, HasUser: true, HasPass: true}
	set(&p)
	return p
}

func aPublish(set func(*impl.Packet)) impl.Packet {
	p := impl.Packet{Type: impl.Publish, Topic: "a", Qos: 1, Id: 1}
	set(&p)
	return p
}

// A numberPart is a number that a kind names, or how long a list or text of it is, with the first and last that are right.
type numberPart struct {
	name        string
	with        func(n int) impl.Packet
	first, last int
}

var numberParts = []numberPart{
	{"Level", func(n int) impl.Packet { return impl.Packet{Type: impl.Connect, Level: n} }, 0, 255},
	{"Keep", func(n int) impl.Packet { return impl.Packet{Type: impl.Connect, Keep: n} }, 0, 65535},
	{"WQos", func(n int) impl.Packet { return aWill(func(p *impl.Packet) { p.WQos = n }) }, 0, 2},
	{"Code", func(n int) impl.Packet { return impl.Packet{Type: impl.ConnAck, Code: n} }, 0, 5},
	{"Code with Present", func(n int) impl.Packet { return impl.Packet{Type: impl.ConnAck, Code: n, Present: true} }, 0, 0},
	{"Qos with an Id", func(n int) impl.Packet { return aPublish(func(p *impl.Packet) { p.Qos = n }) }, 1, 2},
	{"Qos without", func(n int) impl.Packet { return aPublish(func(p *impl.Packet) { p.Qos, p.Id = n, 0 }) }, 0, 0},
	{"Id of Qos 0", func(n int) impl.Packet { return aPublish(func(p *impl.Packet) { p.Qos, p.Id = 0, n }) }, 0, 0},
	{"Id of Qos 1", func(n int) impl.Packet { return aPublish(func(p *impl.Packet) { p.Id = n }) }, 1, 65535},
	{"Id of Qos 2", func(n int) impl.Packet { return aPublish(func(p *impl.Packet) { p.Qos, p.Id = 2, n }) }, 1, 65535},
	{"Id of PubAck", func(n int) impl.Packet { return impl.Packet{Type: impl.PubAck, Id: n} }, 1, 65535},
	{"Id of PubRec", func(n int) impl.Packet { return impl.Packet{Type: impl.PubRec, Id: n} }, 1, 65535},
	{"Id of PubRel", func(n int) impl.Packet { return impl.Packet{Type: impl.PubRel, Id: n} }, 1, 65535},
	{"Id of PubComp", func(n int) impl.Packet { return impl.Packet{Type: impl.PubComp, Id: n} }, 1, 65535},
	{"Id of UnsubAck", func(n int) impl.Packet { return impl.Packet{Type: impl.UnsubAck, Id: n} }, 1, 65535},
	{"Id of Subscribe", func(n int) impl.Packet {
		return impl.Packet{Type: impl.Subscribe, Id: n, Wants: []impl.Want{{Filter: "a"}}}
	}, 1, 65535},
	{"Id of SubAck", func(n int) impl.Packet { return impl.Packet{Type: impl.SubAck, Id: n, Codes: []int{0}} }, 1, 65535},
	{"Id of Unsubscribe", func(n int) impl.Packet { return impl.Packet{Type: impl.Unsubscribe, Id: n, Names: []string{"a"}} }, 1, 65535},
	{"Qos of a Want", func(n int) impl.Packet {
		return impl.Packet{Type: impl.Subscribe, Id: 1, Wants: []impl.Want{{Filter: "a", Qos: n}}}
	}, 0, 2},
}

var lengthParts = []numberPart{
	{"how many Wants", func(n int) impl.Packet {
		return impl.Packet{Type: impl.Subscribe, Id: 1, Wants: many(impl.Want{Filter: "a", Qos: 1}, n)}
	}, 1, 4},
	{"how many Codes", func(n int) impl.Packet { return impl.Packet{Type: impl.SubAck, Id: 1, Codes: many(1, n)} }, 1, 4},
	{"how many Names", func(n int) impl.Packet { return impl.Packet{Type: impl.Unsubscribe, Id: 1, Names: many("a", n)} }, 1, 4},
	{"bytes of Body", func(n int) impl.Packet { return aPublish(func(p *impl.Packet) { p.Body = many(byte(0), n) }) }, 0, 40},
	{"bytes of Body, Qos 0", func(n int) impl.Packet {
		return aPublish(func(p *impl.Packet) { p.Qos, p.Id, p.Body = 0, 0, many(byte(0), n) })
	}, 0, 40},
	{"bytes of WBody", func(n int) impl.Packet { return aWill(func(p *impl.Packet) { p.WBody = many(byte(255), n) }) }, 0, 40},
	{"bytes of Pass", func(n int) impl.Packet { return aUser(func(p *impl.Packet) { p.Pass = many(byte(0), n) }) }, 0, 60},
	{"signs of Client", func(n int) impl.Packet { return impl.Packet{Type: impl.Connect, Client: string(many(byte('c'), n))} }, 0, 60},
	{"signs of User", func(n int) impl.Packet { return aUser(func(p *impl.Packet) { p.User = string(many(byte('u'), n)) }) }, 0, 60},
	{"signs of WTopic", func(n int) impl.Packet { return aWill(func(p *impl.Packet) { p.WTopic = string(many(byte('w'), n)) }) }, 1, 60},
	{"signs of Topic", func(n int) impl.Packet {
		return aPublish(func(p *impl.Packet) { p.Topic = string(many(byte('t'), n)) })
	}, 1, 60},
	{"signs of a Filter", func(n int) impl.Packet {
		return impl.Packet{Type: impl.Subscribe, Id: 1, Wants: []impl.Want{{Filter: string(many(byte('f'), n))}}}
	}, 1, 60},
	{"signs of a Name", func(n int) impl.Packet {
		return impl.Packet{Type: impl.Unsubscribe, Id: 1, Names: []string{string(many(byte('n'), n))}}
	}, 1, 60},
}

func many[T any](x T, n int) []T {
	return slices.Repeat([]T{x}, n)
}

// check asks that just those from first to last are right.
func (c numberPart) check(t *testing.T, numbers ...int) {
	t.Helper()
	for _, n := range numbers {
		if n < c.first || n > c.last {
			wantNone(t, c.with(n))
		} else {
			wantSome(t, c.with(n))
		}
	}
}

func TestNumbersAtTheirEdges(t *testing.T) {
	for _, c := range numberParts {
		c.check(t, c.first, c.first+1, c.first-1, c.last, c.last-1, c.last+1, c.last+2,
			-1, 0, 1, 2, 3, 4, 5, 6, 128, 255, 256, 257, 32768, 65535, 65536, 65537, 1<<31, 1<<32, 1<<32+1, 1<<48, 1<<62+1,
			-255, -256, -65535, -65536, -1<<31, -1<<32+1, math.MinInt, math.MinInt+1, math.MaxInt)
	}
}

func TestLengthsAtTheirEdges(t *testing.T) {
	for _, c := range lengthParts {
		for n := range c.last + 10 {
			c.check(t, n)
		}
		c.check(t, 256, 256+c.last, 65536, 65536+c.last)
	}
}

var wrongTexts = []string{"\x00", "a\x00", "\xff", "a\xff", "\xc0\x80", "\xed\xa0\x80", "\xe2\x82", "\xf4\x90\x80\x80", "\x80", longText(61), strings.Repeat("\u20ac", 20) + "x"}

var wrongTopics = append([]string{"", "+", "#", "a/+", "a/#", "+/a", "a+", "a#", "a/b/c/d/e/f/g", "//////"}, wrongTexts...)

var wrongFilters = append([]string{"", "a+", "+a", "a#", "#a", "#/a", "a/#/b", "++", "##", "a/b/c/d/e/f/#", "a/b/c/d/e/f/g"}, wrongTexts...)

func TestTextsOfPackets(t *testing.T) {
	for _, s := range []string{"", "a", " ", "+", "#", "a/b/c/d/e/f/g", "\u00e9\u20ac\U0001f426", "\ufffd", longText(60), strings.Repeat("\u20ac", 20)} {
		wantSome(t, impl.Packet{Type: impl.Connect, Client: s})
		wantSome(t, aUser(func(p *impl.Packet) { p.User = s }))
		wantSome(t, aUser(func(p *impl.Packet) { p.User, p.HasPass = s, false }))
	}
	for _, s := range wrongTexts {
		wantNone(t, impl.Packet{Type: impl.Connect, Client: s})
		wantNone(t, aUser(func(p *impl.Packet) { p.User = s }))
		wantNone(t, aUser(func(p *impl.Packet) { p.User, p.HasPass = s, false }))
	}
}

func TestTopicsOfPackets(t *testing.T) {
	for _, s := range []string{"a", "/", "a//b", "$s", "a/b/c/d/e/f", "\u20ac", " ", longText(60)} {
		wantSome(t, aPublish(func(p *impl.Packet) { p.Topic = s }))
		wantSome(t, impl.Packet{Type: impl.Publish, Topic: s})
		wantSome(t, aWill(func(p *impl.Packet) { p.WTopic = s }))
	}
	for _, s := range wrongTopics {
		wantNone(t, aPublish(func(p *impl.Packet) { p.Topic = s }))
		wantNone(t, impl.Packet{Type: impl.Publish, Topic: s})
		wantNone(t, aWill(func(p *impl.Packet) { p.WTopic = s }))
	}
}

func TestFiltersOfPackets(t *testing.T) {
	for _, s := range []string{"a", "/", "+", "#", "a/+", "a/#", "+/#", "$s/#", "a/b/c/d/e/#", longText(58) + "/#"} {
		wantSome(t, impl.Packet{Type: impl.Subscribe, Id: 1, Wants: []impl.Want{{Filter: s, Qos: 2}}})
		wantSome(t, impl.Packet{Type: impl.Unsubscribe, Id: 1, Names: []string{s}})
	}
	for _, s := range wrongFilters {
		eachPlace(t, impl.Want{Filter: "a", Qos: 1}, impl.Want{Filter: s, Qos: 1}, func(l []impl.Want) impl.Packet {
			return impl.Packet{Type: impl.Subscribe, Id: 1, Wants: l}
		})
		eachPlace(t, "a", s, func(l []string) impl.Packet {
			return impl.Packet{Type: impl.Unsubscribe, Id: 1, Names: l}
		})
	}
}

// eachPlace lays one wrong element at each place of lists of every length, the others right.
func eachPlace[T any](t *testing.T, right, wrong T, with func(l []T) impl.Packet) {
	t.Helper()
	for n := 1; n <= impl.MaxWants; n++ {
		wantSome(t, with(many(right, n)))
		for at := range n {
			l := many(right, n)
			l[at] = wrong
			wantNone(t, with(l))
		}
	}
	wantNone(t, with(nil))
	wantNone(t, with([]T{}))
	wantNone(t, with(many(right, impl.MaxWants+1)))
}

func TestWrongNumbersInLists(t *testing.T) {
	wrong := []int{-1, -2, 3, 4, 126, 127, 129, 130, 255, 256, 258, 384, 1 << 32, 1<<32 + 128, math.MinInt, math.MinInt + 128, math.MaxInt, -128}
	for _, right := range []int{0, 1, 2, 128} {
		for _, n := range wrong {
			eachPlace(t, right, n, func(l []int) impl.Packet {
				return impl.Packet{Type: impl.SubAck, Id: 1, Codes: l}
			})
		}
	}
	for _, right := range []int{0, 1, 2} {
		for _, n := range append([]int{128}, wrong...) {
			eachPlace(t, impl.Want{Filter: "a", Qos: right}, impl.Want{Filter: "a", Qos: n}, func(l []impl.Want) impl.Packet {
				return impl.Packet{Type: impl.Subscribe, Id: 1, Wants: l}
			})
		}
	}
	for code := -300; code <= 300; code++ {
		p := impl.Packet{Type: impl.SubAck, Id: 1, Codes: []int{code}}
		if impl.PacketOk(p) != (code == 0 || code == 1 || code == 2 || code == 128) {
			t.Errorf("a SubAck of %d", code)
		}
	}
}

// What lies behind a list's length is neither judged nor put.
func TestPacketsAreNotReadBehindTheirLists(t *testing.T) {
	wants := []impl.Want{{Filter: "a"}, {Filter: "+", Qos: 9}}
	codes, names, body := []int{1, 3}, []string{"a", ""}, longBytes(50)
	for _, c := range []struct {
		p    impl.Packet
		want string
	}{
		{impl.Packet{Type: impl.Subscribe, Id: 1, Wants: wants[:1]}, "\x82\x06\x00\x01\x00\x01a\x00"},
		{impl.Packet{Type: impl.SubAck, Id: 1, Codes: codes[:1]}, "\x90\x03\x00\x01\x01"},
		{impl.Packet{Type: impl.Unsubscribe, Id: 1, Names: names[:1]}, "\xa2\x05\x00\x01\x00\x01a"},
		{impl.Packet{Type: impl.Publish, Topic: "a", Body: body[:1]}, "\x30\x04\x00\x01a\xff"},
		{impl.Packet{Type: impl.PingReq, Body: body[:0], Wants: wants[:0], Codes: codes[:0], Names: names[:0]}, "\xc0\x00"},
	} {
		if got := impl.PutPacket(c.p); string(got) != c.want {
			t.Errorf("%+v: %q", c.p, got)
		}
	}
	wantNone(t, impl.Packet{Type: impl.Subscribe, Id: 1, Wants: wants[:0]})
	wantNone(t, impl.Packet{Type: impl.SubAck, Id: 1, Codes: codes[:0]})
	wantNone(t, impl.Packet{Type: impl.Unsubscribe, Id: 1, Names: names[:0]})
}

// The longest packets, whose length takes two bytes.
func TestLongPackets(t *testing.T) {
	b := impl.PutPacket(impl.Packet{
		Type: impl.Connect, Level: 4, Client: longText(60), HasWill: true, WTopic: longText(60), WBody: longBytes(40),
		HasUser: true, User: longText(60), HasPass: true, Pass: longBytes(60),
	})
	sixty := "\x00\x3c" + longText(60)
	want := "\x10\xac\x02\x00\x04MQTT\x04\xc4\x00\x00" + sixty + sixty + "\x00\x28" + string(longBytes(40)) + sixty + "\x00\x3c" + string(longBytes(60))
	if string(b) != want {
		t.Errorf("%q", b)
	}
	b = impl.PutPacket(impl.Packet{Type: impl.Subscribe, Id: 1, Wants: many(impl.Want{Filter: longText(60), Qos: 2}, 4)})
	if want := "\x82\xfe\x01\x00\x01" + strings.Repeat(sixty+"\x02", 4); string(b) != want {
		t.Errorf("%q", b)
	}
	b = impl.PutPacket(impl.Packet{Type: impl.Unsubscribe, Id: 1, Names: many(longText(60), 4)})
	if want := "\xa2\xfa\x01\x00\x01" + strings.Repeat(sixty, 4); string(b) != want {
		t.Errorf("%q", b)
	}
	b = impl.PutPacket(impl.Packet{Type: impl.Publish, Topic: longText(60), Qos: 1, Id: 1, Body: longBytes(40)})
	if want := "\x32\x68" + sixty + "\x00\x01" + string(longBytes(40)); string(b) != want {
		t.Errorf("%q", b)
	}
	// 127 bytes to follow, and 128
	b = impl.PutPacket(impl.Packet{Type: impl.Unsubscribe, Id: 1, Names: []string{longText(60), longText(58), "a"}})
	if want := "\xa2\x7f\x00\x01" + sixty + "\x00\x3a" + longText(58) + "\x00\x01a"; string(b) != want {
		t.Errorf("%q", b)
	}
	b = impl.PutPacket(impl.Packet{Type: impl.Unsubscribe, Id: 1, Names: []string{longText(60), longText(59), "a"}})
	if want := "\xa2\x80\x01\x00\x01" + sixty + "\x00\x3b" + longText(59) + "\x00\x01a"; string(b) != want {
		t.Errorf("%q", b)
	}
}

func TestTypeName(t *testing.T) {
	names := []string{
		"connect", "connack", "publish", "puback", "pubrec", "pubrel", "pubcomp",
		"subscribe", "suback", "unsubscribe", "unsuback", "pingreq", "pingresp", "disconnect",
	}
	for i, want := range names {
		if got := impl.TypeName(i + 1); got != want {
			t.Errorf("TypeName(%d): %q", i+1, got)
		}
	}
	for _, n := range []int{0, -1, -14, 15, 16, 17, 255, 256, 257, 1 << 32, 1<<32 + 1, math.MinInt, math.MinInt + 1, math.MaxInt} {
		if got := impl.TypeName(n); got != "" {
			t.Errorf("TypeName(%d): %q", n, got)
		}
	}
}

func TestWithId(t *testing.T) {
	idAlone := map[int]bool{impl.PubAck: true, impl.PubRec: true, impl.PubRel: true, impl.PubComp: true, impl.UnsubAck: true}
	kinds := []int{math.MinInt, math.MaxInt, 1<<32 + 4, -4, 260}
	for n := -3; n <= 20; n++ {
		kinds = append(kinds, n)
	}
	for _, n := range kinds {
		for _, id := range []int{math.MinInt, -65535, -1, 0, 1, 2, 255, 256, 65534, 65535, 65536, 65537, 1<<32 + 1, math.MaxInt} {
			var want impl.Packet
			if idAlone[n] && id >= 1 && id <= 65535 {
				want = impl.Packet{Type: n, Id: id}
			}
			got := impl.WithId(n, id)
			if !impl.SamePacket(got, want) || got.Type != want.Type || got.Id != want.Id {
				t.Errorf("WithId(%d, %d): %+v", n, id, got)
			}
			if impl.PacketOk(got) != (want.Type != 0) {
				t.Errorf("WithId(%d, %d) is right: %v", n, id, impl.PacketOk(got))
			}
		}
	}
}
