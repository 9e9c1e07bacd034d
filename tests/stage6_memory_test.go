package tests

import (
	"slices"
	"strings"
	"testing"

	"loop.example/g00480/impl"
)

// memoryBytes lists bytes that are read, waited for and refused.
func memoryBytes() []string {
	var out []string
	for _, c := range rightPackets {
		out = append(out, c.want, c.want+c.want, c.want+"\xff", c.want[:len(c.want)-1])
	}
	_, s, _ := allRight()
	out = append(out, "", s, s+"\x10", s+"\x00")
	return append(out, noPackets...)
}

// frozen copies a packet, so that no part of the copy lies over the packet's own memory.
func frozen(p impl.Packet) impl.Packet {
	for _, s := range []*string{&p.Topic, &p.Client, &p.WTopic, &p.User} {
		*s = strings.Clone(*s)
	}
	for _, b := range []*[]byte{&p.Body, &p.WBody, &p.Pass} {
		*b = slices.Clone(*b)
	}
	p.Wants, p.Names, p.Codes = slices.Clone(p.Wants), slices.Clone(p.Names), slices.Clone(p.Codes)
	for i := range p.Wants {
		p.Wants[i].Filter = strings.Clone(p.Wants[i].Filter)
	}
	for i := range p.Names {
		p.Names[i] = strings.Clone(p.Names[i])
	}
	return p
}

func frozenAll(l []impl.Packet) []impl.Packet {
	var out []impl.Packet
	for _, p := range l {
		out = append(out, frozen(p))
	}
	return out
}

// fill turns every element that a list holds or has room for.
func fill[T any](l []T, x T) {
	for i := range l[:cap(l)] {
		l[:cap(l)][i] = x
	}
}

// turners lists, of each list of a packet, a way to turn all of it, the room behind it too.
func turners(p impl.Packet) map[string]func() {
	return map[string]func(){
		"Body":  func() { overwrite(p.Body) },
		"WBody": func() { overwrite(p.WBody) },
		"Pass":  func() { overwrite(p.Pass) },
		"Wants": func() { fill(p.Wants, impl.Want{Filter: "turned", Qos: 77}) },
		"Names": func() { fill(p.Names, "turned") },
		"Codes": func() { fill(p.Codes, 77) },
	}
}

// without empties one part of a copy of p.
func without(p impl.Packet, name string) impl.Packet {
	return withPart(p, name, partValues[name][0])
}

func TestReadingLeavesItsBytesAlone(t *testing.T) {
	for _, s := range memoryBytes() {
		b := withRoom(s)
		impl.GetPacket(b)
		impl.ReadAll(b)
		if !untouched(b, s) {
			t.Fatalf("reading %.90q writes into it", s)
		}
	}
}

func TestPacketsShareNoMemoryWithTheirBytes(t *testing.T) {
	for _, s := range memoryBytes() {
		b := withRoom(s)
		p, _, _ := impl.GetPacket(b)
		all, _ := impl.ReadAll(b)
		wasP, wasAll := frozen(p), frozenAll(all)
		overwrite(b)
		if !alike(p, wasP) || !slices.EqualFunc(all, wasAll, alike) {
			t.Fatalf("what is read of %.90q turns as its bytes turn", s)
		}
		overwrite(b)
		for _, x := range append(all, p) {
			for _, turn := range turners(x) {
				turn()
			}
		}
		if !untouched(b, s) {
			t.Fatalf("%.90q turns as what is read of it turns", s)
		}
	}
}

// Each list of a packet is turned, and all of its other parts stay.
func TestListsOfOnePacketShareNoMemory(t *testing.T) {
	for _, c := range rightPackets {
		for name := range turners(c.p) {
			p, _, _ := impl.GetPacket([]byte(c.want + c.want))
			turners(p)[name]()
			if !alike(without(p, name), without(c.p, name)) {
				t.Fatalf("%s of %+v lies over another part", name, c.p)
			}
		}
	}
}

// Each list of each packet of an answer is turned, and all other packets stay; so of the list of them.
func TestPacketsOfOneAnswerShareNoMemory(t *testing.T) {
	list, s, _ := allRight()
	for at := range list {
		got, _ := impl.ReadAll([]byte(s))
		for _, turn := range turners(got[at]) {
			turn()
		}
		if !slices.EqualFunc(got[:at], list[:at], alike) || !slices.EqualFunc(got[at+1:], list[at+1:], alike) {
			t.Fatalf("a list of %+v lies over another packet's", list[at])
		}
	}
	same := strings.Repeat("\x30\x04\x00\x01ax", 3)
	got, _ := impl.ReadAll([]byte(same))
	overwrite(got[1].Body)
	if string(got[0].Body) != "x" || string(got[2].Body) != "x" {
		t.Error("packets that are alike share memory")
	}
}

// Two answers to the same call are told apart: neither is kept for the other.
func TestPacketsAreNewEachTime(t *testing.T) {
	for _, s := range memoryBytes() {
		first, _, _ := impl.GetPacket([]byte(s))
		second, _, _ := impl.GetPacket([]byte(s))
		firstAll, _ := impl.ReadAll([]byte(s))
		secondAll, _ := impl.ReadAll([]byte(s))
		was, wasAll := frozen(second), frozenAll(secondAll)
		for _, x := range append(slices.Clone(firstAll), first) {
			for _, turn := range turners(x) {
				turn()
			}
		}
		fill(firstAll, impl.Packet{Type: 77})
		third, _, _ := impl.GetPacket([]byte(s))
		thirdAll, _ := impl.ReadAll([]byte(s))
		if !alike(second, was) || !alike(third, was) || !slices.EqualFunc(secondAll, wasAll, alike) || !slices.EqualFunc(thirdAll, wasAll, alike) {
			t.Fatalf("two answers of %.90q share memory", s)
		}
	}
}

// layAll lays packets over memory that may be turned, ahead of room that is full of spare ones.
func layAll(l []impl.Packet) ([]impl.Packet, []*laidPacket) {
	var laid []*laidPacket
	var out []impl.Packet
	for _, p := range l {
		laid = append(laid, layPacket(p))
		out = append(out, laid[len(laid)-1].p)
	}
	return roomBehind(out, impl.Packet{Type: impl.PingReq, Id: 77}), laid
}

func allUntouched(got []impl.Packet, laid []*laidPacket, list []impl.Packet) bool {
	for i, l := range laid {
		if !l.untouchedAs(list[i]) || !alike(got[i], list[i]) {
			return false
		}
	}
	spare := got[len(got):cap(got)][:5]
	return slices.EqualFunc(spare, many(impl.Packet{Type: impl.PingReq, Id: 77}, 5), alike)
}

func TestWriteAllLeavesItsListAlone(t *testing.T) {
	list := memoryPackets()
	for end := range len(list) + 1 {
		got, laid := layAll(list[:end])
		b := impl.WriteAll(got)
		if !allUntouched(got, laid, list) {
			t.Fatalf("WriteAll of %d packets writes into them", end)
		}
		was := string(b)
		for _, l := range laid {
			l.turn()
		}
		if string(b) != was {
			t.Fatalf("the bytes of %d packets turn as they turn", end)
		}
		for _, l := range laid {
			l.turn()
		}
		overwrite(b)
		if !allUntouched(got, laid, list) {
			t.Fatalf("%d packets turn as their bytes turn", end)
		}
	}
}

// What lies behind the list's length is not written.
func TestWriteAllIsNotReadBehindItsList(t *testing.T) {
	list, s, ends := allRight()
	for i, end := range ends {
		wantWritten(t, list[:i+1], s[:end])
	}
	wantWritten(t, list[:0], "")
}

func TestWrittenBytesAreNewEachTime(t *testing.T) {
	list, s, _ := allRight()
	for _, l := range [][]impl.Packet{nil, list[:1], list, {{}}} {
		first, second := impl.WriteAll(l), impl.WriteAll(l)
		was := string(second)
		overwrite(first)
		if string(second) != was || string(impl.WriteAll(l)) != was {
			t.Fatal("two answers share memory")
		}
	}
	wantWritten(t, list, s)
}
