package tests

import (
	"slices"
	"strings"
	"testing"

	"loop.example/g00480/impl"
)

// A cutter takes one part after the other off a text; it is wrong from the first one on that is not there.
type cutter struct {
	s     string
	wrong bool
}

func (c *cutter) take(n int) string {
	if n > len(c.s) {
		c.s, c.wrong = "", true
		return strings.Repeat("\x00", n)
	}
	out := c.s[:n]
	c.s = c.s[n:]
	return out
}

func (c *cutter) byte() int {
	return int(c.take(1)[0])
}

func (c *cutter) word() int {
	return c.byte()*256 + c.byte()
}

func (c *cutter) counted() string {
	return c.take(c.word())
}

// cutConnect takes a Connect off, and asks each of its flags for what it hangs on.
func cutConnect(c *cutter, p *impl.Packet) {
	if c.take(6) != "\x00\x04MQTT" {
		c.wrong = true
	}
	p.Level = c.byte()
	flags := c.byte()
	if !flagsRight(flags) {
		c.wrong = true
	}
	p.Clean, p.HasWill, p.WQos, p.WRetain, p.HasPass, p.HasUser = flags&2 != 0, flags&4 != 0, flags>>3&3, flags&32 != 0, flags&64 != 0, flags&128 != 0
	p.Keep = c.word()
	p.Client = c.counted()
	if p.HasWill {
		p.WTopic = c.counted()
		p.WBody = []byte(c.counted())
	}
	if p.HasUser {
		p.User = c.counted()
	}
	if p.HasPass {
		p.Pass = []byte(c.counted())
	}
}

// cutParts takes the parts that a kind names off what follows.
func cutParts(first byte, s string) (impl.Packet, bool) {
	c := &cutter{s: s}
	p := impl.Packet{Type: int(first) / 16}
	if strings.HasPrefix(namedParts[p.Type], "Id") {
		p.Id = c.word()
	}
	switch p.Type {
	case impl.Connect:
		cutConnect(c, &p)
	case impl.ConnAck:
		present := c.byte()
		p.Present, p.Code, c.wrong = present == 1, c.byte(), c.wrong || present > 1
	case impl.Publish:
		p.Dup, p.Qos, p.Retain = first&8 != 0, int(first>>1&3), first&1 != 0
		p.Topic = c.counted()
		if p.Qos > 0 {
			p.Id = c.word()
		}
		p.Body = []byte(c.take(len(c.s)))
	case impl.Subscribe:
		for c.s != "" {
			filter := c.counted()
			p.Wants = append(p.Wants, impl.Want{Filter: filter, Qos: c.byte()})
		}
	case impl.SubAck:
		for c.s != "" {
			p.Codes = append(p.Codes, c.byte())
		}
	case impl.Unsubscribe:
		for c.s != "" {
			p.Names = append(p.Names, c.counted())
		}
	}
	return p, !c.wrong && c.s == "" && readRight(p)
}

// readGet reads a packet off the front, in the order of reasons of the chapter, without putting it again.
func readGet(s string) (impl.Packet, int, int) {
	if s == "" {
		return impl.Packet{}, 0, impl.GoWait
	}
	if strings.IndexByte(rightFirst, s[0]) < 0 {
		return impl.Packet{}, 0, impl.GoBad
	}
	n, next, code := readLen([]byte(s), 1)
	if code != impl.GoGood {
		return impl.Packet{}, 0, code
	}
	if n > 340 {
		return impl.Packet{}, 0, impl.GoBad
	}
	if next+n > len(s) {
		return impl.Packet{}, 0, impl.GoWait
	}
	p, ok := cutParts(s[0], s[next:next+n])
	if !ok {
		return impl.Packet{}, 0, impl.GoBad
	}
	return p, next + n, impl.GoGood
}

// checkGet holds an answer against the reading above, and bytes that are read against the packet's own. It answers the code.
func checkGet(t *testing.T, s string) int {
	t.Helper()
	got, n, code := impl.GetPacket([]byte(s))
	want, wantN, wantCode := readGet(s)
	if code != wantCode || n != wantN || !alike(got, want) {
		t.Fatalf("GetPacket(%.90q): %+v, %d, %d, not %+v, %d, %d", s, got, n, code, want, wantN, wantCode)
	}
	if code == impl.GoGood && (string(impl.PutPacket(got)) != s[:n] || bytesOf(got) != s[:n]) {
		t.Fatalf("GetPacket(%.90q): %+v, whose bytes are others", s, got)
	}
	return code
}

// A readCheck counts which answers were met.
type readCheck struct {
	t    *testing.T
	seen [3]int
}

func (c *readCheck) check(s string) {
	c.t.Helper()
	c.seen[checkGet(c.t, s)]++
}

func (c *readCheck) done() {
	c.t.Helper()
	if slices.Contains(c.seen[:], 0) {
		c.t.Errorf("good, wait, bad: %d", c.seen)
	}
}

func TestReadingOfRightPackets(t *testing.T) {
	for _, c := range rightPackets {
		if checkGet(t, c.want) != impl.GoGood {
			t.Errorf("%q is not read", c.want)
		}
	}
}

// Every byte of every right packet, turned into every other one.
func TestEveryByteTurned(t *testing.T) {
	check := &readCheck{t: t}
	for _, c := range rightPackets {
		for at := range len(c.want) {
			for x := range 256 {
				s := c.want[:at] + string([]byte{byte(x)}) + c.want[at+1:]
				check.check(s)
				check.check(s + "\x00\x01a")
			}
		}
	}
	check.done()
}

var tellingBytes = []byte{0, 1, 2, 3, 4, 'a', '/', '+', '#', 0x7f, 0x80, 0xc0, 0xff}

func TestEveryTwoBytesTurned(t *testing.T) {
	check := &readCheck{t: t}
	for _, c := range rightPackets {
		b := []byte(c.want)
		for i := range b {
			for j := range i {
				for _, x := range tellingBytes {
					for _, y := range tellingBytes {
						b[i], b[j] = x, y
						check.check(string(b))
					}
				}
				b[j] = c.want[j]
			}
			b[i] = c.want[i]
		}
	}
	check.done()
}

// Every byte taken out, and every one laid in, with the length as it was and as it ought to be.
func TestBytesTakenOutAndLaidIn(t *testing.T) {
	check := &readCheck{t: t}
	for _, c := range rightPackets {
		for at := range len(c.want) {
			check.check(c.want[:at] + c.want[at+1:])
			if at >= 2 {
				check.check(framed(c.want[0], c.want[2:at]+c.want[at+1:]))
			}
		}
		for at := range len(c.want) + 1 {
			for x := range 256 {
				more := string([]byte{byte(x)})
				check.check(c.want[:at] + more + c.want[at:])
				if at >= 2 {
					check.check(framed(c.want[0], c.want[2:at]+more+c.want[at:]))
				}
			}
		}
	}
	check.done()
}

// Each right packet's parts under each first byte.
func TestPartsOfOtherKinds(t *testing.T) {
	check := &readCheck{t: t}
	for first := range 256 {
		for _, c := range rightPackets {
			for end := range len(c.want) + 1 {
				check.check(string([]byte{byte(first)}) + c.want[min(1, end):end])
			}
		}
	}
	check.done()
}

// All short bytes of those that tell something apart, behind each first byte and a right length.
func TestAllShortPackets(t *testing.T) {
	check := &readCheck{t: t}
	signs := []string{"\x00", "\x01", "\x02", "a", "+", "\x80"}
	for i := range len(rightFirst) {
		allTexts(signs, 5, func(s string) {
			check.check(framed(rightFirst[i], s))
		})
	}
	// None of these is cut.
	if check.seen[impl.GoWait] != 0 || check.seen[impl.GoGood] == 0 || check.seen[impl.GoBad] == 0 {
		t.Error(check.seen)
	}
}

// All short bytes, from the first on.
func TestAllShortBytes(t *testing.T) {
	check := &readCheck{t: t}
	signs := []string{"\x00", "\x01", "\x02", "\x03", "a", "\x10", "\x20", "\x30", "\x40", "\x62", "\x90", "\xc0", "\xe0", "\x80", "\xff"}
	allTexts(signs, 4, check.check)
	check.done()
}

// Every two parts of each right packet, turned: who is right comes back, whatever is behind.
func TestTurnedPacketsComeBack(t *testing.T) {
	right := 0
	back := func(p impl.Packet) {
		if !impl.PacketOk(p) {
			return
		}
		right++
		s := bytesOf(p)
		for _, tail := range []string{"", "\x00", "\xc0\x00", "\xff\xff"} {
			if got, n, code := impl.GetPacket([]byte(s + tail)); code != impl.GoGood || n != len(s) || !alike(got, p) {
				t.Fatalf("GetPacket(%.90q): %+v, %d, %d, not %+v", s+tail, got, n, code, p)
			}
		}
	}
	names := partNames()
	for _, c := range rightPackets {
		for i, first := range names {
			for _, to := range partValues[first] {
				p := withPart(c.p, first, to)
				for _, second := range names[i+1:] {
					for _, to := range partValues[second] {
						back(withPart(p, second, to))
					}
				}
			}
		}
	}
	if right == 0 {
		t.Error("none is right")
	}
}
