package tests

import (
	"math"
	"reflect"
	"slices"
	"strings"
	"testing"

	"loop.example/g00480/impl"
)

// partNames lists every part of a packet, as the type itself has them.
func partNames() []string {
	var out []string
	for _, f := range reflect.VisibleFields(reflect.TypeFor[impl.Packet]()) {
		out = append(out, f.Name)
	}
	return out
}

// withPart copies p, and turns one part of the copy.
func withPart(p impl.Packet, name string, to any) impl.Packet {
	f := reflect.ValueOf(&p).Elem().FieldByName(name)
	f.Set(reflect.ValueOf(to).Convert(f.Type()))
	return p
}

func partIsEmpty(p impl.Packet, name string) bool {
	f := reflect.ValueOf(p).FieldByName(name)
	if f.Kind() == reflect.Slice {
		return f.Len() == 0
	}
	return f.IsZero()
}

// alike holds two packets against each other part by part, other than the program does.
func alike(a, b impl.Packet) bool {
	x, y := reflect.ValueOf(a), reflect.ValueOf(b)
	for i := range x.NumField() {
		f, g := x.Field(i), y.Field(i)
		if f.Kind() == reflect.Slice && f.Len() == 0 && g.Len() == 0 {
			continue
		}
		if !reflect.DeepEqual(f.Interface(), g.Interface()) {
			return false
		}
	}
	return true
}

// partValues lists what each part is turned into: what is right somewhere, at the edges, and wrong everywhere.
var partValues = map[string][]any{
	"Type":    {math.MinInt, -1, 0, 1, 2, 3, 4, 5, 6, 7, 8, 9, 10, 11, 12, 13, 14, 15, 16, 257, 1<<32 + 3},
	"Dup":     {false, true},
	"Qos":     {-1, 0, 1, 2, 3, 4, 256, 1 << 32},
	"Retain":  {false, true},
	"Id":      {-1, 0, 1, 258, 65535, 65536, 65537, math.MaxInt},
	"Topic":   {"", "a", "a/b", "$s", "+", "a/#", "\xff", "\x00", longText(60), longText(61)},
	"Body":    {[]byte(nil), []byte{}, []byte{0}, []byte("xy"), longBytes(40), longBytes(41)},
	"Client":  {"", "c", "#", "\x00", "\xff", longText(60), longText(61)},
	"Level":   {-1, 0, 1, 4, 255, 256, math.MinInt},
	"Clean":   {false, true},
	"Keep":    {-1, 0, 1, 258, 65535, 65536, math.MinInt},
	"HasWill": {false, true},
	"WTopic":  {"", "w", "w/x", "+", "\xff", longText(61)},
	"WBody":   {[]byte(nil), []byte{}, []byte{0}, []byte("wb"), longBytes(40), longBytes(41)},
	"WQos":    {-1, 0, 1, 2, 3, 16, 1 << 32},
	"WRetain": {false, true},
	"HasUser": {false, true},
	"User":    {"", "u", "\xff", longText(60), longText(61)},
	"HasPass": {false, true},
	"Pass":    {[]byte(nil), []byte{}, []byte{0}, []byte("pw"), longBytes(60), longBytes(61)},
	"Code":    {-1, 0, 1, 5, 6, 256, math.MinInt},
	"Present": {false, true},
	"Wants": {[]impl.Want(nil), []impl.Want{}, []impl.Want{{}}, []impl.Want{{Filter: "a"}}, []impl.Want{{Filter: "a/#", Qos: 2}, {Filter: "+", Qos: 1}},
		[]impl.Want{{Filter: "a", Qos: 3}}, []impl.Want{{Filter: "a"}, {Filter: "a+"}}, many(impl.Want{Filter: "a"}, 4), many(impl.Want{Filter: "a"}, 5)},
	"Names": {[]string(nil), []string{}, []string{""}, []string{"a"}, []string{"a/#", "+"}, []string{"a", "a+"}, many("a", 4), many("a", 5)},
	"Codes": {[]int(nil), []int{}, []int{0}, []int{128, 1}, []int{0, 3}, []int{127}, []int{256}, many(2, 4), many(2, 5)},
}

func TestEachPartIsTurned(t *testing.T) {
	names := partNames()
	if len(names) != 25 || len(partValues) != len(names) {
		t.Fatal(len(names), len(partValues))
	}
	for _, name := range names {
		if len(partValues[name]) < 2 {
			t.Errorf("%s is never turned", name)
		}
	}
}

// namedParts lists what each kind may have set, whatever hangs on what.
var namedParts = map[int]string{
	impl.Connect:     "Level Client Clean Keep HasWill WTopic WBody WQos WRetain HasUser User HasPass Pass",
	impl.ConnAck:     "Code Present",
	impl.Publish:     "Dup Qos Retain Id Topic Body",
	impl.PubAck:      "Id",
	impl.PubRec:      "Id",
	impl.PubRel:      "Id",
	impl.PubComp:     "Id",
	impl.Subscribe:   "Id Wants",
	impl.SubAck:      "Id Codes",
	impl.Unsubscribe: "Id Names",
	impl.UnsubAck:    "Id",
	impl.PingReq:     "",
	impl.PingResp:    "",
	impl.Disconnect:  "",
}

// Promise 5, of what a kind does not name: each such part, one at a time, set to anything at all.
func TestPartsThatAKindDoesNotName(t *testing.T) {
	for _, c := range rightPackets {
		named := strings.Fields(namedParts[c.p.Type])
		for _, name := range partNames() {
			if name == "Type" || slices.Contains(named, name) {
				continue
			}
			for _, to := range partValues[name] {
				p := withPart(c.p, name, to)
				if partIsEmpty(p, name) {
					wantSome(t, p)
				} else {
					wantNone(t, p)
				}
			}
		}
	}
}

func within(n, first, last int) bool {
	return n >= first && n <= last
}

// judged answers, of each part that p's kind names as p has it, whether it is right.
func judged(p impl.Packet) map[string]bool {
	id := within(p.Id, 1, 65535)
	switch p.Type {
	case impl.Connect:
		return judgedConnect(p)
	case impl.ConnAck:
		if p.Code == 0 {
			return map[string]bool{"Code": true, "Present": true}
		}
		return map[string]bool{"Code": within(p.Code, 1, 5)}
	case impl.Publish:
		out := map[string]bool{"Qos": within(p.Qos, 0, 2), "Retain": true, "Topic": impl.TopicOk(p.Topic), "Body": len(p.Body) <= 40}
		if p.Qos == 1 || p.Qos == 2 {
			out["Dup"], out["Id"] = true, id
		}
		return out
	case impl.Subscribe:
		right := within(len(p.Wants), 1, 4)
		for _, w := range p.Wants {
			right = right && impl.FilterOk(w.Filter) && within(w.Qos, 0, 2)
		}
		return map[string]bool{"Id": id, "Wants": right}
	case impl.SubAck:
		right := within(len(p.Codes), 1, 4)
		for _, code := range p.Codes {
			right = right && slices.Contains([]int{0, 1, 2, 128}, code)
		}
		return map[string]bool{"Id": id, "Codes": right}
	case impl.Unsubscribe:
		right := within(len(p.Names), 1, 4)
		for _, name := range p.Names {
			right = right && impl.FilterOk(name)
		}
		return map[string]bool{"Id": id, "Names": right}
	case impl.PubAck, impl.PubRec, impl.PubRel, impl.PubComp, impl.UnsubAck:
		return map[string]bool{"Id": id}
	}
	return map[string]bool{}
}

func judgedConnect(p impl.Packet) map[string]bool {
	out := map[string]bool{"Level": within(p.Level, 0, 255), "Client": impl.TextOk(p.Client), "Clean": true, "Keep": within(p.Keep, 0, 65535), "HasWill": true, "HasUser": true}
	if p.HasWill {
		out["WTopic"], out["WBody"], out["WQos"], out["WRetain"] = impl.TopicOk(p.WTopic), len(p.WBody) <= 40, within(p.WQos, 0, 2), true
	}
	if p.HasUser {
		out["User"], out["HasPass"] = impl.TextOk(p.User), true
	}
	if p.HasUser && p.HasPass {
		out["Pass"] = len(p.Pass) <= 60
	}
	return out
}

// readRight goes through all parts by their names, other than the program does.
func readRight(p impl.Packet) bool {
	if !within(p.Type, 1, 14) {
		return false
	}
	parts := judged(p)
	for _, name := range partNames()[1:] {
		if right, named := parts[name]; named && !right || !named && !partIsEmpty(p, name) {
			return false
		}
	}
	return true
}

func counted(s string) string {
	return word(len(s)) + s
}

func word(n int) string {
	return string([]byte{byte(n / 256), byte(n % 256)})
}

func oneIf(set bool) int {
	if set {
		return 1
	}
	return 0
}

func connectBytes(p impl.Packet) string {
	flags := oneIf(p.HasUser)<<7 | oneIf(p.HasPass)<<6 | oneIf(p.WRetain)<<5 | p.WQos<<3 | oneIf(p.HasWill)<<2 | oneIf(p.Clean)<<1
	s := counted("MQTT") + string([]byte{byte(p.Level), byte(flags)}) + word(p.Keep) + counted(p.Client)
	if p.HasWill {
		s += counted(p.WTopic) + counted(string(p.WBody))
	}
	if p.HasUser {
		s += counted(p.User)
	}
	if p.HasPass {
		s += counted(string(p.Pass))
	}
	return s
}

// bytesOf spells out what a right packet is put as.
func bytesOf(p impl.Packet) string {
	first, s := p.Type*16, ""
	if strings.HasPrefix(namedParts[p.Type], "Id") {
		s = word(p.Id)
	}
	switch p.Type {
	case impl.Connect:
		s = connectBytes(p)
	case impl.ConnAck:
		s = string([]byte{byte(oneIf(p.Present)), byte(p.Code)})
	case impl.Publish:
		first += oneIf(p.Dup)<<3 | p.Qos<<1 | oneIf(p.Retain)
		s = counted(p.Topic)
		if p.Qos > 0 {
			s += word(p.Id)
		}
		s += string(p.Body)
	case impl.PubRel, impl.Subscribe, impl.Unsubscribe:
		first += 2
	}
	for _, w := range p.Wants {
		s += counted(w.Filter) + string([]byte{byte(w.Qos)})
	}
	for _, code := range p.Codes {
		s += string([]byte{byte(code)})
	}
	for _, name := range p.Names {
		s += counted(name)
	}
	return string(impl.PutLen([]byte{byte(first)}, len(s))) + s
}

// A packetCheck holds packets against the reading above, and asks that no two unlike ones have the same bytes.
type packetCheck struct {
	t          *testing.T
	seen       map[string]impl.Packet
	right, all int
}

func newPacketCheck(t *testing.T) *packetCheck {
	return &packetCheck{t: t, seen: map[string]impl.Packet{}}
}

func (c *packetCheck) check(p impl.Packet) {
	c.t.Helper()
	c.all++
	got, want := impl.PutPacket(p), readRight(p)
	if impl.PacketOk(p) != want {
		c.t.Fatalf("%+v is right: %v", p, !want)
	}
	if !want {
		if len(got) != 0 {
			c.t.Fatalf("%+v is not right, but has bytes: %x", p, got)
		}
		return
	}
	c.right++
	if string(got) != bytesOf(p) {
		c.t.Fatalf("%+v: %q, not %q", p, got, bytesOf(p))
	}
	if other, ok := c.seen[string(got)]; ok && !impl.SamePacket(other, p) {
		c.t.Fatalf("%+v and %+v have the same bytes", other, p)
	}
	c.seen[string(got)] = p
}

// done asks that both answers were met.
func (c *packetCheck) done() {
	if c.right == 0 || c.right == c.all {
		c.t.Errorf("%d of %d packets are right", c.right, c.all)
	}
}

// Every two parts of each of rightPackets, turned into everything that is listed for them.
func TestEveryTwoPartsTurned(t *testing.T) {
	check := newPacketCheck(t)
	names := partNames()
	for _, c := range rightPackets {
		for i, first := range names {
			for _, to := range partValues[first] {
				p := withPart(c.p, first, to)
				check.check(p)
				for _, second := range names[i+1:] {
					for _, to := range partValues[second] {
						check.check(withPart(p, second, to))
					}
				}
			}
		}
	}
	check.done()
}

// everyOf walks through all that the values of these parts make together.
func everyOf(p impl.Packet, names []string, values map[string][]any, do func(impl.Packet)) {
	if len(names) == 0 {
		do(p)
		return
	}
	for _, to := range values[names[0]] {
		everyOf(withPart(p, names[0], to), names[1:], values, do)
	}
}

func TestAllConnects(t *testing.T) {
	check := newPacketCheck(t)
	values := map[string][]any{
		"Clean": {false, true}, "HasWill": {false, true}, "WRetain": {false, true}, "HasUser": {false, true}, "HasPass": {false, true},
		"WTopic": {"", "w", "+"}, "WBody": {[]byte(nil), []byte("b"), longBytes(41)}, "WQos": {-1, 0, 1, 2, 3},
		"User": {"", "u", "\x00"}, "Pass": {[]byte(nil), []byte("p"), longBytes(61)},
	}
	names := []string{"Clean", "HasWill", "WRetain", "HasUser", "HasPass", "WTopic", "WBody", "WQos", "User", "Pass"}
	everyOf(impl.Packet{Type: impl.Connect, Level: 4, Client: "c"}, names, values, check.check)
	check.done()
}

func TestAllPublishes(t *testing.T) {
	check := newPacketCheck(t)
	everyOf(impl.Packet{Type: impl.Publish}, strings.Fields(namedParts[impl.Publish]), partValues, check.check)
	check.done()
}

func TestAllConnAcks(t *testing.T) {
	check := newPacketCheck(t)
	everyOf(impl.Packet{Type: impl.ConnAck}, []string{"Code", "Present", "Id", "Body"}, partValues, check.check)
	check.done()
}

// Each part, on its own, tells two packets apart.
func TestSamePacketAsksEachPart(t *testing.T) {
	for _, c := range rightPackets {
		for _, name := range partNames() {
			for _, x := range partValues[name] {
				for _, y := range partValues[name] {
					a, b := withPart(c.p, name, x), withPart(c.p, name, y)
					// What is no list is held against the other as it is; of lists an empty one is as good as none.
					want := reflect.DeepEqual(x, y) || partIsEmpty(a, name) && partIsEmpty(b, name)
					if got := impl.SamePacket(a, b); got != want {
						t.Fatalf("%s %#v and %#v are the same: %v", name, x, y, got)
					}
				}
			}
		}
	}
}

func TestSamePacketOfAllPairs(t *testing.T) {
	list := []impl.Packet{{}, {Type: -1}, {Type: 15}, {Id: 1}}
	for _, c := range rightPackets {
		list = append(list, c.p)
	}
	for i, a := range list {
		for j, b := range list {
			if got := impl.SamePacket(a, b); got != (i == j) {
				t.Errorf("%+v and %+v are the same: %v", a, b, got)
			}
		}
	}
}

// Packets that are not right are held against each other like others.
func TestSamePacketOfWrongOnes(t *testing.T) {
	wrong := impl.Packet{Type: 99, Qos: -7, Topic: "\xff", Body: longBytes(100), Wants: many(impl.Want{Filter: "\x00", Qos: 9}, 9)}
	other := wrong
	other.Body, other.Wants = slices.Clone(wrong.Body), slices.Clone(wrong.Wants)
	if !impl.SamePacket(wrong, other) {
		t.Error("alike ones are not the same")
	}
	other.Body[99] = 0
	if impl.SamePacket(wrong, other) {
		t.Error("unlike ones are the same")
	}
}

// turnedAt asks, of lists of every length, each element, one more and one fewer.
func turnedAt[T any](t *testing.T, name string, x, y T) {
	t.Helper()
	for n := range 7 {
		a, b := withPart(impl.Packet{}, name, many(x, n)), withPart(impl.Packet{}, name, many(x, n))
		if !impl.SamePacket(a, b) {
			t.Errorf("%s: two lists of %d are not the same", name, n)
		}
		longer := withPart(impl.Packet{}, name, many(x, n+1))
		if impl.SamePacket(a, longer) || impl.SamePacket(longer, a) {
			t.Errorf("%s: a list of %d and a longer one are the same", name, n)
		}
		for at := range n {
			l := many(x, n)
			l[at] = y
			b := withPart(impl.Packet{}, name, l)
			if impl.SamePacket(a, b) || impl.SamePacket(b, a) {
				t.Errorf("%s: lists that differ at %d of %d are the same", name, at, n)
			}
		}
	}
}

func TestSamePacketAsksEachElement(t *testing.T) {
	turnedAt(t, "Body", byte(0), byte(1))
	turnedAt(t, "WBody", byte(0), byte(255))
	turnedAt(t, "Pass", byte('a'), byte('A'))
	turnedAt(t, "Wants", impl.Want{Filter: "a", Qos: 1}, impl.Want{Filter: "b", Qos: 1})
	turnedAt(t, "Wants", impl.Want{Filter: "a", Qos: 1}, impl.Want{Filter: "a", Qos: 2})
	turnedAt(t, "Wants", impl.Want{Filter: "a", Qos: 1}, impl.Want{})
	turnedAt(t, "Names", "a", "b")
	turnedAt(t, "Names", "a", "")
	turnedAt(t, "Codes", 0, 128)
	turnedAt(t, "Codes", 0, 1<<32)
}

func TestOrderInListsCounts(t *testing.T) {
	a := impl.Packet{Names: []string{"a", "b"}, Codes: []int{1, 2}, Body: []byte("ab")}
	for _, b := range []impl.Packet{
		{Names: []string{"b", "a"}, Codes: []int{1, 2}, Body: []byte("ab")},
		{Names: []string{"a", "b"}, Codes: []int{2, 1}, Body: []byte("ab")},
		{Names: []string{"a", "b"}, Codes: []int{1, 2}, Body: []byte("ba")},
	} {
		if impl.SamePacket(a, b) {
			t.Errorf("%+v and %+v are the same", a, b)
		}
	}
}

func TestEmptyListsAndNilAreTheSame(t *testing.T) {
	empty := impl.Packet{Body: []byte{}, WBody: []byte{}, Pass: []byte{}, Wants: []impl.Want{}, Names: []string{}, Codes: []int{}}
	if !impl.SamePacket(empty, impl.Packet{}) || !impl.SamePacket(impl.Packet{}, empty) {
		t.Error("empty lists and nil are not the same")
	}
	for _, c := range rightPackets {
		p := c.p
		for _, name := range []string{"Body", "WBody", "Pass", "Wants", "Names", "Codes"} {
			if partIsEmpty(p, name) {
				p = withPart(p, name, reflect.ValueOf(empty).FieldByName(name).Interface())
			}
		}
		if got := impl.PutPacket(p); !impl.PacketOk(p) || string(got) != c.want || !impl.SamePacket(p, c.p) {
			t.Errorf("%+v with empty lists: %q", p, got)
		}
	}
}
