package tests

import (
	"math"
	"slices"
	"strings"
	"testing"

	"loop.example/g00480/impl"
)

// known is what is known, kept a second time as plain lists, of which each ask is read by the words of the chapter.
type known struct {
	ver     int
	entries []impl.Entry
	kept    []impl.Kept
}

func (k known) root() impl.Root {
	return impl.Root{Ver: k.ver, Trie: treeOf(k.entries), Kept: k.kept}
}

func (k known) once() known {
	k.ver++
	return k
}

func rightSub(s impl.Sub) bool {
	return s.Client != "" && impl.TextOk(s.Client) && within(s.Qos, 0, 2) && s.Born >= 0
}

func (k known) sub(client string, born int, wants []impl.Want) (known, []int, bool) {
	for _, w := range wants {
		if !impl.FilterOk(w.Filter) || !rightSub(sub(client, w.Qos, born)) {
			return k, nil, false
		}
	}
	if len(wants) == 0 {
		return k, nil, false
	}
	var codes []int
	for _, w := range wants {
		code := 128
		if next := putEntry(k.entries, entry(w.Filter, client, w.Qos, born)); len(next) <= 14 {
			k.entries, code = next, w.Qos
		}
		codes = append(codes, code)
	}
	return k.once(), codes, true
}

func (k known) unsub(client string, names []string) known {
	for _, name := range names {
		k.entries, _ = takeEntry(k.entries, name, client)
	}
	return k.once()
}

func (k known) drop(client string) known {
	k.entries = takeClient(k.entries, client)
	return k.once()
}

func (k known) keep(x impl.Kept) known {
	next := putKept(k.kept, x)
	if impl.TopicOk(x.Topic) && len(x.Body) <= 40 && within(x.Qos, 0, 2) && len(next) <= 8 {
		k.kept = next
	}
	return k.once()
}

// An ask is a packet of all that it is handed, as its kind says: Subscribe, Unsubscribe and Disconnect of a Client, whose session's number is Keep, and Publish.

func asksSub(client string, born int, wants ...impl.Want) impl.Packet {
	return impl.Packet{Type: impl.Subscribe, Client: client, Keep: born, Wants: wants}
}

func asksUnsub(client string, names ...string) impl.Packet {
	return impl.Packet{Type: impl.Unsubscribe, Client: client, Names: names}
}

func asksDrop(client string) impl.Packet {
	return impl.Packet{Type: impl.Disconnect, Client: client}
}

func asksKeep(topic, body string, qos int) impl.Packet {
	return impl.Packet{Type: impl.Publish, Topic: topic, Body: []byte(body), Qos: qos}
}

func wanted(filter string, qos int) impl.Want {
	return impl.Want{Filter: filter, Qos: qos}
}

// rootAnswer is what an ask is answered with: what is known then, the codes, and whether it was turned.
type rootAnswer struct {
	r     impl.Root
	codes []int
	ok    bool
}

func sameRoots(a, b impl.Root) bool {
	return a.Ver == b.Ver && sameTree(a.Trie, b.Trie) && sameKept(a.Kept, b.Kept)
}

func (a rootAnswer) is(b rootAnswer) bool {
	return a.ok == b.ok && slices.Equal(a.codes, b.codes) && sameRoots(a.r, b.r)
}

func asked(r impl.Root, p impl.Packet) rootAnswer {
	var a rootAnswer
	switch p.Type {
	case impl.Subscribe:
		a.r, a.codes = impl.RootSub(r, p.Client, p.Keep, p.Wants)
		a.ok = len(a.codes) > 0
	case impl.Unsubscribe:
		a.r, a.ok = impl.RootUnsub(r, p.Client, p.Names)
	case impl.Disconnect:
		a.r, a.ok = impl.RootDrop(r, p.Client)
	case impl.Publish:
		a.r, a.ok = impl.RootKeep(r, p.Topic, p.Body, p.Qos)
	}
	return a
}

func (k known) asked(p impl.Packet) (known, []int, bool) {
	switch {
	case k.ver == 1000000:
		return k, nil, false
	case p.Type == impl.Subscribe:
		return k.sub(p.Client, p.Keep, p.Wants)
	case p.Type == impl.Unsubscribe:
		return k.unsub(p.Client, p.Names), nil, true
	case p.Type == impl.Disconnect:
		return k.drop(p.Client), nil, true
	}
	return k.keep(impl.Kept{Topic: p.Topic, Body: p.Body, Qos: p.Qos}), nil, true
}

// wantAsked asks r, which is what k says, and answers what both are then: it was turned just once, or is as it was.
func wantAsked(t *testing.T, k known, r impl.Root, p impl.Packet) (known, impl.Root) {
	t.Helper()
	got := asked(r, p)
	want, codes, ok := k.asked(p)
	if !got.is(rootAnswer{want.root(), codes, ok}) || !impl.RootOk(got.r) {
		t.Fatalf("%+v asked of %+v: %+v, not %+v, %v, %v", p, k, got, want, codes, ok)
	}
	turns := 0
	if ok {
		turns = 1
	}
	if got.r.Ver != r.Ver+turns || !ok && !sameRoots(got.r, r) {
		t.Fatalf("%+v asked of %+v: turned %d times", p, k, got.r.Ver-r.Ver)
	}
	return want, got.r
}

// wantAsks asks one behind the other, and answers what is known then.
func wantAsks(t *testing.T, k known, l ...impl.Packet) known {
	t.Helper()
	r := k.root()
	for _, p := range l {
		k, r = wantAsked(t, k, r, p)
	}
	return k
}

// entriesOf lists so many entries in one of four shapes: of one client, of one filter, one behind the other, and of many kinds.
func entriesOf(shape, n int) []impl.Entry {
	kinds := []string{"#", "+", "a", "a/#", "a/+", "a/b", "/", "//", "$s/#", "+/+", "a/b/c/d/e/f", "b/+/#"}
	var out []impl.Entry
	for i := range n {
		name := string(rune('a' + i))
		out = append(out, []impl.Entry{
			entry(name, "ann", i%3, i),
			entry("a/b", name, i%3, i),
			entry(strings.Repeat("a/", i%6)+"b", "c"+string(rune('a'+i/6)), i%3, i),
			entry(kinds[i%len(kinds)], []string{"ann", "bob"}[i/len(kinds)%2], i%3, i),
		}[shape])
	}
	return putAll(out)
}

const shapes = 4

// someKnown lists what may be known: nothing, some of it, and all that there is room for, turned never, some times, and as often as may be.
func someKnown() []known {
	var out []known
	lists := someKept()
	vers := []int{0, 1, 7, 999998, 999999, 1000000}
	for i, l := range someEntries() {
		out = append(out, known{vers[i%6], l, lists[i%len(lists)]}, known{vers[(i+1)%6], l, lists[(i+3)%len(lists)]})
	}
	for shape := range shapes {
		for i, n := range []int{13, 14} {
			out = append(out, known{vers[(shape+i)%6], entriesOf(shape, n), lists[(shape+5*i)%len(lists)]})
		}
	}
	return out
}

// wrongRoots lists what nothing that is known may be, each for one reason, and each two.
func wrongRoots() []impl.Root {
	right := known{7, entriesOf(3, 5), someOf(2, 3)}.root()
	trees := []impl.Node{treeOf(entriesOf(0, 15)), treeOf(entriesOf(1, 15)), treeOf(entriesOf(2, 15)), treeOf(entriesOf(3, 20)), leaf("ann"), fork([]string{"a"}), fork([]string{"a"}, impl.Node{}), fork([]string{"b", "a"}, leaf("ann"), leaf("ann")), chain(leaf("ann"), "#", "a"), chain(leaf("ann"), "a+"), chain(leaf(""), "a"), chain(leaf("b", "a"), "a"), deepTree(7)}
	lists := append(wrongLists()[:3], []impl.Kept{kept("a", "", 0)}, []impl.Kept{kept("+", "x", 0)}, []impl.Kept{kept("a", "x", 3)}, []impl.Kept{kept("b", "x", 0), kept("a", "x", 0)})
	out := []impl.Root{}
	for _, ver := range []int{-1, math.MinInt, 1000001, math.MaxInt} {
		out = append(out, impl.Root{Ver: ver}, impl.Root{Ver: ver, Trie: right.Trie, Kept: right.Kept})
		for _, n := range trees {
			out = append(out, impl.Root{Ver: ver, Trie: n, Kept: right.Kept})
		}
	}
	for _, n := range trees {
		out = append(out, impl.Root{Trie: n}, impl.Root{Ver: 1000000, Trie: n, Kept: right.Kept})
		for _, l := range lists {
			out = append(out, impl.Root{Ver: 7, Trie: n, Kept: l})
		}
	}
	for _, l := range lists {
		out = append(out, impl.Root{Kept: l}, impl.Root{Ver: 999999, Trie: right.Trie, Kept: l})
	}
	return out
}

// someAsks lists what may be asked of anything that is known.
func someAsks() []impl.Packet {
	return []impl.Packet{
		asksSub("ann", 3, wanted("a", 2)), asksSub("new", 0, wanted("a/b", 0), wanted("new/#", 1), wanted("#", 2)), asksSub("", 0, wanted("a", 0)), asksSub("ann", 1), asksSub("ann", 1, wanted("a+", 1)),
		asksUnsub("ann", "a", "a/b", "#"), asksUnsub("bob", "no/such"), asksUnsub("nobody", "a"), asksUnsub("ann"), asksUnsub("", "a+"),
		asksDrop("ann"), asksDrop("nobody"), asksDrop(""),
		asksKeep("a", "new", 2), asksKeep("a", "", 0), asksKeep("new", "x", 1), asksKeep("+", "x", 1), asksKeep("a", longText(41), 0), asksKeep("a", "x", 3),
	}
}
