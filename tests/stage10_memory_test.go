package tests

import (
	"fmt"
	"runtime"
	"slices"
	"strings"
	"testing"

	"loop.example/g00480/impl"
)

func frozenRoot(r impl.Root) impl.Root {
	out := impl.Root{Ver: r.Ver, Trie: frozenTree(r.Trie)}
	for _, k := range r.Kept {
		out.Kept = append(out.Kept, kept(strings.Clone(k.Topic), string(k.Body), k.Qos))
	}
	return out
}

// laidRoot is what is known over memory that may be turned.
type laidRoot struct {
	r    impl.Root
	tree *laidTree
	kept *laidKept
}

func layRoot(r impl.Root) *laidRoot {
	l := &laidRoot{tree: layTree(r.Trie), kept: layKept(r.Kept)}
	l.r = impl.Root{Ver: r.Ver, Trie: l.tree.n, Kept: l.kept.l}
	return l
}

func (l *laidRoot) untouchedAs(r impl.Root) bool {
	return l.r.Ver == r.Ver && l.tree.untouchedAs(r.Trie) && l.kept.untouchedAs(r.Kept)
}

func (l *laidRoot) turn() {
	l.tree.turn()
	l.kept.turn()
}

func rootSpans(r impl.Root, what string) []span {
	return append(treeSpans(r.Trie, what), keptSpans(r.Kept, what+" Kept")...)
}

func askSpans(p impl.Packet) []span {
	out := []span{textSpan(p.Client, "client"), textSpan(p.Topic, "topic"), spanOf(p.Body, "body"), spanOf(p.Wants, "wants"), spanOf(p.Names, "names"), spanOf(p.Codes, "codes")}
	for i, w := range p.Wants {
		out = append(out, textSpan(w.Filter, fmt.Sprint("filter ", i)))
	}
	for i, name := range p.Names {
		out = append(out, textSpan(name, fmt.Sprint("name ", i)))
	}
	return out
}

// rootCall is a call with what else it is handed; what KeptWanted answers stands as what is kept.
type rootCall struct {
	name string
	call func(r impl.Root, p impl.Packet) rootAnswer
}

var rootCalls = []rootCall{
	{"RootOk", func(r impl.Root, _ impl.Packet) rootAnswer { return rootAnswer{ok: impl.RootOk(r)} }},
	{"SameRoot", func(r impl.Root, _ impl.Packet) rootAnswer { return rootAnswer{ok: impl.SameRoot(r, r)} }},
	{"KeptWanted", func(r impl.Root, p impl.Packet) rootAnswer {
		return rootAnswer{r: impl.Root{Kept: impl.KeptWanted(r, p.Wants, p.Codes)}}
	}},
	{"an ask", asked},
}

func (a rootAnswer) spans(what string) []span {
	return append(rootSpans(a.r, what), spanOf(a.codes, what+" codes"))
}

// memoryAsks lists asks that are right, and that are refused, some with Codes for KeptWanted.
func memoryAsks() []impl.Packet {
	out := someAsks()
	for i := range out {
		for range out[i].Wants {
			out[i].Codes = append(out[i].Codes, 128*(i%2))
		}
	}
	// of what is kept, each is found, and twice
	all := asksSub("ann", 1, wanted("#", 2), wanted("a/b", 1), wanted("#", 0))
	all.Codes = []int{2, 1, 0}
	return append(out, all)
}

// memoryRoots lists what is known, and what is not right.
func memoryRoots() []impl.Root {
	var out []impl.Root
	for _, k := range someKnown() {
		out = append(out, k.root())
	}
	for i, r := range wrongRoots() {
		if i%3 == 0 {
			out = append(out, r)
		}
	}
	return out
}

func eachRootCall(each func(c rootCall, r impl.Root, p impl.Packet)) {
	for _, r := range memoryRoots() {
		for _, c := range rootCalls {
			for _, p := range memoryAsks() {
				each(c, r, p)
			}
		}
	}
}

// Nothing is written into an argument nor behind it, no answer lies over what an argument lies over, and no two lists of it over one memory.
func TestRootsLeaveArgumentsAlone(t *testing.T) {
	eachRootCall(func(c rootCall, r impl.Root, p impl.Packet) {
		laid, handed := layRoot(r), layPacket(p)
		got := c.call(laid.r, handed.p)
		if !laid.untouchedAs(r) || !handed.untouchedAs(p) {
			t.Fatalf("%s of %+v writes into an argument: %+v", c.name, p, r)
		}
		all := slices.Concat(rootSpans(laid.r, "root"), askSpans(handed.p), got.spans("answer"))
		if x, y, ok := shared(all); ok {
			t.Fatalf("%s of %+v in %+v: one memory for %s and %s", c.name, p, r, x.what, y.what)
		}
		runtime.KeepAlive(laid)
		runtime.KeepAlive(handed)
	})
}

// The answer stays as it was when the arguments turn; what is behind their lengths is not read.
func TestRootsDoNotTurnWithTheirArguments(t *testing.T) {
	eachRootCall(func(c rootCall, r impl.Root, p impl.Packet) {
		laid, handed := layRoot(r), layPacket(p)
		got, want := c.call(laid.r, handed.p), c.call(r, p)
		laid.turn()
		handed.turn()
		if !got.is(want) {
			t.Fatalf("%s of %+v in %+v: %+v, not %+v", c.name, p, r, got, want)
		}
	})
}

// Two answers to the same call are told apart: neither is kept for the other.
func TestRootsAreNewEachTime(t *testing.T) {
	eachRootCall(func(c rootCall, r impl.Root, p impl.Packet) {
		first := c.call(r, p)
		second := c.call(r, p)
		if x, y, ok := shared(append(first.spans("first"), second.spans("second")...)); ok {
			t.Fatalf("%s of %+v: one memory for %s and %s", c.name, p, x.what, y.what)
		}
		if !first.is(second) {
			t.Fatalf("%s of %+v: %+v, then %+v", c.name, p, first, second)
		}
		// else the second one might lie where the first one was
		runtime.KeepAlive(first)
	})
}

// Right lists go on behind their lengths with what would count.
func TestRootsAreNotReadBehindTheirLists(t *testing.T) {
	wants := []impl.Want{wanted("a", 1), wanted("b", 2), wanted("c", 3)}
	names := []string{"a", "b", "c"}
	k := known{3, entriesOf(0, 12), someOf(0, 4)}
	r := k.root()
	r.Kept = someOf(0, 12)[:4]
	for n := range 3 {
		wantAsked(t, k, r, asksSub("ann", 7, wants[:n]...))
		wantAsked(t, k, r, asksUnsub("ann", names[:n]...))
		var want []impl.Kept
		for _, w := range wants[:n] {
			want = append(want, atMost(w.Qos, impl.KeptFor(k.kept, w.Filter)...)...)
		}
		wantWanted(t, r, wants[:n], []int{1, 2, 3}[:n], want...)
	}
	wantAsked(t, k, r, impl.Packet{Type: impl.Publish, Topic: "a", Body: []byte("xyz")[:0]})
	wantAsked(t, k, r, impl.Packet{Type: impl.Publish, Topic: "a", Body: longBytes(90)[:40]})
	wantSameRoot(t, r, k.root(), true)
	if wants[2].Qos != 3 || names[2] != "c" || !sameKept(r.Kept[:12], someOf(0, 12)) {
		t.Error("what is behind the lists is written")
	}
}

// One text may be the client, a filter, a topic, a body and all that is known at once.
func TestRootsOfOneText(t *testing.T) {
	b := withRoom("a/b")
	s := over(b)
	r := impl.Root{Trie: fork([]string{s[:1]}, fork([]string{s[2:]}, impl.Node{Subs: []impl.Sub{sub(s, 1, 1)}})), Kept: []impl.Kept{{Topic: s, Body: b, Qos: 1}, {Topic: s[2:], Body: b[1:]}}}
	wants := []impl.Want{wanted(s, 2), wanted(s[:1], 1), wanted(s[2:], 0)}
	p := impl.Packet{Client: s, Keep: 5, Wants: wants, Names: []string{s, s[2:], s[1:]}, Topic: s[:1], Body: b, Qos: 2, Codes: []int{2, 1, 0}}
	was := known{0, []impl.Entry{entry("a/b", "a/b", 1, 1)}, []impl.Kept{kept("a/b", "a/b", 1), kept("b", "/b", 0)}}
	var got []rootAnswer
	var then []impl.Root
	for _, kind := range []int{impl.Subscribe, impl.Unsubscribe, impl.Disconnect, impl.Publish} {
		p.Type = kind
		a := asked(r, p)
		want, codes, ok := was.asked(layPacket(p).p)
		if !a.is(rootAnswer{want.root(), codes, ok}) {
			t.Fatalf("%d: %+v, not %+v", kind, a, want)
		}
		got, then = append(got, a), append(then, frozenRoot(a.r))
	}
	found := impl.KeptWanted(r, wants, p.Codes)
	all := spanOf(b, "text")
	for i, a := range append(got, rootAnswer{r: impl.Root{Kept: found}}) {
		if x, y, ok := shared(append(a.spans("answer"), all)); ok {
			t.Fatalf("%d: one memory for %s and %s", i, x.what, y.what)
		}
	}
	overwrite(b)
	for i, a := range got {
		if !sameRoots(a.r, then[i]) {
			t.Errorf("%d turns with its text: %+v", i, a.r)
		}
	}
	if !sameKept(found, []impl.Kept{kept("a/b", "a/b", 1), kept("b", "/b", 0)}) {
		t.Error(found)
	}
}

// Lists of an argument that lie over one memory are told apart in the answer, be it turned, refused or as it was.
func TestListsOfOneRootShareNoMemory(t *testing.T) {
	right, wrong := sharing()
	body := []byte("body")
	l := []impl.Kept{{Topic: "a", Body: body}, {Topic: "b", Body: body}, {Topic: "c", Body: body[1:], Qos: 2}}
	for _, n := range append(right, wrong...) {
		for _, ver := range []int{0, 1000000, -1} {
			r := impl.Root{Ver: ver, Trie: n, Kept: l}
			for _, c := range rootCalls {
				for _, p := range memoryAsks() {
					got := c.call(r, p)
					if x, y, ok := shared(got.spans("answer")); ok {
						t.Fatalf("%s of %+v in %+v: one memory for %s and %s", c.name, p, r, x.what, y.what)
					}
					if !got.is(c.call(frozenRoot(r), p)) {
						t.Fatalf("%s of %+v in %+v: %+v", c.name, p, r, got)
					}
				}
			}
		}
	}
}

// Answers are grown and turned by whoever holds them: neither what they came from nor other answers turn with them.
func TestRootsGrowApart(t *testing.T) {
	for _, k := range someKnown() {
		r := k.root()
		for _, p := range memoryAsks() {
			first, second := asked(r, p), asked(r, p)
			then := rootAnswer{frozenRoot(second.r), slices.Clone(second.codes), second.ok}
			layTurn(first.r)
			_ = append(first.codes, 77)
			fill(first.codes, 77)
			if !sameRoots(r, k.root()) || !second.is(then) {
				t.Fatalf("%+v asked of %+v: turns with another answer", p, k)
			}
		}
	}
}

// layTurn turns all lists of r, the room behind them too.
func layTurn(r impl.Root) {
	var nodes []*impl.Node
	eachNode(&r.Trie, func(n *impl.Node) { nodes = append(nodes, n) })
	for _, n := range slices.Backward(nodes) {
		fill(n.Names, "turned")
		fill(n.Subs, sub("turned", 99, 99))
		fill(n.Kids, spareNode)
	}
	for _, k := range r.Kept {
		fill(k.Body, 'y')
	}
	fill(r.Kept, spareKept)
}
