package tests

import (
	"cmp"
	"fmt"
	"runtime"
	"slices"
	"strings"
	"testing"
	"unsafe"

	"loop.example/g00480/impl"
)

const spareName = "spare"

var (
	spareSub  = sub(spareName, 77, -77)
	spareNode = impl.Node{Names: []string{spareName}}
)

// laidTree is a tree whose lists have room behind them, and whose texts lie over bytes that may be turned.
type laidTree struct {
	n     impl.Node
	texts [][]byte
	was   []string
}

func (l *laidTree) text(s string) string {
	b := withRoom(s)
	l.texts, l.was = append(l.texts, b), append(l.was, s)
	return over(b)
}

func (l *laidTree) node(n impl.Node) impl.Node {
	out := impl.Node{Names: roomBehind(n.Names, spareName), Kids: roomBehind(n.Kids, spareNode), Subs: roomBehind(n.Subs, spareSub)}
	for i, name := range n.Names {
		out.Names[i] = l.text(name)
	}
	for i, kid := range n.Kids {
		out.Kids[i] = l.node(kid)
	}
	for i, s := range n.Subs {
		out.Subs[i] = sub(l.text(s.Client), s.Qos, s.Born)
	}
	return out
}

func layTree(n impl.Node) *laidTree {
	l := &laidTree{}
	l.n = l.node(n)
	return l
}

// untouchedAs asks whether the memory is as it was laid for n.
func (l *laidTree) untouchedAs(n impl.Node) bool {
	for i, b := range l.texts {
		if !untouched(b, l.was[i]) {
			return false
		}
	}
	ok := sameTree(l.n, n)
	eachNode(&l.n, func(n *impl.Node) {
		spare := n.Kids[len(n.Kids):cap(n.Kids)]
		ok = ok && spareUntouched(n.Names, spareName) && spareUntouched(n.Subs, spareSub) && slices.EqualFunc(spare[:5], many(spareNode, 5), sameTree)
	})
	return ok
}

// turn turns all that the tree lies over, the room behind its lists too.
func (l *laidTree) turn() {
	var nodes []*impl.Node
	eachNode(&l.n, func(n *impl.Node) { nodes = append(nodes, n) })
	for _, b := range l.texts {
		overwrite(b)
	}
	for _, n := range slices.Backward(nodes) {
		fill(n.Names, "turned")
		fill(n.Subs, sub("turned", 99, 99))
		fill(n.Kids, spareNode)
	}
}

// span is memory that a list or text lies over, the room behind a list too.
type span struct {
	from, to uintptr
	what     string
}

func spanOf[T any](l []T, what string) span {
	var x T
	from := uintptr(unsafe.Pointer(unsafe.SliceData(l)))
	return span{from, from + uintptr(cap(l))*unsafe.Sizeof(x), what}
}

func textSpan(s string, what string) span {
	from := uintptr(unsafe.Pointer(unsafe.StringData(s)))
	return span{from, from + uintptr(len(s)), what}
}

// treeSpans lists all that a tree lies over.
func treeSpans(n impl.Node, what string) []span {
	out := []span{spanOf(n.Names, what+" Names"), spanOf(n.Kids, what+" Kids"), spanOf(n.Subs, what+" Subs")}
	for i, name := range n.Names {
		out = append(out, textSpan(name, fmt.Sprint(what, " name ", i)))
	}
	for i, s := range n.Subs {
		out = append(out, textSpan(s.Client, fmt.Sprint(what, " client ", i)))
	}
	for i, kid := range n.Kids {
		out = append(out, treeSpans(kid, fmt.Sprint(what, "/", i))...)
	}
	return out
}

func subSpans(l []impl.Sub, what string) []span {
	return treeSpans(impl.Node{Subs: l}, what)
}

func entrySpans(l []impl.Entry, what string) []span {
	out := []span{spanOf(l, what)}
	for i, e := range l {
		out = append(out, textSpan(e.Filter, fmt.Sprint(what, " filter ", i)), textSpan(e.Client, fmt.Sprint(what, " client ", i)))
	}
	return out
}

// shared answers two that lie over the same memory, if there are such.
func shared(l []span) (span, span, bool) {
	l = slices.DeleteFunc(slices.Clone(l), func(x span) bool { return x.from == x.to })
	slices.SortFunc(l, func(a, b span) int { return cmp.Compare(a.from, b.from) })
	for i := 1; i < len(l); i++ {
		if l[i].from < l[i-1].to {
			return l[i-1], l[i], true
		}
	}
	return span{}, span{}, false
}

// treeAnswer is an answer, and all that it lies over.
type treeAnswer struct {
	x     any
	spans []span
}

func (a treeAnswer) String() string {
	return fmt.Sprintf("%+v", a.x)
}

// treeCall is a call with what else it is handed.
type treeCall struct {
	name string
	call func(n impl.Node, filter, client string) treeAnswer
}

var treeCalls = []treeCall{
	{"NodeOk", func(n impl.Node, _, _ string) treeAnswer { return treeAnswer{impl.NodeOk(n), nil} }},
	{"Insert", func(n impl.Node, filter, client string) treeAnswer {
		got := impl.Insert(n, filter, sub(client, 1, 5))
		return treeAnswer{got, treeSpans(got, "answer")}
	}},
	{"Insert, wrong", func(n impl.Node, filter, client string) treeAnswer {
		got := impl.Insert(n, filter, sub(client, 3, 5))
		return treeAnswer{got, treeSpans(got, "answer")}
	}},
	{"Remove", func(n impl.Node, filter, client string) treeAnswer {
		got, ok := impl.Remove(n, filter, client)
		return treeAnswer{[]any{got, ok}, treeSpans(got, "answer")}
	}},
	{"RemoveClient", func(n impl.Node, _, client string) treeAnswer {
		got := impl.RemoveClient(n, client)
		return treeAnswer{got, treeSpans(got, "answer")}
	}},
	{"Entries", func(n impl.Node, _, _ string) treeAnswer {
		got := impl.Entries(n)
		return treeAnswer{got, entrySpans(got, "answer")}
	}},
	{"Lookup", func(n impl.Node, topic, _ string) treeAnswer {
		got := impl.Lookup(n, topic)
		return treeAnswer{got, subSpans(got, "answer")}
	}},
}

var (
	memoryFilters = []string{"a", "a/b", "a/b/c/#", "new/way", "/", "#", "$s/+/x", "a+", ""}
	memoryClients = []string{"ann", "bob", "nobody", ""}
)

// memoryTrees lists trees that are right, and one with each fault.
func memoryTrees() []impl.Node {
	out := someTrees()
	for _, fault := range faults {
		out = append(out, withFault(out[6], 1, fault), withFault(out[9], 0, fault))
	}
	return out
}

// eachTreeCall hands out each call with each tree, filter and client.
func eachTreeCall(each func(c treeCall, n impl.Node, filter, client string)) {
	for _, n := range memoryTrees() {
		for _, c := range treeCalls {
			for _, filter := range memoryFilters {
				for _, client := range memoryClients {
					each(c, n, filter, client)
				}
			}
		}
	}
}

// Nothing is written into an argument nor behind it, and no answer lies over what an argument lies over.
func TestTreesAreNeverTurnedInPlace(t *testing.T) {
	eachTreeCall(func(c treeCall, n impl.Node, filter, client string) {
		laid, f, cl := layTree(n), withRoom(filter), withRoom(client)
		got := c.call(laid.n, over(f), over(cl))
		if !laid.untouchedAs(n) || !untouched(f, filter) || !untouched(cl, client) {
			t.Fatalf("%s of %q, %q writes into an argument: %+v", c.name, filter, client, n)
		}
		handed := append(treeSpans(laid.n, "tree"), spanOf(f, "filter"), spanOf(cl, "client"))
		if a, b, ok := shared(append(handed, got.spans...)); ok {
			t.Fatalf("%s of %q, %q, %+v: one memory for %s and %s", c.name, filter, client, n, a.what, b.what)
		}
	})
}

// The answer stays as it was when the arguments turn.
func TestTreesDoNotTurnWithTheirArguments(t *testing.T) {
	n := someTrees()[6]
	for _, filter := range memoryFilters {
		laid, f, c := layTree(n), withRoom(filter), withRoom("new")
		got := impl.Insert(laid.n, over(f), sub(over(c), 1, 5))
		removed, _ := impl.Remove(laid.n, over(f), over(c))
		without := impl.RemoveClient(laid.n, "bob")
		entries, found := impl.Entries(laid.n), impl.Lookup(laid.n, "a/b")
		was := []string{fmt.Sprintf("%+v", got), fmt.Sprintf("%+v", removed), fmt.Sprintf("%+v", without), fmt.Sprintf("%+v", entries), fmt.Sprintf("%+v", found)}
		laid.turn()
		overwrite(f)
		overwrite(c)
		for i, x := range []any{got, removed, without, entries, found} {
			if fmt.Sprintf("%+v", x) != was[i] {
				t.Errorf("%q, answer %d turns as the arguments turn: %+v", filter, i, x)
			}
		}
	}
}

// What lies behind the lengths of lists is not read: there is more of everything there.
func TestTreesAreNotReadBehindTheirLists(t *testing.T) {
	eachTreeCall(func(c treeCall, n impl.Node, filter, client string) {
		want := c.call(n, filter, client).String()
		if got := c.call(layTree(n).n, filter, client).String(); got != want {
			t.Fatalf("%s of %q, %q: %s, not %s", c.name, filter, client, got, want)
		}
	})
	// a right tree goes on behind its lists
	all := treeOf(putAll([]impl.Entry{entry("a", "ann", 1, 1), entry("a", "bob", 1, 1), entry("b", "ann", 1, 1), entry("c", "ann", 1, 1)}))
	cut := impl.Node{Names: all.Names[:2], Kids: slices.Clone(all.Kids)[:2]}
	cut.Kids[0].Subs = cut.Kids[0].Subs[:1]
	wantTree(t, "cut", frozenTree(cut), []impl.Entry{entry("a", "ann", 1, 1), entry("b", "ann", 1, 1)})
	for _, topic := range []string{"a", "b", "c"} {
		wantLookup(t, cut, topic, lookedUp([]impl.Entry{entry("a", "ann", 1, 1), entry("b", "ann", 1, 1)}, topic))
	}
	wantSame(t, "cut", impl.RemoveClient(cut, "nobody"), frozenTree(cut))
	if _, ok := impl.Remove(cut, "a", "bob"); ok {
		t.Error("one behind the list is removed")
	}
	if !sameTree(all, frozenTree(all)) || len(impl.Entries(all)) != 4 {
		t.Error("what is behind the lists is written")
	}
}

// Two answers to the same call are told apart: neither is kept for the other.
func TestTreesAreNewEachTime(t *testing.T) {
	eachTreeCall(func(c treeCall, n impl.Node, filter, client string) {
		first := c.call(n, filter, client)
		second := c.call(n, filter, client)
		if a, b, ok := shared(append(first.spans, second.spans...)); ok {
			t.Fatalf("%s of %q, %q: one memory for %s and %s of two answers", c.name, filter, client, a.what, b.what)
		}
		// else the second one might lie where the first one was
		runtime.KeepAlive(first.x)
	})
}

// sharing lists trees whose own lists lie over one memory, those that are right first.
func sharing() ([]impl.Node, []impl.Node) {
	subs := []impl.Sub{sub("ann", 0, 0), sub("bob", 1, 1), sub("cid", 2, 2)}
	names := []string{"a", "b", "c"}
	kids := []impl.Node{{Subs: subs}, {Subs: subs[:2]}, {Subs: subs[1:]}}
	low := fork(names, kids...)
	mid := fork(names, low, low, low)
	right := []impl.Node{
		low, mid, fork(names, mid, mid, mid),
		fork(names, fork(names[:2], kids[:2]...), fork(names[1:], kids[1:]...), fork(names[1:2], kids[2])),
		fork(names[:1], impl.Node{Names: names, Kids: kids, Subs: subs}),
	}
	var wrong []impl.Node
	for _, n := range right {
		top := n
		top.Subs = subs
		wrong = append(wrong, top, fork([]string{"b", "a"}, n, n), fork([]string{"a", "a"}, n, n), fork([]string{"a", "b", "c"}, n, n))
	}
	return right, append(wrong, fork(names, impl.Node{}, low, low), chain(low, "#", "a", "#"), chain(mid, "a", "b", "c", "d", "e"))
}

// No two lists of one answer share memory, though an argument's do.
func TestListsOfOneTreeShareNoMemory(t *testing.T) {
	right, wrong := sharing()
	for i, n := range append(right, wrong...) {
		if got := impl.NodeOk(n); got != (i < len(right)) || got != judgedTree(n) {
			t.Fatalf("%d: %v", i, got)
		}
		want := frozenTree(n)
		for _, c := range treeCalls {
			for _, filter := range memoryFilters {
				for _, client := range memoryClients {
					got, other := c.call(n, filter, client), c.call(want, filter, client)
					if got.String() != other.String() || !sameTree(n, want) {
						t.Fatalf("%d, %s of %q, %q: %s", i, c.name, filter, client, got)
					}
					if a, b, ok := shared(got.spans); ok {
						t.Fatalf("%d, %s of %q, %q: one memory for %s and %s", i, c.name, filter, client, a.what, b.what)
					}
				}
			}
		}
	}
}

// One text may be the filter, the client, a name and a Client at once.
func TestTreesOfOneText(t *testing.T) {
	b := withRoom("a/b")
	s := over(b)
	n := fork([]string{s[:1]}, impl.Node{Names: []string{s[2:]}, Kids: many(impl.Node{Subs: []impl.Sub{sub(s, 1, 1)}}, 1), Subs: []impl.Sub{sub(s[:1], 2, 2)}})
	l := []impl.Entry{entry("a", "a", 2, 2), entry("a/b", "a/b", 1, 1)}
	got := impl.Insert(n, s, sub(s[2:], 0, 3))
	gone, ok := impl.Remove(n, s, s)
	found, entries := impl.Lookup(n, s), impl.Entries(n)
	if !untouched(b, "a/b") || !ok {
		t.Error("one text")
	}
	overwrite(b)
	wantTree(t, "Insert", got, putEntry(l, entry("a/b", "b", 0, 3)))
	wantTree(t, "Remove", gone, l[:1])
	if !slices.Equal(found, []impl.Sub{sub("a/b", 1, 1)}) || !slices.Equal(entries, l) {
		t.Error(found, entries)
	}
}

// sameDown goes down no further than that: for trees that have no end.
func sameDown(a, b impl.Node, deep int) bool {
	return slices.Equal(a.Names, b.Names) && slices.Equal(a.Subs, b.Subs) && len(a.Kids) == len(b.Kids) &&
		(deep == 0 || slices.EqualFunc(a.Kids, b.Kids, func(a, b impl.Node) bool { return sameDown(a, b, deep-1) }))
}

// spansDown lists what a tree lies over so far down, each memory once.
func spansDown(n impl.Node, deep int, what string) []span {
	out := []span{spanOf(n.Names, what+" Names"), spanOf(n.Kids, what+" Kids"), spanOf(n.Subs, what+" Subs")}
	for i, kid := range n.Kids {
		if deep > 0 {
			out = append(out, spansDown(kid, deep-1, fmt.Sprint(what, "/", i))...)
		}
	}
	return out
}

// endless lists trees that lead back to themselves: at once, on a long way, to a part of a list, and by several ways.
func endless() []impl.Node {
	one := make([]impl.Node, 1)
	one[0] = impl.Node{Names: []string{"a"}, Kids: one, Subs: leaf("ann").Subs}
	two := make([]impl.Node, 2)
	two[0] = impl.Node{Names: []string{"a", "b"}, Kids: two, Subs: leaf("ann").Subs}
	two[1] = two[0]
	long := make([]impl.Node, 1)
	long[0] = chain(impl.Node{Names: []string{"x"}, Kids: long}, "a", "b", "c", "d", "e", "f", "g", "h")
	part := make([]impl.Node, 3)
	part[0] = leaf("ann")
	part[1] = impl.Node{Names: []string{"b", "c"}, Kids: part[1:]}
	part[2] = impl.Node{Names: []string{"a", "b"}, Kids: part[:2], Subs: leaf("bob").Subs}
	here, there := make([]impl.Node, 2), make([]impl.Node, 2)
	fill(here, impl.Node{Names: []string{"a", "b"}, Kids: there, Subs: leaf("ann").Subs})
	fill(there, impl.Node{Names: []string{"a", "b"}, Kids: here, Subs: leaf("bob").Subs})
	there[1].Kids = there
	return []impl.Node{fork([]string{"a"}, one...), fork([]string{"a", "b"}, two...), fork([]string{"a"}, long...), fork([]string{"a", "b", "c"}, part...), fork([]string{"a", "b"}, here...), fork([]string{"x", "y"}, leaf("ann"), fork([]string{"a", "b"}, there...))}
}

// A tree without an end is not right; each call ends, and its answer goes on likewise, in memory of its own.
func TestTreesWithoutAnEnd(t *testing.T) {
	const deep = 11
	for i, n := range endless() {
		ok := impl.NodeOk(n)
		removed, was := impl.Remove(n, "a", "ann")
		if ok || was || len(impl.Entries(n)) != 0 || len(impl.Lookup(n, "a")) != 0 {
			t.Errorf("%d: %v, %v", i, ok, was)
		}
		for _, got := range []impl.Node{removed, impl.Insert(n, "a", sub("ann", 1, 1)), impl.RemoveClient(n, "ann")} {
			if !sameDown(got, n, deep) {
				t.Errorf("%d: another tree", i)
			}
			handed := spansDown(n, deep, "tree")
			for _, x := range spansDown(got, deep, "answer") {
				if slices.ContainsFunc(handed, func(y span) bool { return x.from < y.to && y.from < x.to }) {
					t.Fatalf("%d: %s shares memory with the argument", i, x.what)
				}
			}
		}
	}
}

// deepTree has so many names one behind the other, and somebody who wants each.
func deepTree(deep int) impl.Node {
	n := leaf("ann")
	for range deep {
		n = impl.Node{Names: []string{"a"}, Kids: []impl.Node{n}, Subs: leaf("ann").Subs}
	}
	n.Subs = nil
	return n
}

// sameDeep goes through trees of at most one kid a node.
func sameDeep(a, b impl.Node) bool {
	for {
		if !slices.Equal(a.Names, b.Names) || !slices.Equal(a.Subs, b.Subs) || len(a.Kids) != len(b.Kids) {
			return false
		}
		if len(a.Kids) == 0 {
			return true
		}
		a, b = a.Kids[0], b.Kids[0]
	}
}

func TestDeepTrees(t *testing.T) {
	for _, deep := range []int{5, 6, 7, 8, 100, 200000} {
		n := deepTree(deep)
		if got := impl.NodeOk(n); got != (deep <= 6) {
			t.Fatalf("%d: %v", deep, got)
		}
		if got := impl.RemoveClient(n, "nobody"); !sameDeep(got, n) {
			t.Errorf("%d: RemoveClient", deep)
		}
		if got := impl.Insert(n, strings.Repeat("a/", 6)+"a", sub("ann", 1, 1)); !sameDeep(got, n) {
			t.Errorf("%d: Insert", deep)
		}
		if got, ok := impl.Remove(n, "a/a", "nobody"); ok || !sameDeep(got, n) {
			t.Errorf("%d: Remove", deep)
		}
	}
}

func TestWideTrees(t *testing.T) {
	n, want := impl.Node{}, []impl.Entry(nil)
	for i := range 2000 {
		name := fmt.Sprintf("%04d", i)
		n.Names, n.Kids = append(n.Names, name), append(n.Kids, chain(leaf("ann"), "x"))
		want = append(want, entry(name+"/x", "ann", 0, 0))
	}
	got := impl.Insert(n, "1000/y", sub("bob", 1, 1))
	wantTree(t, "wide", got, putEntry(want, entry("1000/y", "bob", 1, 1)))
	got, ok := impl.Remove(got, "1000/x", "ann")
	if !ok || len(impl.Entries(got)) != 2000 || len(impl.RemoveClient(got, "ann").Names) != 1 {
		t.Error(ok)
	}
	wantLookup(t, got, "1000/y", []impl.Sub{sub("bob", 1, 1)})
}
