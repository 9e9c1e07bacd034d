package tests

import (
	"maps"
	"slices"
	"strings"

	"loop.example/g00480/impl"
)

// What is wanted is kept a second time here, as a plain list of entries, and laid into a tree all at once.

func sub(client string, qos, born int) impl.Sub {
	return impl.Sub{Client: client, Qos: qos, Born: born}
}

func entry(filter, client string, qos, born int) impl.Entry {
	return impl.Entry{Filter: filter, Client: client, Qos: qos, Born: born}
}

func subOf(e impl.Entry) impl.Sub {
	return sub(e.Client, e.Qos, e.Born)
}

// entryOrder has each node ahead of its kids, as a list of levels is ahead of what goes on behind it.
func entryOrder(a, b impl.Entry) int {
	if c := slices.Compare(levelsOf(a.Filter), levelsOf(b.Filter)); c != 0 {
		return c
	}
	return strings.Compare(a.Client, b.Client)
}

func placeOfEntry(l []impl.Entry, filter, client string) int {
	return slices.IndexFunc(l, func(e impl.Entry) bool { return e.Filter == filter && e.Client == client })
}

func putEntry(l []impl.Entry, e impl.Entry) []impl.Entry {
	out := slices.Clone(l)
	if at := placeOfEntry(out, e.Filter, e.Client); at >= 0 {
		out[at] = e
		return out
	}
	out = append(out, e)
	slices.SortFunc(out, entryOrder)
	return out
}

func takeEntry(l []impl.Entry, filter, client string) ([]impl.Entry, bool) {
	at := placeOfEntry(l, filter, client)
	if at < 0 {
		return l, false
	}
	return slices.Delete(slices.Clone(l), at, at+1), true
}

func takeClient(l []impl.Entry, client string) []impl.Entry {
	return slices.DeleteFunc(slices.Clone(l), func(e impl.Entry) bool { return e.Client == client })
}

func putAll(l []impl.Entry) []impl.Entry {
	var out []impl.Entry
	for _, e := range l {
		out = putEntry(out, e)
	}
	return out
}

// row is an entry whose first levels are gone.
type row struct {
	levels []string
	sub    impl.Sub
}

// treeOf lays entries, which are in order, into a tree.
func treeOf(l []impl.Entry) impl.Node {
	var rows []row
	for _, e := range l {
		rows = append(rows, row{levelsOf(e.Filter), subOf(e)})
	}
	return grown(rows)
}

func grown(rows []row) impl.Node {
	var n impl.Node
	below := map[string][]row{}
	for _, r := range rows {
		if len(r.levels) == 0 {
			n.Subs = append(n.Subs, r.sub)
			continue
		}
		below[r.levels[0]] = append(below[r.levels[0]], row{r.levels[1:], r.sub})
	}
	n.Names = slices.Sorted(maps.Keys(below))
	for _, name := range n.Names {
		n.Kids = append(n.Kids, grown(below[name]))
	}
	return n
}

// lookedUp goes through entries in order: a later one counts only if its Qos is greater.
func lookedUp(l []impl.Entry, topic string) []impl.Sub {
	best := map[string]impl.Sub{}
	for _, e := range l {
		if was, ok := best[e.Client]; impl.Match(e.Filter, topic) && (!ok || e.Qos > was.Qos) {
			best[e.Client] = subOf(e)
		}
	}
	var out []impl.Sub
	for _, client := range slices.Sorted(maps.Keys(best)) {
		out = append(out, best[client])
	}
	return out
}

func sameTree(a, b impl.Node) bool {
	return slices.Equal(a.Names, b.Names) && slices.Equal(a.Subs, b.Subs) && slices.EqualFunc(a.Kids, b.Kids, sameTree)
}

// frozenTree is a tree in memory of its own.
func frozenTree(n impl.Node) impl.Node {
	var out impl.Node
	for _, name := range n.Names {
		out.Names = append(out.Names, strings.Clone(name))
	}
	for _, kid := range n.Kids {
		out.Kids = append(out.Kids, frozenTree(kid))
	}
	for _, s := range n.Subs {
		out.Subs = append(out.Subs, sub(strings.Clone(s.Client), s.Qos, s.Born))
	}
	return out
}

// eachNode hands out a tree's nodes, each ahead of its kids.
func eachNode(n *impl.Node, each func(*impl.Node)) {
	each(n)
	for i := range n.Kids {
		eachNode(&n.Kids[i], each)
	}
}

// countNodes counts the node itself, too.
func countNodes(n impl.Node) int {
	count := 0
	eachNode(&n, func(*impl.Node) { count++ })
	return count
}

// leaf is a node that is wanted by these, each at a Qos of 0.
func leaf(clients ...string) impl.Node {
	var n impl.Node
	for _, client := range clients {
		n.Subs = append(n.Subs, sub(client, 0, 0))
	}
	return n
}

// chain has these names one behind the other, and end behind the last one.
func chain(end impl.Node, names ...string) impl.Node {
	for _, name := range slices.Backward(names) {
		end = impl.Node{Names: []string{name}, Kids: []impl.Node{end}}
	}
	return end
}

// fork has a name for each kid.
func fork(names []string, kids ...impl.Node) impl.Node {
	return impl.Node{Names: names, Kids: kids}
}

// someEntries lists what is wanted in trees of several kinds, in order.
func someEntries() [][]impl.Entry {
	long := strings.Repeat("\u20ac", 20)
	return [][]impl.Entry{
		nil,
		{entry("a", "ann", 0, 0)},
		{entry("/", "ann", 2, 1)},
		{entry("#", "ann", 1, 7)},
		{entry("a/b/c/d/e/f", "ann", 1, 0)},
		{entry(long, long, 2, 1<<62)},
		putAll([]impl.Entry{entry("a", "bob", 0, 0), entry("a/b", "ann", 1, 1), entry("a/b/c", "cid", 2, 2), entry("a/b/c/#", "ann", 0, 3), entry("a/+", "bob", 1, 4)}),
		putAll([]impl.Entry{entry("a/b", "bob", 1, 0), entry("a/#", "ann", 0, 1), entry("a/b", "ann", 2, 2), entry("#", "cid", 1, 3), entry("/", "ann", 1, 4)}),
		putAll([]impl.Entry{entry("+/+/+/+/+/+", "ann", 0, 1), entry("a/b/c/d/e/#", "bob", 1, 1), entry("//", "cid", 2, 1), entry("//a", "ann", 2, 1), entry("a//b", "ann", 1, 1)}),
		putAll([]impl.Entry{entry("$s", "ann", 1, 0), entry("$s/#", "ann", 1, 1), entry("+", "ann", 2, 2), entry("#", "ann", 2, 3), entry("$s/+/x", "bob", 0, 4), entry("+/a", "bob", 2, 5)}),
		putAll([]impl.Entry{entry("a", "ann", 0, 0), entry("a", "bob", 1, 1), entry("a", "cid", 2, 2), entry("a/b", "ann", 0, 0), entry("a/b", "bob", 1, 1), entry("b", "\u00e9", 0, 9), entry("b", "Z", 0, 9)}),
	}
}

func someTrees() []impl.Node {
	var out []impl.Node
	for _, l := range someEntries() {
		out = append(out, treeOf(l))
	}
	return out
}
