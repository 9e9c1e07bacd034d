package tests

import (
	"math"
	"slices"
	"strings"
	"testing"

	"loop.example/g00480/impl"
)

// wantTree asks for the very tree that the entries, which are in order, lay out.
func wantTree(t *testing.T, what string, got impl.Node, want []impl.Entry) {
	t.Helper()
	if !sameTree(got, treeOf(want)) || !impl.NodeOk(got) || !slices.Equal(impl.Entries(got), want) {
		t.Fatalf("%s: %+v, not of %+v", what, got, want)
	}
}

// wantSame asks for n itself.
func wantSame(t *testing.T, what string, got, n impl.Node) {
	t.Helper()
	if !sameTree(got, n) {
		t.Fatalf("%s: %+v, not %+v", what, got, n)
	}
}

func wantLookup(t *testing.T, n impl.Node, topic string, want []impl.Sub) {
	t.Helper()
	if got := impl.Lookup(n, topic); !slices.Equal(got, want) {
		t.Fatalf("Lookup of %q in %+v: %+v, not %+v", topic, impl.Entries(n), got, want)
	}
}

// manyFilters has filters that are beginnings of others, of every kind, at most three levels deep.
func manyFilters() []string {
	var out []string
	for _, f := range ofLevels([]string{"", "a", "$s", "+"}, 3, true) {
		if f != "" {
			out = append(out, f)
		}
	}
	return out
}

func TestEntriesOfSomeTrees(t *testing.T) {
	for _, l := range someEntries() {
		wantTree(t, "laid", treeOf(l), l)
	}
}

// Each node's Subs stand ahead of its Kids', though the filter's text may be greater.
func TestEntriesInOrder(t *testing.T) {
	n := fork([]string{"", "!", "a", "a b"},
		chain(leaf("z"), "#"),
		leaf("q", "r"),
		impl.Node{Names: []string{"", "b"}, Kids: []impl.Node{leaf("b"), chain(leaf("a"), "c")}, Subs: leaf("x", "y").Subs},
		leaf("k"))
	var got []string
	for _, e := range impl.Entries(n) {
		got = append(got, e.Filter+" "+e.Client)
	}
	if want := []string{"/# z", "! q", "! r", "a x", "a y", "a/ b", "a/b/c a", "a b k"}; !slices.Equal(got, want) {
		t.Errorf("%q", got)
	}
}

func TestInsertIntoNothing(t *testing.T) {
	for _, c := range []struct {
		filter string
		want   impl.Node
	}{
		{"a", fork([]string{"a"}, leaf("ann"))},
		{"#", fork([]string{"#"}, leaf("ann"))},
		{"+", fork([]string{"+"}, leaf("ann"))},
		{"/", fork([]string{""}, fork([]string{""}, leaf("ann")))},
		{"a/b", fork([]string{"a"}, fork([]string{"b"}, leaf("ann")))},
		{"/a/", fork([]string{""}, fork([]string{"a"}, fork([]string{""}, leaf("ann"))))},
		{"a/+/#", fork([]string{"a"}, fork([]string{"+"}, fork([]string{"#"}, leaf("ann"))))},
		{"a/b/c/d/e/f", chain(leaf("ann"), "a", "b", "c", "d", "e", "f")},
		{"/////", chain(leaf("ann"), "", "", "", "", "", "")},
		{longText(60), chain(leaf("ann"), longText(60))},
	} {
		for _, n := range []impl.Node{{}, {Names: []string{}, Kids: []impl.Node{}, Subs: []impl.Sub{}}} {
			if got := impl.Insert(n, c.filter, sub("ann", 0, 0)); !sameTree(got, c.want) {
				t.Errorf("Insert of %q: %+v", c.filter, got)
			}
		}
	}
}

// Nodes are there: all of the way, some of it, none of it; the new one is first, last, or between.
func TestInsertWhereNodesAre(t *testing.T) {
	for _, l := range someEntries() {
		n := treeOf(l)
		for _, filter := range append(manyFilters(), "a/b/c/d", "a/b/c/d/e/f", "a/b/c/#", "0", "zz", "\U0010ffff/x", longText(60)) {
			for _, client := range []string{"Ann", "ann", "anna", "bob", "\u20ac"} {
				got := impl.Insert(n, filter, sub(client, 1, 55))
				wantTree(t, "Insert of "+filter+" "+client, got, putEntry(l, entry(filter, client, 1, 55)))
			}
		}
		wantTree(t, "what Insert was handed", n, l)
	}
}

// The same Client once more: it stands in the place of the elder one, whatever both say.
func TestInsertInThePlaceOfAnother(t *testing.T) {
	for _, l := range someEntries() {
		for _, was := range l {
			for _, s := range []impl.Sub{subOf(was), sub(was.Client, 0, was.Born), sub(was.Client, 1, was.Born), sub(was.Client, 2, was.Born), sub(was.Client, was.Qos, was.Born/2), sub(was.Client, was.Qos, was.Born+1), sub(was.Client, 2-was.Qos, math.MaxInt)} {
				got := impl.Insert(treeOf(l), was.Filter, s)
				wantTree(t, "Insert once more", got, putEntry(l, entry(was.Filter, s.Client, s.Qos, s.Born)))
				if len(impl.Entries(got)) != len(l) {
					t.Error("two of one Client", was)
				}
			}
		}
	}
}

func TestInsertAtTheEdges(t *testing.T) {
	for _, s := range []impl.Sub{sub("a", 0, 0), sub("a", 2, math.MaxInt), sub(longText(60), 1, 1), sub(strings.Repeat("\u20ac", 20), 1, 1), sub(" ", 0, 0), sub("/+#$", 0, 0)} {
		for _, l := range someEntries() {
			wantTree(t, "Insert", impl.Insert(treeOf(l), "a/b", s), putEntry(l, entry("a/b", s.Client, s.Qos, s.Born)))
		}
	}
}

func TestInsertRefuses(t *testing.T) {
	for _, n := range someTrees() {
		for _, filter := range wrongFilters {
			wantSame(t, "Insert of "+filter, impl.Insert(n, filter, sub("ann", 1, 1)), n)
		}
		for _, s := range wrongSubs() {
			for _, filter := range []string{"a", "a/b", "new/+", "#"} {
				wantSame(t, "Insert of a wrong one", impl.Insert(n, filter, s), n)
			}
		}
	}
}

func TestRemoveOfEach(t *testing.T) {
	for _, l := range someEntries() {
		for _, e := range l {
			got, ok := impl.Remove(treeOf(l), e.Filter, e.Client)
			want, _ := takeEntry(l, e.Filter, e.Client)
			if !ok {
				t.Errorf("Remove of %+v: false", e)
			}
			wantTree(t, "Remove", got, want)
		}
	}
}

func TestRemoveOfWhatIsNotThere(t *testing.T) {
	for _, l := range someEntries() {
		n := treeOf(l)
		for _, filter := range append(manyFilters(), "a/b/c/d/e", "a/b/c/d/e/f", "zz", "b/b") {
			for _, client := range append([]string{"", "an", "ann", "anna", "bob", "zed"}, wrongTexts...) {
				want, there := takeEntry(l, filter, client)
				got, ok := impl.Remove(n, filter, client)
				if ok != there {
					t.Errorf("Remove of %q, %q: %v", filter, client, ok)
				}
				wantTree(t, "Remove of "+filter+" "+client, got, want)
			}
		}
		for _, filter := range wrongFilters {
			got, ok := impl.Remove(n, filter, "ann")
			if ok {
				t.Errorf("Remove of %q is true", filter)
			}
			wantSame(t, "Remove of "+filter, got, n)
		}
	}
}

// Kids are gone just as far up as nobody else wants them.
func TestRemoveOfTheLastOne(t *testing.T) {
	for deep := 1; deep <= 6; deep++ {
		names := strings.Split("a/b/c/d/e/f", "/")[:deep]
		filter := strings.Join(names, "/")
		got, ok := impl.Remove(chain(leaf("ann"), names...), filter, "ann")
		if !ok || len(got.Names) != 0 || len(got.Kids) != 0 || len(got.Subs) != 0 {
			t.Errorf("%q: %+v, %v", filter, got, ok)
		}
		alone := []impl.Entry{entry(filter, "ann", 0, 0)}
		// somebody wants a beginning of it, what goes on behind it, or what stands beside it
		for at := 1; at <= deep; at++ {
			head := strings.Join(names[:at], "/")
			for _, other := range []string{head, head + "/x", head + "/#", head + "x", "0" + head, strings.Join(names[:at-1], "/") + "/+"} {
				if !impl.FilterOk(other) || other == filter {
					continue
				}
				left := []impl.Entry{entry(other, "bob", 1, 1)}
				got, ok := impl.Remove(treeOf(putAll(append(left, alone...))), filter, "ann")
				if !ok {
					t.Errorf("%q beside %q: false", filter, other)
				}
				wantTree(t, filter+" beside "+other, got, left)
			}
		}
	}
}

func TestRemoveWhereTheNodeStays(t *testing.T) {
	for _, c := range []struct {
		filter string
		want   []impl.Entry
	}{
		// its node has Kids still
		{"a", putAll([]impl.Entry{entry("a", "bob", 1, 1), entry("a/b", "ann", 2, 2), entry("a/b/c", "ann", 2, 3)})},
		// another wants it
		{"a/b/c", putAll([]impl.Entry{entry("a", "ann", 0, 0), entry("a", "bob", 1, 1), entry("a/b", "ann", 2, 2), entry("a/b/c", "cid", 2, 3)})},
		{"a/b/c", putAll([]impl.Entry{entry("a/b/c", "Ann", 2, 3), entry("a/b/c", "cid", 2, 3)})},
		{"a", putAll([]impl.Entry{entry("a/b", "bob", 2, 2)})},
	} {
		l := putEntry(c.want, entry(c.filter, "ann", 1, 9))
		got, ok := impl.Remove(treeOf(l), c.filter, "ann")
		want, _ := takeEntry(l, c.filter, "ann")
		if !ok {
			t.Error(c.filter)
		}
		wantTree(t, c.filter, got, want)
		if _, ok := impl.Remove(got, c.filter, "ann"); ok {
			t.Error("twice", c.filter)
		}
	}
}

func TestRemoveClient(t *testing.T) {
	for _, l := range someEntries() {
		n := treeOf(l)
		for _, client := range append([]string{"", "an", "ann", "anna", "bob", "cid", "\u00e9", "Z", "nobody"}, wrongTexts...) {
			wantTree(t, "RemoveClient of "+client, impl.RemoveClient(n, client), takeClient(l, client))
		}
		for _, e := range l {
			wantTree(t, "RemoveClient of "+e.Client, impl.RemoveClient(n, e.Client), takeClient(l, e.Client))
		}
	}
}

// One that wants it all is gone from it all; one that wants it alone leaves nothing.
func TestRemoveClientOfManyPlaces(t *testing.T) {
	var alone, both []impl.Entry
	for i, filter := range manyFilters() {
		alone = append(alone, entry(filter, "ann", i%3, i))
	}
	alone = putAll(alone)
	for _, e := range alone {
		both = append(both, e, entry(e.Filter, "bob", 1, 1))
	}
	for _, client := range []string{"ann", "bob", "cid"} {
		wantTree(t, "alone", impl.RemoveClient(treeOf(alone), client), takeClient(alone, client))
		wantTree(t, "both", impl.RemoveClient(treeOf(both), client), takeClient(both, client))
	}
	n := impl.RemoveClient(impl.RemoveClient(treeOf(both), "bob"), "ann")
	if len(n.Names) != 0 || len(n.Kids) != 0 || len(n.Subs) != 0 {
		t.Errorf("%+v", n)
	}
}

// wantRefusedTree asks of a tree that is not right for the one answer of each function.
func wantRefusedTree(t *testing.T, what string, n impl.Node) {
	t.Helper()
	for _, filter := range []string{"a", "a/b", "#", "", "x/y"} {
		wantSame(t, what+": Insert", impl.Insert(n, filter, sub("ann", 1, 1)), n)
		got, ok := impl.Remove(n, filter, "ann")
		if ok {
			t.Fatalf("%s: Remove is true of %+v", what, n)
		}
		wantSame(t, what+": Remove", got, n)
		if l := impl.Lookup(n, filter); len(l) != 0 {
			t.Fatalf("%s: Lookup in %+v: %+v", what, n, l)
		}
	}
	for _, client := range []string{"ann", "bob", "", "nobody"} {
		wantSame(t, what+": RemoveClient", impl.RemoveClient(n, client), n)
	}
	if l := impl.Entries(n); len(l) != 0 {
		t.Fatalf("%s: Entries of %+v: %+v", what, n, l)
	}
}

func TestTreesThatAreNotRight(t *testing.T) {
	each := func(what string, n impl.Node) {
		if !judgedTree(n) {
			wantRefusedTree(t, what, n)
		}
	}
	faultyTrees(someTrees(), each)
	count := 0
	smallTrees(func(n impl.Node) {
		// some of so many are enough
		if count++; count%11 == 0 {
			each("small", n)
		}
	})
	for _, n := range someTrees() {
		n.Subs = leaf("ann").Subs
		wantRefusedTree(t, "Subs where all begins", n)
	}
}

func TestLookup(t *testing.T) {
	n := treeOf(putAll([]impl.Entry{
		entry("a/b", "bob", 1, 1), entry("a/b", "ann", 0, 2), entry("a/+", "bob", 2, 3), entry("a/#", "cid", 1, 4),
		entry("#", "dan", 0, 5), entry("+/b", "Eve", 2, 6), entry("b", "ann", 2, 7), entry("a", "ann", 1, 8), entry("/", "ann", 1, 9),
	}))
	for topic, want := range map[string][]impl.Sub{
		"a/b":   {sub("Eve", 2, 6), sub("ann", 0, 2), sub("bob", 2, 3), sub("cid", 1, 4), sub("dan", 0, 5)},
		"a":     {sub("ann", 1, 8), sub("cid", 1, 4), sub("dan", 0, 5)},
		"a/c":   {sub("bob", 2, 3), sub("cid", 1, 4), sub("dan", 0, 5)},
		"a/b/c": {sub("cid", 1, 4), sub("dan", 0, 5)},
		"b":     {sub("ann", 2, 7), sub("dan", 0, 5)},
		"b/b":   {sub("Eve", 2, 6), sub("dan", 0, 5)},
		"/b":    {sub("Eve", 2, 6), sub("dan", 0, 5)},
		"/":     {sub("ann", 1, 9), sub("dan", 0, 5)},
		"a/":    {sub("bob", 2, 3), sub("cid", 1, 4), sub("dan", 0, 5)},
		"zz":    {sub("dan", 0, 5)},
		"$a/b":  nil,
	} {
		wantLookup(t, n, topic, want)
	}
}

// Of one Client the greatest Qos, wherever it stands; of alike ones the first of the Entries.
func TestLookupOfTheGreatestQos(t *testing.T) {
	filters := []string{"#", "+/#", "+/+", "+/b", "a/#", "a/+", "a/b", "a/b/#"}
	for first := range filters {
		for second := range filters {
			for qos := range 9 {
				if first == second {
					continue
				}
				// handed in either order: what counts is where they stand
				a, b := entry(filters[first], "ann", qos/3, 100), entry(filters[second], "ann", qos%3, 50)
				want := a
				if b.Qos > a.Qos || b.Qos == a.Qos && entryOrder(b, a) < 0 {
					want = b
				}
				n := impl.Insert(impl.Insert(impl.Node{}, a.Filter, subOf(a)), b.Filter, subOf(b))
				wantLookup(t, n, "a/b", []impl.Sub{subOf(want)})
			}
		}
	}
}

// Names that stand ahead of `#`, between `#` and `+`, and behind `+`; a node ahead of its kids.
func TestLookupOfTheFirstOfAlikeOnes(t *testing.T) {
	for _, topic := range []string{"!", "\"", "\" x", "*", "*a", ",", "a", "\u20ac", " ", "\x01"} {
		l := putAll([]impl.Entry{entry("#", "ann", 1, 1), entry("+", "ann", 1, 2), entry(topic, "ann", 1, 3), entry(topic+"/#", "ann", 1, 4)})
		born := 1
		if topic < "#" {
			born = 3
		}
		wantLookup(t, treeOf(l), topic, []impl.Sub{sub("ann", 1, born)})
		l, _ = takeEntry(l, "#", "ann")
		born = 2
		if topic < "+" {
			born = 3
		}
		wantLookup(t, treeOf(l), topic, []impl.Sub{sub("ann", 1, born)})
		l, _ = takeEntry(l, "+", "ann")
		wantLookup(t, treeOf(l), topic, []impl.Sub{sub("ann", 1, 3)})
	}
}

// As Clients ascend byte by byte, so does who is looked up, whichever filter each has.
func TestLookupAscends(t *testing.T) {
	clients := []string{" ", "A", "B", "Z", "a", "aa", "ab", "b", "\u00e9", "\u20ac", "\U0001f426"}
	filters := []string{"a/b", "#", "a/+", "+/b", "a/#"}
	var l []impl.Entry
	var want []impl.Sub
	for i, client := range clients {
		l = append(l, entry(filters[i%5], client, i%3, i))
		want = append(want, sub(client, i%3, i))
	}
	wantLookup(t, treeOf(putAll(l)), "a/b", want)
}

func TestLookupOfHiddenTopics(t *testing.T) {
	n := treeOf(putAll([]impl.Entry{
		entry("#", "all", 2, 0), entry("+", "one", 2, 0), entry("+/#", "rest", 2, 0), entry("+/a", "a", 2, 0),
		entry("$s", "s", 0, 0), entry("$s/#", "below", 0, 0), entry("$s/+", "next", 0, 0), entry("$s/a", "all", 0, 1), entry("$", "money", 0, 0), entry("a/$s", "within", 0, 0),
	}))
	for topic, want := range map[string][]impl.Sub{
		"$s":     {sub("below", 0, 0), sub("s", 0, 0)},
		"$s/a":   {sub("all", 0, 1), sub("below", 0, 0), sub("next", 0, 0)},
		"$s/b/c": {sub("below", 0, 0)},
		"$":      {sub("money", 0, 0)},
		"$t":     nil,
		"$t/a":   nil,
		"a/$s":   {sub("all", 2, 0), sub("rest", 2, 0), sub("within", 0, 0)},
		"a":      {sub("all", 2, 0), sub("one", 2, 0), sub("rest", 2, 0)},
		"/a":     {sub("a", 2, 0), sub("all", 2, 0), sub("rest", 2, 0)},
	} {
		wantLookup(t, n, topic, want)
	}
}

func TestLookupOfNoTopics(t *testing.T) {
	n := impl.Node{}
	for _, filter := range append(manyFilters(), "a/b/c/d/e/#", longText(60)) {
		n = impl.Insert(n, filter, sub("ann", 1, 1))
	}
	for _, topic := range wrongTopics {
		wantLookup(t, n, topic, nil)
	}
	for _, n := range someTrees() {
		for _, topic := range wrongTopics {
			wantLookup(t, n, topic, nil)
		}
	}
	wantLookup(t, impl.Node{}, "a", nil)
	wantLookup(t, n, longText(60), []impl.Sub{sub("ann", 1, 1)})
}
