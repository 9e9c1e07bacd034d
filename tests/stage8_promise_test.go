package tests

import (
	"slices"
	"testing"

	"loop.example/g00480/impl"
)

// dice throws the same numbers each time.
type dice uint64

func (d *dice) below(n int) int {
	*d = *d*6364136223846793005 + 1442695040888963407
	return int(uint64(*d) >> 33 % uint64(n))
}

func pick[T any](d *dice, l []T) T {
	return l[d.below(len(l))]
}

var promiseClients = []string{"ann", "bob", "cid", "Dan", "an", "ann ", "\u00e9"}

func promiseTopics() []string {
	topics := ofLevels([]string{"", "a", "b", "$s"}, 3, false)
	return append(topics, "a/b/a/b/a/b", "/////", "+", "a/#", "\xff", "a/b/a/b/a/b/a")
}

func promiseFilters() []string {
	filters := append(manyFilters(), ofLevels([]string{"a", "b", "+"}, 3, true)...)
	filters = append(filters, "a/b/a/b/a/b", "a/b/a/b/a/#", "+/+/+/+/+/+", "/////", "a/+/a/#", "$s/b/#")
	slices.Sort(filters)
	return slices.Compact(filters)
}

// checkPromise asks for promise 8, word by word, and for who is looked up by a second reading.
func checkPromise(t *testing.T, n impl.Node, l []impl.Entry, topics []string) {
	t.Helper()
	for _, topic := range topics {
		got := impl.Lookup(n, topic)
		for i, s := range got {
			wanted := func(e impl.Entry) bool { return subOf(e) == s && impl.Match(e.Filter, topic) }
			if !slices.ContainsFunc(l, wanted) {
				t.Fatalf("Lookup of %q: %+v wants no filter that fits it", topic, s)
			}
			if i > 0 && got[i-1].Client >= s.Client {
				t.Fatalf("Lookup of %q does not ascend: %+v", topic, got)
			}
		}
		for _, e := range l {
			if !impl.Match(e.Filter, topic) {
				continue
			}
			mine := slices.DeleteFunc(slices.Clone(got), func(s impl.Sub) bool { return s.Client != e.Client })
			if len(mine) != 1 || mine[0].Qos < e.Qos {
				t.Fatalf("Lookup of %q: %+v wants it, and is looked up as %+v", topic, e, mine)
			}
		}
		if want := lookedUp(l, topic); !slices.Equal(got, want) {
			t.Fatalf("Lookup of %q: %+v, not %+v", topic, got, want)
		}
	}
}

// Trees of many filters and clients, of which each grows and is cut back at random.
func TestWhoIsLookedUpWantsTheTopic(t *testing.T) {
	d := dice(8)
	filters, topics := promiseFilters(), promiseTopics()
	for range 60 {
		some := make([]string, 5+d.below(30))
		for i := range some {
			some[i] = pick(&d, filters)
		}
		n, l := impl.Node{}, []impl.Entry(nil)
		for range 20 + d.below(60) {
			n, l = turnedOnce(t, &d, n, l, some)
		}
		wantTree(t, "grown", n, l)
		checkPromise(t, n, l, topics)
	}
}

// turnedOnce puts one in, mostly, or takes one out, or all of a client.
func turnedOnce(t *testing.T, d *dice, n impl.Node, l []impl.Entry, filters []string) (impl.Node, []impl.Entry) {
	t.Helper()
	filter, client := pick(d, filters), pick(d, promiseClients)
	switch d.below(12) {
	case 0:
		return impl.RemoveClient(n, client), takeClient(l, client)
	case 1, 2, 3:
		got, ok := impl.Remove(n, filter, client)
		want, there := takeEntry(l, filter, client)
		if ok != there {
			t.Fatalf("Remove of %q, %q: %v", filter, client, ok)
		}
		return got, want
	}
	e := entry(filter, client, d.below(3), d.below(5))
	return impl.Insert(n, filter, subOf(e)), putEntry(l, e)
}

// Each two filters, wanted by one client and by two, of every two Qos.
func TestEachTwoFilters(t *testing.T) {
	filters := ofLevels([]string{"a", "$s", "+"}, 2, true)
	filters = append(filters, "/", "/+", "+/", "/#", "a/a/a/a/a/#", "+/+/+/+/+/+")
	topics := append(ofLevels([]string{"", "a", "$s"}, 2, false), "a/a/a/a/a", "a/a/a/a/a/a")
	for _, f := range filters {
		for _, g := range filters {
			for qos := range 9 {
				for _, client := range []string{"ann", "bob"} {
					a, b := entry(f, "ann", qos/3, 1), entry(g, client, qos%3, 2)
					n := impl.Insert(impl.Insert(impl.Node{}, f, subOf(a)), g, subOf(b))
					l := putEntry(putEntry(nil, a), b)
					wantTree(t, "two", n, l)
					checkPromise(t, n, l, topics)
				}
			}
		}
	}
}

// A tree of all filters at once, each wanted by some.
func TestAllFiltersAtOnce(t *testing.T) {
	d := dice(88)
	n, l := impl.Node{}, []impl.Entry(nil)
	for _, filter := range promiseFilters() {
		for range 3 {
			e := entry(filter, pick(&d, promiseClients), d.below(3), d.below(9))
			n, l = impl.Insert(n, filter, subOf(e)), putEntry(l, e)
		}
	}
	wantTree(t, "all", n, l)
	checkPromise(t, n, l, promiseTopics())
}

func TestManyClientsOfOneFilter(t *testing.T) {
	n, l := impl.Node{}, []impl.Entry(nil)
	for i := range 300 {
		e := entry("a/b", word(i*7%300+0x6161), i%3, i)
		if !impl.TextOk(e.Client) {
			continue
		}
		n, l = impl.Insert(n, e.Filter, subOf(e)), putEntry(l, e)
	}
	wantTree(t, "many", n, l)
	wantLookup(t, n, "a/b", lookedUp(l, "a/b"))
	if len(l) < 100 {
		t.Error(len(l))
	}
}

// orders hands out all orders of the places below n.
func orders(n int, each func([]int)) {
	var next func(l []int)
	next = func(l []int) {
		if len(l) == n {
			each(l)
			return
		}
		for at := range n {
			if !slices.Contains(l, at) {
				next(append(slices.Clone(l), at))
			}
		}
	}
	next(nil)
}

var orderedEntries = [][]impl.Entry{
	{entry("a", "ann", 0, 1), entry("a/b", "ann", 1, 2), entry("a/b", "bob", 2, 3), entry("a/b/c", "ann", 0, 4), entry("#", "ann", 1, 5)},
	{entry("/", "ann", 0, 1), entry("//", "ann", 1, 2), entry("/a", "ann", 2, 3), entry("a/", "ann", 0, 4), entry("a//", "ann", 1, 5)},
	{entry("a/b/c/d/e/f", "ann", 0, 1), entry("a/b/c/d/e/#", "ann", 1, 2), entry("a/b/c", "bob", 2, 3), entry("a/+/c", "bob", 0, 4), entry("a/#", "ann", 1, 5)},
	{entry("+", "a", 0, 1), entry("+", "b", 1, 2), entry("+", "c", 2, 3), entry("+", "d", 0, 4), entry("+", "e", 1, 5)},
}

// Whatever order they are put in, and taken out in whatever other one, the tree is that of those that are there.
func TestOrdersOfPuttingInAndTakingOut(t *testing.T) {
	for _, l := range orderedEntries {
		all := impl.Node{}
		orders(len(l), func(order []int) {
			n, want := impl.Node{}, []impl.Entry(nil)
			for _, at := range order {
				n, want = impl.Insert(n, l[at].Filter, subOf(l[at])), putEntry(want, l[at])
				wantTree(t, "put in", n, want)
			}
			all = n
		})
		orders(len(l), func(order []int) {
			n, want := all, putAll(l)
			for _, at := range order {
				next, ok := impl.Remove(n, l[at].Filter, l[at].Client)
				if !ok {
					t.Fatalf("%+v was not there", l[at])
				}
				n = next
				want, _ = takeEntry(want, l[at].Filter, l[at].Client)
				wantTree(t, "taken out", n, want)
			}
		})
		wantTree(t, "all of it", all, putAll(l))
	}
}

// One that was put in and taken out again leaves the tree as it was.
func TestPutInAndTakenOutAgain(t *testing.T) {
	for _, l := range someEntries() {
		for _, filter := range promiseFilters() {
			put := impl.Insert(treeOf(l), filter, sub("new", 1, 1))
			got, ok := impl.Remove(put, filter, "new")
			if !ok {
				t.Fatalf("%q was not there", filter)
			}
			wantTree(t, filter+" out again", got, l)
			wantTree(t, filter+" out with all", impl.RemoveClient(put, "new"), l)
		}
	}
}

// All of a client is what is left when each of its entries is taken out.
func TestRemoveClientIsRemoveOfEach(t *testing.T) {
	for _, l := range someEntries() {
		for _, client := range promiseClients {
			n := treeOf(l)
			for _, e := range l {
				if e.Client == client {
					n, _ = impl.Remove(n, e.Filter, client)
				}
			}
			wantSame(t, client, impl.RemoveClient(treeOf(l), client), n)
		}
	}
}
