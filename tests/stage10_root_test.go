package tests

import (
	"math"
	"slices"
	"strings"
	"testing"

	"loop.example/g00480/impl"
)

func TestRootLimits(t *testing.T) {
	if impl.MaxVer != 1000000 || impl.MaxEntries != 14 {
		t.Error(impl.MaxVer, impl.MaxEntries)
	}
}

func wantRootOk(t *testing.T, r impl.Root, want bool) {
	t.Helper()
	if got := impl.RootOk(r); got != want {
		t.Fatalf("RootOk of %+v: %v", r, got)
	}
}

// readRoot reads the chapter's sentence once more.
func readRoot(r impl.Root) bool {
	if !judgedTree(r.Trie) {
		return false
	}
	count := 0
	eachNode(&r.Trie, func(n *impl.Node) { count += len(n.Subs) })
	return within(r.Ver, 0, 1000000) && count <= 14 && readKept(r.Kept)
}

func TestRootOkOfVer(t *testing.T) {
	for _, k := range someKnown() {
		r := k.root()
		for _, ver := range []int{0, 1, 2, 255, 65536, 999999, 1000000} {
			r.Ver = ver
			wantRootOk(t, r, true)
		}
		for _, ver := range []int{-1, -2, -1000000, math.MinInt, 1000001, 1000002, 1 << 32, math.MaxInt} {
			r.Ver = ver
			wantRootOk(t, r, false)
		}
	}
}

func TestRootOkOfHowManyEntries(t *testing.T) {
	for shape := range shapes {
		for n := range 21 {
			l := entriesOf(shape, n)
			if len(l) != n {
				t.Fatalf("%d entries, not %d", len(l), n)
			}
			wantRootOk(t, known{7, l, nil}.root(), n <= 14)
			wantRootOk(t, known{0, l, someOf(0, 8)}.root(), n <= 14)
		}
	}
	// what counts is who wants a filter, neither filters nor nodes
	deep := strings.Repeat("a/", 5)
	var l []impl.Entry
	for i := range 14 {
		l = putEntry(l, entry(deep+string(rune('a'+i)), "ann", 0, 0))
		l = putEntry(l, entry(string(rune('b'+i))+"/"+deep[2:]+"x", "ann", 0, 0))
		wantRootOk(t, known{0, l, nil}.root(), len(l) <= 14)
	}
}

func TestRootOkOfEachPart(t *testing.T) {
	wantRootOk(t, impl.Root{}, true)
	wantRootOk(t, impl.Root{Trie: impl.Node{Names: []string{}, Kids: []impl.Node{}, Subs: []impl.Sub{}}, Kept: []impl.Kept{}}, true)
	for _, k := range someKnown() {
		wantRootOk(t, k.root(), true)
	}
	for _, r := range wrongRoots() {
		wantRootOk(t, r, false)
	}
	for _, n := range endless() {
		wantRootOk(t, impl.Root{Trie: n}, false)
	}
	for _, deep := range []int{6, 7, 200000} {
		wantRootOk(t, impl.Root{Trie: deepTree(deep)}, deep == 6)
	}
}

// Every Ver beside every tree, and every list: each faulty in its own way, or not.
func TestRootOkOfPartsTogether(t *testing.T) {
	seen := map[bool]int{}
	lists := append(someKept()[:6], wrongLists()[:12]...)
	check := func(r impl.Root) {
		want := readRoot(r)
		seen[want]++
		wantRootOk(t, r, want)
	}
	trees := []impl.Node{{}, treeOf(entriesOf(0, 14)), treeOf(entriesOf(3, 14)), treeOf(entriesOf(1, 15))}
	faultyTrees(slices.Concat(someTrees(), trees), func(_ string, n impl.Node) {
		for i, ver := range []int{-1, 0, 1000000, 1000001} {
			check(impl.Root{Ver: ver, Trie: n, Kept: lists[(i*5+len(n.Names))%len(lists)]})
			check(impl.Root{Ver: ver, Trie: n})
		}
	})
	for _, n := range trees {
		for _, l := range lists {
			for _, ver := range []int{-1, 0, 1000000, 1000001} {
				check(impl.Root{Ver: ver, Trie: n, Kept: l})
			}
		}
	}
	if seen[true] < 100 || seen[false] < 1000 {
		t.Error(seen)
	}
}

// Codes spelt out: what is there already has room, what was refused takes none.
func TestRootSubWhereThereIsRoomForSome(t *testing.T) {
	l := entriesOf(0, 13)
	for _, c := range []struct {
		n     int
		wants []impl.Want
		codes []int
		added []impl.Entry
	}{
		{12, []impl.Want{wanted("x", 0), wanted("y", 1)}, []int{0, 1}, []impl.Entry{entry("x", "ann", 0, 99), entry("y", "ann", 1, 99)}},
		{13, []impl.Want{wanted("x", 0), wanted("y", 1)}, []int{0, 128}, []impl.Entry{entry("x", "ann", 0, 99)}},
		{13, []impl.Want{wanted("y", 1), wanted("x", 0), wanted("z", 2)}, []int{1, 128, 128}, []impl.Entry{entry("y", "ann", 1, 99)}},
		{13, []impl.Want{wanted("x", 0), wanted("x", 2), wanted("x", 1)}, []int{0, 2, 1}, []impl.Entry{entry("x", "ann", 1, 99)}},
		{13, []impl.Want{wanted("a", 2), wanted("x", 0), wanted("b", 0), wanted("y", 2), wanted("x", 2), wanted("c", 1)}, []int{2, 0, 0, 128, 2, 1},
			[]impl.Entry{entry("a", "ann", 2, 99), entry("x", "ann", 2, 99), entry("b", "ann", 0, 99), entry("c", "ann", 1, 99)}},
		{13, []impl.Want{wanted("a", 1), wanted("b", 1)}, []int{1, 1}, []impl.Entry{entry("a", "ann", 1, 99), entry("b", "ann", 1, 99)}},
	} {
		r := known{41, l[:c.n], someOf(0, 3)}.root()
		got, codes := impl.RootSub(r, "ann", 99, c.wants)
		want := known{42, putAll(append(slices.Clone(l[:c.n]), c.added...)), someOf(0, 3)}
		if !slices.Equal(codes, c.codes) || !sameRoots(got, want.root()) {
			t.Errorf("%+v: %v, %+v", c.wants, codes, got)
		}
	}
}

// Where all are refused there are codes, and so a turn; what is known otherwise stays.
func TestRootSubWhereThereIsNoRoom(t *testing.T) {
	for shape := range shapes {
		k := known{41, entriesOf(shape, 14), someOf(0, 3)}
		for n := 1; n < 20; n++ {
			var wants []impl.Want
			for i := range n {
				wants = append(wants, wanted("new/"+string(rune('a'+i)), i%3))
			}
			got, codes := impl.RootSub(k.root(), "ann", 99, wants)
			if !slices.Equal(codes, many(128, n)) || !sameRoots(got, k.once().root()) {
				t.Fatalf("%d of %+v: %v, %+v", n, k, codes, got)
			}
		}
		// each that is there has room, for its own client alone
		for _, e := range k.entries {
			for qos := range 3 {
				want := known{42, putEntry(k.entries, entry(e.Filter, e.Client, qos, 99)), k.kept}
				got, codes := impl.RootSub(k.root(), e.Client, 99, []impl.Want{wanted(e.Filter, qos)})
				if !slices.Equal(codes, []int{qos}) || !sameRoots(got, want.root()) {
					t.Fatalf("%+v: %v, %+v", e, codes, got)
				}
				got, codes = impl.RootSub(k.root(), e.Client+"x", 99, []impl.Want{wanted(e.Filter, qos)})
				if !slices.Equal(codes, []int{128}) || !sameRoots(got, k.once().root()) {
					t.Fatalf("another one of %+v: %v, %+v", e, codes, got)
				}
			}
		}
	}
}

// Every short list of wants, new ones and ones that are there, some of them twice, on each side of MaxEntries.
func TestRootSubOfEveryFewWants(t *testing.T) {
	for shape := range shapes {
		for n := 11; n <= 14; n++ {
			k := known{n, entriesOf(shape, n), someOf(1, 2)}
			r := k.root()
			there, last := k.entries[0], k.entries[n-1]
			some := []impl.Want{wanted("new", 0), wanted("new", 2), wanted("new/+", 1), wanted(there.Filter, 2), wanted(last.Filter, 0)}
			var ask func(wants []impl.Want)
			ask = func(wants []impl.Want) {
				wantAsked(t, k, r, asksSub(there.Client, 77, wants...))
				for _, w := range some {
					if len(wants) < 4 {
						ask(append(slices.Clone(wants), w))
					}
				}
			}
			ask(nil)
		}
	}
}

func TestRootSubOfManyWants(t *testing.T) {
	var wants []impl.Want
	for i, filter := range manyFilters() {
		wants = append(wants, wanted(filter, i%3))
	}
	got, codes := impl.RootSub(impl.Root{}, "ann", 0, append(wants, wants...))
	for i, code := range codes {
		want := 128
		if at := i % len(wants); at < 14 {
			want = wants[at].Qos
		}
		if code != want {
			t.Errorf("%d: %d", i, code)
		}
	}
	if len(codes) != 2*len(wants) || got.Ver != 1 || len(impl.Entries(got.Trie)) != 14 || !impl.RootOk(got) {
		t.Error(len(codes), got)
	}
	for _, k := range someKnown() {
		wantAsks(t, k, asksSub("new", 5, wants...), asksSub("bob", 0, wants[3:9]...), asksSub("ann", math.MaxInt, wants...))
	}
}

func TestRootSubOfNothing(t *testing.T) {
	for _, k := range someKnown() {
		for _, wants := range [][]impl.Want{nil, {}, []impl.Want{wanted("a", 1)}[:0]} {
			for _, client := range append([]string{"ann", "new", ""}, wrongTexts...) {
				for _, born := range []int{0, 5, -1, math.MinInt} {
					got, codes := impl.RootSub(k.root(), client, born, wants)
					if len(codes) != 0 || !sameRoots(got, k.root()) {
						t.Fatalf("%q, %d of %+v: %v, %+v", client, born, k, codes, got)
					}
				}
			}
		}
	}
}

func wantSubRefused(t *testing.T, r impl.Root, client string, born int, wants ...impl.Want) {
	t.Helper()
	got, codes := impl.RootSub(r, client, born, wants)
	if len(codes) != 0 || !sameRoots(got, r) {
		t.Fatalf("RootSub of %q, %d, %+v in %+v: %v, %+v", client, born, wants, r, codes, got)
	}
}

// One that is wrong refuses all, wherever it stands: also where there would be no room for it, or it would come too late.
func TestRootSubRefusesWrongWants(t *testing.T) {
	var wrong []impl.Want
	for _, filter := range wrongFilters {
		wrong = append(wrong, wanted(filter, 1))
	}
	for _, qos := range []int{-1, 3, 128, 256, math.MinInt, math.MaxInt} {
		wrong = append(wrong, wanted("a", qos), wanted("new", qos))
	}
	right := []impl.Want{wanted("a", 1), wanted("new", 0), wanted("#", 2)}
	for _, k := range someKnown() {
		r := k.root()
		for i, w := range wrong {
			wantSubRefused(t, r, "ann", 3, w)
			at := i % 4
			wantSubRefused(t, r, "ann", 3, slices.Insert(slices.Clone(right), at, w)...)
			wantSubRefused(t, r, "ann", 3, slices.Insert(slices.Repeat(right, 7), 20, w)...)
		}
	}
}

func TestRootSubRefusesWrongClients(t *testing.T) {
	wants := []impl.Want{wanted("a", 1), wanted("new", 0)}
	for _, k := range someKnown() {
		r := k.root()
		for _, s := range wrongSubs() {
			if s.Qos == 0 || s.Qos == 1 {
				wantSubRefused(t, r, s.Client, s.Born, wants...)
			}
			wantSubRefused(t, r, s.Client, s.Born, wanted("a", s.Qos))
			wantSubRefused(t, r, s.Client, s.Born, wanted("a", 0), wanted("new", s.Qos))
		}
		wantSubRefused(t, r, "", -1, wanted("", 3))
	}
	for _, s := range []impl.Sub{sub(longText(60), 1, 0), sub(" ", 1, math.MaxInt), sub("+/#", 1, 1), sub("\U0010ffff", 1, 1)} {
		for _, k := range someKnown() {
			wantAsks(t, k, asksSub(s.Client, s.Born, wants...))
		}
	}
}

// Up to MaxVer it is turned, and then no more, whatever is asked.
func TestRootsTurnUpToMaxVer(t *testing.T) {
	for _, p := range someAsks() {
		for _, q := range someAsks() {
			k := wantAsks(t, known{999998, entriesOf(3, 6), someOf(2, 4)}, p, q, p, q)
			if k.ver > 1000000 {
				t.Fatal(k.ver)
			}
		}
	}
	for _, k := range someKnown() {
		k.ver = 1000000
		for _, p := range someAsks() {
			if got := asked(k.root(), p); got.ok || len(got.codes) != 0 || !sameRoots(got.r, k.root()) {
				t.Fatalf("%+v asked of %+v: %+v", p, k, got)
			}
		}
	}
}

// What is not right is not turned; what it is refused for is not mended.
func TestRootsThatAreNotRight(t *testing.T) {
	roots := wrongRoots()
	for _, r := range roots {
		for _, p := range someAsks() {
			if got := asked(r, p); got.ok || len(got.codes) != 0 || !sameRoots(got.r, r) {
				t.Fatalf("%+v asked of %+v: %+v", p, r, got)
			}
		}
		if l := impl.KeptWanted(r, []impl.Want{wanted("#", 2), wanted("a", 2)}, []int{2, 2}); len(l) != 0 {
			t.Fatalf("KeptWanted of %+v: %+v", r, l)
		}
	}
	for _, n := range endless() {
		for _, p := range someAsks() {
			if got := asked(impl.Root{Ver: 3, Trie: n}, p); got.ok || got.r.Ver != 3 || !sameDown(got.r.Trie, n, 11) {
				t.Fatalf("%+v", p)
			}
		}
	}
}

func wantTurned(t *testing.T, what string, got impl.Root, ok bool, want known) {
	t.Helper()
	if !ok || !sameRoots(got, want.root()) {
		t.Fatalf("%s: %+v, %v, not %+v", what, got, ok, want)
	}
}

func TestRootUnsub(t *testing.T) {
	l := putAll([]impl.Entry{entry("a", "ann", 0, 1), entry("a", "bob", 1, 2), entry("a/b", "ann", 2, 3), entry("#", "ann", 0, 4), entry("b/+/#", "bob", 1, 5)})
	k := known{4, l, someOf(2, 2)}
	without := func(filters ...string) known {
		out := known{5, l, k.kept}
		for _, f := range filters {
			out.entries, _ = takeEntry(out.entries, f, "ann")
		}
		return out
	}
	for _, c := range []struct {
		names []string
		gone  []string
	}{
		{[]string{"a"}, []string{"a"}},
		{[]string{"a", "a/b", "#"}, []string{"a", "a/b", "#"}},
		{[]string{"#", "c", "a/b"}, []string{"#", "a/b"}},
		{[]string{"a", "a", "a"}, []string{"a"}},
		{[]string{"b/+/#"}, nil},
		{[]string{"A", "a/+", "+", "b", "a/b/c"}, nil},
		{[]string{"", "a+", "a/b", "\xff"}, []string{"a/b"}},
		{slices.Repeat([]string{"c", "a"}, 50), []string{"a"}},
		{nil, nil},
	} {
		got, ok := impl.RootUnsub(k.root(), "ann", c.names)
		wantTurned(t, strings.Join(c.names, " "), got, ok, without(c.gone...))
	}
}

// What is not there is no reason to refuse: it is turned once, and stays otherwise.
func TestRootUnsubOfWhatIsNotThere(t *testing.T) {
	for _, k := range someKnown() {
		if k.ver == 1000000 {
			continue
		}
		for _, client := range append([]string{"", "nobody", "an"}, wrongTexts...) {
			got, ok := impl.RootUnsub(k.root(), client, []string{"a", "a/b", "#", ""})
			wantTurned(t, client, got, ok, k.once())
		}
		for _, name := range append([]string{"no/such", "zz", "a/b/c/d/e/x"}, wrongFilters...) {
			for _, client := range []string{"ann", "bob", ""} {
				got, ok := impl.RootUnsub(k.root(), client, []string{name})
				wantTurned(t, name, got, ok, k.once())
			}
		}
		for _, names := range [][]string{nil, {}, []string{"a"}[:0]} {
			got, ok := impl.RootUnsub(k.root(), "ann", names)
			wantTurned(t, "no names", got, ok, k.once())
		}
	}
}

func TestRootUnsubOfEach(t *testing.T) {
	for _, k := range someKnown() {
		for i, e := range k.entries {
			wantAsks(t, k, asksUnsub(e.Client, e.Filter), asksUnsub(e.Client, e.Filter))
			var names []string
			for _, other := range k.entries[i:] {
				names = append(names, other.Filter)
			}
			wantAsks(t, k, asksUnsub(e.Client, names...), asksSub(e.Client, 0, wanted(e.Filter, 1)))
		}
	}
}

func TestRootDrop(t *testing.T) {
	for _, k := range someKnown() {
		for _, client := range append([]string{"", "ann", "bob", "cid", "an", "anna", "Z", "nobody"}, wrongTexts...) {
			got, ok := impl.RootDrop(k.root(), client)
			want := known{k.ver + 1, takeClient(k.entries, client), k.kept}
			if k.ver == 1000000 {
				want = k
				ok = !ok
			}
			wantTurned(t, client, got, ok, want)
		}
	}
	for shape := range shapes {
		k := known{0, entriesOf(shape, 14), nil}
		for _, e := range k.entries {
			k = wantAsks(t, k, asksDrop(e.Client), asksDrop(e.Client))
		}
		if k.ver != 28 || len(k.entries) != 0 {
			t.Error(k)
		}
	}
}

// What SetKept refuses is turned nevertheless, and what is kept is as it was.
func TestRootKeep(t *testing.T) {
	for _, k := range someKnown() {
		if k.ver == 1000000 {
			continue
		}
		told := wrongKept()
		for _, topic := range append(keptTopics, rightTopics...) {
			told = append(told, kept(topic, "new", 1), kept(topic, "", 2), kept(topic, longText(40), 0), kept(topic, longText(41), 0))
		}
		for _, x := range told {
			want := k.once()
			if l, ok := impl.SetKept(k.kept, x.Topic, x.Body, x.Qos); ok {
				want.kept = l
			}
			got, ok := impl.RootKeep(k.root(), x.Topic, x.Body, x.Qos)
			wantTurned(t, x.Topic, got, ok, want)
			wantAsks(t, k, impl.Packet{Type: impl.Publish, Topic: x.Topic, Body: x.Body, Qos: x.Qos})
		}
	}
}

func TestRootKeepSpeltOut(t *testing.T) {
	k := known{9, entriesOf(3, 14), []impl.Kept{kept("a", "1", 0), kept("c", "2", 1)}}
	for _, c := range []struct {
		x    impl.Kept
		want []impl.Kept
	}{
		{kept("b", "new", 2), []impl.Kept{kept("a", "1", 0), kept("b", "new", 2), kept("c", "2", 1)}},
		{kept("a", "new", 2), []impl.Kept{kept("a", "new", 2), kept("c", "2", 1)}},
		{kept("a", "", 2), []impl.Kept{kept("c", "2", 1)}},
		{kept("b", "", 2), k.kept},
		{kept("a", "new", 3), k.kept},
		{kept("a", "new", -1), k.kept},
		{kept("a", "", 3), k.kept},
		{kept("+", "new", 0), k.kept},
		{kept("", "", 0), k.kept},
		{kept("c", longText(41), 0), k.kept},
	} {
		got, ok := impl.RootKeep(k.root(), c.x.Topic, c.x.Body, c.x.Qos)
		wantTurned(t, c.x.Topic, got, ok, known{10, k.entries, c.want})
	}
	full := known{9, nil, someOf(0, 8)}
	got, ok := impl.RootKeep(full.root(), "zz", []byte("x"), 0)
	wantTurned(t, "one too many", got, ok, full.once())
}

func wantWanted(t *testing.T, r impl.Root, wants []impl.Want, codes []int, want ...impl.Kept) {
	t.Helper()
	if got := impl.KeptWanted(r, wants, codes); !sameKept(got, want) {
		t.Fatalf("KeptWanted of %+v, %v in %+v: %+v, not %+v", wants, codes, r.Kept, got, want)
	}
}

// atMost is what is kept, each at the lesser one of its Qos and this one.
func atMost(qos int, l ...impl.Kept) []impl.Kept {
	var out []impl.Kept
	for _, k := range l {
		if k.Qos > qos {
			k.Qos = qos
		}
		out = append(out, k)
	}
	return out
}

func TestKeptWantedOfSomeWants(t *testing.T) {
	one, two, three := kept("$s", "1", 2), kept("a", "2", 1), kept("a/b", "3", 2)
	r := known{5, entriesOf(0, 3), []impl.Kept{one, two, three}}.root()
	low, mid := kept("a", "2", 0), kept("a/b", "3", 1)
	wantWanted(t, r, []impl.Want{wanted("#", 2)}, []int{2}, two, three)
	wantWanted(t, r, []impl.Want{wanted("#", 1)}, []int{1}, two, mid)
	wantWanted(t, r, []impl.Want{wanted("#", 0)}, []int{0}, low, kept("a/b", "3", 0))
	wantWanted(t, r, []impl.Want{wanted("a/#", 1), wanted("a", 0), wanted("$s", 2), wanted("+/b", 2)}, []int{1, 0, 2, 2}, two, mid, low, one, three)
	wantWanted(t, r, []impl.Want{wanted("a/b", 2), wanted("a", 2)}, []int{2, 2}, three, two)
	wantWanted(t, r, []impl.Want{wanted("a", 2), wanted("a", 2)}, []int{2, 2}, two, two)
	wantWanted(t, r, []impl.Want{wanted("b", 2), wanted("a/+/#", 2)}, []int{2, 2}, three)
	wantWanted(t, r, []impl.Want{wanted("b", 2), wanted("$t/#", 2)}, []int{2, 2})
	// refused ones: the first, the last, all of them
	wants := []impl.Want{wanted("a", 2), wanted("a/b", 1), wanted("$s", 0)}
	wantWanted(t, r, wants, []int{128, 1, 0}, mid, kept("$s", "1", 0))
	wantWanted(t, r, wants, []int{2, 128, 0}, two, kept("$s", "1", 0))
	wantWanted(t, r, wants, []int{2, 1, 128}, two, mid)
	wantWanted(t, r, wants, []int{128, 1, 128}, mid)
	wantWanted(t, r, wants, []int{128, 128, 128})
}

// As many codes as wants: fewer or more, and nothing is answered, though some fit.
func TestKeptWantedOfMoreAndFewerCodes(t *testing.T) {
	for _, k := range someKnown() {
		r := k.root()
		for n := range 6 {
			for m := range 7 {
				var want []impl.Kept
				for range n {
					want = append(want, atMost(1, impl.KeptFor(k.kept, "#")...)...)
				}
				if n != m {
					want = nil
				}
				wantWanted(t, r, many(wanted("#", 1), n), many(1, m), want...)
				wantWanted(t, r, many(wanted("#", 1), n), many(128, m))
			}
		}
		wantWanted(t, r, nil, nil)
		wantWanted(t, r, []impl.Want{}, nil)
		wantWanted(t, r, nil, []int{})
		wantWanted(t, r, nil, []int{1})
	}
}

// Both Qos either way, of every filter.
func TestKeptWantedOfEachQos(t *testing.T) {
	filters := slices.Concat(manyFilters(), keptTopics, wrongFilters)
	for _, k := range someKnown() {
		r := k.root()
		for i, filter := range filters {
			qos := i % 3
			fit := atMost(qos, impl.KeptFor(k.kept, filter)...)
			wantWanted(t, r, []impl.Want{wanted(filter, qos)}, []int{qos}, fit...)
			wantWanted(t, r, []impl.Want{wanted("no/such", 2), wanted(filter, qos), wanted(filter, qos)}, []int{2, 128, qos}, fit...)
		}
	}
	for _, qos := range []int{0, 1, 2} {
		for want := range 3 {
			wantWanted(t, impl.Root{Kept: []impl.Kept{kept("a", "x", qos)}}, []impl.Want{wanted("a", want)}, []int{want}, kept("a", "x", min(qos, want)))
		}
	}
}

// A code says only whether it is 128; the Qos is that of the want, whatever it is.
func TestKeptWantedOfOtherCodes(t *testing.T) {
	r := impl.Root{Kept: []impl.Kept{kept("a", "x", 1)}}
	for _, code := range []int{0, 1, 2, 3, 127, 129, -128, -1, 256, 128 + 256, 128 + 1<<32, math.MinInt, math.MaxInt} {
		for want := range 3 {
			wantWanted(t, r, []impl.Want{wanted("a", want)}, []int{code}, kept("a", "x", min(1, want)))
		}
	}
	wantWanted(t, r, []impl.Want{wanted("a", 3), wanted("a", math.MaxInt)}, []int{2, 2}, kept("a", "x", 1), kept("a", "x", 1))
	wantWanted(t, r, []impl.Want{wanted("a", -1)}, []int{0}, kept("a", "x", -1))
}

// What is known is turned as often as may be: it is read all the same.
func TestKeptWantedOfMaxVer(t *testing.T) {
	r := known{1000000, entriesOf(1, 14), someOf(0, 8)}.root()
	wantWanted(t, r, []impl.Want{wanted("#", 2)}, []int{2}, someOf(0, 8)[1:]...)
}

func wantSameRoot(t *testing.T, a, b impl.Root, want bool) {
	t.Helper()
	if impl.SameRoot(a, b) != want || impl.SameRoot(b, a) != want {
		t.Fatalf("SameRoot of %+v and %+v: not %v", a, b, want)
	}
}

func TestSameRootOfOnePart(t *testing.T) {
	for i, k := range someKnown() {
		r := k.root()
		wantSameRoot(t, r, r, true)
		wantSameRoot(t, r, frozenRoot(r), true)
		for _, other := range []int{k.ver + 1, k.ver - 1, -k.ver - 1, k.ver + 1<<32} {
			wantSameRoot(t, r, impl.Root{Ver: other, Trie: r.Trie, Kept: r.Kept}, false)
		}
		for _, e := range k.entries {
			for _, with := range []impl.Entry{entry(e.Filter, e.Client, (e.Qos+1)%3, e.Born), entry(e.Filter, e.Client, e.Qos, e.Born+1), entry(e.Filter, e.Client+"x", e.Qos, e.Born), entry("x"+e.Filter[1:], e.Client, e.Qos, e.Born)} {
				less, _ := takeEntry(k.entries, e.Filter, e.Client)
				l := putEntry(less, with)
				wantSameRoot(t, r, impl.Root{Ver: k.ver, Trie: treeOf(less), Kept: r.Kept}, false)
				wantSameRoot(t, r, impl.Root{Ver: k.ver, Trie: treeOf(l), Kept: r.Kept}, slices.Equal(l, k.entries))
			}
		}
		for at, x := range k.kept {
			for _, with := range []impl.Kept{kept(x.Topic, string(x.Body), (x.Qos+1)%3), kept(x.Topic, string(x.Body)+"x", x.Qos), kept(x.Topic, "y"+string(x.Body[1:]), x.Qos), kept(x.Topic, string(x.Body[1:]), x.Qos), kept(x.Topic+" ", string(x.Body), x.Qos)} {
				l := slices.Clone(k.kept)
				l[at] = with
				wantSameRoot(t, r, impl.Root{Ver: k.ver, Trie: r.Trie, Kept: l}, false)
			}
			wantSameRoot(t, r, impl.Root{Ver: k.ver, Trie: r.Trie, Kept: slices.Delete(slices.Clone(k.kept), at, at+1)}, false)
		}
		for j, other := range someKnown() {
			same := k.ver == other.ver && slices.Equal(k.entries, other.entries) && sameKept(k.kept, other.kept)
			wantSameRoot(t, r, other.root(), same)
			if i == j && !same {
				t.Error("not itself", i)
			}
		}
	}
}

// Trees are built in another order, of empty lists, or with what was taken out again: what counts is who wants what.
func TestSameRootOfTreesBuiltOtherwise(t *testing.T) {
	for _, k := range someKnown() {
		r := k.root()
		forth, back := impl.Node{}, impl.Node{}
		for i, e := range k.entries {
			forth = impl.Insert(forth, e.Filter, subOf(e))
			e = k.entries[len(k.entries)-1-i]
			back = impl.Insert(back, "gone/"+e.Client[:1], sub("gone", 0, 0))
			back = impl.Insert(back, e.Filter, sub(e.Client, 2-e.Qos, 5))
			back = impl.Insert(back, e.Filter, subOf(e))
		}
		back = impl.RemoveClient(back, "gone")
		roomy := layTree(k.root().Trie).n
		empty := frozenTree(r.Trie)
		eachNode(&empty, func(n *impl.Node) {
			n.Names, n.Kids, n.Subs = append([]string{}, n.Names...), append([]impl.Node{}, n.Kids...), append([]impl.Sub{}, n.Subs...)
		})
		for _, n := range []impl.Node{forth, back, roomy, empty} {
			wantSameRoot(t, r, impl.Root{Ver: k.ver, Trie: n, Kept: layKept(k.kept).l}, true)
			wantSameRoot(t, r, impl.Root{Ver: k.ver + 1, Trie: n, Kept: k.kept}, false)
		}
	}
	wantSameRoot(t, impl.Root{}, impl.Root{Trie: impl.Node{Names: []string{}, Kids: []impl.Node{}, Subs: []impl.Sub{}}, Kept: []impl.Kept{}}, true)
	wantSameRoot(t, impl.Root{Kept: []impl.Kept{{Topic: "a"}}}, impl.Root{Kept: []impl.Kept{{Topic: "a", Body: []byte{}}}}, true)
}

// A tree that is not NodeOk has no Entries, so that it is the same as any other such, and as one that nobody wants anything of.
func TestSameRootOfWhatIsNotRight(t *testing.T) {
	trees := []impl.Node{{}, leaf("ann"), fork([]string{"a"}), fork([]string{"a"}, impl.Node{}), deepTree(7), chain(leaf("ann"), "a+")}
	trees = append(trees, endless()...)
	for _, a := range trees {
		for _, b := range trees {
			for _, ver := range []int{0, -1, math.MaxInt} {
				wantSameRoot(t, impl.Root{Ver: ver, Trie: a}, impl.Root{Ver: ver, Trie: b}, true)
				wantSameRoot(t, impl.Root{Ver: ver, Trie: a}, impl.Root{Ver: ver - 1, Trie: b}, false)
			}
		}
		wantSameRoot(t, impl.Root{Trie: a}, impl.Root{Trie: treeOf(entriesOf(0, 1))}, false)
	}
	wantSameRoot(t, impl.Root{Ver: -3, Trie: treeOf(entriesOf(0, 20))}, impl.Root{Ver: -3, Trie: treeOf(entriesOf(0, 20))}, true)
	wantSameRoot(t, impl.Root{Ver: -3, Trie: treeOf(entriesOf(0, 20))}, impl.Root{Ver: -3, Trie: treeOf(entriesOf(0, 19))}, false)
	turned := []impl.Kept{kept("b", "x", 0), kept("a", "x", 9)}
	wantSameRoot(t, impl.Root{Kept: turned}, impl.Root{Kept: slices.Clone(turned)}, true)
	wantSameRoot(t, impl.Root{Kept: turned}, impl.Root{Kept: []impl.Kept{turned[1], turned[0]}}, false)
	wantSameRoot(t, impl.Root{Kept: turned}, impl.Root{Kept: turned[:1]}, false)
}
