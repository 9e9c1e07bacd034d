package tests

import (
	"slices"
	"testing"

	"loop.example/g00480/impl"
)

// Of little that may be asked: everything behind everything else, four times in a row.
func TestEveryFewAsks(t *testing.T) {
	asks := []impl.Packet{
		asksSub("ann", 1, wanted("a", 0)),
		asksSub("ann", 2, wanted("a", 2), wanted("b/#", 1), wanted("c", 1)),
		asksSub("bob", 3, wanted("a", 1), wanted("a", 0)),
		asksSub("bob", 3, wanted("a", 1), wanted("a+", 0)),
		asksUnsub("ann", "a", "no", "b/#"),
		asksUnsub("bob"),
		asksDrop("ann"),
		asksKeep("a", "one", 1),
		asksKeep("a", "", 1),
		asksKeep("a/+", "one", 1),
	}
	var ask func(k known, r impl.Root, left int)
	ask = func(k known, r impl.Root, left int) {
		for _, p := range asks {
			if next, got := wantAsked(t, k, r, p); left > 0 {
				ask(next, got, left-1)
			}
		}
	}
	// once where there is room for all, once for one alone, once for two turns alone
	ask(known{}, impl.Root{}, 3)
	tight := known{7, entriesOf(3, 13), someOf(5, 7)}
	ask(tight, tight.root(), 2)
	tight = known{999998, entriesOf(2, 12), nil}
	ask(tight, tight.root(), 2)
}

var askedFilters = []string{"a", "b", "a/b", "a/#", "#", "+", "+/b", "$s/#", "/", "a/+/c", "a/b/c/d/e/f", "b/#", "c", "\u20ac"}

// anyAsk throws one of all that may be asked, some of it wrong.
func anyAsk(d *dice) impl.Packet {
	client := pick(d, promiseClients)
	if d.below(30) == 0 {
		client = pick(d, []string{"", "\xff"})
	}
	filter := func() string {
		if d.below(40) == 0 {
			return pick(d, wrongFilters)
		}
		return pick(d, askedFilters)
	}
	switch d.below(10) {
	case 0, 1, 2, 3:
		p := asksSub(client, d.below(40)-1)
		for range d.below(6) {
			p.Wants = append(p.Wants, wanted(filter(), d.below(3)))
		}
		if d.below(20) == 0 {
			p.Wants = append(p.Wants, wanted("a", 3))
		}
		return p
	case 4, 5:
		p := asksUnsub(client)
		for range d.below(5) {
			p.Names = append(p.Names, filter())
		}
		return p
	case 6:
		return asksDrop(client)
	}
	body := pick(d, []string{"", "x", "one", longText(40), longText(40), longText(41)})
	return asksKeep(pick(d, append([]string{"+", ""}, keptTopics...)), body, d.below(13)%4)
}

// Whatever is asked one behind the other, from wherever on: each turns it once, or is refused and leaves it.
func TestWhateverIsAskedTurnsItOnce(t *testing.T) {
	d := dice(10)
	seen := map[int]int{}
	for round := range 60 {
		k := known{}
		if round%3 == 1 {
			k = known{999940, entriesOf(round%shapes, 14), someOf(0, 8)}
		}
		if round%3 == 2 {
			k.entries = entriesOf(round%shapes, 12)
		}
		r := k.root()
		for range 80 {
			p := anyAsk(&d)
			_, codes, _ := k.asked(p)
			for _, code := range codes {
				seen[code]++
			}
			k, r = wantAsked(t, k, r, p)
			seen[1000+len(k.entries)]++
			seen[2000+len(k.kept)]++
			seen[k.ver]++
		}
	}
	// that all of it came to pass: each code, room for all and for none, and MaxVer
	for _, n := range []int{0, 1, 2, 128, 1000, 1014, 2000, 2008, 1000000} {
		if seen[n] == 0 {
			t.Errorf("%d was not seen: %v", n, seen)
		}
	}
}

// What one asks at once is what it asks one behind the other, but for how often it is turned.
func TestWantsAtOnceAndOneBehindTheOther(t *testing.T) {
	d := dice(100)
	for range 400 {
		k := known{d.below(100), entriesOf(d.below(shapes), d.below(15)), someOf(2, d.below(9))}
		client, born := pick(&d, promiseClients), d.below(9)
		var wants []impl.Want
		var names []string
		for range 1 + d.below(7) {
			wants = append(wants, wanted(pick(&d, askedFilters), d.below(3)))
			names = append(names, pick(&d, askedFilters))
		}
		once, codes := impl.RootSub(k.root(), client, born, wants)
		each := k.root()
		for i, w := range wants {
			next, code := impl.RootSub(each, client, born, []impl.Want{w})
			if len(code) != 1 || code[0] != codes[i] {
				t.Fatalf("%+v of %+v: %v, not %v", wants, k, code, codes[i])
			}
			each = next
		}
		if once.Ver != k.ver+1 || each.Ver != k.ver+len(wants) || !sameTree(once.Trie, each.Trie) {
			t.Fatalf("%+v of %+v: %+v, not %+v", wants, k, once, each)
		}
		gone, _ := impl.RootUnsub(once, client, names)
		for _, name := range names {
			each, _ = impl.RootUnsub(each, client, []string{name})
		}
		if gone.Ver != k.ver+2 || each.Ver != k.ver+len(wants)+len(names) || !sameTree(gone.Trie, each.Trie) {
			t.Fatalf("%q of %+v: %+v, not %+v", names, k, gone, each)
		}
	}
}

// Who tells or wants something leaves alone what the others want, and what is kept beside it.
func TestAsksLeaveTheRestAlone(t *testing.T) {
	for _, k := range someKnown() {
		r := k.root()
		for _, p := range someAsks() {
			got := asked(r, p).r
			if p.Type == impl.Publish && !sameTree(got.Trie, r.Trie) || p.Type != impl.Publish && !sameKept(got.Kept, r.Kept) {
				t.Fatalf("%+v asked of %+v: %+v", p, k, got)
			}
			rest := func(r impl.Root) []impl.Entry { return takeClient(impl.Entries(r.Trie), p.Client) }
			if !slices.Equal(rest(got), rest(r)) {
				t.Fatalf("%+v asked of %+v: %+v", p, k, got)
			}
		}
	}
}
