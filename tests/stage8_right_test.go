package tests

import (
	"math"
	"slices"
	"strings"
	"testing"

	"loop.example/g00480/impl"
)

func TestTreeConstants(t *testing.T) {
	if impl.MaxDeep != 6 {
		t.Error(impl.MaxDeep)
	}
}

func wantNodeOk(t *testing.T, n impl.Node, want bool) {
	t.Helper()
	if got := impl.NodeOk(n); got != want {
		t.Errorf("NodeOk(%+v): %v", n, got)
	}
}

// wantRightBelow asks it of kid below the names too, as far as there is room.
func wantRightBelow(t *testing.T, want bool, kid impl.Node) {
	t.Helper()
	wantNodeOk(t, chain(kid, "x"), want)
	wantNodeOk(t, chain(kid, "x", "y", "z"), want)
	wantNodeOk(t, fork([]string{"w", "x", "y"}, leaf("ann"), kid, leaf("ann")), want)
}

func TestNodeOkOfNothing(t *testing.T) {
	wantNodeOk(t, impl.Node{}, true)
	wantNodeOk(t, impl.Node{Names: []string{}, Kids: []impl.Node{}, Subs: []impl.Sub{}}, true)
	for _, n := range someTrees() {
		wantNodeOk(t, n, true)
	}
}

func TestNodeOkOfOrders(t *testing.T) {
	for _, c := range []struct {
		names []string
		want  bool
	}{
		{[]string{"a", "b", "c"}, true},
		{[]string{"", "a", "aa", "ab", "b"}, true},
		{[]string{"", "!", "#", "$", "+", "B", "a"}, true},
		{[]string{"a", "\u00e9", "\u20ac", "\U0001f426"}, true},
		{[]string{"\uffff", "\U00010000"}, true},
		{[]string{"b", "a"}, false},
		{[]string{"a", "c", "b"}, false},
		{[]string{"b", "a", "c"}, false},
		{[]string{"a", ""}, false},
		{[]string{"ab", "a"}, false},
		{[]string{"a", "B"}, false},
		{[]string{"+", "#"}, false},
		{[]string{"a", "a"}, false},
		{[]string{"", ""}, false},
		{[]string{"a", "b", "b"}, false},
		{[]string{"a", "b", "a"}, false},
	} {
		var kids []impl.Node
		for range c.names {
			kids = append(kids, leaf("ann"))
		}
		wantRightBelow(t, c.want, fork(c.names, kids...))
		// of itself, where a level that is empty alone would be no filter
		if c.names[0] != "" {
			wantNodeOk(t, fork(c.names, kids...), c.want)
		}
	}
}

func TestNodeOkOfMoreAndFewerKids(t *testing.T) {
	names, kids := []string{"a", "b", "c", "d"}, many(leaf("ann"), 4)
	for i := range 5 {
		for k := range 5 {
			n := fork(names[:i], kids[:k]...)
			wantNodeOk(t, n, i == k)
			wantNodeOk(t, fork([]string{"a", "b"}, leaf("ann"), impl.Node{Names: n.Names, Kids: n.Kids, Subs: leaf("bob").Subs}), i == k)
		}
	}
}

func TestNodeOkOfWhoWants(t *testing.T) {
	long := longText(60)
	for _, c := range []struct {
		subs []impl.Sub
		want bool
	}{
		{[]impl.Sub{sub("ann", 0, 0)}, true},
		{[]impl.Sub{sub("ann", 2, math.MaxInt)}, true},
		{[]impl.Sub{sub("a", 1, 1), sub("b", 1, 1), sub("c", 1, 1)}, true},
		{[]impl.Sub{sub(" ", 1, 1), sub("+/#", 1, 1), sub("B", 1, 1), sub("a", 1, 1), sub("aa", 1, 1), sub("\u00e9", 1, 1)}, true},
		{[]impl.Sub{sub(long, 0, 0)}, true},
		{[]impl.Sub{sub("a", 1, 1), sub("a", 1, 1)}, false},
		{[]impl.Sub{sub("a", 0, 1), sub("a", 2, 3)}, false},
		{[]impl.Sub{sub("b", 1, 1), sub("a", 1, 1)}, false},
		{[]impl.Sub{sub("a", 1, 1), sub("c", 1, 1), sub("b", 1, 1)}, false},
		{[]impl.Sub{sub("a", 1, 1), sub("b", 1, 1), sub("b", 1, 1)}, false},
		{[]impl.Sub{sub("a", 1, 1), sub("B", 1, 1)}, false},
		{[]impl.Sub{sub("aa", 1, 1), sub("a", 1, 1)}, false},
	} {
		wantRightBelow(t, c.want, impl.Node{Subs: c.subs})
	}
	for _, s := range wrongSubs() {
		wantRightBelow(t, false, impl.Node{Subs: []impl.Sub{s}})
		// as the first one or the last one, and where it has kids, too
		l := []impl.Sub{s, sub("\U0010ffff\U0010ffff", 0, 0)}
		wantRightBelow(t, false, impl.Node{Subs: l})
		wantRightBelow(t, false, impl.Node{Names: []string{"a"}, Kids: many(leaf("ann"), 1), Subs: l})
		if s.Client > "a" {
			wantRightBelow(t, false, impl.Node{Subs: []impl.Sub{sub("a", 0, 0), s}})
		}
	}
}

// wrongSubs lists those that are each not as told in one part.
func wrongSubs() []impl.Sub {
	out := []impl.Sub{sub("", 0, 0), sub("x", -1, 0), sub("x", 3, 0), sub("x", 128, 0), sub("x", math.MinInt, 0), sub("x", math.MaxInt, 0), sub("x", 0, -1), sub("x", 0, math.MinInt)}
	for _, client := range wrongTexts {
		out = append(out, sub(client, 1, 1))
	}
	return out
}

var rightNames = []string{"", "a", "+", "#", "$", "$s", " ", "a b", "\u20ac", "\ufffd", "\x7f", "\U0010ffff"}

var wrongNames = append([]string{"a+", "+a", "a+b", "++", "a#", "#a", "a#b", "##", "+#", "#+", " #", "+ ", "/", "a/", "/a", "a/b", "//", "+/+", "a/#", "+/", "/#"}, wrongTexts...)

// Each name is asked of where it leads to somebody, to kids, and to both, at every depth.
func TestNodeOkOfNames(t *testing.T) {
	both := chain(leaf("ann"), "k")
	both.Subs = leaf("bob").Subs
	for right, names := range map[bool][]string{true: rightNames, false: wrongNames} {
		for _, name := range names {
			for deep := range 5 {
				ahead := slices.Repeat([]string{"x"}, deep)
				// an empty level alone is no filter
				alone := deep == 0 && name == ""
				wantNodeOk(t, chain(leaf("ann"), append(slices.Clone(ahead), name)...), right && !alone)
				wantNodeOk(t, chain(leaf("ann"), append(slices.Clone(ahead), name, "k")...), right && name != "#")
				wantNodeOk(t, chain(both, append(slices.Clone(ahead), name)...), right && name != "#" && !alone)
			}
		}
	}
}

func TestNodeOkOfAllLeftWithKids(t *testing.T) {
	for _, below := range []impl.Node{chain(leaf("ann"), "a"), chain(leaf("ann"), "#"), chain(leaf("ann"), "+"), chain(leaf("ann"), ""), {Names: []string{"a"}, Kids: many(leaf("bob"), 1), Subs: leaf("ann").Subs}} {
		wantNodeOk(t, fork([]string{"#"}, below), false)
		wantNodeOk(t, fork([]string{"#", "a"}, below, leaf("ann")), false)
		wantNodeOk(t, chain(below, "a", "#"), false)
		wantNodeOk(t, chain(below, "a", "+"), true)
	}
	wantNodeOk(t, fork([]string{"#", "a"}, leaf("ann"), leaf("ann")), true)
	wantNodeOk(t, fork([]string{"a"}, impl.Node{Names: []string{"#"}, Kids: many(leaf("ann"), 1), Subs: leaf("ann").Subs}), true)
}

func TestNodeOkOfKidsThatNobodyWants(t *testing.T) {
	for deep := 1; deep <= 6; deep++ {
		names := slices.Repeat([]string{"a"}, deep)
		wantNodeOk(t, chain(leaf("ann"), names...), true)
		wantNodeOk(t, chain(impl.Node{}, names...), false)
		wantNodeOk(t, chain(impl.Node{Names: []string{}, Kids: []impl.Node{}, Subs: []impl.Sub{}}, names...), false)
		// beside one that is wanted
		last := deep - 1
		wantNodeOk(t, chain(fork([]string{"a", "b"}, leaf("ann"), leaf("ann")), names[:last]...), true)
		wantNodeOk(t, chain(fork([]string{"a", "b"}, impl.Node{}, leaf("ann")), names[:last]...), false)
		wantNodeOk(t, chain(fork([]string{"a", "b"}, leaf("ann"), impl.Node{}), names[:last]...), false)
		// below one that is wanted
		n := fork([]string{"a"}, impl.Node{})
		n.Subs = leaf("ann").Subs
		wantNodeOk(t, chain(n, names[:last]...), false)
	}
}

func TestNodeOkOfMaxDeep(t *testing.T) {
	for deep := 1; deep <= 9; deep++ {
		for _, name := range []string{"", "a", "+"} {
			names := slices.Repeat([]string{name}, deep)
			right := deep <= 6 && !(deep == 1 && name == "")
			wantNodeOk(t, chain(leaf("ann"), names...), right)
			// also below a node that is wanted, and beside one that is not as deep
			names = append([]string{"x"}, names[1:]...)
			n := chain(leaf("ann"), names[1:]...)
			n.Subs = leaf("bob").Subs
			wantNodeOk(t, chain(n, names[:1]...), deep <= 6)
			wantNodeOk(t, fork([]string{"w", "x"}, leaf("ann"), n), deep <= 6)
		}
	}
	// one name more, with nothing behind it, or with no kid for it
	wantNodeOk(t, chain(fork([]string{"a"}, impl.Node{}), "a", "a", "a", "a", "a", "a"), false)
	wantNodeOk(t, chain(impl.Node{Names: []string{"a"}, Subs: leaf("ann").Subs}, "a", "a", "a", "a", "a", "a"), false)
	wantNodeOk(t, chain(impl.Node{Kids: many(leaf("ann"), 1), Subs: leaf("ann").Subs}, "a", "a", "a", "a", "a", "a"), false)
}

// What is no filter as a whole is not right only where somebody wants it.
func TestNodeOkOfFiltersAsAWhole(t *testing.T) {
	for _, c := range []struct {
		names []string
		want  bool
	}{
		{[]string{longText(60)}, true},
		{[]string{longText(61)}, false},
		{[]string{longText(58), "a"}, true},
		{[]string{longText(59), "a"}, false},
		{[]string{longText(59), ""}, true},
		{[]string{longText(60), ""}, false},
		{[]string{longText(58), "#"}, true},
		{[]string{longText(59), "#"}, false},
		{[]string{"a", longText(58)}, true},
		{[]string{"a", longText(59)}, false},
		{[]string{longText(10), longText(10), longText(10), longText(10), longText(10), longText(5)}, true},
		{[]string{longText(10), longText(10), longText(10), longText(10), longText(10), longText(6)}, false},
		{[]string{strings.Repeat("\u20ac", 19), "x"}, true},
		{[]string{strings.Repeat("\u20ac", 19), "\u20ac"}, false},
		{[]string{""}, false},
		{[]string{"", ""}, true},
		{[]string{"", "a"}, true},
		{[]string{"a", ""}, true},
		{[]string{"", "", "", "", "", ""}, true},
	} {
		wantNodeOk(t, chain(leaf("ann"), c.names...), c.want)
		n := chain(leaf("ann"), c.names[1:]...)
		wantNodeOk(t, fork([]string{" ", c.names[0] + "z"}, leaf("ann"), leaf("ann")), len(c.names[0]) < 60)
		if c.names[0] != "" {
			wantNodeOk(t, fork([]string{" ", c.names[0]}, leaf("ann"), n), c.want)
		}
	}
	// an empty level is wanted itself, beside what is right behind it
	n := chain(leaf("ann"), "a")
	n.Subs = leaf("bob").Subs
	wantNodeOk(t, chain(n, ""), false)
	wantNodeOk(t, chain(n, "", ""), true)
}

func TestNodeOkOfWhoWantsNothing(t *testing.T) {
	for _, n := range someTrees() {
		for _, s := range append(wrongSubs(), sub("ann", 0, 0)) {
			x := n
			x.Subs = []impl.Sub{s}
			wantNodeOk(t, x, false)
		}
		n.Subs = []impl.Sub{}
		wantNodeOk(t, n, true)
	}
}

// judgedNode says of one node, by each sentence of the chapter, whether it is right.
func judgedNode(n impl.Node, levels []string) bool {
	if len(n.Names) != len(n.Kids) || len(n.Names) > 0 && len(levels) > 5 {
		return false
	}
	for i, name := range n.Names {
		kid := n.Kids[i]
		wild := strings.ContainsAny(name, "+#") && name != "+" && name != "#"
		sign := strings.ToValidUTF8(name, "") == name && !strings.ContainsAny(name, "/\x00")
		if i > 0 && n.Names[i-1] >= name || wild || !sign || name == "#" && len(kid.Kids) > 0 || len(kid.Kids) == 0 && len(kid.Subs) == 0 {
			return false
		}
	}
	for i, s := range n.Subs {
		if i > 0 && n.Subs[i-1].Client >= s.Client || s.Client == "" || !impl.TextOk(s.Client) || !within(s.Qos, 0, 2) || s.Born < 0 {
			return false
		}
	}
	return len(n.Subs) == 0 || kindOf(strings.Join(levels, "/")) != kindNone
}

// judgedTree goes through all nodes, one behind the other, as far as they are right.
func judgedTree(n impl.Node) bool {
	type spot struct {
		n      impl.Node
		levels []string
	}
	left := []spot{{n, nil}}
	for len(left) > 0 {
		at := left[0]
		left = left[1:]
		if !judgedNode(at.n, at.levels) {
			return false
		}
		for i, kid := range at.n.Kids {
			left = append(left, spot{kid, append(slices.Clone(at.levels), at.n.Names[i])})
		}
	}
	return true
}

// faults turn one part of a node; whether the tree is right then is judged.
var faults = map[string]func(n *impl.Node){
	"a name less":   func(n *impl.Node) { n.Names = n.Names[:max(0, len(n.Names)-1)] },
	"a name more":   func(n *impl.Node) { n.Names = append(n.Names, "\U0010ffff") },
	"a kid less":    func(n *impl.Node) { n.Kids = n.Kids[:max(0, len(n.Kids)-1)] },
	"a kid more":    func(n *impl.Node) { n.Kids = append(n.Kids, leaf("ann")) },
	"no kids":       func(n *impl.Node) { n.Names, n.Kids = nil, nil },
	"nobody":        func(n *impl.Node) { n.Subs = nil },
	"nothing":       func(n *impl.Node) { *n = impl.Node{} },
	"names turned":  func(n *impl.Node) { slices.Reverse(n.Names) },
	"names alike":   func(n *impl.Node) { fill(n.Names, "a") },
	"subs turned":   func(n *impl.Node) { slices.Reverse(n.Subs) },
	"twice":         func(n *impl.Node) { n.Subs = append(n.Subs, n.Subs...) },
	"one more":      func(n *impl.Node) { n.Subs = append(n.Subs, sub("\U0010ffff", 1, 1)) },
	"no client":     func(n *impl.Node) { n.Subs = append([]impl.Sub{{}}, n.Subs...) },
	"a Qos of 3":    func(n *impl.Node) { n.Subs = append(n.Subs, sub("\U0010ffff", 3, 1)) },
	"a Qos below 0": func(n *impl.Node) { n.Subs = append(n.Subs, sub("\U0010ffff", -1, 1)) },
	"Born below 0":  func(n *impl.Node) { n.Subs = append(n.Subs, sub("\U0010ffff", 1, -1)) },
	"no text":       func(n *impl.Node) { n.Subs = append(n.Subs, sub("\xff", 1, 1)) },
	"a level more":  func(n *impl.Node) { *n = impl.Node{Names: []string{"a"}, Kids: []impl.Node{*n}} },
	"a kid of none": func(n *impl.Node) { n.Names, n.Kids = append(n.Names, "\U0010ffff"), append(n.Kids, impl.Node{}) },
	"a right kid":   func(n *impl.Node) { n.Names, n.Kids = append(n.Names, "\U0010ffff"), append(n.Kids, leaf("ann")) },
	"a name of two": func(n *impl.Node) { n.Names, n.Kids = append(n.Names, "x/y"), append(n.Kids, leaf("ann")) },
	"no name":       func(n *impl.Node) { n.Names, n.Kids = append(n.Names, "x+"), append(n.Kids, leaf("ann")) },
	"no signs":      func(n *impl.Node) { n.Names, n.Kids = append(n.Names, "\xff"), append(n.Kids, leaf("ann")) },
}

// faultyTrees hands out each tree with each fault at each node.
func faultyTrees(trees []impl.Node, each func(what string, n impl.Node)) {
	for _, right := range trees {
		for i := range countNodes(right) {
			for what, fault := range faults {
				each(what, withFault(right, i, fault))
			}
		}
	}
}

// withFault answers a new tree with a fault at the node that eachNode hands out behind at others.
func withFault(n impl.Node, at int, fault func(*impl.Node)) impl.Node {
	out := frozenTree(n)
	var found *impl.Node
	eachNode(&out, func(x *impl.Node) {
		if at == 0 {
			found = x
		}
		at--
	})
	fault(found)
	return out
}

// Each fault alone, and each two of them.
func TestNodeOkOfFaults(t *testing.T) {
	seen := map[bool]int{}
	check := func(what string, n impl.Node) {
		want := judgedTree(n)
		seen[want]++
		if got := impl.NodeOk(n); got != want {
			t.Fatalf("%s, NodeOk(%+v): %v", what, n, got)
		}
	}
	faultyTrees(someTrees(), func(first string, n impl.Node) {
		check(first, n)
		faultyTrees([]impl.Node{n}, func(second string, n impl.Node) {
			check(first+" and "+second, n)
		})
	})
	if seen[true] < 100 || seen[false] < 1000 {
		t.Error(seen)
	}
}

// smallTrees hands out all trees of up to two kids, two levels deep, of telling names.
func smallTrees(each func(impl.Node)) {
	names := [][]string{nil, {"a"}, {"#"}, {""}, {"a/b"}, {"a+"}, {"a", "b"}, {"b", "a"}, {"a", "a"}, {"", "+"}, {"#", "+"}}
	ends := []impl.Node{{}, leaf("ann"), leaf("bob", "ann")}
	var row []impl.Node
	eachFork(names, ends, func(n impl.Node) {
		row = append(row, n, impl.Node{Names: n.Names, Kids: n.Kids, Subs: leaf("cid").Subs})
	})
	eachFork(names, row, each)
}

// eachFork hands out each list of names with none of these kids, with each one, and with each two.
func eachFork(names [][]string, kids []impl.Node, each func(impl.Node)) {
	for _, l := range names {
		each(fork(l))
		for _, first := range kids {
			each(fork(l, first))
			for _, second := range kids {
				each(fork(l, first, second))
			}
		}
	}
}

func TestNodeOkOfAllSmallTrees(t *testing.T) {
	seen := map[bool]int{}
	smallTrees(func(n impl.Node) {
		want := judgedTree(n)
		seen[want]++
		if got := impl.NodeOk(n); got != want {
			t.Fatalf("NodeOk(%+v): %v", n, got)
		}
	})
	if seen[true] < 100 || seen[false] < 10000 {
		t.Error(seen)
	}
}
