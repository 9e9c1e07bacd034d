package tests

import (
	"bytes"
	"cmp"
	"math"
	"slices"
	"strings"
	"testing"

	"loop.example/g00480/impl"
)

func kept(topic, body string, qos int) impl.Kept {
	return impl.Kept{Topic: topic, Body: []byte(body), Qos: qos}
}

func sameOneKept(a, b impl.Kept) bool {
	return a.Topic == b.Topic && bytes.Equal(a.Body, b.Body) && a.Qos == b.Qos
}

func sameKept(a, b []impl.Kept) bool {
	return slices.EqualFunc(a, b, sameOneKept)
}

// keptTopics ascend: of one sign and of many, one the beginning of the next, hidden, and of the greatest sign.
var keptTopics = []string{"$s", "/", "Z", "a", "a ", "a/", "a/b", "a/b/c/d/e/f", "ab", "b/\u00e9", "\u00e9", "\U0010ffff"}

// someOf is what is kept of so many topics from one place on.
func someOf(from, n int) []impl.Kept {
	var out []impl.Kept
	for i, topic := range keptTopics[from:][:n] {
		out = append(out, kept(topic, longText(1+i*13%40), (from+i)%3))
	}
	return out
}

// someKept lists what may be kept: of no topic, of one, of some, of one less than MaxKept, and of MaxKept.
func someKept() [][]impl.Kept {
	return [][]impl.Kept{nil, {}, someOf(3, 1), someOf(11, 1), someOf(2, 2), someOf(4, 5), someOf(0, 7), someOf(5, 7), someOf(0, 8), someOf(2, 8), someOf(4, 8)}
}

// wrongKept lists what nothing that is kept may be.
func wrongKept() []impl.Kept {
	out := []impl.Kept{
		kept("m", "", 0), kept("m", "", 2), {Topic: "m"}, {}, kept("m", longText(41), 1), kept("m", longText(256+1), 1), kept("m", longText(1<<16), 1),
		kept("m", "x", -1), kept("m", "x", 3), kept("m", "x", 128), kept("m", "x", 256), kept("m", "x", 1<<32), kept("m", "x", math.MinInt), kept("m", "x", math.MaxInt),
	}
	for _, topic := range wrongTopics {
		out = append(out, kept(topic, "x", 1))
	}
	return out
}

// wrongLists lists what no list of what is kept is: one with each that it may not have at each place, of one too many, and not ascending.
func wrongLists() [][]impl.Kept {
	out := [][]impl.Kept{someOf(0, 9), someOf(0, 12)}
	for _, l := range someKept() {
		for _, k := range wrongKept() {
			with := append(slices.Clone(l), k)
			slices.SortFunc(with, func(a, b impl.Kept) int { return cmp.Compare(a.Topic, b.Topic) })
			out = append(out, with)
		}
		for at := range l {
			twice := slices.Insert(slices.Clone(l), at, kept(l[at].Topic, "other", 0))
			out = append(out, twice)
			turned := slices.Clone(l)
			slices.Reverse(turned[at:])
			if at < len(l)-1 {
				out = append(out, turned)
			}
		}
	}
	return out
}

// readKept reads the chapter's sentence once more.
func readKept(l []impl.Kept) bool {
	for i, k := range l {
		ok := impl.TopicOk(k.Topic) && within(len(k.Body), 1, 40) && within(k.Qos, 0, 2)
		if !ok || i > 0 && l[i-1].Topic >= k.Topic {
			return false
		}
	}
	return len(l) <= 8
}

func wantKeptOk(t *testing.T, l []impl.Kept, want bool) {
	t.Helper()
	if got := impl.KeptOk(l); got != want || readKept(l) != want {
		t.Fatalf("KeptOk of %+v: %v", l, got)
	}
}

func TestKeptOkOfHowMany(t *testing.T) {
	wantKeptOk(t, nil, true)
	wantKeptOk(t, []impl.Kept{}, true)
	for n := range len(keptTopics) + 1 {
		for from := range len(keptTopics) - n + 1 {
			wantKeptOk(t, someOf(from, n), n <= 8)
		}
	}
	var l []impl.Kept
	for n := range 600 {
		l = append(l, kept("x"+string(rune(0x1000+n)), "x", 0))
		wantKeptOk(t, l, n < 8)
	}
	if impl.MaxKept != 8 || impl.MaxBody != 40 {
		t.Error("limits")
	}
}

func TestKeptOkOfTheOrder(t *testing.T) {
	l := someOf(3, 8)
	for i := range l {
		for j := range l {
			swapped := slices.Clone(l)
			swapped[i], swapped[j] = swapped[j], swapped[i]
			wantKeptOk(t, swapped, i == j)
			alike := slices.Clone(l)
			alike[i].Topic = alike[j].Topic
			wantKeptOk(t, alike, i == j)
			wantKeptOk(t, []impl.Kept{l[i], l[j]}, i < j)
		}
	}
	for _, two := range [][2]string{{"A", "a"}, {"a", "a "}, {"a", "a\x01"}, {"a ", "a/"}, {"a/", "a/b"}, {"a/b", "ab"}, {"z", "\u00e9"}, {"\uffff", "\U00010000"}, {"B/a", "a/B"}, {"10", "9"}} {
		wantKeptOk(t, []impl.Kept{kept(two[0], "x", 0), kept(two[1], "x", 0)}, true)
		wantKeptOk(t, []impl.Kept{kept(two[1], "x", 0), kept(two[0], "x", 0)}, false)
	}
	// neither the Body nor the Qos sets two of one Topic in order
	wantKeptOk(t, []impl.Kept{kept("a", "x", 0), kept("a", "y", 1)}, false)
	wantKeptOk(t, []impl.Kept{kept("a", "y", 1), kept("b", "x", 0)}, true)
}

var rightTopics = []string{"a", "m", " ", "/", "$", "$s/a", "//", "/////", "a/b/c/d/e/f", "a b", "\x01", "\x7f", "\u20ac", "\ufffd", "\U0010ffff", longText(60), strings.Repeat("\u20ac", 20)}

// putKept is l with k in its place, a second reading of what SetKept answers of what is right.
func putKept(l []impl.Kept, k impl.Kept) []impl.Kept {
	var out []impl.Kept
	for _, x := range l {
		if x.Topic < k.Topic {
			out = append(out, x)
		}
	}
	if len(k.Body) > 0 {
		out = append(out, k)
	}
	for _, x := range l {
		if x.Topic > k.Topic {
			out = append(out, x)
		}
	}
	return out
}

// Each is asked of alone, and at its place in a list.
func TestKeptOkOfEach(t *testing.T) {
	check := func(k impl.Kept, want bool) {
		t.Helper()
		wantKeptOk(t, []impl.Kept{k}, want)
		for _, l := range [][]impl.Kept{someOf(0, 1), someOf(4, 5), someOf(11, 1)} {
			with := append(slices.DeleteFunc(slices.Clone(l), func(x impl.Kept) bool { return x.Topic == k.Topic }), k)
			slices.SortFunc(with, func(a, b impl.Kept) int { return cmp.Compare(a.Topic, b.Topic) })
			wantKeptOk(t, with, want)
		}
	}
	for _, topic := range rightTopics {
		check(kept(topic, "x", 1), true)
	}
	for n := range 300 {
		check(impl.Kept{Topic: "m", Body: make([]byte, n)}, n >= 1 && n <= 40)
	}
	for n := -300; n < 300; n++ {
		check(kept("m", "\xff", n), n >= 0 && n <= 2)
	}
	for _, k := range wrongKept() {
		check(k, false)
	}
	for _, l := range wrongLists() {
		wantKeptOk(t, l, false)
	}
}

// eachList hands out every list of so many of these.
func eachList(some []impl.Kept, n int, each func([]impl.Kept)) {
	if n == 0 {
		each(nil)
		return
	}
	eachList(some, n-1, func(l []impl.Kept) {
		for _, k := range some {
			each(append(slices.Clone(l), k))
		}
	})
}

func TestKeptOkOfEveryShortList(t *testing.T) {
	some := []impl.Kept{kept("a", "x", 0), kept("a", "y", 2), kept("a/b", "x", 1), kept("b", longText(40), 0), kept("c", "x", 3), kept("c", "x", -1), kept("c", "", 0), kept("c", longText(41), 0), kept("c", "x", 0), kept("+", "x", 0), kept("", "x", 0), kept("d", "\x00", 2)}
	for n := range 4 {
		eachList(some, n, func(l []impl.Kept) { wantKeptOk(t, l, readKept(l)) })
	}
}

// wantSet tells k, and asks for want, or for l itself.
func wantSet(t *testing.T, l []impl.Kept, k impl.Kept, want []impl.Kept, wantOk bool) {
	t.Helper()
	got, ok := impl.SetKept(l, k.Topic, k.Body, k.Qos)
	if ok != wantOk || !sameKept(got, want) {
		t.Fatalf("SetKept of %+v in %+v: %+v, %v, not %+v, %v", k, l, got, ok, want, wantOk)
	}
}

func TestSetKeptOfWhatIsKept(t *testing.T) {
	l := []impl.Kept{kept("a", "1", 0), kept("b", "2", 1), kept("c", "3", 2)}
	wantSet(t, l, kept("a", "new", 2), []impl.Kept{kept("a", "new", 2), l[1], l[2]}, true)
	wantSet(t, l, kept("b", "new", 1), []impl.Kept{l[0], kept("b", "new", 1), l[2]}, true)
	wantSet(t, l, kept("b", "2", 0), []impl.Kept{l[0], kept("b", "2", 0), l[2]}, true)
	wantSet(t, l, kept("c", "3", 2), l, true)
	wantSet(t, l, kept("c", longText(40), 0), []impl.Kept{l[0], l[1], kept("c", longText(40), 0)}, true)
	for _, l := range someKept() {
		for at, k := range l {
			for _, body := range []string{string(k.Body), "x", "\x00", "\xff\xfe", longText(39), longText(40)} {
				for qos := range 3 {
					want := slices.Clone(l)
					want[at] = kept(k.Topic, body, qos)
					wantSet(t, l, want[at], want, true)
				}
			}
		}
	}
}

func TestSetKeptOfWhatIsNot(t *testing.T) {
	l := []impl.Kept{kept("b", "2", 1), kept("d", "3", 2)}
	wantSet(t, nil, kept("a", "1", 0), []impl.Kept{kept("a", "1", 0)}, true)
	wantSet(t, l, kept("a", "1", 0), []impl.Kept{kept("a", "1", 0), l[0], l[1]}, true)
	wantSet(t, l, kept("c", "1", 0), []impl.Kept{l[0], kept("c", "1", 0), l[1]}, true)
	wantSet(t, l, kept("e", "1", 0), []impl.Kept{l[0], l[1], kept("e", "1", 0)}, true)
	wantSet(t, l, kept("b/", "1", 0), []impl.Kept{l[0], kept("b/", "1", 0), l[1]}, true)
	wantSet(t, l, kept("B", "1", 0), []impl.Kept{kept("B", "1", 0), l[0], l[1]}, true)
	for _, l := range someKept() {
		for _, topic := range slices.Concat(keptTopics, rightTopics) {
			if slices.ContainsFunc(l, func(k impl.Kept) bool { return k.Topic == topic }) {
				continue
			}
			for _, body := range []string{"x", "\x00", longText(40)} {
				k := kept(topic, body, len(topic)%3)
				want := putKept(l, k)
				if len(want) > 8 {
					want = l
				}
				wantSet(t, l, k, want, len(l) < 8)
			}
		}
	}
}

// What is told may be nothing: then nothing is kept, be there something or not.
func TestSetKeptOfAnEmptyBody(t *testing.T) {
	for _, l := range someKept() {
		for _, body := range [][]byte{nil, {}, []byte("abc")[:0]} {
			for qos := range 3 {
				for at, k := range l {
					wantSet(t, l, impl.Kept{Topic: k.Topic, Body: body, Qos: qos}, slices.Delete(slices.Clone(l), at, at+1), true)
				}
				wantSet(t, l, impl.Kept{Topic: "no/such", Body: body, Qos: qos}, l, true)
				wantSet(t, l, impl.Kept{Topic: "\x01", Body: body, Qos: qos}, l, true)
				wantSet(t, l, impl.Kept{Topic: longText(60), Body: body, Qos: qos}, l, true)
			}
			// what is wrong is refused though nothing would be kept of it
			for _, qos := range []int{-1, 3, 256, math.MinInt, math.MaxInt} {
				wantSet(t, l, impl.Kept{Topic: "a", Body: body, Qos: qos}, l, false)
			}
			for _, topic := range wrongTopics {
				wantSet(t, l, impl.Kept{Topic: topic, Body: body}, l, false)
			}
		}
	}
}

func TestSetKeptOfAListThatIsFull(t *testing.T) {
	l := someOf(2, 8)
	for i, topic := range keptTopics {
		there := i >= 2 && i < 10
		k := kept(topic, "new", 1)
		want := l
		if there {
			want = putKept(l, k)
		}
		wantSet(t, l, k, want, there)
		// clearing makes room for just one
		wantSet(t, l, kept(topic, "", 1), putKept(l, kept(topic, "", 1)), true)
		less, _ := impl.SetKept(l, l[3].Topic, nil, 0)
		if !there {
			wantSet(t, less, k, putKept(less, k), true)
			full, _ := impl.SetKept(less, topic, k.Body, 1)
			wantSet(t, full, kept(l[3].Topic, "x", 0), full, false)
		}
	}
}

func TestSetKeptRefuses(t *testing.T) {
	for _, l := range someKept() {
		for _, k := range wrongKept() {
			if len(k.Body) > 0 || !impl.TopicOk(k.Topic) {
				wantSet(t, l, k, l, false)
			}
		}
		for n := range 300 {
			k := impl.Kept{Topic: "Z", Body: make([]byte, n)}
			if n > 40 {
				wantSet(t, l, k, l, false)
			}
		}
	}
	for _, l := range wrongLists() {
		wantSet(t, l, kept("a", "x", 0), l, false)
		wantSet(t, l, kept("", "x", 3), l, false)
		wantSet(t, l, kept("m", "", 0), l, false)
		for _, k := range l {
			wantSet(t, l, k, l, false)
			// what it is refused for is not mended
			wantSet(t, l, kept(k.Topic, "x", 0), l, false)
			wantSet(t, l, kept(k.Topic, "", 0), l, false)
		}
	}
}

func wantFor(t *testing.T, l []impl.Kept, filter string, want ...impl.Kept) {
	t.Helper()
	if got := impl.KeptFor(l, filter); !sameKept(got, want) {
		t.Fatalf("KeptFor %q of %+v: %+v, not %+v", filter, l, got, want)
	}
}

func TestKeptForSomeFilters(t *testing.T) {
	l := []impl.Kept{kept("$s", "1", 0), kept("$s/a", "2", 1), kept("/", "3", 2), kept("a", "4", 0), kept("a/", "5", 1), kept("a/b", "6", 2), kept("a/b/c", "7", 0), kept("b/$s", "8", 1)}
	for filter, places := range map[string][]int{
		"a": {3}, "a/b": {5}, "a/b/c": {6}, "/": {2}, "a/": {4}, "$s": {0}, "$s/a": {1}, "b/$s": {7},
		"+": {3}, "+/+": {2, 4, 5, 7}, "a/+": {4, 5}, "+/b": {5}, "+/": {2, 4}, "/+": {2}, "+/b/+": {6}, "+/+/+": {6}, "b/+": {7}, "+/$s": {7}, "$s/+": {1}, "+/a": nil, "a/+/+": {6},
		"#": {2, 3, 4, 5, 6, 7}, "a/#": {3, 4, 5, 6}, "a/b/#": {5, 6}, "$s/#": {0, 1}, "+/#": {2, 3, 4, 5, 6, 7}, "+/+/#": {2, 4, 5, 6, 7}, "/#": {2}, "b/#": {7}, "a/+/#": {4, 5, 6}, "a/b/c/#": {6}, "a/b/c/+": nil, "a/b/c/d/e/#": nil,
		"A": nil, "c": nil, "a/c": nil, "b": nil, "$": nil, "$s/b": nil, "$S": nil,
		"": nil, "#/a": nil, "a+": nil, "a#": nil, "a/#/c": nil, "a/b/c/d/e/f/#": nil, "\x00": nil, "\xff": nil,
	} {
		var want []impl.Kept
		for _, at := range places {
			want = append(want, l[at])
		}
		wantFor(t, l, filter, want...)
		wantFor(t, nil, filter)
		wantFor(t, []impl.Kept{}, filter)
	}
}

func TestKeptForEachFilter(t *testing.T) {
	filters := slices.Concat(manyFilters(), wrongFilters, keptTopics, rightTopics)
	for _, l := range append(someKept(), []impl.Kept{kept("$s/$s", "x", 1), kept("+", "x", 1), kept("/$s/a", "x", 1), kept("a/$s", "x", 0), kept("a/a/a", "x", 2)}) {
		for _, filter := range filters {
			var want []impl.Kept
			for _, k := range l {
				if impl.Match(filter, k.Topic) {
					want = append(want, k)
				}
			}
			wantFor(t, l, filter, want...)
		}
	}
}

func TestKeptForWrongFilters(t *testing.T) {
	for _, l := range someKept() {
		for _, filter := range wrongFilters {
			wantFor(t, l, filter)
		}
	}
}

// The chapter asks of a list only whether its Topics fit: what is not KeptOk is handed on as it stands.
func TestKeptForOfListsThatAreNotRight(t *testing.T) {
	l := []impl.Kept{kept("b", "", 7), kept("a", longText(99), -1), kept("+", "x", 0), kept("", "x", 0), kept("a", "2", 1), kept("$s", "3", 1), kept("\xff", "4", 0)}
	wantFor(t, l, "#", l[0], l[1], l[4])
	wantFor(t, l, "a", l[1], l[4])
	wantFor(t, l, "b", l[0])
	wantFor(t, l, "$s", l[5])
	wantFor(t, l, "+/+")
	wantFor(t, l, "")
	wantFor(t, l, "\xff")
	many := someOf(0, 12)
	wantFor(t, many, "#", many[1:]...)
}
