package tests

import (
	"fmt"
	"runtime"
	"slices"
	"testing"

	"loop.example/g00480/impl"
)

var spareKept = kept("spare", "spare", 77)

// laidKept is a list with room behind it, whose texts and bodies have room behind them, too.
type laidKept struct {
	l      []impl.Kept
	topics [][]byte
	bodies [][]byte
}

func layKept(l []impl.Kept) *laidKept {
	laid := &laidKept{l: roomBehind(l, spareKept)}
	for i, k := range l {
		topic, body := withRoom(k.Topic), withRoom(string(k.Body))
		laid.topics, laid.bodies = append(laid.topics, topic), append(laid.bodies, body)
		laid.l[i] = impl.Kept{Topic: over(topic), Body: body, Qos: k.Qos}
	}
	return laid
}

// untouchedAs asks whether the memory is as it was laid for l.
func (x *laidKept) untouchedAs(l []impl.Kept) bool {
	if !sameKept(x.l, l) || !sameKept(x.l[len(l):cap(x.l)][:5], many(spareKept, 5)) || string(spareKept.Body) != "spare" {
		return false
	}
	for i, k := range l {
		if !untouched(x.topics[i], k.Topic) || !untouched(x.bodies[i], string(k.Body)) {
			return false
		}
	}
	return true
}

func (x *laidKept) turn() {
	for i := range x.topics {
		overwrite(x.topics[i])
		overwrite(x.bodies[i])
	}
	fill(x.l, kept("turned", "turned", 99))
}

// keptSpans lists all that a list lies over.
func keptSpans(l []impl.Kept, what string) []span {
	out := []span{spanOf(l, what)}
	for i, k := range l {
		out = append(out, textSpan(k.Topic, fmt.Sprint(what, " topic ", i)), spanOf(k.Body, fmt.Sprint(what, " body ", i)))
	}
	return out
}

type keptAnswer struct {
	l  []impl.Kept
	ok bool
}

func (a keptAnswer) is(b keptAnswer) bool {
	return a.ok == b.ok && sameKept(a.l, b.l)
}

// keptCall is a call with what else it is handed.
type keptCall struct {
	name string
	call func(l []impl.Kept, topic string, body []byte) keptAnswer
}

var keptCalls = []keptCall{
	{"KeptOk", func(l []impl.Kept, _ string, _ []byte) keptAnswer { return keptAnswer{nil, impl.KeptOk(l)} }},
	{"SetKept", func(l []impl.Kept, topic string, body []byte) keptAnswer {
		got, ok := impl.SetKept(l, topic, body, 2)
		return keptAnswer{got, ok}
	}},
	{"SetKept, wrong", func(l []impl.Kept, topic string, body []byte) keptAnswer {
		got, ok := impl.SetKept(l, topic, body, 3)
		return keptAnswer{got, ok}
	}},
	{"KeptFor", func(l []impl.Kept, filter string, _ []byte) keptAnswer {
		return keptAnswer{impl.KeptFor(l, filter), true}
	}},
}

var (
	memoryTopics = append([]string{"new", "#", "+/+", "a+", ""}, keptTopics...)
	memoryBodies = []string{"", "x", longText(40), longText(41)}
)

// eachKeptCall hands out each call with lists that are right and wrong, with topics and bodies of each kind.
func eachKeptCall(each func(c keptCall, l []impl.Kept, topic, body string)) {
	lists := append(someKept(), someOf(0, 9), []impl.Kept{kept("b", "", 1), kept("a", "x", 1), kept("a", "x", 1)}, wrongKept(), []impl.Kept{kept("a", "x", 7)}, many(kept("a", "x", 1), 3))
	for _, l := range lists {
		for _, c := range keptCalls {
			for _, topic := range memoryTopics {
				for _, body := range memoryBodies {
					each(c, l, topic, body)
				}
			}
		}
	}
}

// Nothing is written into an argument nor behind it, and no answer lies over what an argument lies over.
func TestKeptLeavesArgumentsAlone(t *testing.T) {
	eachKeptCall(func(c keptCall, l []impl.Kept, topic, body string) {
		laid, s, b := layKept(l), withRoom(topic), withRoom(body)
		got := c.call(laid.l, over(s), b)
		if !laid.untouchedAs(l) || !untouched(s, topic) || !untouched(b, body) {
			t.Fatalf("%s of %q, %q writes into an argument: %+v", c.name, topic, body, l)
		}
		handed := append(keptSpans(laid.l, "list"), spanOf(s, "topic"), spanOf(b, "body"))
		if x, y, ok := shared(append(handed, keptSpans(got.l, "answer")...)); ok {
			t.Fatalf("%s of %q, %q, %+v: one memory for %s and %s", c.name, topic, body, l, x.what, y.what)
		}
		runtime.KeepAlive(laid)
	})
}

// The answer stays as it was when the arguments turn; what is behind their lengths is not read.
func TestKeptDoesNotTurnWithItsArguments(t *testing.T) {
	eachKeptCall(func(c keptCall, l []impl.Kept, topic, body string) {
		laid, s, b := layKept(l), withRoom(topic), withRoom(body)
		got, want := c.call(laid.l, over(s), b), c.call(l, topic, []byte(body))
		laid.turn()
		overwrite(s)
		overwrite(b)
		if !got.is(want) {
			t.Fatalf("%s of %q, %q in %+v: %+v, not %+v", c.name, topic, body, l, got, want)
		}
	})
}

// A right list goes on behind its length, and so does a body.
func TestKeptIsNotReadBehindItsLists(t *testing.T) {
	for n := range 8 {
		l, cut := someOf(0, 12), someOf(0, n)
		added := kept("zz", "x", 0)
		wantKeptOk(t, l[:n], true)
		wantFor(t, l[:n], "#", cut[min(n, 1):]...)
		wantSet(t, l[:n], added, append(slices.Clone(cut), added), true)
		wantSet(t, l[:n], impl.Kept{Topic: keptTopics[0], Body: []byte("xyz")[:0]}, cut[min(n, 1):], true)
		if !sameKept(l, someOf(0, 12)) {
			t.Fatal("what is behind the list is written")
		}
	}
	l := []impl.Kept{{Topic: "a", Body: []byte("xyz")[:0]}}
	wantKeptOk(t, l, false)
	wantKeptOk(t, []impl.Kept{{Topic: "a", Body: make([]byte, 40, 90)}}, true)
}

// Two answers to the same call are told apart: neither is kept for the other.
func TestKeptIsNewEachTime(t *testing.T) {
	eachKeptCall(func(c keptCall, l []impl.Kept, topic, body string) {
		first := c.call(l, topic, []byte(body))
		second := c.call(l, topic, []byte(body))
		if x, y, ok := shared(append(keptSpans(first.l, "first"), keptSpans(second.l, "second")...)); ok {
			t.Fatalf("%s of %q, %q: one memory for %s and %s", c.name, topic, body, x.what, y.what)
		}
		if !first.is(second) {
			t.Fatalf("%s of %q, %q: %+v, then %+v", c.name, topic, body, first, second)
		}
		// else the second one might lie where the first one was
		runtime.KeepAlive(first)
	})
}

// No two lists of one answer share memory, though those of an argument do, and what is told is one of them.
func TestListsOfWhatIsKeptShareNoMemory(t *testing.T) {
	b := withRoom("a/b")
	s := over(b)
	right := []impl.Kept{{Topic: s[:1], Body: b}, {Topic: s, Body: b}, {Topic: s[2:], Body: b[1:]}}
	wrong := append(slices.Clone(right), right...)
	for i, l := range [][]impl.Kept{right, wrong} {
		for _, topic := range []string{s, s[:1], s[2:], "a/b", "b/a", "+", "#", ""} {
			for _, body := range [][]byte{b, b[:1], b[:0], right[0].Body} {
				for _, c := range keptCalls {
					got := c.call(l, topic, body)
					if x, y, ok := shared(append(keptSpans(got.l, "answer"), spanOf(b, "argument"))); ok {
						t.Fatalf("%d, %s of %q: one memory for %s and %s", i, c.name, topic, x.what, y.what)
					}
				}
			}
		}
	}
	got, ok := impl.SetKept(right, s, b, 2)
	found := impl.KeptFor(right, s)
	if !ok || !untouched(b, "a/b") {
		t.Error("one text")
	}
	overwrite(b)
	if !sameKept(got, []impl.Kept{kept("a", "a/b", 0), kept("a/b", "a/b", 2), kept("b", "/b", 0)}) || !sameKept(found, []impl.Kept{kept("a/b", "a/b", 0)}) {
		t.Error(got, found)
	}
}

// Answers are grown by whoever holds them: what is laid behind one list of an answer stands in no other.
func TestWhatIsKeptGrowsApart(t *testing.T) {
	l := someOf(2, 8)
	got, _ := impl.SetKept(l, "a", []byte("new"), 1)
	want := putKept(l, kept("a", "new", 1))
	for i := range got {
		_ = append(got[i].Body, longBytes(90)...)
		_ = append(got[i].Body[:len(got[i].Body)], 'y')
	}
	_ = append(got, spareKept)
	if !sameKept(got, want) || !sameKept(l, someOf(2, 8)) {
		t.Error(got)
	}
}
