package tests

import (
	"slices"
	"testing"

	"loop.example/g00480/impl"
)

func TestFittingLeavesTextsAlone(t *testing.T) {
	for _, f := range topicTexts {
		for _, s := range topicTexts {
			filter, other := withRoom(f), withRoom(s)
			impl.Match(over(filter), over(other))
			impl.Covers(over(filter), over(other))
			if !untouched(filter, f) || !untouched(other, s) {
				t.Fatalf("a question about %q and %q writes into them", f, s)
			}
		}
	}
}

// A text may be handed in as both.
func TestFittingOfOneMemory(t *testing.T) {
	b := withRoom("a/b")
	s := over(b)
	if !impl.Match(s, s) || !impl.Covers(s, s) || impl.Match(s[:1], s) || !slices.Equal(impl.Picks([]string{s, s[:1], s}, s), []int{0, 2}) || !untouched(b, "a/b") {
		t.Error("one text as both")
	}
}

func TestPicksLeavesItsListAlone(t *testing.T) {
	want := []string{"#", "b", "a/#", "bad#", "", "\xff", "a", "+"}
	for _, topic := range []string{"a", "b/c", "$s", "", "+", "\xff"} {
		l, under := listWithRoom(want, "#")
		asked := withRoom(topic)
		got := impl.Picks(l, over(asked))
		if !listUntouched(l, want, "#") {
			t.Fatalf("Picks, %q, writes into its list: %q", topic, l[:cap(l)])
		}
		was := slices.Clone(got)
		for i, b := range append(under, asked) {
			if !untouched(b, append(slices.Clone(want), topic)[i]) {
				t.Fatalf("Picks, %q, writes into text %d", topic, i)
			}
			overwrite(b)
		}
		if !slices.Equal(got, was) {
			t.Errorf("Picks, %q, shares memory with an argument: %v", topic, got)
		}
	}
}

func TestPicksAreNewEachTime(t *testing.T) {
	l := []string{"#", "b", "a", "+"}
	for _, topic := range []string{"a", "b", "c/d", "$s", ""} {
		first := impl.Picks(l, topic)
		was := slices.Clone(first)
		second := impl.Picks(l, topic)
		for i := range first[:cap(first)] {
			first[:cap(first)][i] = -1
		}
		if !slices.Equal(second, was) || !slices.Equal(impl.Picks(l, topic), was) {
			t.Errorf("Picks, %q: two answers share memory", topic)
		}
	}
}
