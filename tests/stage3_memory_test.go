package tests

import (
	"slices"
	"strings"
	"testing"
	"unsafe"

	"loop.example/g00480/impl"
)

var topicTexts = []string{"", "a", "/", "a/b", "/a//b/", "+/#", "$s/#", "a+", "#/a", "\xff/\x00", "a/b/c/d/e/f/g", strings.Repeat("long", 16) + "/x"}

// over makes a text of b's own bytes, so that a text that shares them turns as they turn.
func over(b []byte) string {
	return unsafe.String(unsafe.SliceData(b), len(b))
}

func TestLevelsShareNoMemory(t *testing.T) {
	for _, s := range topicTexts {
		b := withRoom(s)
		l := impl.Levels(over(b))
		if !untouched(b, s) {
			t.Fatalf("Levels(%q) writes into its argument", s)
		}
		overwrite(b)
		if !slices.Equal(l, levelsOf(s)) {
			t.Errorf("Levels(%q) shares memory with its argument: %q", s, l)
		}
	}
}

func TestLevelsAreNewEachTime(t *testing.T) {
	for _, s := range topicTexts {
		l := impl.Levels(s)
		for i := range l[:cap(l)] {
			l[:cap(l)][i] = "turned"
		}
		if got := impl.Levels(s); !slices.Equal(got, levelsOf(s)) {
			t.Errorf("Levels(%q), once more: %q", s, got)
		}
	}
}

func TestAskingLeavesTextsAlone(t *testing.T) {
	for _, s := range topicTexts {
		b := withRoom(s)
		impl.TopicOk(over(b))
		impl.FilterOk(over(b))
		impl.Wild(over(b))
		impl.Hidden(over(b))
		if !untouched(b, s) {
			t.Errorf("a question about %q writes into it", s)
		}
	}
}

// listWithRoom lays want over bytes that may be turned, ahead of room that is full of spare.
func listWithRoom(want []string, spare string) ([]string, [][]byte) {
	var under [][]byte
	l := make([]string, 0, len(want)+5)
	for _, s := range want {
		b := withRoom(s)
		under = append(under, b)
		l = append(l, over(b))
	}
	for i := len(l); i < cap(l); i++ {
		l[:cap(l)][i] = spare
	}
	return l, under
}

func listUntouched(l, want []string, spare string) bool {
	return slices.Equal(l, want) && !slices.ContainsFunc(l[len(l):cap(l)], func(s string) bool { return s != spare })
}

func TestJoinLeavesItsListAlone(t *testing.T) {
	for _, want := range [][]string{{}, {""}, {"a"}, {"a", "b"}, {"", "a", "", "b", ""}, {"a/b"}, {strings.Repeat("x", 70)}} {
		l, under := listWithRoom(want, "spare")
		got := impl.Join(l)
		if !listUntouched(l, want, "spare") {
			t.Fatalf("Join(%q) writes into its list: %q", want, l[:cap(l)])
		}
		for i, b := range under {
			if !untouched(b, want[i]) {
				t.Fatalf("Join(%q) writes into level %d", want, i)
			}
			overwrite(b)
		}
		if got != strings.Join(want, "/") {
			t.Errorf("Join(%q) shares memory with a level: %q", want, got)
		}
	}
}
