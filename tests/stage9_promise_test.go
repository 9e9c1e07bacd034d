package tests

import (
	"slices"
	"testing"

	"loop.example/g00480/impl"
)

// told is all that was told and not refused, the last one last: what is kept is read out of it alone.
type told []impl.Kept

// lastOf answers what was told last of a topic, if that is anything.
func (l told) lastOf(topic string) []impl.Kept {
	for _, k := range slices.Backward(l) {
		if k.Topic == topic {
			return keepsOf(k)
		}
	}
	return nil
}

func keepsOf(k impl.Kept) []impl.Kept {
	if len(k.Body) == 0 {
		return nil
	}
	return []impl.Kept{k}
}

func (l told) topics() []string {
	var out []string
	for _, k := range l {
		out = append(out, k.Topic)
	}
	slices.Sort(out)
	return slices.Compact(out)
}

func (l told) all() []impl.Kept {
	var out []impl.Kept
	for _, topic := range l.topics() {
		out = append(out, l.lastOf(topic)...)
	}
	return out
}

// with answers l with k told, and whether it is not refused.
func (l told) with(k impl.Kept) (told, bool) {
	next := append(slices.Clone(l), k)
	right := impl.TopicOk(k.Topic) && len(k.Body) <= 40 && within(k.Qos, 0, 2)
	if !right || len(next.all()) > 8 {
		return l, false
	}
	return next, true
}

// telling is what was told, and what is kept of it.
type telling struct {
	history told
	kept    []impl.Kept
	topics  []string
}

// tell asks for promise 9 each time: of k's topic what was told last is kept, of the others what was kept of them.
func (x *telling) tell(t *testing.T, k impl.Kept) {
	t.Helper()
	next, wantOk := x.history.with(k)
	got, ok := impl.SetKept(x.kept, k.Topic, k.Body, k.Qos)
	if ok != wantOk || !sameKept(got, next.all()) || !impl.KeptOk(got) {
		t.Fatalf("SetKept of %+v in %+v: %+v, %v, not %+v, %v", k, x.kept, got, ok, next.all(), wantOk)
	}
	for _, topic := range x.topics {
		want := impl.KeptFor(x.kept, topic)
		if ok && topic == k.Topic {
			want = keepsOf(k)
		}
		if l := impl.KeptFor(got, topic); !sameKept(l, want) || !sameKept(l, next.lastOf(topic)) {
			t.Fatalf("%+v told: KeptFor %q: %+v, not %+v", k, topic, l, want)
		}
	}
	x.history, x.kept = next, got
}

// tellEach hands out everything that may be told of these topics: nothing, something, and something else.
func tellEach(topics []string) []impl.Kept {
	var out []impl.Kept
	for i, topic := range topics {
		out = append(out, kept(topic, "", i%3), kept(topic, "one", 0), kept(topic, "two", 1+i%2))
	}
	return out
}

// Of few topics: everything is told behind everything else, four times in a row.
func TestWhatIsToldLastOfFewTopics(t *testing.T) {
	topics := []string{"a", "a/b", "$s"}
	eachList(tellEach(topics), 4, func(l []impl.Kept) {
		x := telling{topics: topics}
		for _, k := range l {
			x.tell(t, k)
		}
	})
}

// Of more topics than there is room for, in any order, with what is refused among it.
func TestWhatIsToldLastOfManyTopics(t *testing.T) {
	d := dice(9)
	for round := range 120 {
		x := telling{topics: keptTopics}
		some := append(slices.Clone(keptTopics[:2+round%11]), "+", "", "a/#", "\xff")
		for range 100 {
			k := kept(pick(&d, some), longText(d.below(43)), d.below(8)%4)
			if d.below(3) == 0 {
				k.Body = nil
			}
			x.tell(t, k)
		}
	}
}

// Of just MaxKept topics, in every turn of their order: all of them are kept, told again, and cleared.
func TestWhatIsToldLastOfMaxKept(t *testing.T) {
	topics := keptTopics[2:10]
	for turn := range topics {
		for _, step := range []int{1, 3, 5, 7} {
			x := telling{topics: keptTopics}
			each := func(body string, qos int) {
				for i := range topics {
					x.tell(t, kept(topics[(turn+i*step)%8], body, qos))
				}
			}
			each("one", 0)
			if len(x.kept) != 8 {
				t.Fatalf("%d of MaxKept are kept", len(x.kept))
			}
			for _, more := range append(slices.Clone(keptTopics[:2]), keptTopics[10:]...) {
				x.tell(t, kept(more, "more", 1))
				x.tell(t, kept(more, "", 1))
			}
			each("two", 2)
			each("two", 1)
			each("", 0)
			each("", 2)
			if len(x.kept) != 0 {
				t.Fatalf("%d are kept of what is cleared", len(x.kept))
			}
		}
	}
}

// In whatever order different topics are told of, the same is kept.
func TestWhatIsKeptInEveryOrder(t *testing.T) {
	some := someOf(4, 6)
	orders(len(some), func(order []int) {
		x := telling{topics: keptTopics}
		for _, at := range order {
			x.tell(t, some[at])
		}
		if !sameKept(x.kept, some) {
			t.Fatalf("%v: %+v", order, x.kept)
		}
	})
}
