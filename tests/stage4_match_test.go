package tests

import (
	"regexp"
	"slices"
	"strings"
	"testing"

	"loop.example/g00480/impl"
)

var matchCases = []struct {
	filter, topic string
	want          bool
}{
	{"a", "a", true},
	{"a", "b", false},
	{"a", "A", false},
	{"a", "ab", false},
	{"ab", "a", false},
	{"house/room/lamp", "house/room/lamp", true},
	{"house/room/lamp", "house/room/lamps", false},
	{"house/room/lamp", "house/hall/lamp", false},
	{"house/+/lamp", "house/hall/lamp", true},
	{"house/+/lamp", "house/hall/door", false},
	{"house/#", "house/hall/door", true},
	{"house/#", "barn/hall/door", false},
	{"+/+/lamp", "barn/hall/lamp", true},
	{"+/\u20ac", "\u00e9/\u20ac", true},
	{"\u20ac/#", "\u20ac/\U0001f426", true},
	{"\ufffd", "\ufffd", true},
	{"e\u0301", "\u00e9", false},

	// all that are left, none too
	{"a/#", "a", true},
	{"a/#", "a/b", true},
	{"a/#", "a/b/c/d/e/f", true},
	{"a/#", "ab", false},
	{"a/#", "b", false},
	{"a/#", "ba", false},
	{"a/b/#", "a/b", true},
	{"a/b/#", "a/b/c", true},
	{"a/b/#", "a", false},
	{"a/b/#", "a/c", false},
	{"a/b/c/#", "a", false},
	{"a/b/c/d/e/#", "a/b/c/d/e", true},
	{"a/b/c/d/e/#", "a/b/c/d/e/f", true},
	{"a/b/c/d/e/#", "a/b/c/d", false},
	{"#", "a", true},
	{"#", "a/b/c/d/e/f", true},
	{"+/#", "a", true},
	{"+/#", "a/b/c", true},
	{"+/+/#", "a", false},
	{"+/+/#", "a/b", true},
	{"a/+/#", "a", false},
	{"a/+/#", "a/b", true},

	// any one level, and no level that is not there
	{"+", "a", true},
	{"+", "a/b", false},
	{"+/+", "a", false},
	{"+/+", "a/b", true},
	{"+/+", "a/b/c", false},
	{"a/+", "a", false},
	{"a/+", "a/b", true},
	{"a/+", "a/b/c", false},
	{"+/b", "b", false},
	{"+/b", "a/b", true},
	{"+/b", "a/b/b", false},
	{"+/+/+/+/+/+", "a/b/c/d/e/f", true},
	{"+/+/+/+/+", "a/b/c/d/e/f", false},
	{"+/+/+/+/+/+", "a/b/c/d/e", false},

	// ends that are one level apart
	{"a/b", "a", false},
	{"a", "a/b", false},
	{"a/b/c", "a/b", false},
	{"a/b", "a/b/c", false},
	{"a", "a/", false},
	{"a/", "a", false},
	{"a", "/a", false},
	{"/a", "a", false},

	// levels that are empty
	{"+", "/", false},
	{"+/+", "/", true},
	{"/+", "/", true},
	{"+/", "/", true},
	{"/", "/", true},
	{"/", "//", false},
	{"#", "/", true},
	{"/#", "/", true},
	{"/#", "/a", true},
	{"/#", "a", false},
	{"//#", "/", true},
	{"//#", "//a", true},
	{"//#", "/a", false},
	{"+", "/a", false},
	{"/+", "/a", true},
	{"+/a", "/a", true},
	{"+/+", "/a", true},
	{"a/+", "a/", true},
	{"a/#", "a/", true},
	{"a/#", "a//", true},
	{"a/+/#", "a/", true},
	{"a/+", "a//", false},
	{"a//b", "a//b", true},
	{"a/+/b", "a//b", true},
	{"a/b", "a//b", false},
	{"a//b", "a/b", false},
	{"a//b", "a/x/b", false},
	{"a//#", "a", false},
	{"a//#", "a/", true},
	{"a//#", "a//b", true},
	{"a//#", "a/b", false},
	{"+/+/+/+/+/+", "/////", true},

	// what is hidden
	{"#", "$", false},
	{"#", "$s", false},
	{"#", "$s/a", false},
	{"+", "$", false},
	{"+", "$s", false},
	{"+/a", "$s/a", false},
	{"+/+", "$s/a", false},
	{"+/#", "$s", false},
	{"+/#", "$s/a/b", false},
	{"$s", "$s", true},
	{"$", "$", true},
	{"$s/#", "$s", true},
	{"$s/#", "$s/a", true},
	{"$s/+", "$s/a", true},
	{"$s/+", "$s", false},
	{"$s/+/b", "$s/a/b", true},
	{"$/#", "$s", false},
	{"$s/#", "$t/a", false},
	{"#", "a/$s", true},
	{"+/$s", "a/$s", true},
	{"a/+", "a/$s", true},
	{"a/#", "a/$s/b", true},
	{"+/+", "a/$", true},
	{"/+", "/$s", true},
	{"+/+", "/$s", true},
	{"#", "/$s", true},
	{"#", "a$", true},
	{"#", "s/$", true},
	{"$s/$t", "$s/$t", true},
}

// Each is wrong on one side, and would fit if only the levels were asked.
var matchWrong = []struct{ filter, topic string }{
	{"", ""},
	{"", "a"},
	{"a", ""},
	{"#", ""},
	{"+", ""},
	{"/#", ""},
	{"a#", "a#"},
	{"a+", "a+"},
	{"a#", "a"},
	{"#/a", "a"},
	{"#/a", "b/a"},
	{"#/a", "#/a"},
	{"a/#/b", "a/c/b"},
	{"#/#", "a/b"},
	{"++", "a"},
	{"a/b+", "a/b+"},
	{"a/b+/#", "a/b+/c"},
	// a filter where a topic is asked for
	{"+", "+"},
	{"#", "#"},
	{"a/+", "a/+"},
	{"a/#", "a/#"},
	{"#", "a/+"},
	{"#", "a/#"},
	{"+/#", "+/b"},
	{"+", "#"},
	{"a/#", "a/b+"},
	// too many levels
	{"a/b/c/d/e/f/g", "a/b/c/d/e/f/g"},
	{"a/b/c/d/e/f/#", "a/b/c/d/e/f"},
	{"#", "a/b/c/d/e/f/g"},
	{"a/#", "a/b/c/d/e/f/g"},
	{"+/+/+/+/+/+/+", "a/b/c/d/e/f/g"},
	{"#", "//////"},
	// too long
	{strings.Repeat("x", 61), strings.Repeat("x", 61)},
	{"#", strings.Repeat("x", 61)},
	{"+", strings.Repeat("\u20ac", 20) + "x"},
	{strings.Repeat("x", 59) + "/#", strings.Repeat("x", 59)},
	{strings.Repeat("x", 59) + "/+", strings.Repeat("x", 59) + "/"},
	// no texts
	{"\xff", "\xff"},
	{"#", "\xff"},
	{"+", "\x00"},
	{"a\x00", "a\x00"},
	{"a/+", "a/\xe2\x82"},
	{"+/\xff", "a/\xff"},
	{"\xed\xa0\x80/#", "\xed\xa0\x80"},
	{"\xff", "\xfe"},
}

func TestMatch(t *testing.T) {
	for _, c := range matchCases {
		if got := impl.Match(c.filter, c.topic); got != c.want {
			t.Errorf("Match(%q, %q): %v", c.filter, c.topic, got)
		}
	}
	for _, c := range matchWrong {
		if impl.Match(c.filter, c.topic) {
			t.Errorf("Match(%q, %q)", c.filter, c.topic)
		}
	}
}

// A limit that is met exactly is accepted.
func TestMatchAtTheLimits(t *testing.T) {
	long := strings.Repeat("x", 60)
	for _, c := range []struct{ filter, topic string }{
		{long, long},
		{"#", long},
		{"+", long},
		{"+", strings.Repeat("\u20ac", 20)},
		{long[:58] + "/#", long[:58]},
		{long[:58] + "/#", long[:58] + "/y"},
		{long[:58] + "/+", long[:58] + "/y"},
		{"a/b/c/d/e/#", "a/b/c/d/e/f"},
		{"#", "a/b/c/d/e/f"},
	} {
		if !impl.Match(c.filter, c.topic) || !impl.Covers(c.filter, c.topic) {
			t.Errorf("%q does not fit %q", c.filter, c.topic)
		}
	}
}

var coversCases = []struct {
	f, g string
	want bool
}{
	{"a", "a", true},
	{"a", "b", false},
	{"a/b", "a", false},
	{"a", "a/b", false},
	{"a/", "a", false},
	{"a", "a/", false},
	{"a//b", "a//b", true},
	{"a//b", "a/+/b", false},

	// all that is left of the other, none too
	{"a/#", "a", true},
	{"a/#", "a/", true},
	{"a/#", "a/b/c", true},
	{"a/#", "a/+", true},
	{"a/#", "a/+/c", true},
	{"a/#", "a/#", true},
	{"a/#", "a/b/#", true},
	{"a/#", "a/+/#", true},
	{"a/#", "b/#", false},
	{"a/#", "#", false},
	{"a/#", "+", false},
	{"a/#", "+/#", false},
	{"a/b/#", "a/b", true},
	{"a/b/#", "a", false},
	{"a/b/#", "a/#", false},
	{"a/b/#", "a/+", false},
	{"a/b/#", "a/+/#", false},
	{"#", "#", true},
	{"#", "+", true},
	{"#", "+/#", true},
	{"#", "a", true},
	{"#", "/", true},
	{"#", "a/b/c/d/e/f", true},
	{"#", "+/+/+/+/+/#", true},
	{"/#", "/", true},
	{"/#", "/+/#", true},
	{"/#", "+/#", false},

	// any level but `#`
	{"+", "+", true},
	{"+", "a", true},
	{"+", "#", false},
	{"+", "/", false},
	{"+", "a/b", false},
	{"+", "+/#", false},
	{"+/+", "+/b", true},
	{"+/+", "a/+", true},
	{"+/+", "/", true},
	{"+/+", "#", false},
	{"+/+", "a/#", false},
	{"+/+", "a", false},
	{"+/#", "#", false},
	{"+/#", "+", true},
	{"+/#", "a/#", true},
	{"+/#", "/#", true},
	{"+/+/#", "a/#", false},
	{"+/+/#", "a/b", true},
	{"a/+", "a/b", true},
	{"a/+", "a/", true},
	{"a/+", "a/+", true},
	{"a/+", "a/#", false},
	{"a/+", "a", false},
	{"a/+/#", "a/#", false},
	{"a/+/#", "a/+", true},
	{"a/+/#", "a/b/#", true},

	// else the same level
	{"a", "+", false},
	{"a", "#", false},
	{"a", "a/#", false},
	{"a/b", "a/+", false},
	{"a/b", "+/b", false},
	{"a/b", "a/#", false},
	{"/a", "+/a", false},
	{"+/b", "a/b", true},
	{"+/b", "a/+", false},
	{"+/b", "+/c", false},

	// what is hidden
	{"#", "$", false},
	{"#", "$s", false},
	{"#", "$s/a", false},
	{"#", "$s/#", false},
	{"+", "$s", false},
	{"+/a", "$s/a", false},
	{"+/+", "$s/+", false},
	{"+/#", "$s/#", false},
	{"$s", "$s", true},
	{"$s/#", "$s", true},
	{"$s/#", "$s/#", true},
	{"$s/#", "$s/+/a", true},
	{"$s/+", "$s/a", true},
	{"$s/+", "$s/#", false},
	{"$s/a", "+/a", false},
	{"$s/#", "#", false},
	{"$/#", "$s/a", false},
	{"#", "a/$s", true},
	{"+/+", "a/$s", true},
	{"+/$s", "a/$s", true},
	{"/+", "/$s", true},
	{"#", "/$s/#", true},
	{"#", "+/$s", true},
}

var coversWrong = []struct{ f, g string }{
	{"", ""},
	{"a", ""},
	{"#", ""},
	{"+", ""},
	{"/#", ""},
	{"", "a"},
	{"x+", "a"},
	{"x+", "x+"},
	{"#", "x+"},
	{"+", "++"},
	{"#", "#/a"},
	{"#", "a#"},
	{"#/a", "#/a"},
	{"#/a", "b/a"},
	{"a/#", "a/#/b"},
	{"a#", "a#"},
	{"a/#/b", "a/#/b"},
	{"#", "a/b/c/d/e/f/g"},
	{"#", "a/b/c/d/e/f/#"},
	{"a/b/c/d/e/f/#", "a/b/c/d/e/f"},
	{"a/b/c/d/e/f/g", "a/b/c/d/e/f/g"},
	{"#", strings.Repeat("x", 61)},
	{strings.Repeat("x", 61), strings.Repeat("x", 61)},
	{strings.Repeat("x", 59) + "/#", strings.Repeat("x", 59)},
	{"#", "\xff"},
	{"\xff", "\xff"},
	{"+", "\x00"},
	{"+/a\x00", "b/a\x00"},
	{"a/#", "a/\xe2\x82"},
}

func TestCovers(t *testing.T) {
	for _, c := range coversCases {
		if got := impl.Covers(c.f, c.g); got != c.want {
			t.Errorf("Covers(%q, %q): %v", c.f, c.g, got)
		}
	}
	for _, c := range coversWrong {
		if impl.Covers(c.f, c.g) {
			t.Errorf("Covers(%q, %q)", c.f, c.g)
		}
	}
}

// reading is a filter as a pattern over the whole text, which keeps no levels, other than the program does.
type reading struct {
	filter  string
	pattern *regexp.Regexp
}

// readingOf takes as one what fits a `+`.
func readingOf(filter, one string) reading {
	p := strings.ReplaceAll(regexp.QuoteMeta(filter), `\+`, one)
	if filter == "#" {
		p = ".*"
	} else if head, all := strings.CutSuffix(p, "/#"); all {
		p = head + "(/.*)?"
	}
	return reading{filter, regexp.MustCompile(`(?s)\A` + p + `\z`)}
}

func (r reading) fits(s string) bool {
	if strings.HasPrefix(s, "$") && strings.ContainsAny(r.filter[:1], "+#") {
		return false
	}
	return r.pattern.MatchString(s)
}

// checkPair holds one filter against each of the texts, topics and filters and what is neither.
func checkPair(t *testing.T, filter string, texts []string) {
	t.Helper()
	var asMatch, asCovers reading
	right := kindOf(filter) != kindNone
	if right {
		asMatch, asCovers = readingOf(filter, "[^/]*"), readingOf(filter, "[^/#]*")
	}
	for _, s := range texts {
		kind := kindOf(s)
		if got, want := impl.Match(filter, s), right && kind == kindTopic && asMatch.fits(s); got != want {
			t.Fatalf("Match(%q, %q): %v", filter, s, got)
		}
		if got, want := impl.Covers(filter, s), right && kind != kindNone && asCovers.fits(s); got != want {
			t.Fatalf("Covers(%q, %q): %v", filter, s, got)
		}
	}
}

func TestAllShortTextsAgainstEachOther(t *testing.T) {
	var texts []string
	allTexts([]string{"a", "/", "+", "#", "$"}, 4, func(s string) {
		texts = append(texts, s)
	})
	for _, c := range textKinds {
		texts = append(texts, c.s)
	}
	for _, filter := range texts {
		checkPair(t, filter, texts)
	}
}

// ofLevels lists what up to most of these levels make, and, if all is set, the same with a `#` behind, and that alone.
func ofLevels(levels []string, most int, all bool) []string {
	var out []string
	if all {
		out = append(out, "#")
	}
	row := levels
	for n := 1; n <= most; n++ {
		var next []string
		for _, head := range row {
			out = append(out, head)
			if all && n < most {
				out = append(out, head+"/#")
			}
			for _, level := range levels {
				next = append(next, head+"/"+level)
			}
		}
		row = next
	}
	return slices.DeleteFunc(out, func(s string) bool { return s == "" })
}

func TestDeepFiltersAgainstDeepOnes(t *testing.T) {
	texts := ofLevels([]string{"", "a", "+"}, 5, true)
	texts = append(texts, ofLevels([]string{"a", "$"}, 6, false)...)
	for _, filter := range ofLevels([]string{"", "a", "+"}, 4, true) {
		checkPair(t, filter, texts)
	}
	for _, filter := range ofLevels([]string{"a", "+"}, 6, true) {
		checkPair(t, filter, texts)
	}
}

// Promise 4: what fits a filter fits each that covers it.
func TestWhoCoversFitsAllThatIsFitted(t *testing.T) {
	topics := ofLevels([]string{"", "a", "b", "$"}, 4, false)
	filters := ofLevels([]string{"", "a", "$", "+"}, 4, true)
	fitted := make([][]bool, len(filters))
	for i, f := range filters {
		fitted[i] = make([]bool, len(topics))
		for k, topic := range topics {
			fitted[i][k] = impl.Match(f, topic)
		}
	}
	covered := 0
	for i, f := range filters {
		for j, g := range filters {
			if !impl.Covers(f, g) {
				continue
			}
			if i != j {
				covered++
			}
			for k, topic := range topics {
				if fitted[j][k] && !fitted[i][k] {
					t.Fatalf("%q covers %q, but does not fit %q", f, g, topic)
				}
			}
		}
	}
	if covered == 0 {
		t.Error("no filter covers another")
	}
}

func TestEachFilterCoversItself(t *testing.T) {
	allTexts([]string{"a", "/", "+", "#", "$", "\x00", "\u20ac"}, 5, func(s string) {
		if got := impl.Covers(s, s); got != impl.FilterOk(s) {
			t.Fatalf("Covers(%q, %q): %v", s, s, got)
		}
		if got := impl.Match(s, s); got != impl.TopicOk(s) {
			t.Fatalf("Match(%q, %q): %v", s, s, got)
		}
	})
}

// A filter that is not Wild fits just itself, and covers just itself.
func TestPlainFiltersFitJustThemselves(t *testing.T) {
	var texts []string
	allTexts([]string{"a", "/", "$", "b"}, 4, func(s string) {
		texts = append(texts, s)
	})
	others := append(ofLevels([]string{"", "a", "$", "+"}, 3, true), texts...)
	for _, f := range texts {
		if !impl.FilterOk(f) || impl.Wild(f) {
			continue
		}
		for _, s := range others {
			if got := impl.Match(f, s); got != (s == f) {
				t.Fatalf("Match(%q, %q): %v", f, s, got)
			}
			if got := impl.Covers(f, s); got != (s == f) {
				t.Fatalf("Covers(%q, %q): %v", f, s, got)
			}
		}
	}
}

func TestPicks(t *testing.T) {
	for _, c := range []struct {
		l     []string
		topic string
		want  []int
	}{
		{nil, "a", nil},
		{[]string{}, "a", nil},
		{nil, "", nil},
		{[]string{"a"}, "a", []int{0}},
		{[]string{"b"}, "a", nil},
		{[]string{"b", "a"}, "a", []int{1}},
		{[]string{"a", "b", "a", "a"}, "a", []int{0, 2, 3}},
		{[]string{"#", "b", "a/#", "bad#", "a"}, "a", []int{0, 2, 4}},
		{[]string{"+/+", "+", "a/+", "a/b", "#"}, "a/b", []int{0, 2, 3, 4}},
		{[]string{"#", "+", "$s", "+/#", "$s/#"}, "$s", []int{2, 4}},
		// wrong ones among them
		{[]string{"", "a", "a+", "a", "\xff", "#/a", "a\x00", "#"}, "a", []int{1, 3, 7}},
		{[]string{"", "\x00", "a#", "++", "a/b/c/d/e/f/g"}, "a", nil},
		{[]string{strings.Repeat("x", 61), strings.Repeat("x", 60), "+"}, strings.Repeat("x", 60), []int{1, 2}},
		// no topic
		{[]string{"#", "+", ""}, "", nil},
		{[]string{"#", "+", "a"}, "+", nil},
		{[]string{"#", "a/#", "a/+"}, "a/#", nil},
		{[]string{"#", "\xff"}, "\xff", nil},
		{[]string{"#"}, "a/b/c/d/e/f/g", nil},
		{[]string{"#"}, strings.Repeat("x", 61), nil},
	} {
		if got := impl.Picks(c.l, c.topic); !slices.Equal(got, c.want) {
			t.Errorf("Picks(%q, %q): %v", c.l, c.topic, got)
		}
	}
	// what lies behind a list's length is not read
	l := []string{"a", "#", "+"}
	if got := impl.Picks(l[:1], "a"); !slices.Equal(got, []int{0}) {
		t.Error(got)
	}
	if got := impl.Picks(l[:0], "a"); len(got) != 0 {
		t.Error(got)
	}
}

// Picks of a list are the places of just those that Match, ascending, wherever they stand in it.
func TestPicksAreThoseThatMatch(t *testing.T) {
	var l []string
	allTexts([]string{"a", "/", "+", "#", "$"}, 4, func(s string) {
		l = append(l, s)
	})
	l = append(l, l...)
	topics := append(ofLevels([]string{"", "a", "$"}, 3, false), "", "+", "a/#", "a+", "\xff")
	for _, topic := range topics {
		var want []int
		for at, filter := range l {
			if impl.Match(filter, topic) {
				want = append(want, at)
			}
		}
		if got := impl.Picks(l, topic); !slices.Equal(got, want) {
			t.Fatalf("Picks, %q: %v", topic, got)
		}
	}
}

func TestPicksOfManyFilters(t *testing.T) {
	l := make([]string, 20000)
	var want []int
	for i := range l {
		l[i] = "b/#"
		if i%3 == 0 {
			l[i] = "a/#"
			want = append(want, i)
		}
	}
	if got := impl.Picks(l, "a/b"); !slices.Equal(got, want) {
		t.Error(len(got))
	}
}
