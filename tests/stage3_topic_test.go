package tests

import (
	"slices"
	"strings"
	"testing"

	"loop.example/g00480/impl"
)

func TestTopicConstants(t *testing.T) {
	if impl.MaxLevels != 6 {
		t.Error(impl.MaxLevels)
	}
}

func TestLevels(t *testing.T) {
	for _, c := range []struct {
		s    string
		want []string
	}{
		{"", []string{""}},
		{"a", []string{"a"}},
		{"a/b", []string{"a", "b"}},
		{"house/room/lamp", []string{"house", "room", "lamp"}},
		{"/", []string{"", ""}},
		{"//", []string{"", "", ""}},
		{"/a", []string{"", "a"}},
		{"//a", []string{"", "", "a"}},
		{"a/", []string{"a", ""}},
		{"a//", []string{"a", "", ""}},
		{"a//b", []string{"a", "", "b"}},
		{"a///b", []string{"a", "", "", "b"}},
		{"/a/", []string{"", "a", ""}},
		{"/a//b/", []string{"", "a", "", "b", ""}},
		{"+/#", []string{"+", "#"}},
		{"$s/a b", []string{"$s", "a b"}},
		{"a\\b", []string{"a\\b"}},
		{"\u00e9/\u20ac/\U0001f426", []string{"\u00e9", "\u20ac", "\U0001f426"}},
		{"\u2215/\uff0f", []string{"\u2215", "\uff0f"}},
		// no topics, but texts with levels
		{"a/b/c/d/e/f/g/h", []string{"a", "b", "c", "d", "e", "f", "g", "h"}},
		{"///////", []string{"", "", "", "", "", "", "", ""}},
		{"\xff/\x00", []string{"\xff", "\x00"}},
		{"\xe2/\x82\xac", []string{"\xe2", "\x82\xac"}},
		{"\xc0\xaf/\xc0", []string{"\xc0\xaf", "\xc0"}},
		{strings.Repeat("x", 61) + "/", []string{strings.Repeat("x", 61), ""}},
	} {
		if got := impl.Levels(c.s); !slices.Equal(got, c.want) {
			t.Errorf("Levels(%q): %q", c.s, got)
		}
		if got := impl.Join(c.want); got != c.s {
			t.Errorf("Join(%q): %q", c.want, got)
		}
	}
}

func TestManyLevels(t *testing.T) {
	s := strings.Repeat("ab/", 20000)
	l := impl.Levels(s)
	if len(l) != 20001 || l[0] != "ab" || l[19999] != "ab" || l[20000] != "" || impl.Join(l) != s {
		t.Error(len(l))
	}
}

// A list need not come of a text: none of these is Levels of anything.
func TestJoin(t *testing.T) {
	for _, c := range []struct {
		l    []string
		want string
	}{
		{nil, ""},
		{[]string{}, ""},
		{[]string{"/"}, "/"},
		{[]string{"a/b", "c"}, "a/b/c"},
		{[]string{"/", "/"}, "///"},
		{[]string{"", "/", ""}, "///"},
	} {
		if got := impl.Join(c.l); got != c.want {
			t.Errorf("Join(%q): %q", c.l, got)
		}
	}
	// what lies behind a list's length is not read
	l := []string{"a", "b", "c"}
	if got := impl.Join(l[:1]); got != "a" {
		t.Errorf("%q", got)
	}
	if got := impl.Join(l[:0]); got != "" {
		t.Errorf("%q", got)
	}
}

// What a text may be: told of, and so wanted; wanted alone; neither.
const (
	kindTopic = "topic"
	kindWild  = "wild"
	kindNone  = "nothing"
)

var textKinds = []struct {
	s, kind string
}{
	{"a", kindTopic},
	{"a/b", kindTopic},
	{"house/room/lamp", kindTopic},
	{" ", kindTopic},
	{"\x01\x7f", kindTopic},
	{"\u00e9/\u20ac", kindTopic},
	{"\uff0b/\uff03", kindTopic},
	{"\ufffd", kindTopic},

	{"/", kindTopic},
	{"//", kindTopic},
	{"/a", kindTopic},
	{"a/", kindTopic},
	{"a//b", kindTopic},
	{"/a//b/", kindTopic},
	{"", kindNone},

	{"a/b/c/d/e/f", kindTopic},
	{"a/b/c/d/e/f/g", kindNone},
	{"/////", kindTopic},
	{"//////", kindNone},
	{"a/b/c/d/e/", kindTopic},
	{"a/b/c/d/e/f/", kindNone},
	{"/b/c/d/e/f", kindTopic},
	{"/b/c/d/e/f/g", kindNone},
	{"+/+/+/+/+/+", kindWild},
	{"+/+/+/+/+/+/+", kindNone},
	{"a/b/c/d/e/#", kindWild},
	{"a/b/c/d/e/f/#", kindNone},

	{strings.Repeat("x", 60), kindTopic},
	{strings.Repeat("x", 61), kindNone},
	{strings.Repeat("\u20ac", 20), kindTopic},
	{strings.Repeat("\u20ac", 20) + "x", kindNone},
	{strings.Repeat("x", 58) + "/+", kindWild},
	{strings.Repeat("x", 59) + "/+", kindNone},
	{strings.Repeat("x", 58) + "/#", kindWild},
	{strings.Repeat("x", 59) + "/#", kindNone},
	{strings.Repeat("x", 57) + "/a/", kindTopic},
	{strings.Repeat("x", 57) + "/a//", kindNone},

	{"+", kindWild},
	{"/+", kindWild},
	{"+/", kindWild},
	{"/+/", kindWild},
	{"+/+", kindWild},
	{"a/+", kindWild},
	{"+/a", kindWild},
	{"a/+/b", kindWild},
	{"++", kindNone},
	{"a+", kindNone},
	{"+a", kindNone},
	{"a+b", kindNone},
	{"a/b+", kindNone},
	{"a/+b/c", kindNone},
	{"a+/b", kindNone},
	{"+/a+", kindNone},
	{"+ ", kindNone},
	{"\u20ac+", kindNone},
	{"+\u20ac/a", kindNone},

	{"#", kindWild},
	{"/#", kindWild},
	{"//#", kindWild},
	{"a/#", kindWild},
	{"a//#", kindWild},
	{"+/#", kindWild},
	{"a/+/#", kindWild},
	{"#/", kindNone},
	{"#/a", kindNone},
	{"a/#/b", kindNone},
	{"a/#/", kindNone},
	{"#/#", kindNone},
	{"#/+", kindNone},
	{"##", kindNone},
	{"a#", kindNone},
	{"#a", kindNone},
	{"a#b", kindNone},
	{"a/b#", kindNone},
	{"a/#b", kindNone},
	{"a#/b", kindNone},
	{"+#", kindNone},
	{"#+", kindNone},
	{"a/+#", kindNone},
	{"a/#+", kindNone},
	{"a#/#", kindNone},
	{"\u20ac#", kindNone},

	{"$", kindTopic},
	{"$s", kindTopic},
	{"$s/a", kindTopic},
	{"a/$", kindTopic},
	{"$/+", kindWild},
	{"$s/#", kindWild},
	{"$+", kindNone},
	{"$#", kindNone},

	{"\x00", kindNone},
	{"a\x00", kindNone},
	{"a/\x00/b", kindNone},
	{"+/\x00", kindNone},
	{"\x00/#", kindNone},
	{"\xff", kindNone},
	{"a/\xff", kindNone},
	{"+/\xff", kindNone},
	{"\xff/#", kindNone},
	{"\xe2\x82", kindNone},
	{"\xe2/\x82\xac", kindNone},
	{"\xc0\xaf", kindNone},
	{"\xed\xa0\x80", kindNone},
	{"\xf4\x90\x80\x80/+", kindNone},
}

func TestWhatTextsMayBe(t *testing.T) {
	for _, c := range textKinds {
		if got := impl.TopicOk(c.s); got != (c.kind == kindTopic) {
			t.Errorf("TopicOk(%q): %v", c.s, got)
		}
		if got := impl.FilterOk(c.s); got != (c.kind != kindNone) {
			t.Errorf("FilterOk(%q): %v", c.s, got)
		}
		if got := impl.Wild(c.s); got != (c.kind == kindWild) {
			t.Errorf("Wild(%q): %v", c.s, got)
		}
	}
}

// Hidden asks for the head alone: what stands behind it need be no topic.
func TestHidden(t *testing.T) {
	for s, want := range map[string]bool{
		"$": true, "$s": true, "$s/a": true, "$/": true, "$$": true, "$/+": true, "$/#": true, "$+": true, "$#/a": true,
		"$\xff": true, "$\x00": true, "$" + strings.Repeat("x", 60): true, "$/b/c/d/e/f/g": true,
		"": false, "a": false, "a$": false, "/$": false, "a/$s": false, " $": false, "+/$": false, "#": false,
		"\xff$": false, "\x00$": false, "\uff04s": false, "%": false, "#$": false,
	} {
		if got := impl.Hidden(s); got != want {
			t.Errorf("Hidden(%q): %v", s, got)
		}
	}
}

// kindOf goes through s byte by byte and keeps no levels, other than the program does.
func kindOf(s string) string {
	slashes, signs := 0, 0
	for i := range len(s) {
		headOfLevel := i == 0 || s[i-1] == '/'
		switch {
		case s[i] == '/':
			slashes++
		case s[i] == '+' || s[i] == '#':
			signs++
			if !headOfLevel || i+1 < len(s) && (s[i] == '#' || s[i+1] != '/') {
				return kindNone
			}
		}
	}
	if s == "" || len(s) > 60 || slashes > 5 || strings.Contains(s, "\x00") || strings.ToValidUTF8(s, "") != s {
		return kindNone
	}
	if signs > 0 {
		return kindWild
	}
	return kindTopic
}

// levelsOf cuts s at each `/`, from behind.
func levelsOf(s string) []string {
	var out []string
	for i := len(s) - 1; i >= 0; i-- {
		if s[i] == '/' {
			out = append(out, s[i+1:])
			s = s[:i]
		}
	}
	out = append(out, s)
	slices.Reverse(out)
	return out
}

// allTexts hands out every text of up to most of these signs.
func allTexts(signs []string, most int, each func(string)) {
	each("")
	if most == 0 {
		return
	}
	for _, x := range signs {
		allTexts(signs, most-1, func(s string) {
			each(x + s)
		})
	}
}

func checkTopicPromise(t *testing.T, s string) {
	t.Helper()
	l := impl.Levels(s)
	if !slices.Equal(l, levelsOf(s)) || len(l) != strings.Count(s, "/")+1 {
		t.Fatalf("Levels(%q): %q", s, l)
	}
	if got := impl.Join(l); got != s {
		t.Fatalf("Join(Levels(%q)): %q", s, got)
	}
	isTopic, isFilter, isWild := impl.TopicOk(s), impl.FilterOk(s), impl.Wild(s)
	if isTopic && (!isFilter || isWild) || isFilter && isTopic == isWild || isWild && !isFilter {
		t.Fatalf("%q: topic %v, filter %v, wild %v", s, isTopic, isFilter, isWild)
	}
	kind := kindOf(s)
	if isTopic != (kind == kindTopic) || isFilter != (kind != kindNone) || isWild != (kind == kindWild) {
		t.Fatalf("%q is %s: topic %v, filter %v, wild %v", s, kind, isTopic, isFilter, isWild)
	}
	if got := impl.Hidden(s); got != (len(s) > 0 && s[0] == '$') {
		t.Fatalf("Hidden(%q): %v", s, got)
	}
}

func TestTopicsOfAllSigns(t *testing.T) {
	for _, c := range textKinds {
		checkTopicPromise(t, c.s)
	}
	allTexts([]string{"a", "/", "+", "#", "$", "\x00", "\xe2", "\u20ac"}, 5, func(s string) {
		checkTopicPromise(t, s)
	})
	allTexts([]string{"/", "+", "#", "b"}, 8, func(s string) {
		checkTopicPromise(t, s)
	})
	// one sign beside the telling ones, whichever of all bytes it is
	for x := range 256 {
		one := string([]byte{byte(x)})
		for _, s := range []string{one, one + "+", "+" + one, one + "#", "#" + one, one + "/+", "+/" + one, one + "/#", "#/" + one, "a/" + one + "/b"} {
			checkTopicPromise(t, s)
		}
	}
}
