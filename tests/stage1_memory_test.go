package tests

import (
	"strings"
	"testing"

	"loop.example/g00480/impl"
)

const spareRoom = 80

// withRoom lays s ahead of spare room, so that what is written there shows.
func withRoom(s string) []byte {
	b := make([]byte, len(s), len(s)+spareRoom)
	copy(b, s)
	for i := len(s); i < cap(b); i++ {
		b[:cap(b)][i] = 0xa5
	}
	return b
}

func untouched(b []byte, s string) bool {
	return string(b) == s && string(b[len(b):cap(b)]) == strings.Repeat("\xa5", cap(b)-len(b))
}

// overwrite turns every byte that a list holds or has room for.
func overwrite(b []byte) {
	b = b[:cap(b)]
	for i := range b {
		b[i] ^= 0xff
	}
}

var memoryTexts = []string{"", "a", "\x00\x02hi", "\x00\x02hi and more", "\xff\xff\xff", "\xe2\x82\xac"}

// puts lists the ways to put something behind b, those that are refused among them.
func puts(x []byte) map[string]func([]byte) []byte {
	return map[string]func([]byte) []byte{
		"PutWord":          func(b []byte) []byte { return impl.PutWord(b, 258) },
		"PutText":          func(b []byte) []byte { return impl.PutText(b, "text") },
		"PutText, empty":   func(b []byte) []byte { return impl.PutText(b, "") },
		"PutText, wrong":   func(b []byte) []byte { return impl.PutText(b, "\x00") },
		"PutBytes":         func(b []byte) []byte { return impl.PutBytes(b, x) },
		"PutBytes, none":   func(b []byte) []byte { return impl.PutBytes(b, nil) },
		"PutBytes, refuse": func(b []byte) []byte { return impl.PutBytes(b, make([]byte, 61)) },
	}
}

func TestPutsLeaveArgumentsAlone(t *testing.T) {
	x := withRoom("xyz")
	for name, put := range puts(x) {
		for _, s := range memoryTexts {
			b := withRoom(s)
			got := put(b)
			if !untouched(b, s) || !untouched(x, "xyz") {
				t.Fatalf("%s behind %q writes into an argument", name, s)
			}
			overwrite(got)
			if !untouched(b, s) || !untouched(x, "xyz") {
				t.Fatalf("%s behind %q shares memory with an argument", name, s)
			}
		}
	}
}

func TestPutBytesOfItself(t *testing.T) {
	b := withRoom("abcdef")
	if got := impl.PutBytes(b[:2], b[1:4]); string(got) != "ab\x00\x03bcd" || !untouched(b, "abcdef") {
		t.Errorf("%q", got)
	}
	if got := impl.PutBytes(b, b); string(got) != "abcdef\x00\x06abcdef" || !untouched(b, "abcdef") {
		t.Errorf("%q", got)
	}
}

func TestGetsLeaveArgumentsAlone(t *testing.T) {
	for _, s := range memoryTexts {
		b := withRoom(s)
		for at := -1; at <= len(s)+1; at++ {
			impl.RuneAt(b, at)
			impl.GetWord(b, at)
			text, _, _ := impl.GetText(b, at)
			x, _, _ := impl.GetBytes(b, at)
			if !untouched(b, s) {
				t.Fatalf("a call at %d of %q writes into its argument", at, s)
			}
			wasText, wasBytes := strings.Clone(text), string(x)
			overwrite(b)
			if text != wasText || string(x) != wasBytes {
				t.Fatalf("an answer at %d of %q shares memory with its argument", at, s)
			}
			overwrite(b)
			overwrite(x)
			if !untouched(b, s) {
				t.Fatalf("the bytes at %d of %q share memory with the argument", at, s)
			}
		}
	}
}
