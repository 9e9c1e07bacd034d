package impl

import (
	"strings"
	"unicode/utf8"
)

const MaxText = 60

// begins tells a sign from broken bytes: a range answers utf8.RuneError for
// both the sign 65533 and for what is no sign, so the bytes are held against it.
func begins(s string, r rune) bool {
	return strings.HasPrefix(s, string(r))
}

// firstRune answers the sign that s begins with.
func firstRune(s string) (rune, bool) {
	for _, r := range s {
		return r, begins(s, r)
	}
	return 0, false
}

func RuneAt(b []byte, at int) (int, int, bool) {
	if at < 0 || at >= len(b) {
		return 0, 0, false
	}
	end := min(at+utf8.UTFMax, len(b))
	r, ok := firstRune(string(b[at:end]))
	if !ok {
		return 0, 0, false
	}
	return int(r), at + utf8.RuneLen(r), true
}

func TextOk(s string) bool {
	if len(s) > MaxText {
		return false
	}
	for at, r := range s {
		if r == 0 || !begins(s[at:], r) {
			return false
		}
	}
	return true
}

func CountRunes(s string) int {
	if !TextOk(s) {
		return -1
	}
	n := 0
	for range s {
		n++
	}
	return n
}

// copyWithRoom copies b even where nothing is put behind it, as no answer may
// share memory with an argument.
func copyWithRoom(b []byte, more int) []byte {
	return append(make([]byte, 0, len(b)+more), b...)
}

func PutWord(b []byte, n int) []byte {
	return append(copyWithRoom(b, 2), byte(n>>8), byte(n))
}

func GetWord(b []byte, at int) (int, int, bool) {
	// len(b)-2 rather than at+2: a place near the greatest int would wrap round.
	if at < 0 || at > len(b)-2 {
		return 0, 0, false
	}
	return int(b[at])<<8 | int(b[at+1]), at + 2, true
}

func PutText(b []byte, s string) []byte {
	if !TextOk(s) {
		return copyWithRoom(b, 0)
	}
	return append(PutWord(b, len(s)), s...)
}

// span answers where the bytes that a word counts begin and end.
func span(b []byte, at int) (int, int, bool) {
	n, from, ok := GetWord(b, at)
	if !ok || n > MaxText || n > len(b)-from {
		return 0, 0, false
	}
	return from, from + n, true
}

func GetText(b []byte, at int) (string, int, bool) {
	from, end, ok := span(b, at)
	if !ok {
		return "", 0, false
	}
	s := string(b[from:end])
	if !TextOk(s) {
		return "", 0, false
	}
	return s, end, true
}

func PutBytes(b []byte, x []byte) []byte {
	if len(x) > MaxText {
		return copyWithRoom(b, 0)
	}
	return append(PutWord(b, len(x)), x...)
}

func GetBytes(b []byte, at int) ([]byte, int, bool) {
	from, end, ok := span(b, at)
	if !ok {
		return nil, 0, false
	}
	return copyWithRoom(b[from:end], 0), end, true
}
