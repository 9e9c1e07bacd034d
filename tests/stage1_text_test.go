package tests

import (
	"math"
	"strings"
	"testing"

	"loop.example/g00480/impl"
)

// badPlaces lists places at which nothing can be read, however b is made.
func badPlaces(b []byte) []int {
	return []int{math.MinInt, math.MinInt + 1, -2, -1, len(b), len(b) + 1, math.MaxInt - 1, math.MaxInt}
}

// encode writes n with the given count of bytes, shortest or not.
func encode(n int, size int) []byte {
	if size == 1 {
		return []byte{byte(n)}
	}
	b := make([]byte, size)
	for i := size - 1; i > 0; i-- {
		b[i] = 0x80 | byte(n&0x3f)
		n >>= 6
	}
	b[0] = []byte{0, 0, 0xc0, 0xe0, 0xf0}[size] | byte(n)
	return b
}

func shortest(n int) int {
	switch {
	case n < 0x80:
		return 1
	case n < 0x800:
		return 2
	case n < 0x10000:
		return 3
	}
	return 4
}

func isSign(n int) bool {
	return n >= 0 && n <= 1114111 && (n < 55296 || n > 57343)
}

// bitsOf reads what a sign's bytes would tell, shortest form or not.
func bitsOf(b []byte) (int, int, bool) {
	if len(b) == 0 {
		return 0, 0, false
	}
	n, size := int(b[0]), 1
	switch {
	case n < 0x80:
	case n >= 0xc0 && n < 0xe0:
		n, size = n&0x1f, 2
	case n >= 0xe0 && n < 0xf0:
		n, size = n&0x0f, 3
	case n >= 0xf0 && n < 0xf8:
		n, size = n&0x07, 4
	default:
		return 0, 0, false
	}
	if len(b) < size {
		return 0, 0, false
	}
	for _, c := range b[1:size] {
		if c&0xc0 != 0x80 {
			return 0, 0, false
		}
		n = n<<6 | int(c&0x3f)
	}
	return n, size, true
}

func wantRune(b []byte, at int) (int, int, bool) {
	if at < 0 || at > len(b) {
		return 0, 0, false
	}
	n, size, ok := bitsOf(b[at:])
	if !ok || !isSign(n) || size != shortest(n) {
		return 0, 0, false
	}
	return n, at + size, true
}

func checkRune(t *testing.T, b []byte, at int) {
	t.Helper()
	n, next, ok := impl.RuneAt(b, at)
	wn, wnext, wok := wantRune(b, at)
	if n != wn || next != wnext || ok != wok {
		t.Fatalf("RuneAt(%x, %d) = %d, %d, %v; want %d, %d, %v", b, at, n, next, ok, wn, wnext, wok)
	}
}

func TestRuneAtEverySign(t *testing.T) {
	for n := 0; n <= 1114111; n++ {
		b := append([]byte{0xff}, encode(n, shortest(n))...)
		got, next, ok := impl.RuneAt(b, 1)
		if isSign(n) && (!ok || got != n || next != len(b)) {
			t.Fatalf("sign %d: %d, %d, %v", n, got, next, ok)
		}
		if !isSign(n) && (ok || got != 0 || next != 0) {
			t.Fatalf("no sign %d: %d, %d, %v", n, got, next, ok)
		}
	}
}

func TestRuneAtPastTheLastSign(t *testing.T) {
	for n := 1114112; n < 1<<21; n++ {
		if got, next, ok := impl.RuneAt(encode(n, 4), 0); ok || got != 0 || next != 0 {
			t.Fatalf("%d: %d, %d, %v", n, got, next, ok)
		}
	}
}

func TestRuneAtLongerThanNeedBe(t *testing.T) {
	for n := 0; n < 0x10000; n++ {
		for size := shortest(n) + 1; size <= 4; size++ {
			if got, next, ok := impl.RuneAt(encode(n, size), 0); ok || got != 0 || next != 0 {
				t.Fatalf("%d in %d bytes: %d, %d, %v", n, size, got, next, ok)
			}
		}
	}
}

func TestRuneAtAnyBytes(t *testing.T) {
	edges := []byte{0x00, 0x41, 0x7f, 0x80, 0x8f, 0x90, 0x9f, 0xa0, 0xbd, 0xbf, 0xc0, 0xff}
	for first := 0; first < 256; first++ {
		for _, x := range edges {
			for _, y := range edges {
				for _, z := range edges {
					b := []byte{byte(first), x, y, z, 0x80}
					for end := 0; end <= len(b); end++ {
						checkRune(t, b[:end:end], 0)
						checkRune(t, b[:end], 0) // what lies behind the length is not read
					}
				}
			}
		}
	}
}

func TestRuneAtPlaces(t *testing.T) {
	b := []byte("a\u00e9\u20ac\U0001f600\ufffd\x00z")
	for at := range b {
		checkRune(t, b, at)
	}
	for _, at := range badPlaces(b) {
		checkRune(t, b, at)
	}
	for _, at := range badPlaces(nil) {
		checkRune(t, nil, at)
	}
}

func TestTextOkAndCountRunes(t *testing.T) {
	for _, x := range []struct {
		s    string
		want int
	}{
		{"", 0}, {"hello", 5}, {"a\u20acb", 3}, {"\ufffd", 1}, {"\ufffd\ufffdx", 3}, {"\x01\x7f", 2},
		{"\ud7ff\ue000\U0010ffff", 3}, {"\u0080\u07ff\u0800\uffff\U00010000", 5},
		{strings.Repeat("x", 60), 60}, {strings.Repeat("\u00e9", 30), 30}, {strings.Repeat("\u20ac", 20), 20}, {strings.Repeat("\U0001f600", 15), 15},
		{strings.Repeat("x", 61), -1}, {strings.Repeat("\u20ac", 20) + "x", -1}, {strings.Repeat("\U0001f600", 16), -1}, {strings.Repeat("x", 100000), -1},
		{"\x00", -1}, {"ab\x00", -1}, {"\x00ab", -1}, {"\xc0\x80", -1}, {"a\xc1\xbf", -1}, {"\xe0\x9f\xbf", -1}, {"\xf0\x8f\xbf\xbf", -1},
		{"\xed\xa0\x80", -1}, {"\xed\xbf\xbf", -1}, {"\xf4\x90\x80\x80", -1}, {"\xf8\x88\x80\x80\x80", -1}, {"\xff", -1}, {"\x80", -1},
		{"a\xe2\x82", -1}, {"\xe2\x82a", -1}, {"\ufffd\xef\xbf", -1}, {"\xff\ufffd", -1}, {"\ufffd\xff", -1},
	} {
		if n := impl.CountRunes(x.s); n != x.want {
			t.Errorf("CountRunes(%q) = %d, want %d", x.s, n, x.want)
		}
		if ok := impl.TextOk(x.s); ok != (x.want >= 0) {
			t.Errorf("TextOk(%q) = %v", x.s, ok)
		}
	}
}

func TestWordsComeBack(t *testing.T) {
	for n := 0; n < 65536; n++ {
		b := impl.PutWord([]byte{7}, n)
		if len(b) != 3 || b[0] != 7 || int(b[1])*256+int(b[2]) != n {
			t.Fatalf("PutWord of %d: %x", n, b)
		}
		if got, next, ok := impl.GetWord(append(b, 9), 1); !ok || got != n || next != 3 {
			t.Fatalf("GetWord of %d: %d, %d, %v", n, got, next, ok)
		}
	}
}

func TestPutWordLowestBits(t *testing.T) {
	for _, x := range []struct {
		n    int
		want string
	}{
		{-1, "\xff\xff"}, {-2, "\xff\xfe"}, {-256, "\xff\x00"}, {-65535, "\x00\x01"}, {-65536, "\x00\x00"}, {-65537, "\xff\xff"},
		{65536, "\x00\x00"}, {65537, "\x00\x01"}, {65536 + 258, "\x01\x02"}, {1<<40 + 0x1234, "\x12\x34"}, {math.MaxInt, "\xff\xff"}, {math.MinInt, "\x00\x00"}, {math.MinInt + 513, "\x02\x01"},
	} {
		if b := impl.PutWord(nil, x.n); string(b) != x.want {
			t.Errorf("PutWord(nil, %d) = %x, want %x", x.n, b, x.want)
		}
	}
}

func TestGetWordRefuses(t *testing.T) {
	whole := []byte{1, 2, 3, 4}
	for end := 0; end <= len(whole); end++ {
		b := whole[:end]
		for _, at := range append(badPlaces(b), len(b)-1) {
			if n, next, ok := impl.GetWord(b, at); ok || n != 0 || next != 0 {
				t.Errorf("GetWord(%x, %d) = %d, %d, %v", b, at, n, next, ok)
			}
		}
	}
}

func TestTextsComeBack(t *testing.T) {
	texts := []string{"", "a", "hi", "a\u20acb", "\ufffd", "\U0010ffff", strings.Repeat("x", 60), strings.Repeat("\u20ac", 20)}
	for _, s := range texts {
		for _, ahead := range []string{"", "\x00", "\xff\x00\x07"} {
			b := impl.PutText([]byte(ahead), s)
			if string(b) != ahead+"\x00"+string([]byte{byte(len(s))})+s {
				t.Errorf("PutText(%q, %q) = %q", ahead, s, b)
			}
			for _, behind := range []string{"", "\x00", "more"} {
				got, next, ok := impl.GetText(append([]byte(string(b)), behind...), len(ahead))
				if !ok || got != s || next != len(b) {
					t.Errorf("GetText of %q behind %q: %q, %d, %v", s, ahead, got, next, ok)
				}
			}
		}
	}
}

func TestPutTextRefuses(t *testing.T) {
	for _, s := range []string{"\x00", "a\x00b", "\xff", "\xc0\x80", "\xed\xa0\x80", "\xf4\x90\x80\x80", "\xe2\x82", strings.Repeat("x", 61)} {
		for _, b := range []string{"", "ab"} {
			if got := impl.PutText([]byte(b), s); string(got) != b {
				t.Errorf("PutText(%q, %q) = %q", b, s, got)
			}
		}
	}
}

func TestGetTextRefuses(t *testing.T) {
	refused := func(b []byte, at int) {
		t.Helper()
		if s, next, ok := impl.GetText(b, at); ok || s != "" || next != 0 {
			t.Errorf("GetText(%q, %d) = %q, %d, %v", b, at, s, next, ok)
		}
	}
	for _, s := range []string{
		"\x00\x02\x00i", "\x00\x01\xff", "\x00\x02\xc0\x80", "\x00\x03\xed\xa0\x80", "\x00\x04\xf4\x90\x80\x80", "\x00\x02\xe2\x82\xac",
		"\x00\x3d" + strings.Repeat("x", 61), "\x01\x00" + strings.Repeat("x", 256), "\x01\x01" + strings.Repeat("x", 257), "\xff\xff" + strings.Repeat("x", 65535),
	} {
		refused([]byte(s), 0)
	}
	whole := []byte("\x00\x03abc")
	for end := 0; end < len(whole); end++ {
		refused(whole[:end:end], 0)
		refused(whole[:end], 0)
	}
	for _, at := range append(badPlaces(whole), len(whole)-1) {
		refused(whole, at)
	}
}

func TestBytesComeBack(t *testing.T) {
	for n := 0; n <= 60; n++ {
		x := make([]byte, n)
		for i := range x {
			x[i] = byte(255 - i*37)
		}
		b := impl.PutBytes([]byte{5, 6}, x)
		if string(b) != "\x05\x06\x00"+string([]byte{byte(n)})+string(x) {
			t.Errorf("PutBytes of %d: %x", n, b)
		}
		if got, next, ok := impl.GetBytes(append(b, 0xaa), 2); !ok || string(got) != string(x) || next != len(b) {
			t.Errorf("GetBytes of %d: %x, %d, %v", n, got, next, ok)
		}
	}
}

func TestPutBytesRefuses(t *testing.T) {
	for _, n := range []int{61, 62, 255, 256, 65536, 65537} {
		if b := impl.PutBytes([]byte("ab"), make([]byte, n)); string(b) != "ab" {
			t.Errorf("%d bytes: %x", n, b)
		}
	}
}

func TestGetBytesRefuses(t *testing.T) {
	refused := func(b []byte, at int) {
		t.Helper()
		if x, next, ok := impl.GetBytes(b, at); ok || len(x) != 0 || next != 0 {
			t.Errorf("GetBytes(%x, %d) = %x, %d, %v", b, at, x, next, ok)
		}
	}
	for _, n := range []int{61, 255, 256, 316, 65535} {
		refused(append([]byte{byte(n >> 8), byte(n)}, make([]byte, n)...), 0)
	}
	whole := []byte{0, 3, 1, 2, 3}
	for end := 0; end < len(whole); end++ {
		refused(whole[:end:end], 0)
		refused(whole[:end], 0)
	}
	for _, at := range append(badPlaces(whole), len(whole)-1) {
		refused(whole, at)
	}
}
