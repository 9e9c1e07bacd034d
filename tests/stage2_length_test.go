package tests

import (
	"math"
	"testing"

	"loop.example/g00480/impl"
)

func TestLengthConstants(t *testing.T) {
	if impl.MaxLen != 268435455 || impl.GoGood != 0 || impl.GoWait != 1 || impl.GoBad != 2 {
		t.Error(impl.MaxLen, impl.GoGood, impl.GoWait, impl.GoBad)
	}
}

// lengthEdges lists what a length of one, two, three and four bytes begins and ends with.
var lengthEdges = []struct {
	n    int
	want string
}{
	{0, "\x00"},
	{1, "\x01"},
	{127, "\x7f"},
	{128, "\x80\x01"},
	{129, "\x81\x01"},
	{255, "\xff\x01"},
	{256, "\x80\x02"},
	{321, "\xc1\x02"},
	{16383, "\xff\x7f"},
	{16384, "\x80\x80\x01"},
	{16385, "\x81\x80\x01"},
	{2097151, "\xff\xff\x7f"},
	{2097152, "\x80\x80\x80\x01"},
	{2097153, "\x81\x80\x80\x01"},
	{268435454, "\xfe\xff\xff\x7f"},
	{268435455, "\xff\xff\xff\x7f"},
}

func TestLengthEdges(t *testing.T) {
	for _, c := range lengthEdges {
		for _, ahead := range []string{"", "a", "\x80", "\x80\x80\x80\x80"} {
			b := impl.PutLen([]byte(ahead), c.n)
			if string(b) != ahead+c.want {
				t.Errorf("PutLen(%q, %d): %x", ahead, c.n, b)
			}
			wantLen(t, ahead+c.want, len(ahead), c.n, len(ahead)+len(c.want), impl.GoGood)
			wantLen(t, ahead+c.want+"\xff\x00", len(ahead), c.n, len(ahead)+len(c.want), impl.GoGood)
		}
		if got := impl.LenSize(c.n); got != len(c.want) {
			t.Errorf("LenSize(%d): %d", c.n, got)
		}
	}
}

func wantLen(t *testing.T, s string, at, n, next, code int) {
	t.Helper()
	gotN, gotNext, gotCode := impl.GetLen([]byte(s), at)
	if gotN != n || gotNext != next || gotCode != code {
		t.Errorf("GetLen(%x, %d): %d %d %d, not %d %d %d", s, at, gotN, gotNext, gotCode, n, next, code)
	}
}

func TestLengthsComeBack(t *testing.T) {
	for _, n := range someLengths() {
		b := impl.PutLen(nil, n)
		got, next, code := impl.GetLen(b, 0)
		if len(b) < 1 || len(b) > 4 || impl.LenSize(n) != len(b) || got != n || next != len(b) || code != impl.GoGood {
			t.Fatalf("%d: %x, size %d, back %d %d %d", n, b, impl.LenSize(n), got, next, code)
		}
	}
}

// someLengths takes every length of one and two bytes, and others up to MaxLen
// by an odd step, so that the lowest bits go through all they can be.
func someLengths() []int {
	var out []int
	for n := 0; n < 40000; n++ {
		out = append(out, n)
	}
	for n := 40000; n <= impl.MaxLen; n += 997 {
		out = append(out, n)
	}
	for n := impl.MaxLen - 1000; n <= impl.MaxLen; n++ {
		out = append(out, n)
	}
	return out
}

func TestNoLengths(t *testing.T) {
	for _, n := range []int{-1, -2, -127, -128, -129, -268435455, math.MinInt32, math.MinInt, math.MinInt + 1,
		268435456, 268435457, 1 << 29, 1 << 31, 1 << 32, 1<<32 + 5, 1 << 35, math.MaxInt - 1, math.MaxInt} {
		for _, ahead := range []string{"", "a", "\x80\x80"} {
			if b := impl.PutLen([]byte(ahead), n); string(b) != ahead {
				t.Errorf("PutLen(%q, %d): %x", ahead, n, b)
			}
		}
		if got := impl.LenSize(n); got != 0 {
			t.Errorf("LenSize(%d): %d", n, got)
		}
	}
}

func TestLengthsOneBehindTheOther(t *testing.T) {
	var b []byte
	for _, c := range lengthEdges {
		b = impl.PutLen(b, c.n)
	}
	at := 0
	for _, c := range lengthEdges {
		n, next, code := impl.GetLen(b, at)
		if n != c.n || next != at+len(c.want) || code != impl.GoGood {
			t.Fatalf("at %d: %d %d %d, not %d", at, n, next, code, c.n)
		}
		at = next
	}
	if at != len(b) {
		t.Errorf("%d of %d bytes read", at, len(b))
	}
}

// A place at the list's end is one where a length may still come; one behind it is none.
func TestLengthPlaces(t *testing.T) {
	for _, s := range []string{"", "\x01", "\x80", "\x80\x00", "\x81\x82\x83\x04", "\xff\xff\xff\xff\xff"} {
		wantLen(t, s, len(s), 0, 0, impl.GoWait)
		for _, at := range []int{-1, -2, -5, math.MinInt, len(s) + 1, len(s) + 2, len(s) + 4, math.MaxInt - 3, math.MaxInt} {
			wantLen(t, s, at, 0, 0, impl.GoBad)
		}
	}
	// what lies behind a list's length is not read
	b := []byte{0x80, 0x01, 0x05}
	if n, next, code := impl.GetLen(b[:1], 0); n != 0 || next != 0 || code != impl.GoWait {
		t.Error(n, next, code)
	}
	if n, next, code := impl.GetLen(b[:1], 2); n != 0 || next != 0 || code != impl.GoBad {
		t.Error(n, next, code)
	}
	if n, next, code := impl.GetLen(b[:2], 2); n != 0 || next != 0 || code != impl.GoWait {
		t.Error(n, next, code)
	}
}

func TestLengthsThatAreCut(t *testing.T) {
	for _, c := range lengthEdges {
		for end := range len(c.want) {
			wantLen(t, c.want[:end], 0, 0, 0, impl.GoWait)
			wantLen(t, "\x07"+c.want[:end], 1, 0, 0, impl.GoWait)
		}
	}
}

func TestLengthsThatAreWrong(t *testing.T) {
	for _, s := range []string{
		"\x80\x00", "\xff\x00", "\x80\x80\x00", "\xff\xff\x00", "\x80\x80\x80\x00", "\xff\xff\xff\x00", "\x81\x00\x01",
		"\x80\x80\x80\x80", "\xff\xff\xff\xff", "\x80\x80\x80\x80\x01", "\x80\x80\x80\x80\x00", "\xff\xff\xff\xff\x7f", "\xff\xff\xff\x80\x80\x80\x80\x80\x80\x01",
	} {
		wantLen(t, s, 0, 0, 0, impl.GoBad)
		wantLen(t, "\x80"+s, 1, 0, 0, impl.GoBad)
		wantLen(t, s+"\x01\x01", 0, 0, 0, impl.GoBad)
	}
}

// readLen asks for the last byte first and for the number then, other than the program does.
func readLen(b []byte, at int) (int, int, int) {
	if at < 0 || at > len(b) {
		return 0, 0, impl.GoBad
	}
	last := at
	for last < len(b) && last-at < 4 && b[last] >= 128 {
		last++
	}
	if last-at == 4 {
		return 0, 0, impl.GoBad
	}
	if last == len(b) {
		return 0, 0, impl.GoWait
	}
	if last > at && b[last] == 0 {
		return 0, 0, impl.GoBad
	}
	n := 0
	for i := last; i >= at; i-- {
		n = n*128 + int(b[i])%128
	}
	return n, last + 1, impl.GoGood
}

// Every list of bytes that tell something apart, up to six of them, at every place.
func TestLengthsOfAllBytes(t *testing.T) {
	signs := []byte{0, 1, 0x7f, 0x80, 0x81, 0xff}
	var b []byte
	var walk func()
	walk = func() {
		for at := -1; at <= len(b)+1; at++ {
			n, next, code := impl.GetLen(b, at)
			wantN, wantNext, wantCode := readLen(b, at)
			if n != wantN || next != wantNext || code != wantCode {
				t.Fatalf("GetLen(%x, %d): %d %d %d, not %d %d %d", b, at, n, next, code, wantN, wantNext, wantCode)
			}
			if code == impl.GoGood && string(impl.PutLen(nil, n)) != string(b[at:next]) {
				t.Fatalf("%x at %d is read, but %d is put otherwise", b, at, n)
			}
		}
		if len(b) == 6 {
			return
		}
		for _, x := range signs {
			b = append(b, x)
			walk()
			b = b[:len(b)-1]
		}
	}
	walk()
}

func TestEveryPairOfBytes(t *testing.T) {
	for x := range 1 << 16 {
		b := []byte{byte(x >> 8), byte(x)}
		n, next, code := impl.GetLen(b, 0)
		wantN, wantNext, wantCode := readLen(b, 0)
		if n != wantN || next != wantNext || code != wantCode {
			t.Fatalf("GetLen(%x, 0): %d %d %d, not %d %d %d", b, n, next, code, wantN, wantNext, wantCode)
		}
	}
}

func TestLengthsLeaveArgumentsAlone(t *testing.T) {
	numbers := []int{-1, impl.MaxLen + 1, 0, 127, 128, 16384, 2097152, impl.MaxLen}
	for _, s := range []string{"", "a", "\x80", "\xff\xff\xff\x7f", "\x80\x00"} {
		for _, n := range numbers {
			b := withRoom(s)
			got := impl.PutLen(b, n)
			if !untouched(b, s) {
				t.Fatalf("PutLen(%q, %d) writes into its argument", s, n)
			}
			overwrite(got)
			if !untouched(b, s) {
				t.Fatalf("PutLen(%q, %d) shares memory with its argument", s, n)
			}
		}
		for at := -1; at <= len(s)+1; at++ {
			b := withRoom(s)
			if impl.GetLen(b, at); !untouched(b, s) {
				t.Fatalf("GetLen(%q, %d) writes into its argument", s, at)
			}
		}
	}
}

// Two answers to the same call are told apart: neither is kept for the other.
func TestLengthsShareNothing(t *testing.T) {
	for _, n := range []int{-1, 0, 300, impl.MaxLen} {
		for _, ahead := range []string{"", "ab"} {
			first, second := impl.PutLen([]byte(ahead), n), impl.PutLen([]byte(ahead), n)
			was := string(second)
			overwrite(first)
			if string(second) != was || string(impl.PutLen([]byte(ahead), n)) != was {
				t.Fatalf("answers of PutLen(%q, %d) share memory", ahead, n)
			}
		}
	}
}
