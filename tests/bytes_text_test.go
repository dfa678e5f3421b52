package tests

import (
	"math"
	"strings"
	"testing"

	"loop.example/g00658/impl"
)

// textOf returns a string of a size that contains all byte values and does not repeat at a power of two.
func textOf(size int) string {
	b := make([]byte, size)
	for i := range b {
		b[i] = byte(i*7 + i/251)
	}
	return string(b)
}

func wantText(t *testing.T, text string, at int64, want impl.TextOut) {
	t.Helper()
	if got := impl.GetText(text, at); got != want {
		t.Errorf("GetText(%q, %d): code %d, at %d, %d bytes, want code %d, at %d, %d bytes", short(text), at,
			got.Code, got.At, len(got.Text), want.Code, want.At, len(want.Text))
	}
}

func TestPutTextBytes(t *testing.T) {
	for _, c := range []struct{ text, want string }{
		{"", "\x00"},
		{"a", "\x02a"},
		{"ab", "\x04ab"},
		{"\x00\xff\x80", "\x06\x00\xff\x80"},
		{textOf(63), "\x7e" + textOf(63)},
		{textOf(64), "\x80\x01" + textOf(64)},
		{textOf(impl.MaxBytes), "\x80\x7d" + textOf(impl.MaxBytes)},
		{textOf(impl.MaxBytes + 1), ""},
		{textOf(20000), ""},
	} {
		if got := impl.PutText(c.text); got != c.want {
			t.Errorf("PutText of %d bytes: %q, want %q", len(c.text), short(got), short(c.want))
		}
	}
}

func TestTextIsDecoded(t *testing.T) {
	for _, size := range []int{0, 1, 2, 63, 64, 127, 128, 255, 256, 4000, impl.MaxBytes - 3, impl.MaxBytes - 2} {
		want := textOf(size)
		text := impl.PutText(want)
		wantText(t, text, 0, impl.TextOut{Text: want, At: int64(len(text))})
		if len(text)+5 <= impl.MaxBytes {
			wantText(t, "\x80\xff"+text+"\x02x?", 2, impl.TextOut{Text: want, At: int64(len(text)) + 2})
		}
	}
	wantText(t, "x\x04ab", 1, impl.TextOut{Text: "ab", At: 4})
	wantText(t, "\x02é", 0, impl.TextOut{Text: "\xc3", At: 2})
}

func TestTextsInARow(t *testing.T) {
	list := []string{"", "a", "", textOf(300), "\x02\x02", textOf(64)}
	text := ""
	for _, s := range list {
		text += impl.PutText(s)
	}
	at := int64(0)
	for _, s := range list {
		got := impl.GetText(text, at)
		if got.Text != s || got.Code != impl.OK {
			t.Fatalf("GetText at %d: code %d, %d bytes, want %d bytes", at, got.Code, len(got.Text), len(s))
		}
		at = got.At
	}
	if at != int64(len(text)) {
		t.Errorf("the last text ends at %d of %d", at, len(text))
	}
}

func TestTextEndsTooEarly(t *testing.T) {
	for _, size := range []int{1, 2, 63, 64, 100, 300} {
		text := impl.PutText(textOf(size))
		for cut := range len(text) {
			wantText(t, text[:cut], 0, impl.TextOut{Code: impl.ErrShort})
		}
	}
	wantText(t, impl.PutNum(impl.MaxBytes)+textOf(impl.MaxBytes-2), 0, impl.TextOut{Code: impl.ErrShort})
}

func TestTextLength(t *testing.T) {
	for _, n := range []int64{-1, -2, impl.MaxBytes + 1, impl.MaxBytes + 2, 1 << 32, math.MaxInt64, math.MinInt64} {
		wantText(t, impl.PutNum(n), 0, impl.TextOut{Code: impl.ErrSyntax})
		wantText(t, "?"+impl.PutNum(n)+"abc", 1, impl.TextOut{Code: impl.ErrSyntax})
	}
	for _, n := range []int64{1, 4, impl.MaxBytes - 1, impl.MaxBytes} {
		wantText(t, impl.PutNum(n), 0, impl.TextOut{Code: impl.ErrShort})
	}
	wantText(t, impl.PutNum(0), 0, impl.TextOut{At: 1})
}

func TestTextErrorsOfItsLength(t *testing.T) {
	for _, at := range []int64{-1, math.MinInt64} {
		wantText(t, "\x02a", at, impl.TextOut{Code: impl.ErrForm})
	}
	for _, at := range []int64{2, 3, math.MaxInt64} {
		wantText(t, "\x02a", at, impl.TextOut{Code: impl.ErrShort})
	}
	wantText(t, "", 0, impl.TextOut{Code: impl.ErrShort})
	wantText(t, "\x82", 0, impl.TextOut{Code: impl.ErrShort})
	wantText(t, "\x82\x00a", 0, impl.TextOut{Code: impl.ErrSyntax})
	wantText(t, strings.Repeat("\x80", 9)+"\x02", 0, impl.TextOut{Code: impl.ErrSyntax})
}

func TestTextSizeLimit(t *testing.T) {
	most := impl.PutText("ab") + textOf(impl.MaxBytes-3)
	wantText(t, most, 0, impl.TextOut{Text: "ab", At: 3})
	for _, at := range []int64{0, -1, math.MaxInt64} {
		wantText(t, most+"x", at, impl.TextOut{Code: impl.ErrSize})
	}
	wantText(t, impl.PutText(textOf(impl.MaxBytes)), 0, impl.TextOut{Code: impl.ErrSize})
}

func TestNameRight(t *testing.T) {
	long := "abcdefghij0123456789"
	for _, name := range []string{"a", "z", "a_9", "a0", "z_", "a__", "m", long, "z9_" + long[:17]} {
		if !impl.NameRight(name) {
			t.Errorf("NameRight(%q) = false", name)
		}
	}
	for _, text := range []string{"", "_", "_a", "0", "9a", "A", "aB", "a b", "a-", "a\n", "\x00", "é", "aé", "a\xff",
		"`", "{", "a`", "a{", "a/", "a:", "a^", long + "a", long[:19] + "A", "A" + long[:19], textOf(impl.MaxBytes + 1),
		strings.Repeat("a", impl.MaxBytes), strings.Repeat("a", impl.MaxBytes+1)} {
		if impl.NameRight(text) {
			t.Errorf("NameRight(%q) = true", short(text))
		}
	}
}

func TestNameRightForEveryByte(t *testing.T) {
	for b := range 256 {
		first := b >= 'a' && b <= 'z'
		later := first || b >= '0' && b <= '9' || b == '_'
		one := string([]byte{byte(b)})
		if got := impl.NameRight(one); got != first {
			t.Errorf("NameRight(%q) = %v", one, got)
		}
		for _, text := range []string{"a" + one, "a" + one + "b"} {
			if got := impl.NameRight(text); got != later {
				t.Errorf("NameRight(%q) = %v", text, got)
			}
		}
	}
}
