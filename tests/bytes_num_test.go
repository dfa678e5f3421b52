package tests

import (
	"encoding/binary"
	"math"
	"math/rand"
	"strings"
	"testing"

	"loop.example/g00658/impl"
)

// edgeNums lists both sides of every place at which an encoding grows by a byte or a bit, and the limits of int64.
func edgeNums() []int64 {
	nums := []int64{0, math.MaxInt64, math.MaxInt64 - 1, math.MinInt64, math.MinInt64 + 1}
	for bit := range 63 {
		p := int64(1) << bit
		nums = append(nums, p-1, p, p+1, -p-1, -p, -p+1)
	}
	return nums
}

func wantNum(t *testing.T, text string, at int64, want impl.NumOut) {
	t.Helper()
	if got := impl.GetNum(text, at); got != want {
		t.Errorf("GetNum(%q, %d) = %+v, want %+v", short(text), at, got, want)
	}
}

func short(text string) string {
	if len(text) > 40 {
		return text[:40] + ".."
	}
	return text
}

func TestPutNumBytes(t *testing.T) {
	ones := strings.Repeat("\xff", 9)
	for _, c := range []struct {
		n    int64
		want string
	}{
		{0, "\x00"},
		{-1, "\x01"},
		{1, "\x02"},
		{-2, "\x03"},
		{63, "\x7e"},
		{-64, "\x7f"},
		{64, "\x80\x01"},
		{-65, "\x81\x01"},
		{8191, "\xfe\x7f"},
		{-8192, "\xff\x7f"},
		{8192, "\x80\x80\x01"},
		{-8193, "\x81\x80\x01"},
		{math.MaxInt64, "\xfe" + ones[1:] + "\x01"},
		{math.MinInt64, ones + "\x01"},
	} {
		if got := impl.PutNum(c.n); got != c.want {
			t.Errorf("PutNum(%d) = % x, want % x", c.n, got, c.want)
		}
	}
}

func TestNumIsDecoded(t *testing.T) {
	for _, n := range edgeNums() {
		text := impl.PutNum(n)
		if want := string(binary.AppendVarint(nil, n)); text != want {
			t.Errorf("PutNum(%d) = % x, want % x", n, text, want)
		}
		wantNum(t, text, 0, impl.NumOut{N: n, At: int64(len(text))})
		wantNum(t, "\x80x"+text+"\x00\xff", 2, impl.NumOut{N: n, At: int64(len(text)) + 2})
	}
}

func TestNumsInARow(t *testing.T) {
	text := ""
	for _, n := range edgeNums() {
		text += impl.PutNum(n)
	}
	at := int64(0)
	for _, n := range edgeNums() {
		got := impl.GetNum(text, at)
		if got.N != n || got.Code != impl.OK || got.At <= at {
			t.Fatalf("GetNum at %d = %+v, want %d", at, got, n)
		}
		at = got.At
	}
	if at != int64(len(text)) {
		t.Errorf("the last number ends at %d of %d", at, len(text))
	}
}

func TestNumOffsets(t *testing.T) {
	for _, at := range []int64{-1, -2, math.MinInt64} {
		wantNum(t, "\x02", at, impl.NumOut{Code: impl.ErrForm})
		wantNum(t, "", at, impl.NumOut{Code: impl.ErrForm})
	}
	for _, at := range []int64{1, 2, 10, 8000, math.MaxInt64 - 9, math.MaxInt64} {
		wantNum(t, "\x02", at, impl.NumOut{Code: impl.ErrShort})
	}
	wantNum(t, "", 0, impl.NumOut{Code: impl.ErrShort})
}

func TestNumEndsTooEarly(t *testing.T) {
	for _, n := range edgeNums() {
		text := impl.PutNum(n)
		for size := range len(text) {
			wantNum(t, text[:size], 0, impl.NumOut{Code: impl.ErrShort})
			wantNum(t, "\x00"+text[:size], 1, impl.NumOut{Code: impl.ErrShort})
		}
	}
}

func TestNumTenthByte(t *testing.T) {
	for _, fill := range []string{"\x80", "\xff", "\xaa"} {
		nine := strings.Repeat(fill, 9)
		wantNum(t, nine, 0, impl.NumOut{Code: impl.ErrShort})
		for b := range 256 {
			text := nine + string([]byte{byte(b)})
			want := impl.NumOut{Code: impl.ErrSyntax}
			if b == 1 {
				want = impl.NumOut{N: zigzag(nine), At: 10}
			}
			wantNum(t, text, 0, want)
			wantNum(t, text+"\x01", 0, want)
		}
	}
}

// zigzag decodes nine bytes of seven bits and the top bit 1.
func zigzag(nine string) int64 {
	u := uint64(1) << 63
	for i := range 9 {
		u |= uint64(nine[i]&127) << (7 * i)
	}
	if u%2 == 1 {
		return -int64(u/2) - 1
	}
	return int64(u / 2)
}

func TestNumLongerThanNecessary(t *testing.T) {
	for size := 1; size <= 9; size++ {
		for _, fill := range []string{"\x80", "\x81", "\xff"} {
			text := strings.Repeat(fill, size) + "\x00"
			wantNum(t, text, 0, impl.NumOut{Code: impl.ErrSyntax})
			wantNum(t, "\x05"+text+"\x01", 1, impl.NumOut{Code: impl.ErrSyntax})
		}
	}
	wantNum(t, "\x00", 0, impl.NumOut{At: 1})
	wantNum(t, "\x00\x00", 1, impl.NumOut{At: 2})
}

func TestNumSizeLimit(t *testing.T) {
	most := strings.Repeat("\x04", impl.MaxBytes)
	wantNum(t, most, 0, impl.NumOut{N: 2, At: 1})
	wantNum(t, most, impl.MaxBytes-1, impl.NumOut{N: 2, At: impl.MaxBytes})
	wantNum(t, most, impl.MaxBytes, impl.NumOut{Code: impl.ErrShort})
	for _, at := range []int64{0, -1, impl.MaxBytes + 1, math.MinInt64, math.MaxInt64} {
		wantNum(t, most+"\x04", at, impl.NumOut{Code: impl.ErrSize})
	}
	wantNum(t, strings.Repeat("\x80", impl.MaxBytes+1), 0, impl.NumOut{Code: impl.ErrSize})
}

// plainNum decodes with the library, which accepts encodings that are longer than necessary.
func plainNum(text string) impl.NumOut {
	n, size := binary.Varint([]byte(text))
	// Of ten bytes that all announce another one, the library says that they end too early.
	if size == 0 && len(text) < 10 {
		return impl.NumOut{Code: impl.ErrShort}
	}
	if size <= 0 || size > 1 && text[size-1] == 0 {
		return impl.NumOut{Code: impl.ErrSyntax}
	}
	return impl.NumOut{N: n, At: int64(size)}
}

func TestNumOfAllShortStrings(t *testing.T) {
	for a := range 256 {
		one := string([]byte{byte(a)})
		wantNum(t, one, 0, plainNum(one))
		for b := range 256 {
			two := string([]byte{byte(a), byte(b)})
			wantNum(t, two, 0, plainNum(two))
		}
	}
}

func TestNumOfMixedStrings(t *testing.T) {
	source := rand.New(rand.NewSource(1))
	some := []byte{0, 1, 2, 127, 128, 129, 255, 128, 255, 254}
	for range 20000 {
		text := make([]byte, 12)
		for i := range text {
			text[i] = some[source.Intn(len(some))]
			if i < 8 && source.Intn(4) > 0 {
				text[i] |= 128
			}
		}
		wantNum(t, string(text), 0, plainNum(string(text)))
	}
}
