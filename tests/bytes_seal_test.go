package tests

import (
	"hash/crc32"
	"math"
	"testing"

	"loop.example/g00658/impl"
)

func wantUnseal(t *testing.T, text string, want impl.TextOut) {
	t.Helper()
	if got := impl.Unseal(text); got != want {
		t.Errorf("Unseal(%q): code %d, at %d, %d bytes, want code %d, at %d, %d bytes", short(text),
			got.Code, got.At, len(got.Text), want.Code, want.At, len(want.Text))
	}
}

func plainCrc(text string) int64 {
	return int64(crc32.ChecksumIEEE([]byte(text)))
}

// plainSeal has no limit, unlike Seal.
func plainSeal(text string) string {
	crc := plainCrc(text)
	return text + string([]byte{byte(crc), byte(crc >> 8), byte(crc >> 16), byte(crc >> 24)})
}

func TestCrc(t *testing.T) {
	for text, want := range map[string]int64{"": 0, "123456789": 3421780262, "a": 0xE8B7BE43, "\x00": 0xD202EF8D} {
		if got := impl.Crc(text); got != want {
			t.Errorf("Crc(%q) = %d, want %d", text, got, want)
		}
	}
	for b := range 256 {
		one := string([]byte{byte(b)})
		if got := impl.Crc(one); got != plainCrc(one) {
			t.Errorf("Crc(%q) = %d, want %d", one, got, plainCrc(one))
		}
	}
	for _, size := range []int{2, 3, 100, 4096, impl.MaxBytes - 1, impl.MaxBytes} {
		if got, want := impl.Crc(textOf(size)), plainCrc(textOf(size)); got != want {
			t.Errorf("Crc of %d bytes = %d, want %d", size, got, want)
		}
	}
}

func TestCrcSizeLimit(t *testing.T) {
	over := textOf(impl.MaxBytes + 1)
	if got := impl.Crc(over); got != 0 {
		t.Errorf("Crc of MaxBytes and one = %d", got)
	}
	for _, crc := range []int64{0, 1, math.MaxUint32, -1} {
		if got := impl.CrcMore(crc, over); got != 0 {
			t.Errorf("CrcMore(%d) of MaxBytes and one = %d", crc, got)
		}
	}
}

func TestCrcIsContinued(t *testing.T) {
	text := textOf(300)
	for cut := range len(text) + 1 {
		if got := impl.CrcMore(impl.Crc(text[:cut]), text[cut:]); got != impl.Crc(text) {
			t.Errorf("continued at %d: %d, want %d", cut, got, impl.Crc(text))
		}
	}
	three := impl.CrcMore(impl.CrcMore(impl.Crc("123"), "45"), "6789")
	if three != 3421780262 {
		t.Errorf("continued twice: %d", three)
	}
	most := textOf(impl.MaxBytes)
	if got, want := impl.CrcMore(impl.Crc(most), most), plainCrc(most+most); got != want {
		t.Errorf("continued over twice MaxBytes: %d, want %d", got, want)
	}
}

func TestCrcMoreRange(t *testing.T) {
	for _, crc := range []int64{-1, math.MinInt64, math.MaxUint32 + 1, math.MaxInt64, 1 << 33} {
		for _, text := range []string{"", "abc"} {
			if got := impl.CrcMore(crc, text); got != 0 {
				t.Errorf("CrcMore(%d, %q) = %d", crc, text, got)
			}
		}
	}
	for _, crc := range []int64{0, 1, 3421780262, math.MaxUint32 - 1, math.MaxUint32} {
		if got := impl.CrcMore(crc, ""); got != crc {
			t.Errorf("CrcMore(%d, \"\") = %d", crc, got)
		}
		want := int64(crc32.Update(uint32(crc), crc32.IEEETable, []byte("abc")))
		if got := impl.CrcMore(crc, "abc"); got != want {
			t.Errorf("CrcMore(%d, \"abc\") = %d, want %d", crc, got, want)
		}
	}
}

func TestSealIsRecovered(t *testing.T) {
	for _, size := range []int{0, 1, 3, 4, 5, 100, 256, impl.MaxBytes - 5, impl.MaxBytes - 4} {
		text := textOf(size)
		sealed := impl.Seal(text)
		if sealed != plainSeal(text) {
			t.Errorf("Seal of %d bytes: %q", size, short(sealed))
		}
		wantUnseal(t, sealed, impl.TextOut{Text: text})
	}
	if got := impl.Seal("123456789"); got != "123456789\x26\x39\xf4\xcb" {
		t.Errorf("Seal = %q", got)
	}
	if got := impl.Seal(""); got != "\x00\x00\x00\x00" {
		t.Errorf("Seal of nothing = %q", got)
	}
	twice := impl.Seal(impl.Seal("ab"))
	wantUnseal(t, twice, impl.TextOut{Text: impl.Seal("ab")})
}

func TestSealSizeLimit(t *testing.T) {
	for _, size := range []int{impl.MaxBytes - 3, impl.MaxBytes, impl.MaxBytes + 1} {
		if got := impl.Seal(textOf(size)); got != "" {
			t.Errorf("Seal of %d bytes: %d bytes", size, len(got))
		}
	}
}

func TestUnsealEndsTooEarly(t *testing.T) {
	for _, text := range []string{"", "\x00", "\x00\x00", "\x00\x00\x00", "abc"} {
		wantUnseal(t, text, impl.TextOut{Code: impl.ErrShort})
	}
}

func TestUnsealSizeLimit(t *testing.T) {
	wantUnseal(t, plainSeal(textOf(impl.MaxBytes-4)), impl.TextOut{Text: textOf(impl.MaxBytes - 4)})
	wantUnseal(t, textOf(impl.MaxBytes), impl.TextOut{Code: impl.ErrSum})
	wantUnseal(t, plainSeal(textOf(impl.MaxBytes-3)), impl.TextOut{Code: impl.ErrSize})
	wantUnseal(t, textOf(impl.MaxBytes+1), impl.TextOut{Code: impl.ErrSize})
}

func TestUnsealOfOneChangedByte(t *testing.T) {
	for _, size := range []int{0, 1, 20} {
		sealed := impl.Seal(textOf(size))
		for i := range len(sealed) {
			for change := 1; change < 256; change++ {
				wantUnseal(t, changed(sealed, i, byte(change)), impl.TextOut{Code: impl.ErrSum})
			}
		}
	}
	sealed := impl.Seal(textOf(impl.MaxBytes - 4))
	for i := 0; i < len(sealed); i += 37 {
		wantUnseal(t, changed(sealed, i, 1), impl.TextOut{Code: impl.ErrSum})
	}
}

func changed(text string, i int, change byte) string {
	b := []byte(text)
	b[i] ^= change
	return string(b)
}

func TestUnsealOfOtherDamage(t *testing.T) {
	sealed := impl.Seal("a text")
	for cut := 4; cut < len(sealed); cut++ {
		wantUnseal(t, sealed[:cut], impl.TextOut{Code: impl.ErrSum})
	}
	for _, text := range []string{sealed + "x", "x" + sealed, "a text\x00\x00\x00\x00", "abcd", "\xff\xff\xff\xff"} {
		wantUnseal(t, text, impl.TextOut{Code: impl.ErrSum})
	}
}
