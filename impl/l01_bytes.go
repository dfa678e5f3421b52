package impl

import (
	"errors"
	"strconv"
	"strings"
)

// Constants, see chapter 1.
const (
	OK        = 0
	ErrForm   = 1
	ErrSize   = 2
	ErrSyntax = 3
	ErrShort  = 4
	ErrSum    = 5
	ErrNone   = 6
	ErrThere  = 7
	ErrRange  = 8
	ErrFull   = 9
	ErrState  = 10
	ErrLabel  = 11
	MaxBytes  = 8000
	MaxList   = 400
	MaxTime   = 1000000
)

// The CRC's polynomial is written with its bits reversed, because the register is shifted to the right.
const (
	crcPoly = 0xEDB88320
	crcMost = 1<<32 - 1
	crcSize = 4
)

const (
	maxName   = 20
	numBytes  = 10
	lastShift = 7 * (numBytes - 1)
)

// NumOut is a thing of chapter 2.
type NumOut struct {
	N    int64
	At   int64
	Code int64
}

// TextOut is a thing of chapter 2.
type TextOut struct {
	Text string
	At   int64
	Code int64
}

// badNum carries the code of a malformed encoding out of the state machine.
type badNum struct {
	code int64
}

func (b badNum) Error() string {
	return "malformed number, code " + strconv.FormatInt(b.code, 10)
}

// PutNum: see chapter 2.
func PutNum(n int64) string {
	var out [numBytes]byte
	u := foldSign(n)
	size := 0
	for u >= 128 {
		out[size] = byte(u) | 128
		u >>= 7
		size++
	}
	out[size] = byte(u)
	return string(out[:size+1])
}

// putNums encodes numbers one after the other.
func putNums(nums ...int64) string {
	var out strings.Builder
	for _, n := range nums {
		out.WriteString(PutNum(n))
	}
	return out.String()
}

// GetNum: see chapter 2.
func GetNum(text string, at int64) NumOut {
	if len(text) > MaxBytes {
		return NumOut{Code: ErrSize}
	}
	if at < 0 {
		return NumOut{Code: ErrForm}
	}
	u, next, err := readGroups(text, at)
	var bad badNum
	if errors.As(err, &bad) {
		return NumOut{Code: bad.code}
	}
	return NumOut{N: unfoldSign(u), At: next}
}

// readGroups reads an encoding at an offset that is not negative; its error is a badNum.
func readGroups(text string, at int64) (uint64, int64, error) {
	var u uint64
	var b byte
	shift := 0
	code := int64(ErrSyntax)
more:
	// The offset is compared before anything is added to it: it may be the greatest int64.
	if at >= int64(len(text)) {
		code = ErrShort
		goto wrong
	}
	b = text[at]
	at++
	if shift == lastShift && b > 1 {
		goto wrong
	}
	u |= uint64(b&127) << shift
	if b < 128 {
		goto last
	}
	shift += 7
	goto more
last:
	if b == 0 && shift > 0 {
		goto wrong
	}
	return u, at, nil
wrong:
	return 0, 0, badNum{code: code}
}

func foldSign(n int64) uint64 {
	return uint64(n)<<1 ^ uint64(n>>63)
}

func unfoldSign(u uint64) int64 {
	return int64(u>>1) ^ -int64(u&1)
}

// PutText: see chapter 2.
func PutText(t string) string {
	if len(t) > MaxBytes {
		return ""
	}
	return joined(PutNum(int64(len(t))), t)
}

// GetText: see chapter 2.
func GetText(text string, at int64) TextOut {
	size := GetNum(text, at)
	if size.Code != OK {
		return TextOut{Code: size.Code}
	}
	if size.N < 0 || size.N > MaxBytes {
		return TextOut{Code: ErrSyntax}
	}
	end := size.At + size.N
	if end > int64(len(text)) {
		return TextOut{Code: ErrShort}
	}
	return TextOut{Text: strings.Clone(text[size.At:end]), At: end}
}

func joined(a string, b string) string {
	out := make([]byte, len(a)+len(b))
	copy(out, a)
	copy(out[len(a):], b)
	return string(out)
}

// NameRight: see chapter 2.
func NameRight(t string) bool {
	if len(t) < 1 || len(t) > maxName || !isLetter(t[0]) {
		return false
	}
	for i := range len(t) {
		if !isLetter(t[i]) && !isDigit(t[i]) && t[i] != '_' {
			return false
		}
	}
	return true
}

func isLetter(b byte) bool {
	return b >= 'a' && b <= 'z'
}

func isDigit(b byte) bool {
	return b >= '0' && b <= '9'
}

// Crc: see chapter 2.
func Crc(text string) int64 {
	// The CRC of the empty string is 0, so that any string continues it.
	return CrcMore(0, text)
}

// CrcMore: see chapter 2.
func CrcMore(crc int64, text string) int64 {
	if len(text) > MaxBytes || crc < 0 || crc > crcMost {
		return 0
	}
	register := ^uint32(crc)
	for i := range len(text) {
		register = crcByte(register, text[i])
	}
	return int64(^register)
}

// crcByte takes in the eight bits at once: each of them meets the register's lowest bit only when it has been shifted there.
func crcByte(register uint32, b byte) uint32 {
	register ^= uint32(b)
	for range 8 {
		low := register & 1
		register >>= 1
		if low == 1 {
			register ^= crcPoly
		}
	}
	return register
}

// Seal: see chapter 2.
func Seal(text string) string {
	if len(text) > MaxBytes-crcSize {
		return ""
	}
	return joined(text, crcText(text))
}

// Unseal: see chapter 2.
func Unseal(text string) TextOut {
	if len(text) > MaxBytes {
		return TextOut{Code: ErrSize}
	}
	if len(text) < crcSize {
		return TextOut{Code: ErrShort}
	}
	body := text[:len(text)-crcSize]
	if text[len(body):] != crcText(body) {
		return TextOut{Code: ErrSum}
	}
	return TextOut{Text: strings.Clone(body)}
}

func crcText(text string) string {
	return putFour(Crc(text))
}

// putFour encodes a number of at most 32 bits in four little-endian bytes.
func putFour(n int64) string {
	return string([]byte{byte(n), byte(n >> 8), byte(n >> 16), byte(n >> 24)})
}

// getFour decodes the first four bytes of a text that has as many.
func getFour(text string) int64 {
	return int64(text[0]) | int64(text[1])<<8 | int64(text[2])<<16 | int64(text[3])<<24
}
