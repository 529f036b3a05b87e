package digits_test

import (
	"math"
	"math/big"
	"slices"
	"strconv"
	"strings"
	"testing"

	"ephemeris/api"
	"ephemeris/digits"
	"ephemeris/nat"
	"ephemeris/whole"
)

const top = math.MaxUint32

// value is math/big's number of the same sign and limbs: it knows nothing of
// the layers.
func value(x whole.Int) *big.Int {
	v := new(big.Int)
	for i := len(x.Abs) - 1; i >= 0; i-- {
		v.Lsh(v, 32).Or(v, big.NewInt(int64(x.Abs[i])))
	}
	if x.Neg {
		v.Neg(v)
	}
	return v
}

// of is that number as limbs.
func of(v *big.Int) whole.Int {
	x := whole.Int{Neg: v.Sign() < 0}
	for rest := new(big.Int).Abs(v); rest.Sign() > 0; rest.Rsh(rest, 32) {
		x.Abs = append(x.Abs, uint32(rest.Uint64()))
	}
	return x
}

// is tells if x is v, without limbs 0 at the top, nor a sign of 0.
func is(x whole.Int, v *big.Int) bool {
	want := of(v)
	return x.Neg == want.Neg && slices.Equal(x.Abs, want.Abs)
}

// none tells if x is what stands beside an error.
func none(x whole.Int) bool {
	return !x.Neg && len(x.Abs) == 0
}

// samples are numbers around the powers of ten, and of two, up to more digits
// than may be read, above and below 0.
func samples() []*big.Int {
	var l []*big.Int
	for n := range 40 {
		l = append(l, big.NewInt(int64(n)))
	}
	for _, root := range []int64{2, 10} {
		for _, n := range []int64{8, 9, 10, 17, 18, 19, 20, 27, 31, 32, 33, 36, 63, 64, 65, 96, 500, 999, 1000, 1001, 1300} {
			power := new(big.Int).Exp(big.NewInt(root), big.NewInt(n), nil)
			for _, step := range []int64{-1, 0, 1, 7000000000} {
				l = append(l, new(big.Int).Add(power, big.NewInt(step)))
			}
		}
	}
	for _, v := range l {
		l = append(l, new(big.Int).Neg(v))
	}
	return l
}

// P4.1, Text: of numbers that are as long as you like.
func TestText(t *testing.T) {
	for _, v := range samples() {
		if got := digits.Text(of(v)); got != v.String() {
			t.Errorf("Text of %v: %s", v, got)
		}
	}
	for _, c := range []struct {
		x    whole.Int
		text string
	}{
		{whole.Int{}, "0"},
		{whole.Int{Neg: true}, "0"},
		{whole.Int{Neg: true, Abs: nat.Nat{0, 0, 0}}, "0"},
		{whole.Int{Neg: true, Abs: nat.Nat{7, 0, 0}}, "-7"},
		{whole.Int{Abs: nat.Nat{0, 1, 0}}, "4294967296"},
		{whole.Int{Abs: nat.Nat{1000000000}}, "1000000000"},
		{whole.Int{Neg: true, Abs: nat.Nat{top, top}}, "-18446744073709551615"},
	} {
		if got := digits.Text(c.x); got != c.text {
			t.Errorf("Text of %v: %s", c.x, got)
		}
	}
}

// P4.1: Text changes nothing of the number that it is asked of.
func TestTextChangesNothing(t *testing.T) {
	for _, abs := range []nat.Nat{{}, {0}, {7, 0}, {top, top}, {1, 2, 3, 0, 0}} {
		x := whole.Int{Neg: true, Abs: slices.Clone(abs)}
		digits.Text(x)
		if !x.Neg || !slices.Equal(x.Abs, abs) {
			t.Errorf("%v: now %v", abs, x)
		}
	}
}

// P4.1, Parse: texts of numbers.
func TestParse(t *testing.T) {
	for _, v := range samples() {
		if len(v.Text(10)) > digits.MaxDigits {
			continue
		}
		if x, errno := digits.Parse(v.String()); !is(x, v) || errno != api.OK {
			t.Errorf("Parse of %v: %v, %d", v, x, errno)
		}
	}
}

// notTexts are no numbers' texts.
func notTexts() []string {
	return []string{
		"", "-", "--", "-0", "+0", "+1", "--1", "-+1", "- 1", "-1-", "1-", "1-2",
		"00", "01", "-01", "-00", "007", "000000000000000000001",
		" 1", "1 ", "1\n", "\t1", "1\x00", "\x001", " ", "1 2", "1,000", "1_000", "1.0", "1.", ".1", "1e3", "0x1", "0b1", "0o7", "1/2",
		"a", "1a", "a1", "-a", "12345678901234567890x", "1:", "/1", "1;", "NaN", "Inf",
		"\u0663", "1\u0663", "\uff11", "\u0967", "\u22121", "\xff", "1\xff", "\xc0\xb1",
	}
}

// P4.1, Parse and Small: texts that are no numbers.
func TestNoNumber(t *testing.T) {
	for _, s := range notTexts() {
		if x, errno := digits.Parse(s); !none(x) || errno != api.ErrForm {
			t.Errorf("Parse of %q: %v, %d", s, x, errno)
		}
		if n, errno := digits.Small(s); n != 0 || errno != api.ErrForm {
			t.Errorf("Small of %q: %d, %d", s, n, errno)
		}
	}
}

// P4.1, Parse: the longest text that may be, and longer ones; what is no
// number's text is that, however long it is.
func TestLongest(t *testing.T) {
	if digits.MaxDigits != 1000 {
		t.Errorf("MaxDigits: %d", digits.MaxDigits)
	}
	nines, noughts := strings.Repeat("9", digits.MaxDigits), strings.Repeat("0", digits.MaxDigits-1)
	for _, s := range []string{nines, "-" + nines, "1" + noughts, "-1" + noughts} {
		want, _ := new(big.Int).SetString(s, 10)
		if x, errno := digits.Parse(s); !is(x, want) || errno != api.OK {
			t.Errorf("Parse of %d bytes: %v, %d", len(s), x, errno)
		}
	}
	for _, c := range []struct {
		s     string
		errno api.Errno
	}{
		{"1" + nines, api.ErrBig},
		{"-1" + nines, api.ErrBig},
		{strings.Repeat(nines, 99), api.ErrBig},
		{"0" + nines, api.ErrForm},
		{"-0" + nines, api.ErrForm},
		{"+" + nines, api.ErrForm},
		{noughts + noughts, api.ErrForm},
		{nines + nines + "x", api.ErrForm},
		{nines + "-" + nines, api.ErrForm},
		{"--" + nines + nines, api.ErrForm},
	} {
		if x, errno := digits.Parse(c.s); !none(x) || errno != c.errno {
			t.Errorf("Parse of %d bytes from %.3s: %v, %d", len(c.s), c.s, x, errno)
		}
		if n, errno := digits.Small(c.s); n != 0 || errno != c.errno {
			t.Errorf("Small of %d bytes from %.3s: %d, %d", len(c.s), c.s, n, errno)
		}
	}
}

// P4.1, Small: numbers of 64 bits, and such as are none.
func TestSmall(t *testing.T) {
	for _, c := range []struct {
		s     string
		n     int64
		errno api.Errno
	}{
		{"0", 0, api.OK}, {"1", 1, api.OK}, {"-1", -1, api.OK}, {"1000000000", 1000000000, api.OK}, {"-987654321012345678", -987654321012345678, api.OK},
		{"9223372036854775807", math.MaxInt64, api.OK}, {"9223372036854775808", 0, api.ErrBig},
		{"-9223372036854775808", math.MinInt64, api.OK}, {"-9223372036854775809", 0, api.ErrBig},
		{"18446744073709551616", 0, api.ErrBig}, {"-18446744073709551617", 0, api.ErrBig},
		{strings.Repeat("9", digits.MaxDigits), 0, api.ErrBig}, {strings.Repeat("9", digits.MaxDigits+1), 0, api.ErrBig},
	} {
		if n, errno := digits.Small(c.s); n != c.n || errno != c.errno {
			t.Errorf("Small of %q: %d, %d", c.s, n, errno)
		}
	}
}

// P4.1, Pad: wide enough, too narrow, cut, below 0.
func TestPad(t *testing.T) {
	for _, c := range []struct {
		n     int64
		width int
		text  string
	}{
		{-7, 3, "-007"}, {7, 3, "007"}, {7, 1, "7"}, {7, 2, "07"}, {-7, 1, "-7"}, {-7, 2, "-07"},
		{0, 0, "0"}, {0, 1, "0"}, {0, 4, "0000"}, {1234, 3, "1234"}, {1234, 4, "1234"}, {-1234, 4, "-1234"}, {-1234, 5, "-01234"},
		{5, -1, "5"}, {-5, math.MinInt, "-5"},
		{5, 20, "00000000000000000005"}, {5, 21, "00000000000000000005"}, {-5, 21, "-00000000000000000005"}, {5, math.MaxInt, "00000000000000000005"},
		{math.MaxInt64, 19, "9223372036854775807"}, {math.MaxInt64, 99, "09223372036854775807"},
		{math.MinInt64, 0, "-9223372036854775808"}, {math.MinInt64, 20, "-09223372036854775808"},
	} {
		if got := digits.Pad(c.n, c.width); got != c.text {
			t.Errorf("Pad of %d to %d: %s", c.n, c.width, got)
		}
	}
}

// P4.2: a number is read of its text, and that is no other number's.
func TestThereAndBack(t *testing.T) {
	for _, v := range samples() {
		text := digits.Text(of(v))
		if len(strings.TrimPrefix(text, "-")) > digits.MaxDigits {
			continue
		}
		if x, errno := digits.Parse(text); !is(x, v) || errno != api.OK {
			t.Errorf("%s: back %v, %d", text, x, errno)
		}
		wide := of(v)
		wide.Abs = append(wide.Abs, 0, 0)
		if digits.Text(wide) != text {
			t.Errorf("%s: with limbs 0 at the top %s", text, digits.Text(wide))
		}
	}
	for n := int64(-2000); n <= 2000; n++ {
		if back, errno := digits.Small(digits.Text(whole.Of(n))); back != n || errno != api.OK || digits.Pad(n, 0) != strconv.FormatInt(n, 10) {
			t.Errorf("%d: back %d, %d", n, back, errno)
		}
	}
}

// P4.2: of all short texts just those are read that are written the same.
func TestReadIsWritten(t *testing.T) {
	texts := []string{""}
	for from, size := 0, 0; size < 4; size++ {
		to := len(texts)
		for _, s := range texts[from:to] {
			for _, c := range "-+0129 " {
				texts = append(texts, s+string(c))
			}
		}
		from = to
	}
	read := 0
	for _, s := range texts {
		n, err := strconv.Atoi(s)
		isText := err == nil && strconv.Itoa(n) == s
		x, errno := digits.Parse(s)
		if isText != (errno == api.OK) || isText && digits.Text(x) != s || !isText && !none(x) {
			t.Errorf("%q: %v, %d", s, x, errno)
		}
		if isText {
			read++
		}
	}
	// 0, and of one to four signs: numbers above 0, or below it.
	if read != 1+(3+12+48+192)+(3+12+48) {
		t.Errorf("of %d texts %d are read", len(texts), read)
	}
}
