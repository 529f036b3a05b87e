package dial_test

import (
	"fmt"
	"math"
	"math/cmplx"
	"testing"

	"ephemeris/dial"
)

const most, least = math.MaxInt, math.MinInt

// table is the document's: how high the places 0 to 24 are.
var table = []int{0, 225, 449, 671, 890, 1105, 1315, 1520, 1719, 1910, 2093, 2267, 2431, 2585, 2728, 2859, 2978, 3084, 3177, 3256, 3321, 3372, 3409, 3431, 3438}

// around is what k leaves over by n, found otherwise than dial does.
func around(k, n int) int {
	if left := k % n; left < 0 {
		return left + n
	}
	return k % n
}

// height is how high place k is, by going up the table and down again, and so
// below the middle.
func height(k int) int {
	switch p := around(k, 96); {
	case p <= 24:
		return table[p]
	case p <= 48:
		return table[48-p]
	case p <= 72:
		return -table[p-48]
	default:
		return -table[96-p]
	}
}

// point is place k's: what is as far to the right as a quarter on is high.
func point(k int) complex128 {
	return complex(float64(height(around(k, 96)+24)), float64(height(k)))
}

// places are all of some circles around 0, and some far away, on both sides.
func places() []int {
	var l []int
	for k := -300; k <= 300; k++ {
		l = append(l, k)
	}
	for j := range 200 {
		l = append(l, most-j, least+j, 1<<40+j, -1<<40-j, math.MaxInt32-j, math.MinInt32+j)
	}
	return l
}

// P9.1: the constants.
func TestConstants(t *testing.T) {
	if dial.Places != 96 || dial.Radius != 3438 {
		t.Errorf("%d, %d", dial.Places, dial.Radius)
	}
}

// P9.1, High: of the places 0 to 24; those below count as 0, those above as 24.
func TestHigh(t *testing.T) {
	for k, want := range table {
		if got := dial.High(k); got != want {
			t.Errorf("High of %d: %d", k, got)
		}
	}
	for k, want := range map[int]int{-1: 0, -24: 0, -25: 0, -96: 0, least: 0, 25: 3438, 26: 3438, 48: 3438, 72: 3438, 96: 3438, most: 3438} {
		if got := dial.High(k); got != want {
			t.Errorf("High of %d: %d", k, got)
		}
	}
}

// P9.1, Turn: by i as often as quarters says, modulo 4.
func TestTurn(t *testing.T) {
	const far = 1 << 40
	for _, c := range []struct {
		z        complex128
		quarters int
		want     complex128
	}{
		{3 + 4i, 0, 3 + 4i}, {3 + 4i, 1, -4 + 3i}, {3 + 4i, 2, -3 - 4i}, {3 + 4i, 3, 4 - 3i}, {3 + 4i, 4, 3 + 4i}, {3 + 4i, 5, -4 + 3i},
		{3 + 4i, -1, 4 - 3i}, {3 + 4i, -2, -3 - 4i}, {3 + 4i, -3, -4 + 3i}, {3 + 4i, -4, 3 + 4i}, {3 + 4i, -5, 4 - 3i},
		{3 + 4i, 4e9, 3 + 4i}, {3 + 4i, 4e9 + 1, -4 + 3i}, {3 + 4i, -4e9 - 1, 4 - 3i},
		{3 + 4i, most, 4 - 3i}, {3 + 4i, least, 3 + 4i}, {3 + 4i, least + 1, -4 + 3i}, {3 + 4i, most - 1, -3 - 4i},
		{0, 0, 0}, {0, 1, 0}, {0, -7, 0}, {1, 1, 1i}, {1i, 1, -1}, {-1, 1, -1i}, {-1i, 1, 1}, {7, 2, -7}, {-7i, 3, -7},
		{complex(far, -far+1), 1, complex(far-1, far)}, {complex(far, -far+1), -1, complex(-far+1, -far)}, {complex(-far, far), 2, complex(far, -far)},
	} {
		if got := dial.Turn(c.z, c.quarters); got != c.want {
			t.Errorf("Turn of %v by %d: %v", c.z, c.quarters, got)
		}
	}
}

// P9.1, Point, Sine, Cosine: of any place.
func TestPoint(t *testing.T) {
	for _, k := range places() {
		want := point(k)
		if got := dial.Point(k); got != want {
			t.Fatalf("Point of %d: %v, not %v", k, got, want)
		}
		if got := dial.Sine(k); got != int(imag(want)) {
			t.Fatalf("Sine of %d: %d", k, got)
		}
		if got := dial.Cosine(k); got != int(real(want)) {
			t.Fatalf("Cosine of %d: %d", k, got)
		}
	}
}

// P9.1, Point: of the places that the chapter names, and those about the ends of
// quarters.
func TestNamedPoints(t *testing.T) {
	for k, want := range map[int]complex128{
		0: 3438, 1: 3431 + 225i, 23: 225 + 3431i, 24: 3438i, 25: -225 + 3431i, 47: -3431 + 225i, 48: -3438, 49: -3431 - 225i,
		71: -225 - 3431i, 72: -3438i, 73: 225 - 3431i, 95: 3431 - 225i, 96: 3438, 97: 3431 + 225i,
		8: 2978 + 1719i, 12: 2431 + 2431i, 16: 1719 + 2978i, 20: 890 + 3321i, 31: -1520 + 3084i,
		-1: 3431 - 225i, -24: -3438i, -48: -3438, -72: 3438i, -95: 3431 + 225i, -96: 3438, -97: 3431 - 225i, 96e9 + 1: 3431 + 225i, -96e9 - 1: 3431 - 225i,
	} {
		if got := dial.Point(k); got != want {
			t.Errorf("Point of %d: %v", k, got)
		}
	}
	for k, want := range map[int]int{0: 0, 8: 1719, 24: 3438, 40: 1719, 48: 0, 56: -1719, 72: -3438, 95: -225, 96: 0, -8: -1719} {
		if got := dial.Sine(k); got != want {
			t.Errorf("Sine of %d: %d", k, got)
		}
	}
	for k, want := range map[int]int{0: 3438, 16: 1719, 24: 0, 32: -1719, 48: -3438, 64: -1719, 72: 0, 95: 3431, 96: 3438, -16: 1719} {
		if got := dial.Cosine(k); got != want {
			t.Errorf("Cosine of %d: %d", k, got)
		}
	}
}

// P9.1: a part that is 0 is so without a sign, however it was turned.
func TestZeroHasNoSign(t *testing.T) {
	for k, want := range map[int]string{0: "(3438+0i)", 24: "(0+3438i)", 25: "(-225+3431i)", 48: "(-3438+0i)", 72: "(0-3438i)", 96: "(3438+0i)"} {
		if got := fmt.Sprint(dial.Point(k)); got != want {
			t.Errorf("Point of %d: %s", k, got)
		}
	}
	for _, z := range []complex128{0, 1, -1, 1i, -1i} {
		for quarters := -4; quarters <= 4; quarters++ {
			got := dial.Turn(z, quarters)
			if real(got) == 0 && math.Signbit(real(got)) || imag(got) == 0 && math.Signbit(imag(got)) {
				t.Errorf("Turn of %v by %d: %v", z, quarters, got)
			}
		}
	}
}

// P9.1, Where: of each place's point; also if 0 has a sign in it.
func TestWhere(t *testing.T) {
	for want := range dial.Places {
		if k, ok := dial.Where(point(want)); k != want || !ok {
			t.Errorf("Where of %v: %d, %t", point(want), k, ok)
		}
	}
	for _, k := range places() {
		if got, ok := dial.Where(dial.Point(k)); got != around(k, 96) || !ok {
			t.Fatalf("Where of place %d: %d, %t", k, got, ok)
		}
	}
	none := math.Copysign(0, -1)
	for want, z := range map[int]complex128{0: complex(3438, none), 24: complex(none, 3438), 48: complex(-3438, none), 72: complex(none, -3438)} {
		if k, ok := dial.Where(z); k != want || !ok {
			t.Errorf("Where of %v: %d, %t", z, k, ok)
		}
	}
}

// P9.1, Where: points that are no place's, and what is no point at all.
func TestNowhere(t *testing.T) {
	never := []complex128{
		0, 1, 1i, 3437, 3439, -3437, 3438 + 1i, 3438 - 1i, 1 + 3438i, 3438 + 3438i, 225 + 225i, 225, 225i, 3430 + 225i, 3431 + 224i, 3431 + 226i, 3431 + 449i, 3409 + 225i,
		3431.5 + 225i, 3431 + 225.25i, 1719 + 1719i, 2978 + 2978i, complex(1<<40, 1<<40), complex(-1<<40, 225),
		cmplx.NaN(), cmplx.Inf(), complex(math.NaN(), 0), complex(3431, math.NaN()), complex(math.Inf(-1), 225), complex(3438, math.Inf(1)), complex(math.MaxFloat64, -math.MaxFloat64), complex(3438, math.SmallestNonzeroFloat64),
	}
	for _, z := range never {
		if k, ok := dial.Where(z); k != 0 || ok {
			t.Errorf("Where of %v: %d, %t", z, k, ok)
		}
	}
	for k := range dial.Places {
		for _, away := range []complex128{1, -1, 1i, -1i} {
			if got, ok := dial.Where(point(k) + away); got != 0 || ok {
				t.Errorf("Where of %v: %d, %t", point(k)+away, got, ok)
			}
		}
	}
}

// P9.2: a quarter more is a turn, half a circle more the other sign, back the
// other sign of the imaginary part alone.
func TestTurns(t *testing.T) {
	for _, k := range places() {
		if k > most-1000 || k < least+1000 {
			continue // what is added below would come round
		}
		z := dial.Point(k)
		for quarters := -9; quarters <= 9; quarters++ {
			if got := dial.Point(k + 24*quarters); got != dial.Turn(z, quarters) {
				t.Fatalf("place %d and %d quarters: %v", k, quarters, got)
			}
		}
		if got := dial.Turn(z, 1); got != z*1i {
			t.Fatalf("place %d turned: %v", k, got)
		}
		if got := dial.Point(k + 48); got != -z || dial.Sine(k+48) != -dial.Sine(k) || dial.Cosine(k+48) != -dial.Cosine(k) {
			t.Fatalf("place %d and half a circle: %v", k, got)
		}
		if got := dial.Point(-k); got != cmplx.Conj(z) || dial.Sine(-k) != -dial.Sine(k) || dial.Cosine(-k) != dial.Cosine(k) {
			t.Fatalf("place %d back: %v", k, got)
		}
		if dial.Point(k+96) != z || dial.Sine(k+24) != dial.Cosine(k) {
			t.Fatalf("place %d and a circle: %v", k, dial.Point(k+96))
		}
	}
}

// P9.2: turns go one behind the other.
func TestTurnsAdd(t *testing.T) {
	for _, z := range []complex128{0, 3 + 4i, -225 + 3431i, complex(1<<40, -1<<40+1)} {
		for a := -6; a <= 6; a++ {
			for b := -6; b <= 6; b++ {
				if got := dial.Turn(dial.Turn(z, a), b); got != dial.Turn(z, a+b) {
					t.Errorf("Turn of %v by %d and %d: %v", z, a, b, got)
				}
			}
		}
	}
}

// P9.3: how far a point is from the middle.
func TestRound(t *testing.T) {
	for _, k := range places() {
		z := dial.Point(k)
		x, y := int(real(z)), int(imag(z))
		if complex(float64(x), float64(y)) != z {
			t.Fatalf("place %d: %v isn't whole", k, z)
		}
		if off := x*x + y*y - 3438*3438; off < -4000 || off > 4000 {
			t.Fatalf("place %d: off by %d", k, off)
		}
	}
}
