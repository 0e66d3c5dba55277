package angle

import (
	"math"
	"math/rand"
	"strings"
	"testing"

	"linkboy/api"
)

// P1.6
func TestReadExamples(t *testing.T) {
	for _, c := range []struct {
		s       string
		a, axis int
	}{
		{"51.5074N", 51507400, api.AnNorth},
		{"0.1278W", -127800, api.AnEast},
		{"007.50S", -7500000, api.AnNorth},
		{"000.000000E", 0, api.AnEast},
		{"0S", 0, api.AnNorth},
		{"0.0W", 0, api.AnEast},
		{"90N", 90 * degree, api.AnNorth},
		{"090.000000S", -90 * degree, api.AnNorth},
		{"180E", 180 * degree, api.AnEast},
		{"180.0W", -180 * degree, api.AnEast},
		{"90.000001E", 90*degree + 1, api.AnEast},
		{"179.999999W", -180*degree + 1, api.AnEast},
		{"0.000001N", 1, api.AnNorth},
		{"1.1S", -1100000, api.AnNorth},
		{"9.08E", 9080000, api.AnEast},
	} {
		if a, axis, e := Read(c.s); a != c.a || axis != c.axis || e != api.OK {
			t.Errorf("Read(%q) = %d, %d, %d, want %d, %d", c.s, a, axis, e, c.a, c.axis)
		}
	}
}

// P1.6
func TestReadRefuses(t *testing.T) {
	for _, c := range []struct {
		e     api.Errno
		texts []string
	}{
		{api.ErrLong, []string{strings.Repeat("9", 21), strings.Repeat("0", 20) + "N", "5.1234567890123456 NE", strings.Repeat(" ", 100000)}},
		{api.ErrForm, []string{"", "N", ".", ".N", "5", "5.5", ".5N", "5.N", "5..5N", "5.5.5N", "0005N", "5.1234567N", "5.0000000N", "5 N", " 5N", "5N ", "5N\n", "-5N", "+5N", "5.-5N", "5NE", "N5", "5n", "5X", "5\x00", "5,5N", "0x5N", "1e1N", "5_0N", "٥N", "5°N", "5.٥N", strings.Repeat("9", 20), strings.Repeat("0", 19) + "N", "999.9999999N", "9999W", "999"}},
		{api.ErrRange, []string{"90.000001N", "90.000001S", "91N", "180S", "180.000001E", "180.1W", "181E", "999W", "999.999999N"}},
	} {
		for _, s := range c.texts {
			if a, axis, e := Read(s); a != 0 || axis != 0 || e != c.e {
				t.Errorf("Read(%q) = %d, %d, %d, want %d", s, a, axis, e, c.e)
			}
		}
	}
}

// P1.6
func TestWrite(t *testing.T) {
	for _, c := range []struct {
		a, axis int
		s       string
		e       api.Errno
	}{
		{51507400, api.AnNorth, "51.5074N", api.OK},
		{-127800, api.AnEast, "0.1278W", api.OK},
		{0, api.AnNorth, "0N", api.OK},
		{0, api.AnEast, "0E", api.OK},
		{1, api.AnNorth, "0.000001N", api.OK},
		{-1, api.AnEast, "0.000001W", api.OK},
		{-7500000, api.AnNorth, "7.5S", api.OK},
		{100 * degree, api.AnEast, "100E", api.OK},
		{10050000, api.AnEast, "10.05E", api.OK},
		{90 * degree, api.AnNorth, "90N", api.OK},
		{-90 * degree, api.AnNorth, "90S", api.OK},
		{180 * degree, api.AnEast, "180E", api.OK},
		{-180 * degree, api.AnEast, "180W", api.OK},
		{90*degree + 1, api.AnEast, "90.000001E", api.OK},
		{90*degree + 1, api.AnNorth, "", api.ErrRange},
		{-90*degree - 1, api.AnNorth, "", api.ErrRange},
		{180*degree + 1, api.AnEast, "", api.ErrRange},
		{-180*degree - 1, api.AnEast, "", api.ErrRange},
		{math.MaxInt, api.AnEast, "", api.ErrRange},
		{math.MinInt, api.AnNorth, "", api.ErrRange},
		{0, 2, "", api.ErrArg},
		{0, -1, "", api.ErrArg},
		{math.MinInt, math.MinInt, "", api.ErrArg},
		{math.MaxInt, math.MaxInt, "", api.ErrArg},
	} {
		if s, e := Write(c.a, c.axis); s != c.s || e != c.e {
			t.Errorf("Write(%d, %d) = %q, %d, want %q, %d", c.a, c.axis, s, e, c.s, c.e)
		}
	}
}

// P1.11
func TestReadOfWrite(t *testing.T) {
	r := rand.New(rand.NewSource(6))
	for axis, most := range []int{90 * degree, 180 * degree} {
		list := []int{0, 1, -1, most, -most, most - 1, 1 - most, degree, -degree, degree / 10, -degree / 10}
		for range 10000 {
			a := r.Intn(2*most+1) - most
			list = append(list, a, a/1000*1000)
		}
		for _, a := range list {
			s, e := Write(a, axis)
			if e != api.OK {
				t.Fatalf("Write(%d, %d): %d", a, axis, e)
			}
			if b, other, e := Read(s); b != a || other != axis || e != api.OK {
				t.Errorf("Read(%q) = %d, %d, %d, want %d, %d", s, b, other, e, a, axis)
			}
		}
	}
}

// P1.11
func TestWriteOfRead(t *testing.T) {
	for _, s := range []string{"007.50S", "0S", "000.000000W", "180.0W", "90.000000N", "1.10E"} {
		a, axis, _ := Read(s)
		written, e := Write(a, axis)
		if e != api.OK {
			t.Errorf("Write of Read of %q: %d", s, e)
		}
		if b, other, e := Read(written); b != a || other != axis || e != api.OK {
			t.Errorf("Read(%q) = %d, %d, %d, want as of %q", written, b, other, e, s)
		}
	}
}

// P1.12: no string, and no number, is too much.
func TestReadAcceptsAnyString(t *testing.T) {
	r := rand.New(rand.NewSource(7))
	const letters = "0123456789.NSEW- \x00\xff"
	for range 50000 {
		b := make([]byte, r.Intn(23))
		for i := range b {
			b[i] = letters[r.Intn(len(letters))]
		}
		a, axis, e := Read(string(b))
		if e != api.OK && (a != 0 || axis != 0) {
			t.Errorf("Read(%q) = %d, %d, %d", b, a, axis, e)
		}
		if _, f := Write(a, axis); e == api.OK && f != api.OK {
			t.Errorf("Write(%d, %d) = %d", a, axis, f)
		}
	}
}
