package angle

import (
	"strconv"
	"strings"

	"linkboy/api"
	"linkboy/words"
)

const (
	wholeDigits = 3
	decimals    = 6
)

// heading is a letter of an angle on the earth: its axis, and whether angles are above 0 (1) or below (-1).
type heading struct {
	name       byte
	axis, sign int
}

var headings = [4]heading{
	{'N', api.AnNorth, 1},
	{'S', api.AnNorth, -1},
	{'E', api.AnEast, 1},
	{'W', api.AnEast, -1},
}

// furthest is the greatest angle of each axis.
var furthest = [2]int{api.AnNorth: 90 * api.Degree, api.AnEast: 180 * api.Degree}

// Read reads an angle on the earth.
func Read(s string) (a, axis int, e api.Errno) {
	if len(s) > api.MaxAnText {
		return 0, 0, api.ErrLong
	}
	if s == "" {
		return 0, 0, api.ErrForm
	}
	last := len(s) - 1
	axis, sign, known := direction(s[last])
	size, isNumber := readSize(s[:last])
	if !known || !isNumber {
		return 0, 0, api.ErrForm
	}
	if size > furthest[axis] {
		return 0, 0, api.ErrRange
	}
	return sign * size, axis, api.OK
}

// Write writes an angle on the earth.
func Write(a, axis int) (string, api.Errno) {
	if axis != api.AnNorth && axis != api.AnEast {
		return "", api.ErrArg
	}
	if a < -furthest[axis] || a > furthest[axis] {
		return "", api.ErrRange
	}
	size, sign := a, 1
	if a < 0 {
		size, sign = -a, -1
	}
	return writeSize(size) + letter(axis, sign), api.OK
}

// direction returns the axis and the sign of a letter.
func direction(name byte) (axis, sign int, known bool) {
	for _, h := range headings {
		if h.name == name {
			return h.axis, h.sign, true
		}
	}
	return 0, 0, false
}

// letter returns the letter of an axis and a sign.
func letter(axis, sign int) string {
	for _, h := range headings {
		if h.axis == axis && h.sign == sign {
			return string(rune(h.name))
		}
	}
	return ""
}

// readSize reads degrees with decimals, in millionths.
func readSize(s string) (size int, isNumber bool) {
	whole, part, hasPoint := strings.Cut(s, ".")
	if !words.IsDigits(whole, wholeDigits) || hasPoint && !words.IsDigits(part, decimals) {
		return 0, false
	}
	part += strings.Repeat("0", decimals-len(part))
	for _, digit := range []byte(whole + part) {
		size = 10*size + int(digit-'0')
	}
	return size, true
}

// writeSize writes millionths of a degree as degrees with as few decimals as will do.
func writeSize(size int) string {
	whole := strconv.Itoa(size / api.Degree)
	if size%api.Degree == 0 {
		return whole
	}
	// with one degree more it has all its zeros in front
	part := strconv.Itoa(size%api.Degree + api.Degree)[1:]
	return whole + "." + strings.TrimRight(part, "0")
}
