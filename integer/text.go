package integer

import (
	"strconv"

	"manorboy/api"
)

// Parse returns the integer that a text denotes: I9.
func Parse(text string) (int, api.Errno) {
	digits, sign := text, 1
	if text != "" && (text[0] == '+' || text[0] == '-') {
		digits = text[1:]
		if text[0] == '-' {
			sign = -1
		}
	}
	if digits == "" {
		return 0, api.ErrForm
	}
	n := 0
	for i := range len(digits) {
		if digits[i] < '0' || digits[i] > '9' {
			return 0, api.ErrForm
		}
		// All integers that are too great are as good as the least one of them, which keeps long texts from overflowing n.
		n = min(n*10+int(digits[i]-'0'), api.MaxInt+1)
	}
	return fit(sign * n)
}

// Print returns the decimal digits of an integer: I10.
func Print(n int) (string, api.Errno) {
	if !Valid(n) {
		return "", api.ErrArg
	}
	return strconv.Itoa(n), api.OK
}
