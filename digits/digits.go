// Package digits reads numbers that stand as decimal digits. It is no layer: layers that read lines share it.
package digits

import "strconv"

// Number answers the number that decimal digits without noughts ahead are, and true, if it is no greater than another one; else 0 and false.
func Number(s string, most int) (int, bool) {
	n := 0
	for _, r := range s {
		if r < '0' || r > '9' || n > most {
			return 0, false
		}
		n = n*10 + int(r-'0')
	}
	if n > most || strconv.Itoa(n) != s {
		return 0, false
	}
	return n, true
}
