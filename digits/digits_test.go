package digits

import "testing"

func TestNumber(t *testing.T) {
	for s, want := range map[string]int{"0": 0, "7": 7, "10": 10, "65535": 65535, "4095": 4095} {
		if got, ok := Number(s, 65535); got != want || !ok {
			t.Error(s, got, ok)
		}
	}
	for _, s := range []string{"", "00", "07", "65536", "99999", "655350", "18446744073709551616", "18446744073709551617", "-1", "+1", " 1", "1 ", "1.0", "0x5", "x", "٣", "\xff", "1\n"} {
		if got, ok := Number(s, 65535); got != 0 || ok {
			t.Error(s, got, ok)
		}
	}
	if got, ok := Number("1", 0); got != 0 || ok {
		t.Error(got, ok)
	}
	if got, ok := Number("0", 0); got != 0 || !ok {
		t.Error(got, ok)
	}
}
