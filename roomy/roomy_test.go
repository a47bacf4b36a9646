package roomy

import (
	"bytes"
	"testing"
)

func TestUntouched(t *testing.T) {
	b := Bytes(1, 2, 3)
	if !bytes.Equal(b, []byte{1, 2, 3}) || !Untouched(b, 1, 2, 3) || Untouched(b, 1, 2) || Untouched(b, 1, 2, 4) {
		t.Error(b)
	}
	_ = append(b, 9)
	if Untouched(b, 1, 2, 3) {
		t.Error("what was put behind isn't seen")
	}
}

func TestApart(t *testing.T) {
	b := Bytes(1, 2, 3)
	if Apart(b, b) || Apart(b, b[1:2]) || Apart(b, append(b, 9)) || !Apart(b, Bytes(1, 2, 3)) || !Apart(b, nil) || !Apart(nil, b) {
		t.Error("which rows are apart isn't told")
	}
	if !bytes.Equal(b, []byte{1, 2, 3}) {
		t.Error(b)
	}
}
