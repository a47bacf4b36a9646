package tag

import (
	"bytes"
	"math"
	"math/rand"
	"testing"

	"linkboy/api"
	"linkboy/octet"
	"linkboy/roomy"
)

var key = api.Key{Lo: 0x0706050403020100, Hi: 0x0f0e0d0c0b0a0908}

// message is an order with its bytes by a key, as another program told them.
type message struct {
	k    api.Key
	o    api.Order
	text string
}

func messages() []message {
	return []message{
		{key, api.Order{Count: 0x0102030405060708, Op: 9, Id: 0x0a0b, Vip: 0x0c, Addr: 0x0d0e0f10, Port: 0x1112, Proto: 0x13, Num: 0x14}, "0102030405060708090a0b0c0d0e0f1011121314169a4bbeda474ac1"},
		{api.Key{Lo: 1, Hi: 2}, api.Order{}, "0000000000000000000000000000000000000000eed5db677d1e4d69"},
		{api.Key{Lo: 1, Hi: 2}, api.Order{Count: math.MaxUint64, Op: 255, Id: 65535, Vip: 255, Addr: math.MaxUint32, Port: 65535, Proto: 255, Num: 255}, "ffffffffffffffffffffffffffffffffffffffffdd0242e585772ac2"},
	}
}

// P34.1

func TestPut(t *testing.T) {
	for _, x := range messages() {
		if b, e := Put(x.k, x.o); octet.Hex(b) != x.text || e != api.OK {
			t.Error(x, octet.Hex(b), e)
		}
	}
}

func TestPutWrong(t *testing.T) {
	for i, change := range []func(o *api.Order, n int){func(o *api.Order, n int) { o.Op = n }, func(o *api.Order, n int) { o.Vip = n }, func(o *api.Order, n int) { o.Num = n }, func(o *api.Order, n int) { o.Id = n }} {
		most := 255
		if i == 3 {
			most = 65535
		}
		for _, n := range []int{math.MinInt, -1, 0, 1, most, most + 1, math.MaxInt} {
			o := messages()[0].o
			change(&o, n)
			b, e := Put(key, o)
			if n < 0 || n > most {
				if e != api.ErrArg || len(b) != 0 {
					t.Error(i, n, b, e)
				}
			} else if got, e := Parse(key, b); len(b) != 28 || e != api.OK || got != o {
				t.Error(i, n, b, got, e)
			}
		}
	}
}

func TestParse(t *testing.T) {
	for _, x := range messages() {
		raw, _ := octet.Unhex(x.text)
		b := roomy.Bytes(raw...)
		if o, e := Parse(x.k, b); o != x.o || e != api.OK || !roomy.Untouched(b, raw...) {
			t.Error(x, o, e)
		}
	}
}

func TestParseWrong(t *testing.T) {
	b, _ := octet.Unhex(messages()[0].text)
	for n := range 40 {
		l := octet.Join(b, make([]byte, 20))[:n]
		if o, e := Parse(key, l); n != 28 && (o != api.Order{} || e != api.ErrForm) {
			t.Error(n, o, e)
		}
	}
	for i := range b {
		for bit := range 8 {
			l := octet.Join(b)
			l[i] ^= 1 << bit
			if o, e := Parse(key, l); o != (api.Order{}) || e != api.ErrTag {
				t.Error(i, bit, o, e)
			}
		}
	}
	if o, e := Parse(api.Key{Lo: key.Lo, Hi: key.Hi + 1}, b); o != (api.Order{}) || e != api.ErrTag {
		t.Error(o, e)
	}
}

// P34.2

// reply is an answer with its bytes by a key, as another program told them.
type reply struct {
	k    api.Key
	n    uint64
	code byte
	text string
	all  string
}

func replies() []reply {
	return []reply{
		{key, 0x0102030405060708, 9, "", "010203040506070809fdbb8a81b0238000"},
		{api.Key{Lo: 1, Hi: 2}, math.MaxUint64, 255, "linkboy", "ffffffffffffffffff6c696e6b626f799f605da0a1f6550f"},
	}
}

func TestAnswer(t *testing.T) {
	for _, x := range replies() {
		text := roomy.Bytes([]byte(x.text)...)
		b := Answer(x.k, x.n, x.code, text)
		if octet.Hex(b) != x.all || !roomy.Untouched(text, []byte(x.text)...) || !roomy.Apart(b, text) {
			t.Error(x, octet.Hex(b))
		}
	}
}

func TestOpen(t *testing.T) {
	for _, x := range replies() {
		raw, _ := octet.Unhex(x.all)
		b := roomy.Bytes(raw...)
		n, code, text, e := Open(x.k, b)
		if n != x.n || code != x.code || string(text) != x.text || e != api.OK || !roomy.Untouched(b, raw...) || !roomy.Apart(text, b) {
			t.Error(x, n, code, text, e)
		}
	}
}

func TestOpenWrong(t *testing.T) {
	all := Answer(key, 7, 8, []byte{1, 2, 3})
	wrong := func(b []byte, want api.Errno) {
		t.Helper()
		if n, code, text, e := Open(key, b); n != 0 || code != 0 || len(text) != 0 || e != want {
			t.Error(b, n, code, text, e)
		}
	}
	for n := range 17 {
		wrong(all[:n], api.ErrForm)
		wrong(Answer(key, 7, 8, nil)[:n], api.ErrForm)
	}
	wrong(all[:17], api.ErrTag)
	wrong(all[:19], api.ErrTag)
	wrong(octet.Join(all, []byte{0}), api.ErrTag)
	wrong(make([]byte, 17), api.ErrTag)
	for i := range all {
		b := octet.Join(all)
		b[i] ^= 1
		wrong(b, api.ErrTag)
	}
	wrong(Answer(api.Key{}, 7, 8, nil), api.ErrTag)
}

// P34.3

func TestWhatWasPutIsRead(t *testing.T) {
	r := rand.New(rand.NewSource(34))
	for range 2000 {
		k := api.Key{Lo: r.Uint64(), Hi: r.Uint64()}
		o := api.Order{Count: r.Uint64(), Op: r.Intn(256), Id: r.Intn(65536), Vip: r.Intn(256), Addr: r.Uint32(), Port: uint16(r.Uint32()), Proto: byte(r.Uint32()), Num: r.Intn(256)}
		b, e := Put(k, o)
		if got, err := Parse(k, b); e != api.OK || err != api.OK || got != o {
			t.Fatal(o, got, e, err)
		}
		text := make([]byte, r.Intn(200))
		r.Read(text)
		n, code, got, e := Open(k, Answer(k, o.Count, o.Proto, text))
		if n != o.Count || code != o.Proto || !bytes.Equal(got, text) || e != api.OK {
			t.Fatal(o, n, code, got, e)
		}
	}
}
