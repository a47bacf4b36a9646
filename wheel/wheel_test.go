package wheel

import (
	"cmp"
	"math"
	"math/rand"
	"slices"
	"testing"

	"linkboy/api"
)

// turns tells whether a turn tells these alarms.
func turns(t *testing.T, w *Wheel, n int, want ...api.Alarm) {
	t.Helper()
	if got := w.Turn(n); !slices.Equal(got, want) {
		t.Errorf("%d ticks, now %d: %v instead of %v", n, w.Now(), got, want)
	}
}

// sets tells whether alarms are set.
func sets(t *testing.T, w *Wheel, want bool, l ...api.Alarm) {
	t.Helper()
	for _, a := range l {
		if w.Set(a) != want {
			t.Errorf("%v at %d: %v", a, w.Now(), !want)
		}
	}
}

// at tells whether an alarm is due then.
func at(t *testing.T, w *Wheel, id, want int, set bool) {
	t.Helper()
	if n, ok := w.At(id); n != want || ok != set {
		t.Errorf("%d: %d, %v", id, n, ok)
	}
}

// P17.1

func TestNew(t *testing.T) {
	for _, c := range []struct{ now, want int }{
		{math.MinInt, 0}, {-1, 0}, {0, 0}, {1, 1}, {1<<30 - 1, 1<<30 - 1}, {1 << 30, 1 << 30}, {1<<30 + 1, 1 << 30}, {math.MaxInt, 1 << 30},
	} {
		w := New(c.now)
		if w.Now() != c.want || w.Len() != 0 {
			t.Error(c, w.Now(), w.Len())
		}
		turns(t, w, 4095)
	}
}

func TestSet(t *testing.T) {
	for _, now := range []int{0, 1, 15, 16, 255, 256, 4095, 4096, 12345, 1 << 30} {
		w := New(now)
		sets(t, w, false, api.Alarm{Id: 1, At: now}, api.Alarm{Id: 1, At: now - 1}, api.Alarm{Id: 1, At: now + 4096}, api.Alarm{Id: 1, At: math.MinInt}, api.Alarm{Id: 1, At: math.MaxInt}, api.Alarm{Id: 1, At: -now - 1})
		if w.Len() != 0 {
			t.Error(w.Len())
		}
		sets(t, w, true, api.Alarm{Id: 1, At: now + 1}, api.Alarm{Id: 2, At: now + 4095}, api.Alarm{Id: math.MinInt, At: now + 1}, api.Alarm{Id: math.MaxInt, At: now + 300}, api.Alarm{At: now + 16})
		sets(t, w, false, api.Alarm{Id: 1, At: now + 1}, api.Alarm{Id: 1, At: now + 2}, api.Alarm{Id: 2, At: now + 1}, api.Alarm{Id: 0, At: now + 300})
		if w.Len() != 5 {
			t.Error(w.Len())
		}
		at(t, w, 1, now+1, true)
		at(t, w, 2, now+4095, true)
		at(t, w, math.MinInt, now+1, true)
		at(t, w, math.MaxInt, now+300, true)
		at(t, w, 0, now+16, true)
		at(t, w, 3, 0, false)
	}
}

func TestSetOverflows(t *testing.T) {
	w := New(10)
	sets(t, w, false, api.Alarm{At: math.MinInt}, api.Alarm{At: math.MinInt + 10}, api.Alarm{At: math.MinInt + 11}, api.Alarm{At: math.MaxInt})
}

func TestStop(t *testing.T) {
	w := New(5)
	sets(t, w, true, api.Alarm{Id: 1, At: 6}, api.Alarm{Id: 2, At: 6}, api.Alarm{Id: 3, At: 6}, api.Alarm{Id: 4, At: 300}, api.Alarm{Id: 5, At: 40})
	if w.Stop(9) || w.Stop(0) || w.Len() != 5 {
		t.Error("one that isn't set is stopped", w.Len())
	}
	for i, id := range []int{2, 4, 5} {
		if !w.Stop(id) || w.Stop(id) || w.Len() != 4-i {
			t.Error(id, w.Len())
		}
		at(t, w, id, 0, false)
	}
	sets(t, w, true, api.Alarm{Id: 2, At: 7})
	at(t, w, 2, 7, true)
	turns(t, w, 4095, api.Alarm{Id: 1, At: 6}, api.Alarm{Id: 3, At: 6}, api.Alarm{Id: 2, At: 7})
	if w.Stop(1) || w.Stop(2) || w.Len() != 0 {
		t.Error("what was told is set still")
	}
}

// P17.2

func TestTurn(t *testing.T) {
	w := New(0)
	sets(t, w, true, api.Alarm{Id: 1, At: 300})
	turns(t, w, 299)
	at(t, w, 1, 300, true)
	turns(t, w, 1, api.Alarm{Id: 1, At: 300})
	at(t, w, 1, 0, false)
	turns(t, w, 1)
	if w.Now() != 301 || w.Len() != 0 {
		t.Error(w.Now(), w.Len())
	}
	sets(t, w, true, api.Alarm{Id: 1, At: 302})
	turns(t, w, 1, api.Alarm{Id: 1, At: 302})
}

func TestTurnHowFar(t *testing.T) {
	w := New(7)
	sets(t, w, true, api.Alarm{Id: 1, At: 8}, api.Alarm{Id: 2, At: 4102})
	turns(t, w, 0)
	turns(t, w, -1)
	turns(t, w, math.MinInt)
	if w.Now() != 7 {
		t.Error(w.Now())
	}
	turns(t, w, math.MaxInt, api.Alarm{Id: 1, At: 8}, api.Alarm{Id: 2, At: 4102})
	if w.Now() != 4102 {
		t.Error(w.Now())
	}
	turns(t, w, 4096)
	if w.Now() != 8197 {
		t.Error(w.Now())
	}
	turns(t, w, 4095)
	turns(t, w, 4094)
	if w.Now() != 16386 {
		t.Error(w.Now())
	}
}

func TestTurnInOrder(t *testing.T) {
	w := New(250)
	l := []api.Alarm{
		{Id: -5, At: 251}, {Id: 2, At: 251}, {Id: 9, At: 251}, {Id: 1, At: 256}, {Id: 4, At: 256}, {Id: 3, At: 257},
		{Id: math.MinInt, At: 600}, {Id: 0, At: 600}, {Id: 50, At: 600}, {Id: math.MaxInt, At: 600}, {Id: -1, At: 4345},
	}
	for _, i := range []int{7, 3, 10, 1, 9, 0, 5, 8, 2, 6, 4} {
		sets(t, w, true, l[i])
	}
	turns(t, w, 4095, l...)
}

// TestTurnInOrderByParts has alarms of one tick come by rows of their own, and be told by their Ids.
func TestTurnInOrderByParts(t *testing.T) {
	w := New(0)
	sets(t, w, true, api.Alarm{Id: 3, At: 530})
	w.Turn(400)
	sets(t, w, true, api.Alarm{Id: 2, At: 530})
	w.Turn(115)
	sets(t, w, true, api.Alarm{Id: 4, At: 530})
	w.Turn(14)
	sets(t, w, true, api.Alarm{Id: 1, At: 530})
	turns(t, w, 1, api.Alarm{Id: 1, At: 530}, api.Alarm{Id: 2, At: 530}, api.Alarm{Id: 3, At: 530}, api.Alarm{Id: 4, At: 530})
}

func TestAnswersStay(t *testing.T) {
	w := New(0)
	sets(t, w, true, api.Alarm{Id: 1, At: 1}, api.Alarm{Id: 2, At: 1})
	l := w.Turn(1)
	for i := range 100 {
		sets(t, w, true, api.Alarm{Id: i, At: 2 + i})
	}
	w.Turn(200)
	if !slices.Equal(l, []api.Alarm{{Id: 1, At: 1}, {Id: 2, At: 1}}) {
		t.Error(l)
	}
}

func TestNil(t *testing.T) {
	var w *Wheel
	sets(t, w, false, api.Alarm{Id: 1, At: 1})
	at(t, w, 1, 0, false)
	turns(t, w, 1)
	if w.Stop(1) || w.Len() != 0 || w.Now() != 0 {
		t.Error("of nil something is answered")
	}
}

// P17.3

// TestEachTickOnce has an alarm for each distance that may be, from many a place of the wheel.
func TestEachTickOnce(t *testing.T) {
	for _, now := range []int{0, 1, 14, 15, 16, 17, 239, 240, 254, 255, 256, 257, 271, 3839, 3840, 4080, 4095, 4096, 1<<30 - 1, 1 << 30} {
		w := New(now)
		for d := 4095; d > 0; d -= 1 + d%3 {
			sets(t, w, true, api.Alarm{Id: d, At: now + d})
		}
		n := w.Len()
		for range 4095 {
			at, ok := w.At(w.Now() - now + 1)
			l := w.Turn(1)
			if ok != (len(l) == 1) || len(l) > 1 || ok && (l[0].At != w.Now() || l[0].At != at) {
				t.Fatal(now, w.Now(), l)
			}
			n -= len(l)
		}
		if n != 0 || w.Len() != 0 {
			t.Error(now, n, w.Len())
		}
	}
}

// TestAgainstRow holds a wheel against a plain row, whatever is done.
func TestAgainstRow(t *testing.T) {
	r := rand.New(rand.NewSource(17))
	for range 60 {
		now := r.Intn(1 << (1 + r.Intn(30)))
		w := New(now)
		var row []api.Alarm
		for range 600 {
			id := r.Intn(60)
			i := slices.IndexFunc(row, func(a api.Alarm) bool { return a.Id == id })
			switch r.Intn(5) {
			case 0, 1, 2:
				d := r.Intn(1<<(1+r.Intn(13))) - 2
				a := api.Alarm{Id: id, At: now + d}
				may := i < 0 && d > 0 && d < 4096
				sets(t, w, may, a)
				if may {
					row = append(row, a)
				}
			case 3:
				if w.Stop(id) != (i >= 0) {
					t.Fatal("stop", id, i)
				}
				if i >= 0 {
					row = slices.Delete(row, i, i+1)
				}
			case 4:
				n := r.Intn(1<<(1+r.Intn(12))) - 1
				now += max(n, 0)
				slices.SortFunc(row, func(a, b api.Alarm) int { return cmp.Or(cmp.Compare(a.At, b.At), cmp.Compare(a.Id, b.Id)) })
				k := 0
				for k < len(row) && row[k].At <= now {
					k++
				}
				turns(t, w, n, row[:k]...)
				row = slices.Clone(row[k:])
			}
			want := 0
			if i = slices.IndexFunc(row, func(a api.Alarm) bool { return a.Id == id }); i >= 0 {
				want = row[i].At
			}
			at(t, w, id, want, i >= 0)
			if w.Now() != now || w.Len() != len(row) {
				t.Fatal(w.Now(), now, w.Len(), len(row))
			}
		}
	}
}
