package heaptest

import (
	"testing"

	"shunter/api"
	"shunter/nursery"
)

func TestHeapsAreGood(t *testing.T) {
	r := NewRandom(3)
	lowest, youngest, pinned, popular, young := 0, 0, 0, 0, 0
	for i := range 200 {
		h := r.Heap(i%2 == 0)
		if rule, e := nursery.Check(h); rule != 0 || e != api.OK {
			t.Fatal(rule, e)
		}
		if !Equal(h, h) {
			t.Fatal("Equal")
		}
		lowest += min(1, len(h.Trains.Lowest))
		youngest += min(1, len(h.Trains.Youngest))
		pinned += min(1, h.Pin)
		young += min(1, h.Top)
		for _, f := range h.Frames {
			popular += f.State / api.FrPopular
		}
	}
	if min(lowest, youngest, pinned, popular, young) < 20 {
		t.Error(lowest, youngest, pinned, popular, young)
	}
}
