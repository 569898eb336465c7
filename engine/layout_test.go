package engine

import "testing"

// Words: W and R, and where a thread has its own, at the edges of the words of toggles.
func TestLayout(t *testing.T) {
	for _, c := range []struct{ threads, words, parts int }{
		{1, 1, 4}, {2, 1, 6}, {15, 1, 32}, {16, 1, 34}, {17, 2, 37}, {32, 2, 67}, {33, 3, 70}, {64, 4, 133},
	} {
		l := layout{threads: c.threads}
		if l.toggleWords() != c.words || l.parts() != c.parts {
			t.Errorf("%d threads: W is %d, R is %d, want %d, %d", c.threads, l.toggleWords(), l.parts(), c.words, c.parts)
		}
		last := c.threads - 1
		if l.statusAt(0) != c.words || l.valueAt(0) != l.statusAt(last)+1 || l.valueAt(last) != c.parts-2 {
			t.Errorf("%d threads: statuses from %d on, values from %d to %d", c.threads, l.statusAt(0), l.valueAt(0), l.valueAt(last))
		}
	}
	for _, c := range []struct{ thread, index, worth int }{
		{0, 0, 1}, {1, 0, 2}, {15, 0, 1 << 15}, {16, 1, 1}, {31, 1, 1 << 15}, {63, 3, 1 << 15},
	} {
		if index, worth := toggleAt(c.thread); index != c.index || worth != c.worth {
			t.Errorf("thread %d: the bit worth %d of word %d, want %d of %d", c.thread, worth, index, c.worth, c.index)
		}
	}
}

// Words: a publication has its stamp and its record, whatever they are.
func TestPublication(t *testing.T) {
	var p publication
	if p.stamp() != 0 || p.record() != 0 {
		t.Fatalf("at first: stamp %d, record %d", p.stamp(), p.record())
	}
	for stamp := 1; stamp < 1000; stamp++ {
		record := stamp * 7 % poolMost
		if p = p.next(record); p.stamp() != stamp || p.record() != record {
			t.Fatalf("stamp %d, record %d, want %d, %d", p.stamp(), p.record(), stamp, record)
		}
	}
}
