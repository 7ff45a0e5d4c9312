package reading

import "testing"

// TestCBORHeads goes through the sorts and, for each, through all lower bits.
func TestCBORHeads(t *testing.T) {
	for upper, s := range map[int]sort{0: unsignedSort, 1: negativeSort, 2: bytesSort, 3: textSort, 4: listSort, 5: mapSort} {
		for lower := range 32 {
			want := head{}
			switch {
			case lower <= 23:
				want = head{sort: s, argument: uint64(lower)}
			case lower <= 27:
				want = head{sort: s, width: []int{1, 2, 4, 8}[lower-24]}
			}
			if got := cborHead(byte(upper<<5 | lower)); got != want {
				t.Errorf("the head of sort %d with %d: %v, want %v", upper, lower, got, want)
			}
		}
	}
	others := map[int]sort{0xf4: falseSort, 0xf5: trueSort, 0xf6: nothingSort}
	for first := 6 << 5; first < 256; first++ {
		if got := cborHead(byte(first)); got != (head{sort: others[first]}) {
			t.Errorf("the head %x: %v", first, got)
		}
	}
}

// TestPackHeads has a row for each run of first bytes: what the argument is less than the byte, or how many bytes tell it.
func TestPackHeads(t *testing.T) {
	rows := []struct {
		from, to int
		sort     sort
		less     int
		width    int
	}{
		{0, 127, unsignedSort, 0, 0}, {128, 143, mapSort, 128, 0}, {144, 159, listSort, 144, 0}, {160, 191, textSort, 160, 0},
		{192, 192, nothingSort, 192, 0}, {193, 193, noSort, 193, 0}, {194, 194, falseSort, 194, 0}, {195, 195, trueSort, 195, 0},
		{196, 196, bytesSort, 196, 1}, {197, 197, bytesSort, 197, 2}, {198, 198, bytesSort, 198, 4},
		{204, 204, unsignedSort, 204, 1}, {205, 205, unsignedSort, 205, 2}, {206, 206, unsignedSort, 206, 4}, {207, 207, unsignedSort, 207, 8},
		{208, 208, signedSort, 208, 1}, {209, 209, signedSort, 209, 2}, {210, 210, signedSort, 210, 4}, {211, 211, signedSort, 211, 8},
		{217, 217, textSort, 217, 1}, {218, 218, textSort, 218, 2}, {219, 219, textSort, 219, 4},
		{220, 220, listSort, 220, 2}, {221, 221, listSort, 221, 4}, {222, 222, mapSort, 222, 2}, {223, 223, mapSort, 223, 4},
		{224, 255, signedSort, 256, 0},
	}
	var told [256]bool
	for _, row := range rows {
		for first := row.from; first <= row.to; first++ {
			told[first] = true
			want := head{sort: row.sort, width: row.width, argument: uint64(first - row.less)}
			if got := packHead(byte(first)); got != want {
				t.Errorf("the head %d: %v, want %v", first, got, want)
			}
		}
	}
	for first, known := range told {
		if got := packHead(byte(first)); !known && got != (head{}) {
			t.Errorf("the head %d: %v", first, got)
		}
	}
}
