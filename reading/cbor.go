package reading

// cborSorts are the sorts that the upper three bits of a first byte tell.
var cborSorts = [...]sort{unsignedSort, negativeSort, bytesSort, textSort, listSort, mapSort, noSort, noSort}

func cborHead(first byte) head {
	switch first {
	case 7<<5 | 20:
		return head{sort: falseSort}
	case 7<<5 | 21:
		return head{sort: trueSort}
	case 7<<5 | 22:
		return head{sort: nothingSort}
	}
	upper, lower := cborSorts[first>>5], first&31
	switch {
	case upper == noSort || lower > 27:
		return head{}
	case lower >= 24:
		return head{sort: upper, width: 1 << (lower - 24)}
	}
	return head{sort: upper, argument: uint64(lower)}
}
