package reading

// packHeads are the heads of the first bytes from 192 to 223, which tell no argument themselves.
var packHeads = [...]head{
	192 - 192: {sort: nothingSort},
	194 - 192: {sort: falseSort},
	195 - 192: {sort: trueSort},
	196 - 192: {sort: bytesSort, width: 1},
	197 - 192: {sort: bytesSort, width: 2},
	198 - 192: {sort: bytesSort, width: 4},
	204 - 192: {sort: unsignedSort, width: 1},
	205 - 192: {sort: unsignedSort, width: 2},
	206 - 192: {sort: unsignedSort, width: 4},
	207 - 192: {sort: unsignedSort, width: 8},
	208 - 192: {sort: signedSort, width: 1},
	209 - 192: {sort: signedSort, width: 2},
	210 - 192: {sort: signedSort, width: 4},
	211 - 192: {sort: signedSort, width: 8},
	217 - 192: {sort: textSort, width: 1},
	218 - 192: {sort: textSort, width: 2},
	219 - 192: {sort: textSort, width: 4},
	220 - 192: {sort: listSort, width: 2},
	221 - 192: {sort: listSort, width: 4},
	222 - 192: {sort: mapSort, width: 2},
	223 - 192: {sort: mapSort, width: 4},
}

func packHead(first byte) head {
	switch {
	case first < 128:
		return head{sort: unsignedSort, argument: uint64(first)}
	case first < 144:
		return head{sort: mapSort, argument: uint64(first - 128)}
	case first < 160:
		return head{sort: listSort, argument: uint64(first - 144)}
	case first < 192:
		return head{sort: textSort, argument: uint64(first - 160)}
	case first < 224:
		return packHeads[first-192]
	}
	return head{sort: signedSort, argument: uint64(int8(first))}
}
