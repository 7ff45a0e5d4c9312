package reading

import "unicode/utf8"

// gathered holds the bytes of a text that is being read.
type gathered struct {
	bytes []byte
	whole int // how many of them are whole characters
}

// add tells false, if with this byte the bytes behind the last whole character stop to begin one.
func (g *gathered) add(b byte) bool {
	g.bytes = append(g.bytes, b)
	last := g.bytes[g.whole:]
	// Bytes that can't begin a character count as full, too.
	if !utf8.FullRune(last) {
		return true
	}
	if char, size := utf8.DecodeRune(last); char == utf8.RuneError && size == 1 {
		return false
	}
	g.whole = len(g.bytes)
	return true
}

func (g *gathered) addCharacter(char rune) {
	g.bytes = utf8.AppendRune(g.bytes, char)
	g.whole = len(g.bytes)
}

func (g *gathered) isWhole() bool {
	return g.whole == len(g.bytes)
}

// keys are the keys that stand in a map already.
type keys map[string]struct{}

// add tells false, if the key is there already.
func (k keys) add(key string) bool {
	if _, twice := k[key]; twice {
		return false
	}
	k[key] = struct{}{}
	return true
}
