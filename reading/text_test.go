package reading

import (
	"testing"
	"unicode/utf8"
)

// beginnings tells of bytes whether they begin a character (1) or are one (2), from all characters that there are.
func beginnings() map[string]int {
	known := map[string]int{}
	for char := rune(0); char <= utf8.MaxRune; char++ {
		if char >= 0xd800 && char <= 0xdfff {
			continue
		}
		text := string(char)
		for length := 1; length < len(text); length++ {
			known[text[:length]] = 1
		}
		known[text] = 2
	}
	return known
}

// TestBytesOfCharacters adds every byte behind every beginning of a character.
func TestBytesOfCharacters(t *testing.T) {
	known := beginnings()
	var grow func(begun string)
	grow = func(begun string) {
		for b := range 256 {
			text := gathered{bytes: []byte("é" + begun), whole: 2}
			next := begun + string([]byte{byte(b)})
			right := text.add(byte(b))
			if right != (known[next] > 0) || right && text.isWhole() != (known[next] == 2) {
				t.Fatalf("the bytes %x: added %v, whole %v", next, right, text.isWhole())
			}
			if known[next] == 1 {
				grow(next)
			}
		}
	}
	grow("")
}

func TestCharactersThatAreAdded(t *testing.T) {
	var text gathered
	for _, char := range "a\u0000é\ufffd\U0010ffff" {
		text.addCharacter(char)
		if !text.isWhole() {
			t.Errorf("not whole behind %U", char)
		}
	}
	if string(text.bytes) != "a\u0000é\ufffd\U0010ffff" {
		t.Errorf("the characters became %q", text.bytes)
	}
}

func TestKeys(t *testing.T) {
	known := keys{}
	for _, k := range []struct {
		key string
		new bool
	}{{"a", true}, {"", true}, {"a", false}, {"A", true}, {"", false}, {"a\u0301", true}, {"á", true}} {
		if known.add(k.key) != k.new {
			t.Errorf("the key %q: new is not %v", k.key, k.new)
		}
	}
}
