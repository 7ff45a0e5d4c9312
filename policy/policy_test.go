package policy

import (
	"reflect"
	"regexp"
	"strings"
	"testing"
	"unicode/utf8"
	"unsafe"

	"redact/api"
)

func TestRulesThatAreRead(t *testing.T) {
	got, errno, line := Read("user/ssn 2 mask\n**/pin 1 drop\nlog/[]/* 1 tag\n. 0 drop", 3)
	want := []Rule{
		{[]Segment{{KeyStep, "user"}, {KeyStep, "ssn"}}, 2, api.Mask},
		{[]Segment{{Kind: AnySteps}, {KeyStep, "pin"}}, 1, api.Drop},
		{[]Segment{{KeyStep, "log"}, {Kind: ListStep}, {Kind: AnyStep}}, 1, api.Tag},
		{nil, 0, api.Drop},
	}
	if errno != api.OK || line != 0 || !reflect.DeepEqual(got, want) {
		t.Errorf("Read = %v, %d, %d", got, errno, line)
	}
	if got, errno, line := Read("", 1); len(got) != 0 || errno != api.OK || line != 0 {
		t.Errorf("Read of no bytes = %v, %d, %d", got, errno, line)
	}
}

const segmentForm = `(\*|\*\*|\[\]|[^\x00-\x20*\[\]/.]{1,16})`

var ruleForm = regexp.MustCompile(`^(\.|` + segmentForm + `(/` + segmentForm + `){0,7}) [0-2] (drop|mask|tag)$`)

func isRule(line string) bool { return utf8.ValidString(line) && ruleForm.MatchString(line) }

// each hands on every text of up to most of these parts.
func each(parts []string, most int, do func(string)) {
	var grow func(text string, left int)
	grow = func(text string, left int) {
		do(text)
		if left > 0 {
			for _, p := range parts {
				grow(text+p, left-1)
			}
		}
	}
	grow("", most)
}

func compare(t *testing.T, line string) {
	t.Helper()
	rules, errno, number := Read(line, 3)
	if isRule(line) {
		if errno != api.OK || number != 0 || len(rules) != 1 {
			t.Fatalf("Read(%q) = %v, %d, %d", line, rules, errno, number)
		}
	} else if errno != api.ErrPolicy || number != 0 || rules != nil {
		t.Fatalf("Read(%q) = %v, %d, %d, want ErrPolicy, 0", line, rules, errno, number)
	}
}

// TestAllShortPatterns holds short patterns against the grammar written as a regular expression.
func TestAllShortPatterns(t *testing.T) {
	parts := []string{"a", "*", "[", "]", "/", ".", " ", "é", "\ufffd", "\xff", "\t"}
	each(parts, 4, func(pattern string) { compare(t, pattern+" 0 drop") })
	long := strings.Repeat("b", 15)
	each([]string{"a", "é", "/", long, "**", "[]", "\xc3"}, 5, func(pattern string) { compare(t, pattern+" 0 drop") })
}

func TestAllShortLines(t *testing.T) {
	parts := []string{"a", " ", "0", "2", "3", "9", "drop", "mask", "tag", ".", "Tag"}
	each(parts, 5, func(line string) {
		if line != "" {
			compare(t, line)
		}
	})
}

func TestEveryCharacterAlone(t *testing.T) {
	for char := rune(0); char <= utf8.MaxRune; char++ {
		if char == '\n' || !utf8.ValidRune(char) {
			continue
		}
		line := string(char) + " 0 drop"
		_, errno, _ := Read(line, 1)
		right := char > ' ' && !strings.ContainsRune("[]/", char)
		if (errno == api.OK) != right {
			t.Fatalf("the pattern %U: %d", char, errno)
		}
	}
}

func TestWrongBytes(t *testing.T) {
	for _, bytes := range []string{"\x80", "\xc3", "a\xc3", "\xc3b", "\xe2\x82", "\xf0\x9f\x98", "\xc0\xaf", "\xe0\x80\xaf", "\xed\xa0\x80", "\xed\xbf\xbf", "\xf4\x90\x80\x80", "\xfe", "é\xff"} {
		for _, pattern := range []string{bytes, "x/" + bytes, bytes + "/x"} {
			if rules, errno, line := Read(pattern+" 0 drop", 1); errno != api.ErrPolicy || line != 0 || rules != nil {
				t.Errorf("Read of the pattern %q = %v, %d, %d", pattern, rules, errno, line)
			}
		}
	}
}

func TestCounts(t *testing.T) {
	segments := func(n int) string { return strings.TrimSuffix(strings.Repeat("**/", n), "/") + " 0 drop" }
	for _, k := range []struct {
		text string
		e    api.Errno
		line int
	}{
		{segments(api.MaxSegments), api.OK, 0},
		{segments(api.MaxSegments + 1), api.ErrPolicy, 0},
		{strings.Repeat("x", api.MaxLiteral) + " 0 drop", api.OK, 0},
		{strings.Repeat("x", api.MaxLiteral+1) + " 0 drop", api.ErrPolicy, 0},
		{strings.Repeat("\U0010ffff", api.MaxLiteral) + " 0 drop", api.OK, 0},
		{strings.Repeat("\U0010ffff", api.MaxLiteral+1) + " 0 drop", api.ErrPolicy, 0},
		// A mark that goes onto a letter is a character by itself.
		{strings.Repeat("e\u0301", api.MaxLiteral/2) + " 0 drop", api.OK, 0},
		{strings.Repeat("e\u0301", api.MaxLiteral/2) + "e 0 drop", api.ErrPolicy, 0},
		{"\n", api.ErrPolicy, 0},
		{". 0 drop\n", api.ErrPolicy, 1},
		{". 0 drop\n\n. 0 drop", api.ErrPolicy, 1},
		{strings.Repeat(". 0 drop\n", api.MaxRules-1) + ". 0 drop", api.OK, 0},
		{strings.Repeat(". 0 drop\n", api.MaxRules-1), api.ErrPolicy, api.MaxRules - 1},
		{strings.Repeat(". 0 drop\n", api.MaxRules), api.ErrPolicy, api.MaxRules},
		{strings.Repeat(". 0 drop\n", api.MaxRules+5), api.ErrPolicy, api.MaxRules},
		{strings.Repeat(". 0 drop\n", 2) + ". 1 drop\n" + strings.Repeat(". 0 drop\n", api.MaxRules), api.ErrPolicy, 2},
	} {
		if _, e, line := Read(k.text, 1); e != k.e || line != k.line {
			t.Errorf("Read(%.60q) = %d, %d, want %d, %d", k.text, e, line, k.e, k.line)
		}
	}
}

// patternOf makes a right pattern of 1 to 128 bytes.
func patternOf(bytes int) string {
	text := strings.Repeat(strings.Repeat("x", 15)+"/", 8)[:bytes]
	if strings.HasSuffix(text, "/") {
		text = text[:bytes-1] + "x"
	}
	return text
}

// policyOf makes a policy of so many bytes, all of whose lines are right.
func policyOf(bytes int) string {
	const end = " 0 drop"
	text := strings.Repeat(patternOf(128)+end+"\n", 14)
	return text + patternOf(bytes-len(text)-len(end)) + end
}

func TestBytesOfAPolicy(t *testing.T) {
	if rules, e, line := Read(policyOf(api.MaxPolicy), 1); len(rules) != 15 || e != api.OK || line != 0 {
		t.Errorf("a policy of MaxPolicy bytes: %d rules, %d, %d", len(rules), e, line)
	}
	wrong := strings.Repeat("x 0 drop\n", 3) + "?"
	for _, text := range []string{policyOf(api.MaxPolicy + 1), wrong + strings.Repeat(" ", api.MaxPolicy), strings.Repeat("\n", 1<<20)} {
		if rules, e, line := Read(text, 1); rules != nil || e != api.ErrPolicy || line != 0 {
			t.Errorf("a policy of %d bytes: %d rules, %d, %d, want ErrPolicy, 0", len(text), len(rules), e, line)
		}
	}
}

func TestLabelsOfRules(t *testing.T) {
	for labels := 1; labels <= api.MaxLabels; labels++ {
		for char := range 256 {
			if char == '\n' {
				continue
			}
			_, e, _ := Read("a "+string([]byte{byte(char)})+" tag", labels)
			if (e == api.OK) != (char >= '0' && char < '0'+labels) {
				t.Errorf("of %d labels, the byte %d as a label: %d", labels, char, e)
			}
		}
	}
}

// TestReadKeepsNothing: rules share no memory with the text.
func TestReadKeepsNothing(t *testing.T) {
	text := []byte("user/*/ssn 1 drop")
	rules, errno, _ := Read(unsafe.String(&text[0], len(text)), 2)
	if errno != api.OK {
		t.Fatalf("Read = %d", errno)
	}
	for i := range text {
		text[i] = '#'
	}
	want := []Segment{{KeyStep, "user"}, {AnyStep, ""}, {KeyStep, "ssn"}}
	if !reflect.DeepEqual(rules[0].Pattern, want) {
		t.Errorf("the pattern is %v", rules[0].Pattern)
	}
}
