// Package things: a document, once it is read: a thing, and what is in it.
package things

// Thing is one of the types of this package, and nothing else.
type Thing interface {
	isThing()
}

// Nothing is null.
type Nothing struct{}

// Truth is true or false.
type Truth bool

// Number is an integer.
type Number int64

// Text is valid UTF-8.
type Text string

// Bytes are any bytes.
type Bytes []byte

// List is a list of things.
type List []Thing

// Map has entries in an order, no two with the same key.
type Map []Entry

// Entry is a key of a map with its thing. The key is valid UTF-8.
type Entry struct {
	Key   string
	Thing Thing
}

func (Nothing) isThing() {}
func (Truth) isThing()   {}
func (Number) isThing()  {}
func (Text) isThing()    {}
func (Bytes) isThing()   {}
func (List) isThing()    {}
func (Map) isThing()     {}

// HasBytes tells whether a thing is bytes, or bytes are within it.
func HasBytes(t Thing) bool {
	switch t := t.(type) {
	case Bytes:
		return true
	case List:
		for _, inner := range t {
			if HasBytes(inner) {
				return true
			}
		}
	case Map:
		for _, entry := range t {
			if HasBytes(entry.Thing) {
				return true
			}
		}
	}
	return false
}
