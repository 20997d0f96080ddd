package wire

import "rime/api"

// reader goes through bytes from the front and gives up at the first fault. It knows which field it reads, and where that began: of this it tells, whatever is wrong.
type reader struct {
	bytes []byte
	at    int
	field string
	begun int
}

func (r *reader) begin(field string) { r.field, r.begun = field, r.at }

func (r *reader) wrong(why api.Errno) { giveUp(r.field, r.begun, why) }

// take: the next bytes, where they lie: what is to be told is copied out of them.
func (r *reader) take(count int) []byte {
	if count > len(r.bytes)-r.at {
		r.wrong(api.ErrLength)
	}
	r.at += count
	return r.bytes[r.at-count : r.at]
}

// number: so many bytes, at most four, the highest first.
func (r *reader) number(size int) uint32 {
	var n uint32
	for _, b := range r.take(size) {
		n = n<<8 | uint32(b)
	}
	return n
}

// readHead: the kind and the whole frame's length. Where the bytes end within the head, that is told of the frame, at their end.
func readHead(b []byte) (api.Kind, int) {
	r := reader{bytes: b, field: "frame", begun: len(b)}
	for i := range len(magic) {
		if r.take(1)[0] != magic[i] {
			giveUp("magic", i, api.ErrMagic)
		}
	}
	if r.number(1) != version {
		giveUp("version", atVersion, api.ErrVersion)
	}
	kind := api.Kind(r.number(1))
	if !isKind(kind) {
		giveUp("kind", atKind, api.ErrKind)
	}
	length := r.number(4)
	if length > api.MaxBody {
		giveUp("length", atLength, api.ErrLong)
	}
	return kind, headSize + int(length) + sumSize
}

// readFrame: the message of a frame whose head, length and sum are right, and whose body is.
func readFrame(b []byte) api.Message {
	kind, size := readHead(b)
	if len(b) < size {
		giveUp("frame", len(b), api.ErrLength)
	}
	if len(b) > size {
		giveUp("tail", size, api.ErrTail)
	}
	atSum := size - sumSize
	if sumOf(b[:atSum]) != [sumSize]byte(b[atSum:]) {
		giveUp("sum", atSum, api.ErrSum)
	}
	body := reader{bytes: b[:atSum], at: headSize}
	return body.message(kind)
}

func (r *reader) message(kind api.Kind) api.Message {
	m := api.Message{Kind: kind}
	m.Session = api.Hash(r.word("session"))
	m.From = r.party("from")
	m.To = r.party("to")
	switch kind {
	case api.KindCommit:
		m.Pair = r.pair("pair")
	case api.KindPackage:
		m.List = r.list()
		m.Text = r.text()
	case api.KindShare:
		m.Pair = r.pair("pair")
		m.Bind = api.Hash(r.word("bind"))
		m.Share = api.Scalar(r.word("share"))
	case api.KindRefuse:
		m.Code = r.code()
	case api.KindDone:
		m.Sig = r.signature()
	}
	r.end()
	return m
}

// word: a field of 32 bytes.
func (r *reader) word(field string) [32]byte {
	r.begin(field)
	return [32]byte(r.take(32))
}

func (r *reader) party(field string) int {
	r.begin(field)
	return int(r.number(1))
}

// pair: a commitment. That it is whole is asked ahead of its identifier.
func (r *reader) pair(field string) api.Commitment {
	r.begin(field)
	id := int(r.number(1))
	c := api.Commitment{ID: id, Hiding: api.Element(r.take(32)), Binding: api.Element(r.take(32))}
	if id == 0 {
		r.wrong(api.ErrID)
	}
	return c
}

// list: each commitment is a field of its own, so that a fault tells which one is wrong.
func (r *reader) list() []api.Commitment {
	r.begin("list")
	var list []api.Commitment
	for range r.number(1) {
		list = append(list, r.pair("list"))
	}
	return list
}

func (r *reader) text() []byte {
	r.begin("text")
	length := r.number(4)
	if length > api.MaxMessage {
		r.wrong(api.ErrLong)
	}
	return append([]byte(nil), r.take(int(length))...)
}

func (r *reader) code() api.Errno {
	r.begin("code")
	code := api.Errno(r.number(2))
	if code == api.OK {
		r.wrong(api.ErrArg)
	}
	return code
}

func (r *reader) signature() api.Signature {
	r.begin("sig")
	return api.Signature(r.take(64))
}

// end: nothing may stand behind the last field, or one message would have two frames.
func (r *reader) end() {
	r.begin("tail")
	if r.at < len(r.bytes) {
		r.wrong(api.ErrTail)
	}
}
