package impl

const OK = 0
const ErrForm = 1
const ErrMany = 2
const ErrRange = 3
const ErrNone = 4
const ErrText = 5
const ErrSum = 6
const ErrTaken = 7
const ErrWait = 8
const ErrVictim = 9
const ErrState = 10
const MaxKey = 99
const MaxValue = 9999
const LeafRows = 4

type Row struct {
	Key   int64
	Value int64
	Ghost bool
}
type RowsResult struct {
	Code int64
	Rows []Row
}
type IntResult struct {
	Code  int64
	Value int64
}
type IntsResult struct {
	Code int64
	List []int64
}
type BytesResult struct {
	Code  int64
	Bytes []byte
}
type TextResult struct {
	Code int64
	Text string
}

// rowBytes is a row in a page, as one array, so that no reader holds on to the page's own bytes.
type rowBytes [4]byte

// unreadable is what a reader panics with: the code that the face answers for it.
type unreadable int64

func isKey(key int64) bool {
	return 0 <= key && key <= MaxKey
}

func isValue(value int64) bool {
	return 0 <= value && value <= MaxValue
}

func RowFault(r Row) int64 {
	if !isKey(r.Key) || !isValue(r.Value) {
		return ErrRange
	}
	if r.Ghost && r.Value != 0 {
		return ErrForm
	}
	return OK
}

func PageFault(rows []Row) int64 {
	if len(rows) > LeafRows {
		return ErrMany
	}
	for i, r := range rows {
		if code := RowFault(r); code != OK {
			return code
		}
		if i > 0 && r.Key <= rows[i-1].Key {
			return ErrForm
		}
	}
	return OK
}

func PackPage(rows []Row) BytesResult {
	if code := PageFault(rows); code != OK {
		return BytesResult{Code: code}
	}
	data := []byte{byte(len(rows))}
	for _, r := range rows {
		packed := packRow(r)
		data = append(data, packed[:]...)
	}
	return BytesResult{Bytes: appendSum(data)}
}

func UnpackPage(data []byte) (result RowsResult) {
	defer func() {
		if fault := recover(); fault != nil {
			result = RowsResult{Code: codeOfPanic(fault)}
		}
	}()
	return RowsResult{Rows: readPage(data)}
}

func SumBytes(data []byte) int64 {
	var sum int64 = 5
	for _, b := range data {
		sum = (sum*263 + int64(b) + 1) % 65521
	}
	return sum
}

func packRow(r Row) rowBytes {
	packed := rowBytes{byte(r.Key), highByte(r.Value), lowByte(r.Value), 0}
	if r.Ghost {
		packed[3] = 1
	}
	return packed
}

func highByte(n int64) byte {
	return byte(uint16(n) >> 8)
}

func lowByte(n int64) byte {
	return byte(uint16(n))
}

func joinBytes(high byte, low byte) int64 {
	return int64(uint16(high)<<8 | uint16(low))
}

func appendSum(data []byte) []byte {
	sum := SumBytes(data)
	return append(data, highByte(sum), lowByte(sum))
}

func readPage(data []byte) []Row {
	if len(data) == 0 || len(data) != 3+len(rowBytes{})*int(data[0]) {
		panic(unreadable(ErrText))
	}
	end := len(data) - 2
	if joinBytes(data[end], data[end+1]) != SumBytes(data[:end]) {
		panic(unreadable(ErrSum))
	}
	rows := readRows(data[1:end])
	if PageFault(rows) != OK {
		panic(unreadable(ErrForm))
	}
	return rows
}

func readRows(data []byte) []Row {
	var rows []Row
	for at := 0; at < len(data); at += len(rowBytes{}) {
		var packed rowBytes
		copy(packed[:], data[at:])
		rows = append(rows, readRow(packed))
	}
	return rows
}

func readRow(packed rowBytes) Row {
	if packed[3] > 1 {
		panic(unreadable(ErrForm))
	}
	return Row{
		Key:   int64(packed[0]),
		Value: joinBytes(packed[1], packed[2]),
		Ghost: packed[3] == 1,
	}
}

// codeOfPanic has an answer for every panic, since none may leave a face.
func codeOfPanic(fault any) int64 {
	if code, ok := fault.(unreadable); ok {
		return int64(code)
	}
	return ErrText
}
