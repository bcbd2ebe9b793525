package script

import "countermand/api"

const kinds = 15

// Fields of a step, in the order in which a line has them.
const (
	fieldR = iota
	fieldI
	fieldN
	fieldKind
	fieldA
	fieldB
	fieldAmount
	fieldReplica
	fieldSeq
)

var words = [kinds + 1]string{
	"", "submit", "sync", "ask", "commit", "pump", "tick", "deliver", "drop",
	"copy", "flip", "refuse", "crash", "restart", "arm", "pack",
}

// fields returns the fields that the steps of each kind have.
func fields() map[int][]int {
	return map[int][]int{
		1: {fieldR, fieldKind, fieldA, fieldB, fieldAmount, fieldReplica, fieldSeq},
		2: {fieldR}, 3: {fieldR, fieldI}, 4: {fieldN}, 5: {fieldR}, 6: {fieldN},
		7: {fieldI}, 8: {fieldI}, 9: {fieldI}, 10: {fieldI, fieldN}, 11: {fieldN},
		12: {fieldR}, 13: {fieldR}, 14: {fieldR, fieldN}, 15: {fieldR},
	}
}

// numbers returns the values of all fields of a step.
func numbers(x api.Step) map[int]int64 {
	return map[int]int64{
		fieldR: int64(x.R), fieldI: int64(x.I), fieldN: int64(x.N),
		fieldKind: int64(x.C.Kind), fieldA: int64(x.C.A), fieldB: int64(x.C.B), fieldAmount: x.C.N,
		fieldReplica: int64(x.C.Ref.Replica), fieldSeq: int64(x.C.Ref.Seq),
	}
}

// step returns the step with these values; fields without a value are zero.
func step(kind int, values map[int]int64) api.Step {
	get := func(f int) int { return int(values[f]) }
	c := api.Change{Kind: get(fieldKind), A: get(fieldA), B: get(fieldB), N: values[fieldAmount]}
	c.Ref = api.Id{Replica: get(fieldReplica), Seq: get(fieldSeq)}
	return api.Step{Kind: kind, R: get(fieldR), I: get(fieldI), N: get(fieldN), C: c}
}
