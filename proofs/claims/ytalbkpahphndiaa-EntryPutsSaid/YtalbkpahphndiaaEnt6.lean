/- Requests that were tried: their cells whole; what their octets are read by. -/
import Derived.Test.YtalbkpahphndiaaEnt4
import Derived.Test.YtalbkpahphndiaaChg5
import Derived.Test.YtalbkpahphndiaaLaw02c
import Derived.Deep.QuietTactic
import Derived.BigQuiet
import Derived.Test.YtalbkpahphndiaaRow
import Derived.Test.YtalbkpahphndiaaOps
import Derived.RegionTactic
import Derived.BigRegion
import Derived.ChangeAlike
namespace Go.Proofs.Ytalbkpahphndiaa
set_option linter.unusedVariables false
set_option linter.unusedSimpArgs false
open Go.ChangeShapes Go.WideShapes Go.ChangeAt Go.RowKit
theorem en_size : (Try.prog.info? 49).map (·.size) = some 12 := by kernel_rfl
theorem en_load {d t g o : Nat} {ty : TypeId} {ps : String} {af : Array Edge} {a : Act} {w : World} {ops : Array Oper} {rest : List Oper} {Q : Exit → Act → World → Prop} {x : List Value}
    (hx : a.eval (.tmp t) = .pointer (some ⟨g, o, none⟩)) (hb : w.rangeAt g o (x)) (hv : Hid (x.length = 12 ∧ ∀ u ∈ x, u.oneCell' = true)) (h : wpList Try.prog ops Q rest (a.put (some d) (.agg (x).toArray)) w) :
    wpList Try.prog ops Q (⟨some d, .load 49 (.tmp t), ty, ps, af, none⟩ :: rest) a w :=
  ls_run rfl (run_op_load rfl hx hb Try.underlying49 rfl (by rw [en_size, hv.out.1])) h
theorem en_load_g {d t g o i : Nat} {b : Bool} {ty : TypeId} {ps : String} {af : Array Edge} {a : Act} {w : World} {ops : Array Oper} {rest : List Oper} {Q : Exit → Act → World → Prop} {x : List Value}
    (hx : a.eval (.tmp t) = .pointer (some ⟨g, o, none⟩)) (hw : Region.wanted ⟨some d, .load 49 (.tmp t), ty, ps, af, some (i, b)⟩ (yielded ops a.tmps) = true) (hb : w.rangeAt g o (x)) (hv : Hid (x.length = 12 ∧ ∀ u ∈ x, u.oneCell' = true)) (h : wpList Try.prog ops Q rest (a.put (some d) (.agg (x).toArray)) w) :
    wpList Try.prog ops Q (⟨some d, .load 49 (.tmp t), ty, ps, af, some (i, b)⟩ :: rest) a w :=
  ls_run_g hw (run_op_load rfl hx hb Try.underlying49 rfl (by rw [en_size, hv.out.1])) h
theorem en_load_st {d t g o : Nat} {gd : Option (Nat × Bool)} {ty : TypeId} {ps : String} {af : Array Edge} {a : Act} {w : World} {ops : Array Oper} {rest : List Oper} {R : Act → Prop} {x : List Value}
    (hx : a.eval (.tmp t) = .pointer (some ⟨g, o, none⟩)) (hw : Region.wanted ⟨some d, .load 49 (.tmp t), ty, ps, af, gd⟩ (yielded ops a.tmps) = true) (hb : w.rangeAt g o (x)) (hv : Hid (x.length = 12 ∧ ∀ u ∈ x, u.oneCell' = true)) (h : wpStill Try.prog ops w R rest (a.put (some d) (.agg (x).toArray))) :
    wpStill Try.prog ops w R (⟨some d, .load 49 (.tmp t), ty, ps, af, gd⟩ :: rest) a :=
  st_run hw (run_op_load rfl hx hb Try.underlying49 rfl (by rw [en_size, hv.out.1])) h
theorem en_store {t t' g T : Nat} {ty : TypeId} {ps : String} {af : Array Edge} {a : Act} {w : World} {ops : Array Oper} {rest : List Oper} {Q : Exit → Act → World → Prop} {x : List Value} {old : List Value}
    (hx : a.eval (.tmp t) = .pointer (some ⟨g, 0, none⟩)) (hy : a.eval (.tmp t') = .agg (x).toArray) (hb : Blk w g old T) (hl : old.length = 12) (hv : Hid (x.length = 12 ∧ ∀ u ∈ x, u.oneCell' = true)) (h : wpList Try.prog ops Q rest (a.put none undef) (w.setCells g 0 (x))) :
    wpList Try.prog ops Q (⟨none, .store 49 (.tmp t) (.tmp t'), ty, ps, af, none⟩ :: rest) a w :=
  wpList_store_mid rfl 49 (.tmp t) (.tmp t') rfl g 0 _ hx hy (hb.there 0 _ (by rw [List.size_toArray, hv.out.1, hl]; decide)) (by rw [en_size, List.size_toArray, hv.out.1]) (all_oneCell_toArray (fun u hu => hv.out.2 u hu)) (by rw [List.toList_toArray]; exact h)
theorem en_store_new {t t' g T : Nat} {ty : TypeId} {ps : String} {af : Array Edge} {a : Act} {w : World} {ops : Array Oper} {rest : List Oper} {Q : Exit → Act → World → Prop} {x : List Value} {old : Array Value}
    (hx : a.eval (.tmp t) = .pointer (some ⟨g, 0, none⟩)) (hg : g = w.heap.size) (hy : a.eval (.tmp t') = .agg (x).toArray) (hl : old.size = 12) (hv : Hid (x.length = 12 ∧ ∀ u ∈ x, u.oneCell' = true)) (h : wpList Try.prog ops Q rest (a.put none undef) (w.alloc (.cells (x).toArray T))) :
    wpList Try.prog ops Q (⟨none, .store 49 (.tmp t) (.tmp t'), ty, ps, af, none⟩ :: rest) a (w.alloc (.cells old T)) := by
  subst hg
  refine en_store hx hy (Blk.new w old T) (by simpa using hl) hv ?_
  rw [setAll_new w old _ T (by rw [hv.out.1, hl])]
  exact h
/-- an entry's cells. -/
def enc12 (o k a n p q s l : Int) (ak gn : Bool) (b bl : Int) : List Value := [.int .i64 o, .int .i64 k, .int .i64 a, .int .i64 n, .int .i64 p, .int .i64 q, .int .i64 s, .int .i64 l, .bool ak, .bool gn, .int .i64 b, .int .i64 bl]
theorem enc12_ok (o k a n p q s l : Int) (ak gn : Bool) (b bl : Int) : Hid ((enc12 o k a n p q s l ak gn b bl).length = 12 ∧ ∀ u ∈ enc12 o k a n p q s l ak gn b bl, u.oneCell' = true) := Lib.hid (by
  refine ⟨rfl, ?_⟩
  intro u hu
  simp only [enc12, List.mem_cons, List.not_mem_nil, or_false] at hu
  rcases hu with h | h | h | h | h | h | h | h | h | h | h | h <;> subst h <;> rfl)
theorem Rds.bytes {w0 : World} {B0 g0 g B k : Nat} {bs : List UInt8} {wr : World} (h : Rds w0 B0 g0 g B bs wr) (hk : k ≤ bs.length) (hb : bs.length ≤ 140737488355328) (z : Int) (hz : z = k) :
    Calls Try.prog 62 #[.pointer (some ⟨g, 0, none⟩), .int .i64 z] wr fun e w' => ∃ va vc, e = .returned (.tuple #[.slice va k vc, .bool true]) ∧ w'.ownsRow wr.heap.size 5 1 (.slice va k vc) k (bcells (bs.take k)) ∧ Rds w0 B0 g0 g B (bs.drop k) w' ∧ wr.grownBy w' (some g) := by
  obtain ⟨a, c, h0, h1, h2, h3, h4⟩ := h.rest
  have hv : ∀ k n, Value.slice a bs.length c ≠ .int k n := by intro _ _ hh; cases hh
  refine (bytes_at g bs.length c k a bs wr h1 h2 hk h3 h4 hb z hz).mono ?_
  rintro e w' ⟨va, vc, rfl, ho, h5, h6⟩
  have hsz := h6.size
  refine ⟨va, vc, rfl, ho, ⟨⟨restOf a c k, c - k, ?_, ?_, ?_, by rw [List.length_drop]; omega, by omega⟩, h.var.grown h6 (by have := h.gB; have := h.hi; omega), h.lo, h.gB, h.hi, by have := h.sz; omega, Below.grown h.be h6 h.sz fun q hq => by injection hq with hq; subst hq; exact h.lo⟩, h6⟩
  · intro x hx
    unfold restOf at hx
    split at hx
    · exact h0 x hx
    · cases a with
      | none => cases hx
      | some y =>
        simp only [Option.map_some, Option.some.injEq] at hx
        subst hx
        obtain ⟨yb, yo, ys⟩ := y
        have := h0 _ rfl
        unfold Addr.add; split <;> exact this
  · rw [List.length_drop]; exact h5
  · rw [List.length_drop]; exact h2.cut_rest h1 hk h3 h6
set_option maxHeartbeats 2000000 in
theorem beq_any (a b : Option Addr) (n m c d : Nat) (xs ys : List UInt8) (w : World) (h1 : Sl w a n 1 (bcells xs)) (h2 : Sl w b m 1 (bcells ys)) :
    Calls Try.prog 64 #[.slice a n c, .slice b m d] w fun e w' => e = .returned (.bool (decide (xs = ys))) ∧ Below w.heap.size w w' := by
  have k1 := conv_bytes h1 c
  have k2 := conv_bytes h2 d
  clear h1 h2
  go_enter Try.func64, Try.ntmps64
  go_wp2_with fail
  go_ret
  refine ⟨?_, Below.refl _ _⟩
  have hd : (xs == ys) = decide (xs = ys) := by rw [Bool.eq_iff_iff]; simp
  rw [← hd]
  rfl
theorem ef_store_at {t t' g T o : Nat} {ty : TypeId} {ps : String} {af : Array Edge} {a : Act} {w : World} {ops : Array Oper} {rest : List Oper} {Q : Exit → Act → World → Prop} {x : List Int} {old : List Value}
    (hx : a.eval (.tmp t) = .pointer (some ⟨g, o, none⟩)) (hy : a.eval (.tmp t') = .agg (ints x).toArray) (hb : Blk w g old T) (hl : o + 5 ≤ old.length) (hv : Hid (x.length = 5)) (h : wpList Try.prog ops Q rest (a.put none undef) (w.setCells g o (ints x))) :
    wpList Try.prog ops Q (⟨none, .store 47 (.tmp t) (.tmp t'), ty, ps, af, none⟩ :: rest) a w :=
  wpList_store_mid rfl 47 (.tmp t) (.tmp t') rfl g o _ hx hy (hb.there o _ (by rw [List.size_toArray, ints_len, hv.out]; exact hl)) (by rw [ef_size, List.size_toArray, ints_len, hv.out]) (all_oneCell_toArray (fun u hu => ints_one hu)) (by rw [List.toList_toArray]; exact h)
/-- the effect of thirteen octets: the zero one where there is none. -/
def effOf (bs : List UInt8) : List Int := if effCode (fld bs 0 1) (fld bs 1 1) (fld bs 10 1) (fld bs 11 2) = 0 then [fld bs 0 1, fld bs 1 1, fld bs 2 8, fld bs 10 1, fld bs 11 2] else [0, 0, 0, 0, 0]
theorem effOf_len (bs : List UInt8) : (effOf bs).length = 5 := by unfold effOf; split <;> rfl
theorem eget_any (a : Option Addr) (c : Nat) (bs : List UInt8) (w : World) (h : Sl w a 13 1 (bcells bs)) :
    Calls Try.prog 63 #[.slice a 13 c] w fun e w' => e = .returned (.tuple #[.agg (ints (effOf bs)).toArray, .int .i64 (if effCode (fld bs 0 1) (fld bs 1 1) (fld bs 10 1) (fld bs 11 2) = 0 then 0 else 16)]) ∧ Below w.heap.size w w' := by
  by_cases hm : effCode (fld bs 0 1) (fld bs 1 1) (fld bs 10 1) (fld bs 11 2) = 0
  · have := eget_ok a c bs w h hm
    unfold effOf
    rw [if_pos hm, if_pos hm]
    exact this
  · have := eget_no a c bs w h hm
    unfold effOf
    rw [if_neg hm, if_neg hm]
    exact this
/-- an entry's octets, none where it may not be. -/
def putN (o k a n p q s l : Int) (ak gn : Bool) (b bl : Int) : List UInt8 := if mayEnt o k a p q s l ak gn b bl = true then encN o k a n p q s l ak gn b bl else []
theorem nput_any (o k a n p q s l : Int) (ak gn : Bool) (b bl : Int) (w : World) : Calls Try.prog 36 #[.agg #[.int .i64 o, .int .i64 k, .int .i64 a, .int .i64 n, .int .i64 p, .int .i64 q, .int .i64 s, .int .i64 l, .bool ak, .bool gn, .int .i64 b, .int .i64 bl]] w fun e w' => ∃ a' n' c', e = .returned (.slice a' n' c') ∧ Sl w' a' n' 1 (bcells (putN o k a n p q s l ak gn b bl)) ∧ n' ≤ c' ∧ c' ≤ 9223372036854775807 ∧ n' ≤ 27 ∧ Below w.heap.size w w' := by
  by_cases hm : mayEnt o k a p q s l ak gn b bl = true
  · refine (nput_yes o k a n p q s l ak gn b bl w hm).mono ?_
    rintro e w' ⟨a', c', rfl, hs, ⟨h1, h2⟩, hb⟩
    exact ⟨a', 27, c', rfl, by unfold putN; rw [if_pos hm]; exact hs, h1, h2, Nat.le_refl _, hb⟩
  · refine (nput_no o k a n p q s l ak gn b bl w (by simpa using hm)).mono ?_
    rintro e w' ⟨rfl, hb⟩
    exact ⟨none, 0, 0, rfl, by unfold putN; rw [if_neg hm]; exact ⟨rfl, Or.inl rfl⟩, Nat.le_refl _, by decide, by decide, hb⟩
set_option maxHeartbeats 2000000 in
theorem take1n_any {w0 : World} {B0 g0 g B k : Nat} {bs : List UInt8} {wr : World} (h : Rds w0 B0 g0 g B bs wr) (hk1 : 1 ≤ k) (hk8 : k ≤ 8) (hk : k ≤ bs.length) :
    Calls Try.prog 60 #[.int .i64 k, .pointer (some ⟨g0, 0, none⟩)] wr fun e w' => e = .returned (.int .i64 (s64 (numOf (bs.take k)))) ∧ Rds w0 B0 g0 g B (bs.drop k) w' ∧ wr.grownBy w' (some g) := by
  have C := Lib.hid (h.take hk1 hk8 hk)
  have c0 : wr.cell? ⟨g0, 0, none⟩ = some (.pointer (some ⟨g, 0, none⟩)) := h.var.cell 0
  clear h
  go_enter Try.func60, Try.ntmps60
  go_wp2_with fail
  refine C.out.mono ?_
  rintro e w2 ⟨rfl, h1, h2⟩
  go_wp2_with fail
  go_ret
  exact ⟨rfl, h1, h2⟩
end Go.Proofs.Ytalbkpahphndiaa
