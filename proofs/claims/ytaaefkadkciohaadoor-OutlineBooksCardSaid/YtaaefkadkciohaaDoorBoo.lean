/- The lines of bookings. -/
import Derived.Test.YtaaefkadkciohaaDoorOut6
import Derived.Test.YtaaefkadkciohaaDoorApp
import Derived.Maps.AppendAt
import Derived.Deep.DeepCutAuto
import Derived.Test.YtaaefkadkciohaaDoorRd
import Derived.Deep.DeepCutAuto
import Derived.Maps.AppendAt
import Derived.Test.YtaaefkadkciohaaDoorRow
import Derived.Test.YtaaefkadkciohaaDoorOps
import Derived.RegionTactic
import Derived.BigRegion
import Derived.ChangeAlike
namespace Go.Proofs.YtaaefkadkciohaaDoor
set_option linter.unusedVariables false
set_option linter.unusedSimpArgs false
open Go.ChangeShapes Go.WideShapes Go.ChangeAt Go.RowKit
def bk39 (s p u : List Int) (o : Value) : List Value := ints s ++ ints p ++ ints u ++ [o]
theorem bk39_len {s p u : List Int} (hs : s.length = 8) (hp : p.length = 8) (hu : u.length = 8) (o : Value) : (bk39 s p u o).length = 25 := by simp [bk39, ints_len, hs, hp, hu]
def strs (L : List ByteArray) : List Value := L.map .string
theorem strs_len (L : List ByteArray) : (strs L).length = L.length := by simp [strs]
theorem strs_app (A B : List ByteArray) : strs (A ++ B) = strs A ++ strs B := by simp [strs]
theorem strs_get {L : List ByteArray} {i : Nat} (h : i < L.length) : (strs L)[i]? = some (.string (L.getD i ⟨#[]⟩)) := by simp [strs, List.getD_eq_getElem?_getD, List.getElem?_eq_getElem h]
def ordR (x : List Int) : ByteArray := ordB (x.getD 0 0) (x.getD 1 0) (x.getD 2 0) (x.getD 3 0) (x.getD 4 0) (x.getD 5 0) (x.getD 6 0)
def headL (s p u : List Int) : List ByteArray := [⟨#[115, 116, 111, 99, 107]⟩ ++ numsB s, ⟨#[112, 114, 105, 99, 101]⟩ ++ numsB p, ⟨#[112, 117, 114, 115, 101]⟩ ++ numsB u]
def ordsL (L : List Int) : Nat → List ByteArray
  | 0 => []
  | i + 1 => ordsL L i ++ [ordR (rAt 7 L i)]
theorem ordsL_len (L : List Int) : ∀ i, (ordsL L i).length = i
  | 0 => rfl
  | i + 1 => by rw [ordsL, List.length_append, ordsL_len L i]; rfl
theorem row7 {x : List Int} (h : x.length = 7) : ∃ a b c d e f g : Int, x = [a, b, c, d, e, f, g] := by
  match x, h with
  | [a, b, c, d, e, f, g], _ => exact ⟨a, b, c, d, e, f, g, rfl⟩
theorem order_row (x : List Int) (hx : x.length = 7) (hf : ∀ z ∈ x, fits z = true) (w : World) (hT : PTab w) (hS : STab 0 stW w) : Calls Tryd.prog 11 #[.agg (ints x).toArray] w fun e w' => e = .returned (.string (ordR x)) ∧ Below w.heap.size w w' := by
  obtain ⟨a, b, c, d, e, f, g, rfl⟩ := row7 hx
  exact order_any a b c d e f g w hf hT hS
theorem rorder_row (x : List Int) (hx : x.length = 7) (hf : ∀ z ∈ x, fits z = true) (w : World) (hT : PTab w) (hS : STab 0 stW w) : Calls Tryd.prog 12 #[.agg (ints x).toArray] w fun e w' => e = .returned (.string (ordR x)) ∧ Below w.heap.size w w' := by
  obtain ⟨a, b, c, d, e, f, g, rfl⟩ := row7 hx
  exact rorder_any a b c d e f g w hf hT hS
theorem own_lit (w : World) (B : Nat) (e : TypeId) (cur : List Value) (hb : B ≤ w.heap.size) (hm : cur.length ≤ maxLen) : (w.alloc (.cells cur.toArray e)).ownsRow B e 1 (.slice (some ⟨w.heap.size, 0, none⟩) cur.length cur.length) cur.length cur :=
  ⟨by simp, .inr ⟨w.heap.size, cur.length, cur.toArray, rfl, hb, heap_alloc_new w _, Nat.le_refl _, hm, by simp, by simp⟩⟩
theorem sl_part {w : World} {g t o k : Nat} {cs xs : List Value} (h : Blk w g cs t) (hx : (cs.drop o).take k = xs) (hl : xs.length = k) (ho : o + k ≤ cs.length) : Sl w (some ⟨g, o, none⟩) k 1 xs :=
  ⟨by omega, Or.inr ⟨g, o, rfl, h.lt, fun j hj => by
    rw [h.cell (o + j), List.getD_eq_getElem?_getD, ← hx, List.getElem?_take_of_lt (by omega), List.getElem?_drop, List.getElem?_eq_getElem (by omega)]
    rfl⟩⟩
theorem str_info : (Tryd.prog.info? 9).map (fun i => (i.zero, i.size, i.bytes)) = some (some (.string ⟨#[]⟩), 1, 16) := by kernel_rfl
theorem ord_row7 : RowT 27 7 := ⟨⟨_, Tryd.underlying27, rfl⟩, by kernel_rfl⟩
theorem texts_same (a a2 : Option Addr) (n c c2 : Nat) (L : List ByteArray) (w : World) (hs : Sl w a n 1 (strs L)) (hs2 : Sl w a2 n 1 (strs L)) (hn : n ≤ 1000) : Calls Tryd.prog 14 #[.slice a n c, .slice a2 n c2] w fun e w' => e = .returned (.bool true) ∧ Below w.heap.size w w' := by
  have hl : Hid (L.length = n) := Lib.hid (by have := hs.1; rw [strs_len] at this; omega)
  have HS := Lib.hid hs
  have HS2 := Lib.hid hs2
  clear hs hs2
  go_enter Tryd.func14, Tryd.ntmps14
  go_wp2_with fail
  go_loopg [5] n (fun q s5 wr => ∃ i : Nat, q + i = n ∧ s5 = .int .i64 i ∧ Hid (Below w.heap.size w wr))
  case atStart => exact ⟨0, rfl, rfl, Lib.hid (Below.refl _ _)⟩
  case round =>
    obtain ⟨i, hqi, rfl, hbr⟩ := hrel
    by_cases hi : i < n
    · have cellOf : ∀ (a : Option Addr), Sl w a n 1 (strs L) → ∃ b off, a = some ⟨b, off, none⟩ ∧ wr.drew.cell? ⟨b, off + i, none⟩ = some (.string (L.getD i ⟨#[]⟩)) := fun a h => by
        rcases h.2 with h0 | ⟨b, off, ha, hb, hc⟩
        · omega
        · refine ⟨b, off, ha, ?_⟩
          have h1 := (hbr.out.cell (p := ⟨b, off + i, none⟩) hb).trans (hc i (by omega))
          rw [List.getD_eq_getElem?_getD, strs_get (by rw [hl.out]; exact hi)] at h1
          exact h1
      obtain ⟨b, off, rfl, hc1⟩ := cellOf a HS.out
      obtain ⟨b', off', rfl, hc2⟩ := cellOf a2 HS2.out
      have hi0 : (0 : Int) ≤ i := by omega
      have hin : (i : Int) < n := by omega
      have hnb : (n : Int) ≤ 1000 := by omega
      generalize L.getD i ⟨#[]⟩ = X at *
      clear cellOf
      go_upto_region 6 with fail
      refine wp_region_still_lit (by kernel_rfl) (by kernel_rfl) ?_
      have hbr' := Lib.hid hbr.out.drew
      change wpStill _ _ (World.drew wr) (fun a' => Exit.then _ _ _ a' (World.drew wr)) _ _
      clear hbr
      generalize wr.drew = wr at *
      repeat still_step
      refine wpStill_nil ?_
      go_wp2_with fail
      go_roundg (gk - 1)
      case measure => omega
      case rel => exact ⟨i + 1, by omega, by go_num, hbr'⟩
    · have hin : ¬ (i : Int) < n := by omega
      go_wp2_with fail
      go_ret
      exact ⟨rfl, hbr.out⟩
theorem slice_arr {o : Oper} {a : Act} {w : World} {x : Operand} {g off : Nat} (ho : o.op = .slice 41 x none none none) (hx : a.eval x = .pointer (some ⟨g, off, none⟩)) (h1 : True) (h2 : True) : (execOp a.eval o).run Tryd.prog w = .ok (.value (.slice (some ⟨g, off, none⟩) 8 8)) w := by
  unfold execOp
  simp only [ho, hx]
  go_simp <;> first | rfl | trace_state
end Go.Proofs.YtaaefkadkciohaaDoor
