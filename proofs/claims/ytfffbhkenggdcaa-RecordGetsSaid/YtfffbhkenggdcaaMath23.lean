/- Octets of records, as numbers. -/
import Derived.Test.YtfffbhkenggdcaaRec14
import Derived.Test.YtfffbhkenggdcaaMath9
namespace Go.Proofs.Ytfffbhkenggdcaa
set_option linter.unusedVariables false
set_option linter.unusedSimpArgs false
open Go.ChangeShapes Go.WideShapes Go.ChangeAt Go.RowKit
theorem tk_ok {s : List UInt8 × Bool} {k : Nat} (h2 : s.2 = true) (hk : k ≤ s.1.length) : tkN s k = numOf (s.1.take k) ∧ tkS s k = (s.1.drop k, true) := by
  have hb : tkB s k = true := decide_eq_true ⟨h2, hk⟩
  exact ⟨by unfold tkN; rw [if_pos hb], by unfold tkS; rw [if_pos hb]⟩
/-- the fields that are read of octets that are long enough. -/
theorem rd_id {bs : List UInt8} (h : 4 ≤ bs.length) : wrap64 (tkN (tkS (bs, true) 1) 1 : Int) = fld bs 1 1 ∧ wrap64 (tkN (tkS (tkS (bs, true) 1) 1) 2 : Int) = fld bs 2 2 ∧ tkS (tkS (tkS (bs, true) 1) 1) 2 = (bs.drop 4, true) := by
  have e1 := (tk_ok (s := (bs, true)) (k := 1) rfl (by show 1 ≤ bs.length; omega)).2
  have e2 := tk_ok (s := (bs.drop 1, true)) (k := 1) rfl (by show 1 ≤ (bs.drop 1).length; rw [List.length_drop]; omega)
  have e3 := tk_ok (s := ((bs.drop 1).drop 1, true)) (k := 2) rfl (by show 2 ≤ ((bs.drop 1).drop 1).length; rw [List.length_drop, List.length_drop]; omega)
  simp only at e1 e2 e3
  rw [e1, e2.2, e2.1, e3.1, e3.2]
  refine ⟨rfl, ?_, ?_⟩
  · rw [List.drop_drop]; rfl
  · rw [List.drop_drop, List.drop_drop]
theorem rd_key {bs : List UInt8} (h : 6 ≤ bs.length) : tkyN (tkS (bs, true) 1) = fld bs 4 1 ∧ tkyU (tkS (bs, true) 1) = numOf ((bs.drop 5).take 1) ∧ tkyS (tkS (bs, true) 1) = (bs.drop 6, true) := by
  have e := (rd_id (bs := bs) (by omega)).2.2
  have e4 := tk_ok (s := (bs.drop 4, true)) (k := 1) rfl (by show 1 ≤ (bs.drop 4).length; rw [List.length_drop]; omega)
  have e5 := tk_ok (s := ((bs.drop 4).drop 1, true)) (k := 1) rfl (by show 1 ≤ ((bs.drop 4).drop 1).length; rw [List.length_drop, List.length_drop]; omega)
  simp only at e4 e5
  unfold tkyN tkyU tkyS
  rw [e, e4.1, e4.2, e5.1, e5.2, List.drop_drop, List.drop_drop]
  exact ⟨rfl, rfl, rfl⟩
theorem idOcts_len (x y : Int) : (idOcts x y).length = 3 := by simp [idOcts, beOf_len]
theorem keyOcts_len (x y o : Int) (u : Bool) : (keyOcts x y o u).length = 5 := by simp [keyOcts, idOcts_len, beOf_len]
theorem one_of {b : UInt8} {m : Nat} (h : numOf [b] = m) : b.toNat = m := by simpa [numOf] using h
theorem enc_id {bs : List UInt8} (hl : 4 ≤ bs.length) : idOcts (fld bs 1 1) (fld bs 2 2) = (bs.drop 1).take 3 := by
  unfold idOcts
  rw [seg bs 1 1 (by omega) (by decide), seg bs 2 2 (by omega) (by decide)]
  match bs, hl with
  | b0 :: b1 :: b2 :: b3 :: r, _ => simp
theorem head_of {bs : List UInt8} {k : UInt8} (h : tkN (bs, true) 1 = k.toNat) (hk : k.toNat ≠ 0) : bs = k :: bs.drop 1 := by
  match bs with
  | [] => exact absurd h.symm (by simpa [tkN, tkB] using hk)
  | b :: r =>
    have := (tk_ok (s := (b :: r, true)) (k := 1) rfl (by simp)).1
    rw [h] at this
    have e := one_of (b := b) (m := k.toNat) (by simpa using this.symm)
    have : b = k := UInt8.toNat_inj.1 e
    subst this
    simp

/-- the record of a commit: may octets be one's? -/
def okM (bs : List UInt8) : Bool := decide (bs.length = 4) && mayId (fld bs 1 1) (fld bs 2 2)
theorem encM {bs : List UInt8} (h0 : tkN (bs, true) 1 = 2) : (2 :: idOcts (wrap64 (tkN (tkS (bs, true) 1) 1 : Int)) (wrap64 (tkN (tkS (tkS (bs, true) 1) 1) 2 : Int)) = bs) ↔ bs.length = 4 := by
  constructor
  · intro h; rw [← h]; simp [idOcts_len]
  · intro h
    obtain ⟨e1, e2, _⟩ := rd_id (bs := bs) (by omega)
    rw [e1, e2, enc_id (by omega)]
    have := head_of (k := 2) h0 (by decide)
    rw [this]
    simp [h]
    have h3 : bs.tail.length = 3 := by simp [h]
    rw [List.take_of_length_le (by simp [h])]
/-- may octets be those of an answer's record? -/
def okA (bs : List UInt8) : Bool := decide (bs.length = 6 ∧ numOf ((bs.drop 5).take 1) ≤ 1) && mayKey (fld bs 1 1) (fld bs 2 2) (fld bs 4 1)
theorem enc_key {bs : List UInt8} (hl : 6 ≤ bs.length) (h1 : numOf ((bs.drop 5).take 1) ≤ 1) : keyOcts (fld bs 1 1) (fld bs 2 2) (fld bs 4 1) (decide ((numOf ((bs.drop 5).take 1) : Int) = 1)) = (bs.drop 1).take 5 := by
  unfold keyOcts
  rw [enc_id (by omega), seg bs 4 1 (by omega) (by decide)]
  match bs, hl with
  | b0 :: b1 :: b2 :: b3 :: b4 :: b5 :: r, _ =>
    have e : numOf (([b5] : List UInt8)) ≤ 1 := by simpa using h1
    have h2 : b5.toNat = 0 ∨ b5.toNat = 1 := by have := one_of (b := b5) rfl; omega
    rcases h2 with h2 | h2
    · have : b5 = 0 := UInt8.toNat_inj.1 h2
      subst this
      simp [numOf]
    · have : b5 = 1 := UInt8.toNat_inj.1 h2
      subst this
      simp [numOf]
theorem flag_of {b : UInt8} {v : Int} (h : (if decide (v = 1) = true then (1 : UInt8) else 0) = b) : b.toNat ≤ 1 := by
  rw [← h]; split <;> decide
theorem last_key {bs : List UInt8} {x y o v : Int} (h : 6 ≤ bs.length) (e : (bs.drop 1).take 5 = keyOcts x y o (decide (v = 1))) : numOf ((bs.drop 5).take 1) ≤ 1 := by
  match bs, h with
  | b0 :: b1 :: b2 :: b3 :: b4 :: b5 :: r, _ =>
    have e2 : [b1, b2, b3, b4, b5] = keyOcts x y o (decide (v = 1)) := by simpa using e
    have e3 := congrArg (fun l => l.getD 4 0) e2
    have hl : (idOcts x y ++ beOf (u64 o) 1).length = 4 := by simp [idOcts_len, beOf_len]
    have e4 : b5 = (if decide (v = 1) = true then (1 : UInt8) else 0) := by
      have : (keyOcts x y o (decide (v = 1))).getD 4 0 = (if decide (v = 1) = true then (1 : UInt8) else 0) := by
        unfold keyOcts
        rw [List.getD_eq_getElem?_getD, List.getElem?_append_right (by omega), hl]
        rfl
      rw [← this, ← e3]; rfl
    have := flag_of e4.symm
    simpa [numOf] using this
theorem key_fwd {bs r : List UInt8} {x y o v : Int} {k : UInt8} (h : (k :: keyOcts x y o (decide (v = 1))) ++ r = bs) : numOf ((bs.drop 5).take 1) ≤ 1 := by
  have hk := keyOcts_len x y o (decide (v = 1))
  refine last_key (x := x) (y := y) (o := o) (v := v) (by rw [← h]; simp [hk]) ?_
  rw [← h, List.cons_append, List.drop_one, List.tail_cons, List.take_append_of_le_length (by omega), List.take_of_length_le (by omega)]
theorem encA {bs : List UInt8} (h0 : tkN (bs, true) 1 = 4) : (4 :: keyOcts (wrap64 (tkN (tkS (bs, true) 1) 1 : Int)) (wrap64 (tkN (tkS (tkS (bs, true) 1) 1) 2 : Int)) (tkyN (tkS (bs, true) 1)) (decide ((tkyU (tkS (bs, true) 1) : Int) = 1)) = bs) ↔ (bs.length = 6 ∧ numOf ((bs.drop 5).take 1) ≤ 1) := by
  have hh := head_of (k := 4) h0 (by decide)
  constructor
  · intro h
    have hl : bs.length = 6 := by rw [← h]; simp [keyOcts_len]
    exact ⟨hl, key_fwd (r := []) (by rw [List.append_nil]; exact h)⟩
  · rintro ⟨h, h1⟩
    obtain ⟨e1, e2, _⟩ := rd_id (bs := bs) (by omega)
    obtain ⟨e3, e4, _⟩ := rd_key (bs := bs) (by omega)
    rw [e1, e2, e3, e4, enc_key (by omega) h1]
    conv => rhs; rw [hh]
    rw [List.take_of_length_le (by simp [h])]
/-- may octets be those of the record of a request that will be sent? -/
def okT (bs : List UInt8) : Bool := decide (bs.length = 10 ∧ numOf ((bs.drop 5).take 1) ≤ 1) && (mayKey (fld bs 1 1) (fld bs 2 2) (fld bs 4 1) && inB (fld bs 6 4) 0 1073741824)
theorem encT {bs : List UInt8} (h0 : tkN (bs, true) 1 = 3) : ((3 :: keyOcts (wrap64 (tkN (tkS (bs, true) 1) 1 : Int)) (wrap64 (tkN (tkS (tkS (bs, true) 1) 1) 2 : Int)) (tkyN (tkS (bs, true) 1)) (decide ((tkyU (tkS (bs, true) 1) : Int) = 1))) ++ beOf (u64 (wrap64 (tkN (tkyS (tkS (bs, true) 1)) 4 : Int))) 4 = bs) ↔ (bs.length = 10 ∧ numOf ((bs.drop 5).take 1) ≤ 1) := by
  have hh := head_of (k := 3) h0 (by decide)
  constructor
  · intro h
    have hl : bs.length = 10 := by rw [← h]; simp [keyOcts_len, beOf_len]
    exact ⟨hl, key_fwd h⟩
  · rintro ⟨h, h1⟩
    obtain ⟨e1, e2, _⟩ := rd_id (bs := bs) (by omega)
    obtain ⟨e3, e4, e5⟩ := rd_key (bs := bs) (by omega)
    have e6 := (tk_ok (s := (bs.drop 6, true)) (k := 4) rfl (by show 4 ≤ (bs.drop 6).length; rw [List.length_drop]; omega)).1
    rw [e1, e2, e3, e4, e5, e6, enc_key (by omega) h1]
    have e7 : beOf (u64 (wrap64 (numOf ((bs.drop 6).take 4) : Int))) 4 = (bs.drop 6).take 4 := seg bs 6 4 (by omega) (by decide)
    rw [e7]
    match bs, h with
    | [b0, b1, b2, b3, b4, b5, b6, b7, b8, b9], _ =>
      have : b0 = 3 := by have := congrArg (fun l => l.getD 0 0) hh; exact this
      subst this
      simp
end Go.Proofs.Ytfffbhkenggdcaa
