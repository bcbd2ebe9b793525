/- Frames: when octets begin with one. -/
import Derived.Test.YtnlocomjmkgmkaaFrm3
namespace Go.Proofs.Ytnlocomjmkgmkaa
set_option linter.unusedVariables false
set_option linter.unusedSimpArgs false
open Go.ChangeShapes Go.WideShapes Go.ChangeAt Go.RowKit
theorem nb_fold (bs : List UInt8) : ∀ a : Nat, bs.foldl (fun n b => n * 256 + b.toNat) a = a * 256 ^ bs.length + numOf bs := by
  induction bs with
  | nil => intro a; simp [numOf]
  | cons b bs ih =>
    intro a
    rw [List.foldl_cons, ih, show numOf (b :: bs) = bs.foldl (fun n b => n * 256 + b.toNat) (0 * 256 + b.toNat) from rfl, ih, List.length_cons, Nat.pow_succ, Nat.add_mul, Nat.zero_mul, Nat.zero_add, Nat.mul_assoc, Nat.mul_comm 256, Nat.add_assoc]
theorem nb_cons (b : UInt8) (bs : List UInt8) : numOf (b :: bs) = b.toNat * 256 ^ bs.length + numOf bs := by
  show bs.foldl (fun n b => n * 256 + b.toNat) (0 * 256 + b.toNat) = _
  rw [nb_fold, Nat.zero_mul, Nat.zero_add]
theorem nb_beOf (m : Nat) : ∀ k, numOf (beOf m k) = m % 256 ^ k
  | 0 => by simp [beOf, numOf, Nat.mod_one]
  | k + 1 => by
    have h : (UInt8.ofNat (m / 256 ^ k % 256)).toNat = m / 256 ^ k % 256 := by
      rw [UInt8.toNat_ofNat']; omega
    rw [beOf, nb_cons, beOf_len, nb_beOf m k, h, Nat.mod_pow_succ, Nat.mul_comm, Nat.add_comm]
theorem nb_inj : ∀ {l m : List UInt8}, l.length = m.length → numOf l = numOf m → l = m
  | [], [], _, _ => rfl
  | [], _ :: _, h, _ => by simp at h
  | _ :: _, [], h, _ => by simp at h
  | x :: l, y :: m, h, e => by
    have hl : l.length = m.length := by simpa using h
    rw [nb_cons, nb_cons, hl] at e
    have h1 := numOf_lt l
    have h2 := numOf_lt m
    rw [hl] at h1
    have hx : x.toNat = y.toNat := by
      have e1 : (x.toNat * 256 ^ m.length + numOf l) / 256 ^ m.length = x.toNat := by
        rw [Nat.mul_comm, Nat.mul_add_div (Nat.pow_pos (by decide)), Nat.div_eq_of_lt h1, Nat.add_zero]
      have e2 : (y.toNat * 256 ^ m.length + numOf m) / 256 ^ m.length = y.toNat := by
        rw [Nat.mul_comm, Nat.mul_add_div (Nat.pow_pos (by decide)), Nat.div_eq_of_lt h2, Nat.add_zero]
      rw [← e1, ← e2, e]
    rw [hx] at e
    have he : numOf l = numOf m := by omega
    rw [nb_inj hl he, UInt8.toNat_inj.1 hx]
theorem nb_back (x : List UInt8) : beOf (numOf x) x.length = x :=
  nb_inj (beOf_len _ _) (by rw [nb_beOf, Nat.mod_eq_of_lt (numOf_lt x)])
theorem take_parts (bs : List UInt8) (m : Nat) (h : m + 7 ≤ bs.length) : bs.take (m + 7) = bs.take 2 ++ ((bs.drop 2).take m ++ (bs.drop (2 + m)).take 4) ++ [bs.getD (m + 6) 0] := by
  rw [show m + 7 = (m + 6) + 1 from rfl, List.take_add_one, List.getElem?_eq_getElem (by omega), Option.toList_some, List.getD_eq_getElem?_getD, List.getElem?_eq_getElem (by omega), Option.getD_some]
  congr 1
  rw [show m + 6 = 2 + (m + 4) by omega, List.take_add, List.take_add, List.drop_drop]
theorem frame_iff {bs : List UInt8} {m : Nat} (hm : numOf (bs.take 2) = m) (h : m + 7 ≤ bs.length) :
    frameOf ((bs.drop 2).take m) = bs.take (m + 7) ↔ (bs.getD (m + 6) 0).toNat = 90 ∧ crcMore 0 ((bs.drop 2).take m) = numOf ((bs.drop (2 + m)).take 4) := by
  have hl : ((bs.drop 2).take m).length = m := by rw [List.length_take, List.length_drop]; omega
  have hl4 : ((bs.drop (2 + m)).take 4).length = 4 := by rw [List.length_take, List.length_drop]; omega
  have h2 : beOf m 2 = bs.take 2 := by
    have := nb_back (bs.take 2)
    rw [List.length_take, Nat.min_eq_left (by omega), hm] at this
    exact this
  unfold frameOf crcPutOf
  rw [hl, h2, take_parts bs m h]
  have hlt := crcMore_lt 0 ((bs.drop 2).take m)
  constructor
  · intro e
    have e1 := List.append_inj' e rfl
    have e2 := (List.append_inj e1.1 rfl).2
    have e3 := (List.append_inj e2 rfl).2
    refine ⟨?_, ?_⟩
    · have := e1.2
      injection this with this
      rw [← this]; rfl
    · rw [← e3, nb_beOf, Nat.mod_eq_of_lt (by omega)]
  · rintro ⟨e1, e2⟩
    have e3 : bs.getD (m + 6) 0 = 90 := UInt8.toNat_inj.1 e1
    have e4 : beOf (crcMore 0 ((bs.drop 2).take m)) 4 = (bs.drop (2 + m)).take 4 := by
      rw [e2]
      have := nb_back ((bs.drop (2 + m)).take 4)
      rwa [hl4] at this
    rw [e3, e4]
theorem getF_some {bs : List UInt8} {m : Nat} (h : getF bs = some m) : numOf (bs.take 2) = m ∧ 1 ≤ m ∧ m ≤ 4096 ∧ m + 7 ≤ bs.length := by
  unfold getF at h
  split at h
  · rename_i hh
    injection h with h
    subst h
    exact ⟨rfl, hh.2.1, hh.2.2.1, hh.2.2.2.1⟩
  · cases h
/-- frame.Get of any octets. -/
theorem fget_any (a : Option Addr) (n c : Nat) (bs : List UInt8) (w : World) (h : Sl w a n 1 (bcells bs)) (hnc : n ≤ c) (hc : c ≤ 9223372036854775807) (hn47 : n ≤ 140737488355328) :
    Calls Try.prog 9 #[.slice a n c] w fun e w' => (∀ m, getF bs = some m → ∃ a' c', e = .returned (.tuple #[.slice a' m c', .int .i64 (m + 7 : Nat), .bool true]) ∧ w'.ownsRow w.heap.size 5 1 (.slice a' m c') m (bcells ((bs.drop 2).take m))) ∧ (getF bs = none → e = .returned (.tuple #[.slice none 0 0, .int .i64 0, .bool false])) ∧ Below w.heap.size w w' := by
  have hbl : bs.length = n := bsl_one h
  by_cases hn2 : n < 2
  · refine (fget_short a n c w hn2).mono ?_
    rintro e w' ⟨rfl, rfl⟩
    refine ⟨fun m hm => ?_, fun _ => rfl, Below.refl _ _⟩
    have := (getF_some hm).2.2.2
    omega
  · obtain ⟨_, bb, off, rfl, _, _⟩ := h.byte (by omega)
    refine (fget_core bb off n c (numOf (bs.take 2)) bs w h (by omega) hnc hc hn47 rfl _ rfl).mono ?_
    rintro e w' ⟨h1, h2, h3⟩
    refine ⟨fun m hm => ?_, fun hm => ?_, h3⟩
    · unfold getF at hm
      split at hm
      · rename_i hh
        injection hm with hm
        subst hm
        refine h1 ?_
        rw [decide_eq_true hh.2.1, decide_eq_true hh.2.2.1, decide_eq_true (show numOf (bs.take 2) + 7 ≤ n by omega), decide_eq_true hh.2.2.2.2.1, decide_eq_true hh.2.2.2.2.2]; rfl
      · cases hm
    · refine h2 ?_
      rw [Bool.eq_false_iff]
      intro ht
      simp only [Bool.and_eq_true, decide_eq_true_eq] at ht
      obtain ⟨⟨⟨⟨t1, t2⟩, t3⟩, t4⟩, t5⟩ := ht
      unfold getF at hm
      rw [if_pos ⟨by omega, t1, t2, by omega, t4, t5⟩] at hm
      cases hm
/-- the reference's Get of any octets. -/
theorem rfget_any (a : Option Addr) (n c : Nat) (bs : List UInt8) (w : World) (h : Sl w a n 1 (bcells bs)) (hnc : n ≤ c) (hc : c ≤ 9223372036854775807) (hn47 : n ≤ 140737488355328) :
    Calls Try.prog 11 #[.slice a n c] w fun e w' => (∀ m, getF bs = some m → ∃ bb off, a = some ⟨bb, off, none⟩ ∧ e = .returned (.tuple #[.slice (some ⟨bb, off + 2, none⟩) m (c - 2), .int .i64 (m + 7 : Nat)])) ∧ (getF bs = none → e = .returned (.tuple #[.slice none 0 0, .int .i64 0])) ∧ Below w.heap.size w w' := by
  have hbl : bs.length = n := bsl_one h
  by_cases hn8 : n < 8
  · refine (rfget_short a n c w hn8).mono ?_
    rintro e w' ⟨rfl, rfl⟩
    refine ⟨fun m hm => ?_, fun _ => rfl, Below.refl _ _⟩
    have := (getF_some hm).2
    omega
  · obtain ⟨_, bb, off, rfl, _, _⟩ := h.byte (by omega)
    refine (rfget_core bb off n c (numOf (bs.take 2)) bs w h (by omega) hnc hc hn47 rfl _ rfl).mono ?_
    rintro e w' ⟨h1, h2, h3⟩
    refine ⟨fun m hm => ?_, fun hm => ?_, h3⟩
    · obtain ⟨g1, g2, g3, g4⟩ := getF_some hm
      refine ⟨bb, off, rfl, ?_⟩
      subst g1
      refine h1 ?_
      unfold getF at hm
      split at hm
      · rename_i hh
        rw [decide_eq_true g2, decide_eq_true g3, decide_eq_true (show numOf (bs.take 2) + 7 ≤ n by omega), decide_eq_true ((frame_iff rfl g4).2 ⟨hh.2.2.2.2.1, hh.2.2.2.2.2⟩)]; rfl
      · cases hm
    · refine h2 ?_
      rw [Bool.eq_false_iff]
      intro ht
      simp only [Bool.and_eq_true, decide_eq_true_eq] at ht
      obtain ⟨⟨⟨t1, t2⟩, t3⟩, t4⟩ := ht
      have t5 := (frame_iff rfl (by omega)).1 t4
      unfold getF at hm
      rw [if_pos ⟨by omega, t1, t2, by omega, t5.1, t5.2⟩] at hm
      cases hm
/-- a frame gives its payload back, whatever follows. -/
theorem getF_frame (bs r : List UInt8) (h1 : 1 ≤ bs.length) (h2 : bs.length ≤ 4096) : getF (frameOf bs ++ r) = some bs.length ∧ ((frameOf bs ++ r).drop 2).take bs.length = bs ∧ (frameOf bs ++ r).drop (bs.length + 7) = r := by
  have hl := frameOf_len bs
  have e2 : (frameOf bs ++ r).take 2 = beOf bs.length 2 := by
    unfold frameOf
    rw [List.append_assoc, List.append_assoc, List.take_append_of_le_length (by rw [beOf_len]; exact Nat.le_refl _), List.take_of_length_le (by rw [beOf_len]; exact Nat.le_refl _)]
  have hn : numOf ((frameOf bs ++ r).take 2) = bs.length := by rw [e2, nb_beOf, Nat.mod_eq_of_lt (by omega)]
  have ep : ((frameOf bs ++ r).drop 2).take bs.length = bs := by
    unfold frameOf crcPutOf
    rw [List.append_assoc, List.append_assoc, List.drop_append_of_le_length (by rw [beOf_len]; exact Nat.le_refl _), List.drop_of_length_le (by rw [beOf_len]; exact Nat.le_refl _), List.nil_append, List.append_assoc, List.take_append_of_le_length (Nat.le_refl _), List.take_of_length_le (Nat.le_refl _)]
  have ef : (frameOf bs ++ r).take (bs.length + 7) = frameOf bs := by rw [← hl, List.take_append_of_le_length (Nat.le_refl _), List.take_of_length_le (Nat.le_refl _)]
  have hi := (frame_iff hn (by rw [List.length_append]; omega)).1 (by rw [ep, ef])
  refine ⟨?_, ep, ?_⟩
  · unfold getF
    rw [hn, if_pos ⟨by rw [List.length_append]; omega, h1, h2, by rw [List.length_append]; omega, hi.1, hi.2⟩]
  · rw [List.drop_append_of_le_length (by omega), List.drop_of_length_le (by omega), List.nil_append]
end Go.Proofs.Ytnlocomjmkgmkaa
