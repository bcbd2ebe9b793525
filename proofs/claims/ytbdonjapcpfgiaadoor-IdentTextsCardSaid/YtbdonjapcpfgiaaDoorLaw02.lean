/- The laws of octet, walked. -/
import Derived.Test.YtbdonjapcpfgiaaDoorOct
import Derived.Test.YtbdonjapcpfgiaaDoorRow
import Derived.Deep.DeepCutAuto
import Derived.Deep.LoopGhost
namespace Go.Proofs.YtbdonjapcpfgiaaDoor
set_option linter.unusedVariables false
set_option linter.unusedSimpArgs false
open Go.ChangeShapes Go.WideShapes Go.ChangeAt Go.RowKit
theorem numOf_small64 (bs : List UInt8) (h : bs.length ≤ 8) : numOf bs < 18446744073709551616 := by
  have hl := numOf_lt bs
  have hpow : 256 ^ bs.length ≤ 256 ^ 8 := Nat.pow_le_pow_right (by decide) h
  have : (256 : Nat) ^ 8 = 18446744073709551616 := by decide
  omega
/-- octets as a string. -/
theorem conv_bytes {w : World} {a : Option Addr} {n : Nat} {bs : List UInt8} (h : Sl w a n 1 (bcells bs)) (c : Nat) : (convert 54 9 (.slice a n c)).run Tryd.prog w = .ok (.string ⟨bs.toArray⟩) w := by
  cases a with
  | none =>
    obtain ⟨rfl, hx⟩ := h.nil_
    have : bs = [] := by simpa [bcells] using hx
    subst this
    exact run_convert_bytes_nil w _ _ Tryd.underlying54 Tryd.underlying5 0 c _ Tryd.underlying9
  | some ad =>
    have hbl : bs.length = n := by have := h.1; rw [bcells_len] at this; omega
    have hl : (loadCells ad n).run Tryd.prog w = .ok ((bs.map fun b => ((b.toNat : Nat) : Int)).map (Value.int .u8)).toArray w := by
      have := run_loadCells_list (P := Tryd.prog) w ad (bcells bs) (fun j v hj => h.cells j v hj)
      rw [bcells_len, hbl] at this
      simpa [bcells, Function.comp_def] using this
    rw [run_convert_bytes_string w _ _ _ _ n c Tryd.underlying54 Tryd.underlying5 Tryd.underlying9, run_bytesToString w _ n c _ hl, foldl_push_bytes]
    simp [ByteArray.empty, ByteArray.emptyWithCapacity, Function.comp_def]
    rfl
/-- a piece of a slice. -/
theorem Sl.sub {w : World} {a : Option Addr} {n c i k : Nat} {bs : List UInt8} (h : Sl w a n 1 (bcells bs)) (hk : i + k ≤ n) (hn : n ≤ c) : Sl w (restOf a c i) k 1 (bcells ((bs.drop i).take k)) := by
  have hbl : bs.length = n := by have := h.1; rw [bcells_len] at this; omega
  refine ⟨by rw [bcells_len, List.length_take, List.length_drop]; omega, ?_⟩
  by_cases h0 : k = 0
  · exact Or.inl h0
  · obtain ⟨_, b, off, rfl, hb, hcell⟩ := h.byte (by omega)
    unfold restOf
    rw [if_neg (by omega)]
    refine Or.inr ⟨b, off + i, by simp [add_plain], hb, fun j hj => ?_⟩
    rw [Nat.add_assoc, hcell (i + j) (by omega)]
    simp [bcells, List.getD_eq_getElem?_getD, List.getElem?_eq_getElem (show i + j < bs.length by omega), List.getElem?_drop, show j < k by omega]
theorem bytes_of_ok (n : Nat) : ∀ xs : List Value, xs.length = n → (∀ i, i < n → OkAll [some .u8] ((xs.drop i).take 1)) → ∃ bs, xs = bcells bs := by
  induction n with
  | zero => intro xs hl _; exact ⟨[], List.eq_nil_of_length_eq_zero hl⟩
  | succ n ih =>
    intro xs hl h5
    match xs, hl with
    | x :: xs, hl =>
      obtain ⟨bs, hbs⟩ := ih xs (by simpa using hl) (fun i hi => by have := h5 (i + 1) (by omega); simpa using this)
      obtain ⟨⟨m, hm, hw⟩, _⟩ : CellOk (some .u8) x ∧ True := ⟨(by have := h5 0 (by omega); simpa [OkAll] using this), trivial⟩
      simp only [Lit.wf, IntKind.min, IntKind.max, IntKind.signed, IntKind.bits, Bool.and_eq_true, decide_eq_true_eq] at hw
      have e : (UInt8.ofNat m.toNat).toNat = m.toNat := by rw [UInt8.toNat_ofNat']; simp at hw; omega
      have e2 : ((UInt8.ofNat m.toNat).toNat : Int) = m := by rw [e]; simp at hw; omega
      refine ⟨UInt8.ofNat m.toNat :: bs, ?_⟩
      rw [hm, hbs]
      simp only [bcells, List.map_cons, e2]
theorem take_two (xs : List Value) (j : Nat) (h : j + 1 < xs.length) : (xs.drop j).take 2 = [xs.getD j undef, xs.getD (j + 1) undef] := by
  rw [List.drop_eq_getElem_cons (by omega), List.take_succ_cons, List.drop_eq_getElem_cons h, List.take_succ_cons, List.take_zero]
  simp [List.getD_eq_getElem?_getD, List.getElem?_eq_getElem (show j < xs.length by omega), List.getElem?_eq_getElem h]
/-- what is told of the octets that came in. -/
theorem Arg.bytes {W : World} {v : Value} (h : Arg Tryd.prog W 54 v) : ∃ a n c bs, v = .slice a n c ∧ n ≤ c ∧ c ≤ 9223372036854775807 ∧ n ≤ reachBytes ∧ bs.length = n ∧ Sl W a n 1 (bcells bs) := by
  obtain ⟨a, n, c, xs, rfl, h1, h2, h3, h4, h5⟩ := h.flat_slice (e := 5) (f := 1) (ks := [some .u8]) Tryd.underlying54 (by kernel_rfl) (by kernel_rfl) (by decide)
  rw [show Tryd.prog.bytesOf 5 = 1 by kernel_rfl, Nat.mul_one] at h3
  have hb := bytes_of_ok n xs (by simpa using h4.1) (fun i hi => by simpa using h5 i hi)
  obtain ⟨bs, rfl⟩ := hb
  exact ⟨a, n, c, bs, rfl, h1, by simpa [maxLen] using h2, h3, by have := h4.1; rw [bcells_len] at this; simpa using this, h4⟩
end Go.Proofs.YtbdonjapcpfgiaaDoor
