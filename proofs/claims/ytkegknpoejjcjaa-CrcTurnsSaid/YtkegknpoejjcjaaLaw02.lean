/- The laws of octet, walked. -/
import Derived.Test.YtkegknpoejjcjaaOct
import Derived.Test.YtkegknpoejjcjaaRow
import Derived.Deep.DeepCutAuto
import Derived.Deep.LoopGhost
namespace Go.Proofs.Ytkegknpoejjcjaa
set_option linter.unusedVariables false
set_option linter.unusedSimpArgs false
open Go.ChangeShapes Go.WideShapes Go.ChangeAt Go.RowKit
theorem bytes_fail (g n c : Nat) (k : Int) (f : Bool) (a : Option Addr) (w : World) (h : Rdr w g (.slice a n c) f) (hf : f = false ∨ k < 0 ∨ (n : Int) < k) (hn : n ≤ 9223372036854775807) :
    Calls Try.prog 15 #[.pointer (some ⟨g, 0, none⟩), .int .i64 k] w fun e w' => e = .returned (.tuple #[.slice none 0 0, .bool false]) ∧ Rdr w' g (.slice none 0 0) false ∧ w.grownBy w' (some g) := bytes_no g n c k f a w h hf hn
theorem take_fail (g n c : Nat) (k : Int) (f : Bool) (a : Option Addr) (w : World) (h : Rdr w g (.slice a n c) f) (hf : f = false ∨ k < 1 ∨ 8 < k ∨ (n : Int) < k) (hn : n ≤ 9223372036854775807) :
    Calls Try.prog 16 #[.pointer (some ⟨g, 0, none⟩), .int .i64 k] w fun e w' => e = .returned (.tuple #[.int .u64 0, .bool false]) ∧ Rdr w' g (.slice none 0 0) false ∧ w.grownBy w' (some g) := by
  by_cases hk : k < 1 ∨ 8 < k
  · exact (take_bad g _ f k w h hk).mono fun e w' ⟨h1, h2, h3, _⟩ => ⟨h1, h2, h3⟩
  · refine (take_no g n c k f a w h (by omega) (by omega) ?_ hn).mono fun e w' ⟨h1, h2, h3, _⟩ => ⟨h1, h2, h3⟩
    rcases hf with h | h | h | h
    · exact Or.inl h
    · exact absurd (Or.inl h) hk
    · exact absurd (Or.inr h) hk
    · exact Or.inr h
theorem few_any (a : Option Addr) (n c : Nat) (w : World) (hn : n ≤ c) (hc : c ≤ 9223372036854775807) :
    Calls Try.prog 14 #[.slice a n c] w fun e w' => e = .returned (.slice a (min n 60) c) ∧ w = w' := by
  by_cases h : 60 < n
  · rw [show min n 60 = 60 by omega]
    go_enter Try.func14, Try.ntmps14
    go_wp2
    go_ret
    exact ⟨rfl, rfl⟩
  · rw [show min n 60 = n by omega]
    go_enter Try.func14, Try.ntmps14
    go_wp2
    go_ret
    exact ⟨rfl, rfl⟩
theorem numOf_small64 (bs : List UInt8) (h : bs.length ≤ 8) : numOf bs < 18446744073709551616 := by
  have hl := numOf_lt bs
  have hpow : 256 ^ bs.length ≤ 256 ^ 8 := Nat.pow_le_pow_right (by decide) h
  have : (256 : Nat) ^ 8 = 18446744073709551616 := by decide
  omega
set_option maxHeartbeats 400000 in
theorem rget_any (a : Option Addr) (n c : Nat) (bs : List UInt8) (w : World) (h : Sl w a n 1 (bcells bs)) (hn : n ≤ 8) :
    Calls Try.prog 17 #[.slice a n c] w fun e w' => e = .returned (.int .u64 (numOf bs)) ∧ w = w' := by
  by_cases h0 : n = 0
  · subst h0
    have hb : bs = [] := by have := h.1; rw [bcells_len] at this; exact List.eq_nil_of_length_eq_zero (by omega)
    subst hb
    clear h
    go_enter Try.func17, Try.ntmps17
    go_wp2
    go_rounds 1
    go_ret
    exact ⟨rfl, rfl⟩
  · obtain ⟨hbl, b, off, rfl, _, hcell⟩ := h.byte (by omega)
    have HC := Lib.hid hcell
    have HL := Lib.hid hbl
    clear h hcell hbl
    go_enter Try.func17, Try.ntmps17
    go_wp2
    go_loop [3, 4] (fun x i => ∃ j : Nat, j ≤ n ∧ i = .int .i64 j ∧ x = .int .u64 (numOf (bs.take j))) (fun _ i => n - (intOf i).toNat)
    case atStart => exact ⟨0, Nat.zero_le _, rfl, rfl⟩
    case round =>
      obtain ⟨j, hj, rfl, rfl⟩ := hrel
      by_cases hlt : j < n
      · have hcell := HC.out j hlt
        have HN := Lib.hid (numOf_take bs j (by rw [HL.out]; omega))
        have hv := numOf_small bs j (by omega)
        have hb2 := (bs.getD j 0).toNat_lt
        generalize numOf (bs.take j) = y at *
        generalize (bs.getD j 0).toNat = z at *
        go_wp2
        go_round
        case rel => exact ⟨j + 1, by omega, by go_num, congrArg (Value.int .u64) (by rw [HN.out]; omega)⟩
        case measure => simp [intOf]; omega
      · obtain rfl : j = n := by omega
        have HT := Lib.hid (show bs.take j = bs by rw [List.take_of_length_le (by rw [HL.out]; omega)])
        go_wp2
        go_ret
        exact ⟨by rw [HT.out]; rfl, rfl⟩
set_option maxHeartbeats 1600000 in
theorem alive02 (w : World) : Calls Try.prog 12 #[] w fun e w' => e = .returned (.bool true) ∧ Below w.heap.size w w' := by
  have e1 : beOf 258 2 = [1, 2] := by decide
  go_enter Try.func12, Try.ntmps12
  go_wp2_with fail
  refine (put_ok (some ⟨w.heap.size, 0, none⟩) 1 1 [.int .u8 7] 258 2 _ ⟨rfl, Or.inr ⟨_, _, rfl, by simp, fun j hj => ?_⟩⟩ (by simp [Value.oneCell']) (by decide) (by decide) (by decide) (by decide)).mono ?_
  · obtain rfl : j = 0 := by omega
    simp [go_sem]
  rintro e w1 ⟨v, rfl, ho, hb⟩
  rw [e1] at ho
  obtain ⟨va, vc, rfl, hvc, hvm, hsl⟩ := Sl.own ho
  have hb0 : Below w.heap.size w w1 := (((Below.refl _ _).alloc (Nat.le_refl _) _).trans (hb.mono (by simp)))
  clear ho hb
  go_wp2_with fail
  refine (new_any va 3 vc [7, 1, 2] w1 hsl (by decide)).mono ?_
  rintro e w2 ⟨g, a2, c2, rfl, hg, hr, hc2, hm2, hs2, hb2⟩
  have hbb := hb0.trans (hb2.mono hb0.size)
  have hgw : w.heap.size ≤ g := Nat.le_trans hb0.size hg
  have hm2' : c2 ≤ 9223372036854775807 := by simpa [maxLen] using hm2
  clear hb0 hb2 hg hsl hvc hvm
  have T1 := Lib.hid (take_ok g 3 c2 1 a2 [7, 1, 2] w2 hr hs2 (by decide) (by decide) (by decide) hc2 hm2')
  have S1 := Lib.hid (fun w3 hgr => hs2.cut_rest (w' := w3) hr (by decide : 1 ≤ 3) hc2 hgr)
  go_wp2_with fail
  refine T1.out.mono ?_
  rintro e w3 ⟨rfl, hr3, hg3, hz3⟩
  have hs3 := S1.out w3 hg3
  have hb3 : Below w.heap.size w w3 := hbb.grown hg3 hbb.size (by rintro k hk; injection hk with hk; omega)
  have hn1 : numOf ([7, 1, 2].take 1) = 7 := by decide
  rw [hn1]
  clear T1 S1 hr hs2 hbb hg3 hz3
  simp only [List.drop_succ_cons, List.drop_zero] at hs3
  have T2 := Lib.hid (take_ok g (3 - 1) (c2 - 1) 2 (restOf a2 c2 1) [1, 2] w3 hr3 hs3 (by decide) (by decide) (by decide) (by omega) (by omega))
  have hn2 : numOf ([1, 2].take 2) = 258 := by decide
  rw [hn2] at T2
  clear hn2 hn1
  go_wp2_with fail
  refine T2.out.mono ?_
  rintro e w4 ⟨rfl, hr4, hg4, hz4⟩
  have hb4 : Below w.heap.size w w4 := hb3.grown hg4 hb3.size (by rintro k hk; injection hk with hk; omega)
  clear T2 hr3 hs3 hb3 hg4 hz4
  have T3 := Lib.hid (take_fail g _ _ 1 true _ w4 hr4 (by omega) (by omega))
  clear hr4
  go_wp2_with fail
  refine T3.out.mono ?_
  rintro e w5 ⟨rfl, hr5, hg5⟩
  have hb5 : Below w.heap.size w w5 := hb4.grown hg5 hb4.size (by rintro k hk; injection hk with hk; omega)
  clear T3 hb4 hg5
  have HR := Lib.hid hr5
  have HB := Lib.hid hb5
  clear hr5 hb5
  go_wp2_with (go_at_call 18; refine (bad_any _ _ _ _ HR.out).mono ?_; rintro e w' ⟨rfl, rfl⟩)
  go_ret
  exact ⟨rfl, HB.out⟩
/-- octets as a string. -/
theorem conv_bytes {w : World} {a : Option Addr} {n : Nat} {bs : List UInt8} (h : Sl w a n 1 (bcells bs)) (c : Nat) : (convert 22 9 (.slice a n c)).run Try.prog w = .ok (.string ⟨bs.toArray⟩) w := by
  cases a with
  | none =>
    obtain ⟨rfl, hx⟩ := h.nil_
    have : bs = [] := by simpa [bcells] using hx
    subst this
    exact run_convert_bytes_nil w _ _ Try.underlying22 Try.underlying5 0 c _ Try.underlying9
  | some ad =>
    have hbl : bs.length = n := by have := h.1; rw [bcells_len] at this; omega
    have hl : (loadCells ad n).run Try.prog w = .ok ((bs.map fun b => ((b.toNat : Nat) : Int)).map (Value.int .u8)).toArray w := by
      have := run_loadCells_list (P := Try.prog) w ad (bcells bs) (fun j v hj => h.cells j v hj)
      rw [bcells_len, hbl] at this
      simpa [bcells, Function.comp_def] using this
    rw [run_convert_bytes_string w _ _ _ _ n c Try.underlying22 Try.underlying5 Try.underlying9, run_bytesToString w _ n c _ hl, foldl_push_bytes]
    simp [ByteArray.empty, ByteArray.emptyWithCapacity, Function.comp_def]
    rfl
/-- a piece of a slice. -/
theorem Sl.sub {w : World} {a : Option Addr} {n c i k : Nat} {bs : List UInt8} (h : Sl w a n 1 (bcells bs)) (hk : i + k ≤ n) (hn : n ≤ c) : Sl w (restOf a c i) k 1 (bcells ((bs.drop i).take k)) := by
  have hbl : bs.length = n := by have := h.1; rw [bcells_len] at this; omega
  refine ⟨by rw [bcells_len, List.length_take, List.length_drop]; omega, ?_⟩
  by_cases h0 : k = 0
  · exact Or.inl h0
  · obtain ⟨_, b, off, rfl, hb, hcell⟩ := h.byte (by omega)
    unfold restOf
    rw [if_neg (by omega)]
    refine Or.inr ⟨b, off + i, by simp [add_plain], hb, fun j hj => ?_⟩
    rw [Nat.add_assoc, hcell (i + j) (by omega)]
    simp [bcells, List.getD_eq_getElem?_getD, List.getElem?_eq_getElem (show i + j < bs.length by omega), List.getElem?_drop, show j < k by omega]
theorem bytes_of_ok (n : Nat) : ∀ xs : List Value, xs.length = n → (∀ i, i < n → OkAll [some .u8] ((xs.drop i).take 1)) → ∃ bs, xs = bcells bs := by
  induction n with
  | zero => intro xs hl _; exact ⟨[], List.eq_nil_of_length_eq_zero hl⟩
  | succ n ih =>
    intro xs hl h5
    match xs, hl with
    | x :: xs, hl =>
      obtain ⟨bs, hbs⟩ := ih xs (by simpa using hl) (fun i hi => by have := h5 (i + 1) (by omega); simpa using this)
      obtain ⟨⟨m, hm, hw⟩, _⟩ : CellOk (some .u8) x ∧ True := ⟨(by have := h5 0 (by omega); simpa [OkAll] using this), trivial⟩
      simp only [Lit.wf, IntKind.min, IntKind.max, IntKind.signed, IntKind.bits, Bool.and_eq_true, decide_eq_true_eq] at hw
      have e : (UInt8.ofNat m.toNat).toNat = m.toNat := by rw [UInt8.toNat_ofNat']; simp at hw; omega
      have e2 : ((UInt8.ofNat m.toNat).toNat : Int) = m := by rw [e]; simp at hw; omega
      refine ⟨UInt8.ofNat m.toNat :: bs, ?_⟩
      rw [hm, hbs]
      simp only [bcells, List.map_cons, e2]
theorem take_two (xs : List Value) (j : Nat) (h : j + 1 < xs.length) : (xs.drop j).take 2 = [xs.getD j undef, xs.getD (j + 1) undef] := by
  rw [List.drop_eq_getElem_cons (by omega), List.take_succ_cons, List.drop_eq_getElem_cons h, List.take_succ_cons, List.take_zero]
  simp [List.getD_eq_getElem?_getD, List.getElem?_eq_getElem (show j < xs.length by omega), List.getElem?_eq_getElem h]
/-- what is told of the octets that came in. -/
theorem Arg.bytes {W : World} {v : Value} (h : Arg Try.prog W 22 v) : ∃ a n c bs, v = .slice a n c ∧ n ≤ c ∧ c ≤ 9223372036854775807 ∧ n ≤ reachBytes ∧ bs.length = n ∧ Sl W a n 1 (bcells bs) := by
  obtain ⟨a, n, c, xs, rfl, h1, h2, h3, h4, h5⟩ := h.flat_slice (e := 5) (f := 1) (ks := [some .u8]) Try.underlying22 (by kernel_rfl) (by kernel_rfl) (by decide)
  rw [show Try.prog.bytesOf 5 = 1 by kernel_rfl, Nat.mul_one] at h3
  have hb := bytes_of_ok n xs (by simpa using h4.1) (fun i hi => by simpa using h5 i hi)
  obtain ⟨bs, rfl⟩ := hb
  exact ⟨a, n, c, bs, rfl, h1, by simpa [maxLen] using h2, h3, by have := h4.1; rw [bcells_len] at this; simpa using this, h4⟩
/-- and of the calls. -/
theorem Arg.ops {W : World} {v : Value} (h : Arg Try.prog W 23 v) : ∃ a n c, v = .slice a n c ∧ n ≤ c ∧ c ≤ 9223372036854775807 ∧ (n = 0 ∨ ∃ b off, a = some ⟨b, off, none⟩ ∧ b < W.heap.size ∧
    ∀ i, i < n → ∃ K N : Int, W.cell? ⟨b, off + i * 2, none⟩ = some (.int .i64 K) ∧ W.cell? ⟨b, off + i * 2 + 1, none⟩ = some (.int .i64 N) ∧ -9223372036854775808 ≤ N ∧ N ≤ 9223372036854775807) := by
  obtain ⟨a, n, c, xs, rfl, h1, h2, h3, h4, h5⟩ := h.flat_slice (e := 29) (f := 2) (ks := [some .i64, some .i64]) Try.underlying23 (by kernel_rfl) (by kernel_rfl) (by decide)
  refine ⟨a, n, c, rfl, h1, by simpa [maxLen] using h2, ?_⟩
  rcases h4.2 with h0 | ⟨b, off, rfl, hb, hc⟩
  · exact Or.inl h0
  · refine Or.inr ⟨b, off, rfl, hb, fun i hi => ?_⟩
    have hx := h5 i hi
    have hl := h4.1
    simp only [List.length_cons, List.length_nil, Nat.zero_add, Nat.reduceAdd] at hx hl hc
    have e := take_two xs (i * 2) (by omega)
    rw [e] at hx
    obtain ⟨⟨K, hK, _⟩, ⟨N, hN, hw⟩, _⟩ := hx
    have r := (fits_iff N).1 (fits_wf hw)
    exact ⟨K, N, by rw [hc (i * 2) (by omega), hK], by rw [Nat.add_assoc, hc (i * 2 + 1) (by omega), hN], r.1, r.2⟩
end Go.Proofs.Ytkegknpoejjcjaa
