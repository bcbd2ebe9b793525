/- Rows of numbers, as texts. -/
import Derived.Test.YtaaefkadkciohaaDoorTxtM
import Derived.Test.YtaaefkadkciohaaDoorTxt4
import Derived.Test.YtaaefkadkciohaaDoorHeld
import Derived.Test.YtaaefkadkciohaaDoorRws
import Derived.Deep.DeepCutAuto
import Derived.Maps.AppendAt
import Derived.Test.YtaaefkadkciohaaDoorRow
import Derived.Test.YtaaefkadkciohaaDoorOps
import Derived.RegionTactic
import Derived.BigRegion
import Derived.ChangeAlike
namespace Go.Proofs.YtaaefkadkciohaaDoor
set_option linter.unusedVariables false
set_option linter.unusedSimpArgs false
open Go.ChangeShapes Go.WideShapes Go.ChangeAt Go.RowKit
/-- numbers, a blank ahead of each. -/
def numsL (L : List Int) : List UInt8 := L.flatMap fun n => 32 :: Lib.itoa n
def numsB (L : List Int) : ByteArray := ⟨(numsL L).toArray⟩
theorem numsL_snoc {L : List Int} {i : Nat} (h : i < L.length) : numsL (L.take (i + 1)) = numsL (L.take i) ++ 32 :: Lib.itoa (L.getD i 0) := by
  unfold numsL
  rw [List.take_add_one, List.getElem?_eq_getElem h, List.flatMap_append]
  simp [List.getD_eq_getElem?_getD, List.getElem?_eq_getElem h]
theorem numsL_len {L : List Int} (hf : ∀ z ∈ L, fits z = true) : (numsL L).length ≤ 22 * L.length := by
  induction L with
  | nil => exact Nat.le_refl _
  | cons x l ih =>
    have h1 := ih (fun z hz => hf z (List.mem_cons_of_mem _ hz))
    have h2 := itB_small x (hf x List.mem_cons_self)
    rw [itB_size] at h2
    unfold numsL at h1 ⊢
    rw [List.flatMap_cons, List.length_append, List.length_cons, List.length_cons]
    omega
theorem ba_app (a b : List UInt8) : (⟨a.toArray⟩ : ByteArray) ++ ⟨b.toArray⟩ = ⟨(a ++ b).toArray⟩ := by
  rw [ByteArray.ext_iff]
  simp [ByteArray.data_append]
theorem ba_eta (s : ByteArray) : s = ⟨s.data.toList.toArray⟩ := by
  rw [ByteArray.ext_iff]
theorem ba_sz (l : List UInt8) : (⟨l.toArray⟩ : ByteArray).size = l.length := by simp [ByteArray.size]
theorem itB_eq (n : Int) : itB n = ⟨(Lib.itoa n).toArray⟩ := rfl
set_option maxHeartbeats 2000000 in
theorem row_any (hd : ByteArray) (a : Option Addr) (n c : Nat) (L : List Int) (w : World) (h : Sl w a n 1 (ints L)) (hn : n ≤ 8) (hh : hd.size ≤ 1000) (hf : ∀ z ∈ L, fits z = true) (hT : PTab w) : Calls Tryd.prog 21 #[.string hd, .slice a n c] w fun e w' => e = .returned (.string (hd ++ numsB L)) ∧ Below w.heap.size w w' := by
  have hl : Hid (L.length = n) := Lib.hid (by have := h.1; rw [ints_len] at this; omega)
  have HS := Lib.hid (fun w' (hb : Below w.heap.size w w') => h.keep hb)
  have HT := Lib.hid (fun w' (hb : Below w.heap.size w w') => hT.keep hb)
  have HF := Lib.hid hf
  have HH := Lib.hid hh
  have H0 : Hid (hd = hd ++ numsB (L.take 0)) := Lib.hid (by
    rw [List.take_zero]
    conv => lhs; rw [ba_eta hd]
    conv => rhs; rw [ba_eta hd]
    unfold numsB numsL
    rw [ba_app]
    simp)
  obtain ⟨RV, hRV⟩ : ∃ RV, RV = hd ++ numsB L := ⟨_, rfl⟩
  rw [← hRV]
  have HRV := Lib.hid hRV
  clear h hT hf hh hRV
  obtain ⟨h0, hh0⟩ : ∃ h0, h0 = hd := ⟨_, rfl⟩
  have HQ0 := Lib.hid hh0
  rw [← hh0] at H0 HRV HH
  rw [← hh0]
  clear hh0
  go_enter Tryd.func21, Tryd.ntmps21
  go_wp2_with fail
  go_loopg [0, 9] n (fun q s0 s9 wr => ∃ (i : Nat) (SB : ByteArray), q + i = n ∧ s0 = .string SB ∧ s9 = .int .i64 i ∧ Hid (SB = h0 ++ numsB (L.take i)) ∧ Hid (Below w.heap.size w wr))
  case atStart => exact ⟨0, h0, by omega, rfl, rfl, H0, Lib.hid (Below.refl _ _)⟩
  case round =>
    obtain ⟨i, SB, hqi, rfl, rfl, HSB, HB⟩ := hrel
    by_cases hi : i < n
    · have hi0 : (0 : Int) ≤ i := by omega
      have hin : (i : Int) < n := by omega
      have hnb : (n : Int) ≤ 8 := by omega
      have hsz : SB.size ≤ 1176 := by
        rw [HSB.out, ByteArray.size_append]
        unfold numsB
        rw [ba_sz (numsL (L.take i))]
        have h1 := numsL_len (L := L.take i) (fun z hz => HF.out z (List.mem_of_mem_take hz))
        have h2 := HH.out
        rw [List.length_take] at h1
        omega
      obtain ⟨b, off, ha, hb, hc⟩ : ∃ b off, a = some ⟨b, off, none⟩ ∧ b < wr.heap.size ∧ wr.cell? ⟨b, off + i, none⟩ = some (.int .i64 (L.getD i 0)) := by
        rcases (HS.out wr HB.out).2 with h0 | ⟨b, off, ha, hb, hc⟩
        · omega
        · refine ⟨b, off, ha, hb, ?_⟩
          rw [hc i (by omega), List.getD_eq_getElem?_getD, ints_get _ _ (by rw [hl.out]; exact hi)]
          rfl
      subst ha
      have hfx : fits (L.getD i 0) = true := by
        rw [List.getD_eq_getElem?_getD, List.getElem?_eq_getElem (by rw [hl.out]; exact hi)]
        exact HF.out _ (List.getElem_mem _)
      have HSN := Lib.hid (numsL_snoc (L := L) (i := i) (by rw [hl.out]; exact hi))
      obtain ⟨x, hx⟩ : ∃ x, x = L.getD i 0 := ⟨_, rfl⟩
      rw [← hx] at hc hfx HSN
      have CF := Lib.hid (fmt_any x wr hfx (HT.out wr HB.out))
      have sx := itB_small x hfx
      clear hx hfx
      go_wp2_with fail
      refine CF.out.mono ?_
      rintro e w2 ⟨rfl, hb2⟩
      have HB2 := Lib.hid (HB.out.trans (hb2.mono HB.out.size))
      clear hb2 CF
      go_wp2_with fail
      go_roundg (gk - 1)
      case measure => omega
      case rel => exact ⟨i + 1, _, by omega, rfl, by go_num, Lib.hid (by
        rw [HSB.out, ByteArray.append_assoc]
        congr 1
        unfold numsB
        rw [HSN.out, itB_eq]
        show _ ++ ((⟨([32] : List UInt8).toArray⟩ : ByteArray) ++ _) = _
        rw [ba_app, ba_app]
        rfl), HB2⟩
    · have hin : ¬ (i : Int) < n := by omega
      have HE : Hid (RV = SB) := Lib.hid (by rw [HRV.out, HSB.out, List.take_of_length_le (by rw [hl.out]; omega)])
      go_wp2_with fail
      go_ret
      exact ⟨by rw [HE.out]; rfl, HB.out⟩
set_option maxHeartbeats 2000000 in
theorem decimals_any (a : Option Addr) (n c : Nat) (L : List Int) (w : World) (h : Sl w a n 1 (ints L)) (hn : n ≤ 8) (hf : ∀ z ∈ L, fits z = true) : Calls Tryd.prog 9 #[.slice a n c] w fun e w' => e = .returned (.string (numsB L)) ∧ Below w.heap.size w w' := by
  have hl : Hid (L.length = n) := Lib.hid (by have := h.1; rw [ints_len] at this; omega)
  have HS := Lib.hid (fun w' (hb : Below w.heap.size w w') => h.keep hb)
  have HF := Lib.hid hf
  obtain ⟨RV, hRV⟩ : ∃ RV, RV = numsB L := ⟨_, rfl⟩
  rw [← hRV]
  have HRV := Lib.hid hRV
  clear h hf hRV
  go_enter Tryd.func9, Tryd.ntmps9
  go_wp2_with fail
  go_loopg [3, 4] n (fun q s3 s4 wr => ∃ (i : Nat) (SB : ByteArray), q + i = n ∧ s3 = .string SB ∧ s4 = .int .i64 i ∧ Hid (SB = numsB (L.take i)) ∧ Hid (Below w.heap.size w wr))
  case atStart => exact ⟨0, _, by omega, rfl, rfl, Lib.hid (by rw [List.take_zero]; rfl), Lib.hid (Below.refl _ _)⟩
  case round =>
    obtain ⟨i, SB, hqi, rfl, rfl, HSB, HB⟩ := hrel
    by_cases hi : i < n
    · have hi0 : (0 : Int) ≤ i := by omega
      have hin : (i : Int) < n := by omega
      have hnb : (n : Int) ≤ 8 := by omega
      have hsz : SB.size ≤ 176 := by
        rw [HSB.out]
        unfold numsB
        rw [ba_sz (numsL (L.take i))]
        have h1 := numsL_len (L := L.take i) (fun z hz => HF.out z (List.mem_of_mem_take hz))
        rw [List.length_take] at h1
        omega
      obtain ⟨b, off, ha, hb, hc⟩ : ∃ b off, a = some ⟨b, off, none⟩ ∧ b < wr.heap.size ∧ wr.cell? ⟨b, off + i, none⟩ = some (.int .i64 (L.getD i 0)) := by
        rcases (HS.out wr HB.out).2 with h0 | ⟨b, off, ha, hb, hc⟩
        · omega
        · refine ⟨b, off, ha, hb, ?_⟩
          rw [hc i (by omega), List.getD_eq_getElem?_getD, ints_get _ _ (by rw [hl.out]; exact hi)]
          rfl
      subst ha
      have hfx : fits (L.getD i 0) = true := by
        rw [List.getD_eq_getElem?_getD, List.getElem?_eq_getElem (by rw [hl.out]; exact hi)]
        exact HF.out _ (List.getElem_mem _)
      have HSN := Lib.hid (numsL_snoc (L := L) (i := i) (by rw [hl.out]; exact hi))
      obtain ⟨x, hx⟩ : ∃ x, x = L.getD i 0 := ⟨_, rfl⟩
      rw [← hx] at hc hfx HSN
      have CF := Lib.hid (decB x wr hfx)
      have sx := itB_small x hfx
      clear hx hfx
      go_wp2_with fail
      refine CF.out.mono ?_
      rintro e w2 ⟨rfl, hb2⟩
      have HB2 := Lib.hid (HB.out.trans (hb2.mono HB.out.size))
      clear hb2 CF
      go_wp2_with fail
      go_roundg (gk - 1)
      case measure => omega
      case rel => exact ⟨i + 1, _, by omega, rfl, by go_num, Lib.hid (by
        rw [HSB.out, ByteArray.append_assoc]
        unfold numsB
        rw [HSN.out, itB_eq]
        show _ ++ ((⟨([32] : List UInt8).toArray⟩ : ByteArray) ++ _) = _
        rw [ba_app, ba_app]
        rfl), HB2⟩
    · have hin : ¬ (i : Int) < n := by omega
      have HE : Hid (RV = SB) := Lib.hid (by rw [HRV.out, HSB.out, List.take_of_length_le (by rw [hl.out]; omega)])
      go_wp2_with fail
      go_ret
      exact ⟨by rw [HE.out]; rfl, HB.out⟩
/-- a literal of integers. -/
theorem sl_lit (w : World) (T : TypeId) (xs : List Int) (hp : 0 < xs.length) : Sl (w.alloc (.cells (ints xs).toArray T)) (some ⟨w.heap.size, 0, none⟩) xs.length 1 (ints xs) := by
  refine ⟨by rw [ints_len]; omega, Or.inr ⟨_, _, rfl, by simp, fun j hj => ?_⟩⟩
  rw [Nat.zero_add, cell_of_row _ _ j _ _ _ (heap_alloc_new _ _), List.getD_eq_getElem?_getD, List.getElem?_eq_getElem (by rw [ints_len]; omega)]
  simp [List.getElem?_eq_getElem (show j < (ints xs).length by rw [ints_len]; omega)]
/-- a listed array of words. -/
def STab (g : Nat) (L : List (List UInt8)) (w : World) : Prop := g < w.heap.size ∧ ∀ i, i < L.length → w.cell? ⟨g, i, none⟩ = some (.string ⟨(L.getD i []).toArray⟩)
theorem STab.keep {g : Nat} {L : List (List UInt8)} {w w' : World} (h : STab g L w) (hb : Below w.heap.size w w') : STab g L w' := ⟨Nat.lt_of_lt_of_le h.1 hb.size, fun i hi => (hb.cell (p := ⟨g, i, none⟩) h.1).trans (h.2 i hi)⟩
theorem stab_of {w : World} {l : List (String × DataW Unit)} {name : String} {g t n : Nat} {L : List (List UInt8)} (hL : laidMet Tryd.prog l w) (hm : (name, (.agg (L.map fun s => .lit (.string s)) : DataW Unit)) ∈ l) (e1 : Tryd.prog.globalNamed name = some g) (e2 : (Tryd.prog.globals[g]?).map (·.type) = some t) (ht : Tryd.prog.underlying t = some (.array n 9)) (hn : L.length = n) (h0 : 0 < n) : STab g L w := by
  obtain ⟨g', t', cs, fuel, p, hg, hty, hvar, hd⟩ := Lib.laidMet.reads hL hm
  obtain rfl := Option.some.inj (e1.symm.trans hg)
  obtain rfl := Option.some.inj (e2.symm.trans hty)
  have HC : ∀ i, i < n → w.cell? ⟨g, i, none⟩ = some (.string ⟨(L.getD i []).toArray⟩) := fun i hi => by
    obtain ⟨fuel', d, q, hdi, he⟩ := Lib.array_elem ht hd i hi
    rw [show Tryd.prog.cellsOf 9 = 1 by kernel_rfl] at he
    obtain ⟨s, hcs, hs, _⟩ := DataW.trod_string Tryd.underlying9 he
    have e0 := congrArg (·[0]?) hcs
    simp only [List.getElem?_take, List.getElem?_drop, Nat.mul_one, Nat.add_zero] at e0
    rw [World.var?_cell hg hvar i, ← Array.getElem?_toList]
    have e3 : cs.toList[i]? = some (.string s) := by simpa using e0
    rw [e3]
    injection hs with hs1
    rw [List.getElem?_map] at hdi
    have hw : L[i]? = some s.data.toList := by
      cases hx : L[i]? with
      | none => rw [hx] at hdi; cases hdi
      | some y =>
        rw [hx] at hdi
        injection hdi with h1
        rw [hs1] at h1
        injection h1 with h1
        injection h1 with h1
        rw [h1]
    rw [List.getD_eq_getElem?_getD, hw]
    simp
  refine ⟨?_, fun i hi => HC i (by omega)⟩
  exact block_lt_of_cell (HC 0 h0)
end Go.Proofs.YtaaefkadkciohaaDoor
