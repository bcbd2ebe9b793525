/- What is known of changes one behind another: over lists. -/
import Derived.Test.YtmgjbgingjiimaaVec3
import Derived.Test.YtmgjbgingjiimaaVec4
namespace Go.Proofs.Ytmgjbgingjiimaa
set_option linter.unusedVariables false
set_option linter.unusedSimpArgs false
def step8 (A : List Int) (r s : Int) : List Int := if isRep r then A.set r.toNat (max (A.getD r.toNat 0) s) else A
theorem step8_len (A : List Int) (r s : Int) : (step8 A r s).length = A.length := by unfold step8; split <;> simp
theorem step8_get {A : List Int} {r s : Int} {k : Nat} (hk : k < A.length) : (step8 A r s).getD k 0 = if isRep r = true ∧ r.toNat = k then max (A.getD k 0) s else A.getD k 0 := by
  unfold step8
  by_cases h : isRep r = true
  · rw [if_pos h]
    by_cases e : r.toNat = k
    · subst e
      rw [if_pos ⟨h, rfl⟩, List.getD_eq_getElem?_getD, List.getElem?_set_self hk]; rfl
    · rw [if_neg (fun q => e q.2), List.getD_eq_getElem?_getD, List.getElem?_set_ne e, ← List.getD_eq_getElem?_getD]
  · rw [if_neg h, if_neg (fun q => h q.1)]
theorem ofTo_step (L : List Int) (k : Nat) : ofTo L (k + 1) = step8 (ofTo L k) (L.getD (k * 9) 0) (L.getD (k * 9 + 1) 0) := rfl
def ofFrom (A M : List Int) : Nat → List Int
  | 0 => A
  | k + 1 => step8 (ofFrom A M k) (M.getD (k * 9) 0) (M.getD (k * 9 + 1) 0)
theorem ofFrom_len (A M : List Int) : ∀ k, (ofFrom A M k).length = A.length
  | 0 => rfl
  | k + 1 => by rw [ofFrom, step8_len, ofFrom_len A M k]
theorem getD_left {A B : List Int} {k : Nat} (h : k < A.length) : (A ++ B).getD k 0 = A.getD k 0 := by
  rw [List.getD_eq_getElem?_getD, List.getElem?_append_left h, ← List.getD_eq_getElem?_getD]
theorem getD_right {A B : List Int} (k : Nat) : (A ++ B).getD (A.length + k) 0 = B.getD k 0 := by
  rw [List.getD_eq_getElem?_getD, List.getElem?_append_right (Nat.le_add_right _ _), Nat.add_sub_cancel_left, ← List.getD_eq_getElem?_getD]
theorem ofTo_app_lo {L M : List Int} {n : Nat} (hl : L.length = n * 9) : ∀ k, k ≤ n → ofTo (L ++ M) k = ofTo L k
  | 0, _ => rfl
  | k + 1, h => by rw [ofTo_step, ofTo_step, ofTo_app_lo hl k (by omega), getD_left (by omega), getD_left (by omega)]
theorem ofTo_app {L M : List Int} {n : Nat} (hl : L.length = n * 9) : ∀ k, ofTo (L ++ M) (n + k) = ofFrom (ofTo L n) M k
  | 0 => ofTo_app_lo hl n (Nat.le_refl _)
  | k + 1 => by
    rw [← Nat.add_assoc, ofTo_step, ofFrom, ofTo_app hl k, show (n + k) * 9 = L.length + k * 9 by omega, getD_right, show L.length + k * 9 + 1 = L.length + (k * 9 + 1) by omega, getD_right]
theorem ext4 {A B : List Int} {n : Nat} (ha : A.length = n) (hb : B.length = n) (h : ∀ k, k < n → A.getD k 0 = B.getD k 0) : A = B := by
  refine List.ext_getElem (ha.trans hb.symm) fun k h1 h2 => ?_
  have := h k (by omega)
  rwa [List.getD_eq_getElem?_getD, List.getD_eq_getElem?_getD, List.getElem?_eq_getElem h1, List.getElem?_eq_getElem h2] at this
theorem join4_size {v u : List Int} (hv : v.length = 4) : (join4 v u).length = 4 := by unfold join4; rw [joinTo_len, hv]
theorem join4_at {v u : List Int} (hv : v.length = 4) {k : Nat} (hk : k < 4) : (join4 v u).getD k 0 = max (v.getD k 0) (u.getD k 0) := joinTo_lo v u 4 k hk (by omega)
theorem join_step {v u : List Int} (hv : v.length = 4) (hu : u.length = 4) (r s : Int) : join4 v (step8 u r s) = step8 (join4 v u) r s := by
  refine ext4 (join4_size hv) (by rw [step8_len, join4_size hv]) fun k hk => ?_
  rw [join4_at hv hk, step8_get (by omega), step8_get (by rw [join4_size hv]; exact hk), join4_at hv hk]
  split
  · omega
  · rfl
theorem step8_same {A : List Int} {r s : Int} (h : isRep r = true → s ≤ A.getD r.toNat 0) : step8 A r s = A := by
  refine ext4 (n := A.length) (step8_len _ _ _) rfl fun k hk => ?_
  rw [step8_get hk]
  split
  · rename_i q; obtain ⟨q1, rfl⟩ := q; have := h q1; omega
  · rfl
theorem lackTo_len {v M : List Int} {m : Nat} (hm : M.length = m * 9) : ∀ k, k ≤ m → (lackTo v M k).length = lackN v M k * 9
  | 0, _ => rfl
  | k + 1, h => by
    have ih := lackTo_len (v := v) hm k (by omega)
    unfold lackTo lackN
    split
    · exact ih
    · rw [List.length_append, chAt_len hm (by omega), ih]; omega
theorem step8_ge {A : List Int} {r s : Int} {k : Nat} (hk : k < A.length) : A.getD k 0 ≤ (step8 A r s).getD k 0 := by
  rw [step8_get hk]; split <;> omega
theorem ofFrom_ge {A M : List Int} {k : Nat} (hk : k < A.length) : ∀ j, A.getD k 0 ≤ (ofFrom A M j).getD k 0
  | 0 => Int.le_refl _
  | j + 1 => Int.le_trans (ofFrom_ge hk j) (step8_ge (by rw [ofFrom_len]; exact hk))
theorem known_le {v : List Int} {r s : Int} (h : known v r s = true) : isRep r = true ∧ 1 ≤ s ∧ s ≤ v.getD r.toNat 0 := by
  simpa [known, and_assoc] using h
theorem join_lack {v M : List Int} {m : Nat} (hv : v.length = 4) (h0 : ∀ k, k < 4 → 0 ≤ v.getD k 0) (hm : M.length = m * 9) : ∀ k, k ≤ m → join4 v (ofTo (lackTo v M k) (lackN v M k)) = ofFrom v M k
  | 0, _ => ext4 (join4_size hv) hv fun k hk => by
      rw [join4_at hv hk]
      have := h0 k hk
      have e : (ofTo (lackTo v M 0) (lackN v M 0)).getD k 0 = 0 := by
        show ([0, 0, 0, 0] : List Int).getD k 0 = 0
        match k, hk with
        | 0, _ => rfl
        | 1, _ => rfl
        | 2, _ => rfl
        | 3, _ => rfl
      rw [e]; show _ = v.getD k 0; omega
  | k + 1, h => by
    have ih := join_lack hv h0 hm k (by omega)
    rcases hkn : known v (M.getD (k * 9) 0) (M.getD (k * 9 + 1) 0) with _ | _
    · obtain ⟨e1, e2⟩ := lackTo_no hkn
      rw [e1, e2, ofTo_app (lackTo_len hm k (by omega)) 1]
      show join4 v (step8 _ ((chAt M k).getD (0 * 9) 0) ((chAt M k).getD (0 * 9 + 1) 0)) = _
      rw [chAt_get (by decide), chAt_get (by decide)]
      show join4 v (step8 (ofTo (lackTo v M k) (lackN v M k)) (M.getD (k * 9) 0) (M.getD (k * 9 + 1) 0)) = _
      rw [join_step hv (ofTo_len _ _)]
      show step8 (join4 v (ofTo (lackTo v M k) (lackN v M k))) _ _ = _
      rw [ih]
      rfl
    · obtain ⟨e1, e2⟩ := lackTo_yes hkn
      rw [e1, e2, ih, ofFrom]
      obtain ⟨q1, q2, q3⟩ := known_le hkn
      obtain ⟨a1, a2⟩ := isRep_true q1
      exact (step8_same fun _ => Int.le_trans q3 (ofFrom_ge (by omega) k)).symm
theorem ofTo_nonneg (L : List Int) : ∀ n k, k < 4 → 0 ≤ (ofTo L n).getD k 0
  | 0, k, hk => by
    show 0 ≤ ([0, 0, 0, 0] : List Int).getD k 0
    match k, hk with
    | 0, _ => decide
    | 1, _ => decide
    | 2, _ => decide
    | 3, _ => decide
  | n + 1, k, hk => Int.le_trans (ofTo_nonneg L n k hk) (by rw [ofTo_step]; exact step8_ge (by rw [ofTo_len]; exact hk))
/-- what is known, and what is lacking, come to what is known of all. -/
theorem knows_all {L M : List Int} {n m : Nat} (hl : L.length = n * 9) (hm : M.length = m * 9) : join4 (ofTo L n) (ofTo (lackTo (ofTo L n) M m) (lackN (ofTo L n) M m)) = ofTo (L ++ M) (n + m) := by
  rw [join_lack (ofTo_len _ _) (ofTo_nonneg L n) hm m (Nat.le_refl _), ofTo_app hl]
theorem ofTo_le {L : List Int} : ∀ n j, j < n → isRep (L.getD (j * 9) 0) = true → L.getD (j * 9 + 1) 0 ≤ (ofTo L n).getD (L.getD (j * 9) 0).toNat 0
  | 0, j, h, _ => absurd h (Nat.not_lt_zero _)
  | n + 1, j, h, hr => by
    obtain ⟨a1, a2⟩ := isRep_true hr
    rw [ofTo_step]
    by_cases e : j = n
    · subst e
      rw [step8_get (by rw [ofTo_len]; omega), if_pos ⟨hr, rfl⟩]
      omega
    · exact Int.le_trans (ofTo_le n j (by omega) hr) (step8_ge (by rw [ofTo_len]; omega))
theorem lack_mem {v L : List Int} {n : Nat} (hl : L.length = n * 9) : ∀ k, k ≤ n → ∀ i, i < lackN v L k → ∃ j, j < k ∧ (lackTo v L k).getD (i * 9) 0 = L.getD (j * 9) 0 ∧ (lackTo v L k).getD (i * 9 + 1) 0 = L.getD (j * 9 + 1) 0 ∧ known v (L.getD (j * 9) 0) (L.getD (j * 9 + 1) 0) = false
  | 0, _, i, hi => absurd hi (Nat.not_lt_zero _)
  | k + 1, h, i, hi => by
    have hlen := lackTo_len (v := v) hl k (by omega)
    rcases hkn : known v (L.getD (k * 9) 0) (L.getD (k * 9 + 1) 0) with _ | _
    · obtain ⟨e1, e2⟩ := lackTo_no hkn
      rw [e2] at hi
      rw [e1]
      by_cases e : i < lackN v L k
      · obtain ⟨j, h1, h2, h3, h4⟩ := lack_mem hl k (by omega) i e
        exact ⟨j, by omega, by rw [getD_left (by omega)]; exact h2, by rw [getD_left (by omega)]; exact h3, h4⟩
      · have ei : i * 9 = (lackTo v L k).length := by omega
        refine ⟨k, by omega, ?_, ?_, hkn⟩
        · rw [ei, ← Nat.add_zero (lackTo v L k).length, getD_right, chAt_get (by decide)]; rfl
        · rw [ei, getD_right, chAt_get (by decide)]
    · obtain ⟨e1, e2⟩ := lackTo_yes hkn
      rw [e2] at hi
      rw [e1]
      obtain ⟨j, h1, h2, h3, h4⟩ := lack_mem hl k (by omega) i hi
      exact ⟨j, by omega, h2, h3, h4⟩
/-- none of what was heard is lacking, as far as it may be known. -/
theorem own_lack {L : List Int} {n : Nat} (hl : L.length = n * 9) {i : Nat} (hi : i < lackN (ofTo L n) L n) : isRep ((lackTo (ofTo L n) L n).getD (i * 9) 0) = true → (lackTo (ofTo L n) L n).getD (i * 9 + 1) 0 < 1 := fun hr => by
  obtain ⟨j, h1, h2, h3, h4⟩ := lack_mem hl n (Nat.le_refl _) i hi
  rw [h2] at hr
  rw [h3]
  have := ofTo_le n j h1 hr
  unfold known at h4
  rw [hr, Bool.true_and, decide_eq_true this, Bool.and_true] at h4
  have := of_decide_eq_false h4
  omega
end Go.Proofs.Ytmgjbgingjiimaa
