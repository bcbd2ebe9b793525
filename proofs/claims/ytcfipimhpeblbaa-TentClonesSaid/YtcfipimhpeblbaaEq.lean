/- '==' on structs and arrays of numbers and truth values: whether their cells are the same. -/
import Derived.Test.YtcfipimhpeblbaaRd
import Derived.DeepKeys
namespace Go.Proofs.Ytcfipimhpeblbaa
set_option linter.unusedVariables false
open Go.ChangeShapes Go.WideShapes Go.ChangeAt Go.RowKit
def litOf : Value → Lit
  | .int k n => .int k n
  | .bool b => .bool b
  | _ => .bool false
theorem CellOk.litOf_inj {k : Option IntKind} {u v : Value} (hu : CellOk k u) (hv : CellOk k v) (h : litOf u = litOf v) : u = v := by
  cases k with
  | none => obtain ⟨a, rfl⟩ := hu; obtain ⟨b, rfl⟩ := hv; simp [litOf] at h; rw [h]
  | some k => obtain ⟨a, rfl, _⟩ := hu; obtain ⟨b, rfl, _⟩ := hv; simp [litOf] at h; rw [h]
theorem OkAll.lits_inj {ks : List (Option IntKind)} : ∀ {xs ys : List Value}, OkAll ks xs → OkAll ks ys → xs.map litOf = ys.map litOf → xs = ys := by
  induction ks with
  | nil => intro xs ys hx hy _; cases xs <;> cases ys <;> simp_all [OkAll]
  | cons k ks ih =>
    intro xs ys hx hy h
    cases xs with
    | nil => simp [OkAll] at hx
    | cons x xs =>
      cases ys with
      | nil => simp [OkAll] at hy
      | cons y ys =>
        simp only [List.map_cons, List.cons.injEq] at h
        rw [hx.1.litOf_inj hy.1 h.1, ih hx.2 hy.2 h.2]
theorem OkAll.split {a b : List (Option IntKind)} : ∀ {xs : List Value}, OkAll (a ++ b) xs → OkAll a (xs.take a.length) ∧ OkAll b (xs.drop a.length) := by
  induction a with
  | nil => intro xs h; simpa [OkAll] using h
  | cons k a ih =>
    intro xs h
    cases xs with
    | nil => simp [OkAll] at h
    | cons x xs =>
      have := ih h.2
      exact ⟨⟨h.1, this.1⟩, this.2⟩
section
variable {P : Program}
def LitsAt (P : Program) (f : Nat) : Prop := ∀ (m : Nat) (t : TypeId) (ks : List (Option IntKind)) (cs : List Value), flat P f t = some ks → P.keyTypeAt m t = true → OkAll ks cs → P.keyLits f t cs = some (cs.map litOf)
theorem lits_fields {f : Nat} (ih : LitsAt P f) (cs : List Value) (gs : List Field) : ∀ off a, flatFields P (flat P f) off gs = some a → (∀ g ∈ gs, ∃ m, P.keyTypeAt m g.type = true) → OkAll a ((cs.drop off).take a.length) →
    ∃ L, gs.mapM (fun g => P.keyLits f g.type ((cs.drop g.offset).take (P.cellsOf g.type))) = some L ∧ L.flatten = ((cs.drop off).take a.length).map litOf := by
  induction gs with
  | nil =>
    intro off a h _ _
    simp only [flatFields, Option.some.injEq] at h
    subst h
    exact ⟨[], by simp, by simp⟩
  | cons g gs ihg =>
    intro off a h hk ho
    simp only [flatFields] at h
    split at h
    · rename_i hoff
      obtain ⟨a1, h1, h2⟩ := Option.bind_eq_some_iff.1 h
      split at h2
      · rename_i hc
        obtain ⟨a2, h3, rfl⟩ := Option.map_eq_some_iff.1 h2
        obtain ⟨s1, s2⟩ := ho.split
        have e1 : (((cs.drop off).take (a1 ++ a2).length).take a1.length) = (cs.drop off).take a1.length := by
          rw [List.take_take, Nat.min_eq_left (by simp)]
        have e2 : (((cs.drop off).take (a1 ++ a2).length).drop a1.length) = (cs.drop (off + a1.length)).take a2.length := by
          rw [List.drop_take, List.drop_drop, List.length_append, Nat.add_sub_cancel_left]
        rw [e1] at s1
        rw [e2] at s2
        obtain ⟨m, hm⟩ := hk g (List.mem_cons_self ..)
        have q1 := ih m g.type a1 _ h1 hm s1
        obtain ⟨L, q2, q3⟩ := ihg _ _ h3 (fun g' hg' => hk g' (List.mem_cons_of_mem _ hg')) s2
        refine ⟨((cs.drop off).take a1.length).map litOf :: L, ?_, ?_⟩
        · rw [List.mapM_cons, hoff, hc, q1, q2]; rfl
        · rw [List.flatten_cons, q3, ← List.map_append, List.length_append, List.take_add, List.drop_drop]
      · cases h2
    · cases h
theorem lits_array {f : Nat} (ih : LitsAt P f) {e : TypeId} {a : List (Option IntKind)} {m : Nat} (he : flat P f e = some a) (hm : P.keyTypeAt m e = true) (hc : P.cellsOf e = a.length) (cs : List Value) : ∀ (n s : Nat), OkAll (List.replicate n a).flatten ((cs.drop (s * a.length)).take (n * a.length)) →
    ∃ L, (List.range' s n).mapM (fun i => P.keyLits f e ((cs.drop (i * P.cellsOf e)).take (P.cellsOf e))) = some L ∧ L.flatten = ((cs.drop (s * a.length)).take (n * a.length)).map litOf := by
  intro n
  induction n with
  | zero => intro s _; exact ⟨[], by simp, by simp⟩
  | succ n ihn =>
    intro s ho
    rw [List.replicate_succ, List.flatten_cons] at ho
    obtain ⟨s1, s2⟩ := ho.split
    have e1 : (((cs.drop (s * a.length)).take ((n + 1) * a.length)).take a.length) = (cs.drop (s * a.length)).take a.length := by
      rw [List.take_take, Nat.min_eq_left (by rw [Nat.succ_mul]; omega)]
    have e2 : (((cs.drop (s * a.length)).take ((n + 1) * a.length)).drop a.length) = (cs.drop ((s + 1) * a.length)).take (n * a.length) := by
      rw [List.drop_take, List.drop_drop, Nat.succ_mul, Nat.succ_mul, Nat.add_sub_cancel]
    rw [e1] at s1
    rw [e2] at s2
    have q1 := ih m e a _ he hm s1
    obtain ⟨L, q2, q3⟩ := ihn (s + 1) s2
    refine ⟨((cs.drop (s * a.length)).take a.length).map litOf :: L, ?_, ?_⟩
    · rw [List.range'_succ, List.mapM_cons, hc, q1, ← hc, q2]; rfl
    · rw [List.flatten_cons, q3, ← List.map_append, show (n + 1) * a.length = a.length + n * a.length by rw [Nat.succ_mul, Nat.add_comm], List.take_add, List.drop_drop, show (s + 1) * a.length = s * a.length + a.length by rw [Nat.succ_mul]]
theorem lits_ok : ∀ f, LitsAt P f := by
  intro f
  induction f with
  | zero => intro m t ks cs h; simp [flat] at h
  | succ f ih =>
    intro m t ks cs h hk ho
    cases m with
    | zero => simp [Program.keyTypeAt] at hk
    | succ m =>
      have hlen := ho.len
      simp only [flat] at h
      unfold Program.keyTypeAt at hk
      split at h
      · rename_i hu
        simp only [Option.some.injEq] at h
        subst h
        match cs, ho with
        | [v], ho =>
          obtain ⟨b, rfl⟩ := ho.1
          unfold Program.keyLits
          simp [hu, litOf]
      · rename_i k hu
        simp only [Option.some.injEq] at h
        subst h
        match cs, ho with
        | [v], ho =>
          obtain ⟨n, rfl, hw⟩ := ho.1
          unfold Program.keyLits
          simp [hu, litOf, hw]
      · rename_i fs hu
        simp only [hu, Bool.and_eq_true, Array.all_eq_true_iff_forall_mem] at hk
        obtain ⟨a, h1, h2⟩ := Option.bind_eq_some_iff.1 h
        split at h2
        · rename_i hc
          simp only [Option.some.injEq] at h2
          subst h2
          obtain ⟨L, q1, q2⟩ := lits_fields ih cs fs.toList 0 a h1 (fun g hg => ⟨m, by have := hk.1.1 g (by simpa using hg); exact this.2⟩) (by rwa [List.drop_zero, List.take_of_length_le (by omega)])
          rw [List.drop_zero, List.take_of_length_le (by omega)] at q2
          unfold Program.keyLits
          simp only [hu]
          have hb : fs.all (fun x => x.name != "_") = true := by
            rw [Array.all_eq_true_iff_forall_mem]
            intro g hg
            exact (hk.1.1 g hg).1
          have hcl : cs.length = P.cellsOf t := by omega
          rw [if_pos ⟨hcl, hb⟩, q1]
          simp [q2]
        · cases h2
      · rename_i n e hu
        simp only [hu] at hk
        obtain ⟨a, h1, h2⟩ := Option.bind_eq_some_iff.1 h
        split at h2
        · rename_i hc
          simp only [Option.some.injEq] at h2
          subst h2
          have hfl : (List.replicate n a).flatten.length = n * a.length := by simp
          rw [hfl] at hlen
          obtain ⟨L, q1, q2⟩ := lits_array ih h1 hk hc.1 cs n 0 (by rwa [Nat.zero_mul, List.drop_zero, List.take_of_length_le (by omega)])
          rw [Nat.zero_mul, List.drop_zero, List.take_of_length_le (by omega)] at q2
          rw [← List.range_eq_range'] at q1
          unfold Program.keyLits
          simp only [hu]
          have hcl : cs.length = P.cellsOf t := by omega
          rw [if_pos hcl, q1]
          simp [q2]
        · cases h2
      · cases h
def codeOf : Value → Int
  | .int _ n => n
  | .bool b => if b then 1 else 0
  | _ => 0
theorem CellOk.code_inj {k : Option IntKind} {u v : Value} (hu : CellOk k u) (hv : CellOk k v) (h : codeOf u = codeOf v) : u = v := by
  cases k with
  | none => obtain ⟨a, rfl⟩ := hu; obtain ⟨b, rfl⟩ := hv; cases a <;> cases b <;> simp_all [codeOf]
  | some k => obtain ⟨a, rfl, _⟩ := hu; obtain ⟨b, rfl, _⟩ := hv; simp [codeOf] at h; rw [h]
theorem OkAll.codes_inj {ks : List (Option IntKind)} : ∀ {xs ys : List Value}, OkAll ks xs → OkAll ks ys → xs.map codeOf = ys.map codeOf → xs = ys := by
  induction ks with
  | nil => intro xs ys hx hy _; cases xs <;> cases ys <;> simp_all [OkAll]
  | cons k ks ih =>
    intro xs ys hx hy h
    cases xs with
    | nil => simp [OkAll] at hx
    | cons x xs =>
      cases ys with
      | nil => simp [OkAll] at hy
      | cons y ys =>
        simp only [List.map_cons, List.cons.injEq] at h
        rw [hx.1.code_inj hy.1 h.1, ih hx.2 hy.2 h.2]
/-- whether cells are the same. -/
def sameB (xs ys : List Value) : Bool := decide (xs.map codeOf = ys.map codeOf)
theorem sameB_iff {ks : List (Option IntKind)} {xs ys : List Value} (hx : OkAll ks xs) (hy : OkAll ks ys) : sameB xs ys = true ↔ xs = ys := by
  unfold sameB
  rw [decide_eq_true_eq]
  exact ⟨fun h => hx.codes_inj hy h, fun h => by rw [h]⟩
theorem sameB_refl (xs : List Value) : sameB xs xs = true := by simp [sameB]
theorem equal_flat (f m : Nat) (t : TypeId) (ks : List (Option IntKind)) (xs ys : List Value) (w : World) (hf : flat P f t = some ks) (hk : P.keyTypeAt m t = true) (hx : OkAll ks xs) (hy : OkAll ks ys) (ha : (Value.agg xs.toArray).formed P t = true) (hb : (Value.agg ys.toArray).formed P t = true) (d : Nat) :
    (Op.equalIn (d + m) t (.agg xs.toArray) (.agg ys.toArray)).run P w = .ok (sameB xs ys) w := by
  obtain ⟨r, h1, h2⟩ := run_equalIn_deep d m t hk w f f (.agg xs.toArray) (.agg ys.toArray) _ _ ha hb (by simpa [Value.cells] using lits_ok f m t ks xs hf hk hx) (by simpa [Value.cells] using lits_ok f m t ks ys hf hk hy)
  rw [h1]
  congr 1
  rw [Bool.eq_iff_iff, h2, sameB_iff hx hy]
  exact ⟨fun h => hx.lits_inj hy h, fun h => by rw [h]⟩
theorem formed_of {t : TypeId} {ks : List (Option IntKind)} {xs : List Value} (hd : (match P.underlying t with | some (.struct _) | some (.array _ _) => true | _ => false) = true) (hc : P.cellsOf t = ks.length) (hx : OkAll ks xs) : (Value.agg xs.toArray).formed P t = true := by
  have hl := hx.len
  show (match P.underlying t with | some (.struct _) | some (.array _ _) => xs.toArray.size == P.cellsOf t | _ => false) = true
  revert hd
  split <;> simp_all
/-- '!=', and '=='. -/
theorem neq_flat (f m : Nat) (t : TypeId) (ks : List (Option IntKind)) (xs ys : List Value) (w : World) (hf : flat P f t = some ks) (hk : P.keyTypeAt m t = true) (hd : (match P.underlying t with | some (.struct _) | some (.array _ _) => true | _ => false) = true) (hc : P.cellsOf t = ks.length) (hm : m ≤ 10000) (hx : OkAll ks xs) (hy : OkAll ks ys) :
    (binOp .neq t (.agg xs.toArray) (.agg ys.toArray)).run P w = .ok (.bool (!sameB xs ys)) w := by
  rw [run_neq_struct, show 10000 = (10000 - m) + m by omega, equal_flat f m t ks xs ys w hf hk hx hy (formed_of hd hc hx) (formed_of hd hc hy)]
  rfl
theorem eql_flat (f m : Nat) (t : TypeId) (ks : List (Option IntKind)) (xs ys : List Value) (w : World) (hf : flat P f t = some ks) (hk : P.keyTypeAt m t = true) (hd : (match P.underlying t with | some (.struct _) | some (.array _ _) => true | _ => false) = true) (hc : P.cellsOf t = ks.length) (hm : m ≤ 10000) (hx : OkAll ks xs) (hy : OkAll ks ys) :
    (binOp .eql t (.agg xs.toArray) (.agg ys.toArray)).run P w = .ok (.bool (sameB xs ys)) w := by
  rw [run_eql_struct, show 10000 = (10000 - m) + m by omega, equal_flat f m t ks xs ys w hf hk hx hy (formed_of hd hc hx) (formed_of hd hc hy)]
  rfl
end
end Go.Proofs.Ytcfipimhpeblbaa
