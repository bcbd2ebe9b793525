/- stamp.Put. -/
import Derived.Test.YtcfipimhpeblbaaStm12
import Derived.RangeFuncNested
import Derived.RangeFuncBound
import Derived.RangeFuncCalls
import Derived.RangeFuncLeaves
import Derived.RangeFuncBox
import Derived.Shelf.Abstract
import Derived.WalkKit
import Derived.OwnWalkIn
import Derived.TacticsInMore
import Derived.LoopNIn
import Derived.LoopIn
import Derived.Deep.DeepCutAuto
import Derived.Maps.AppendAt
import Derived.Test.YtcfipimhpeblbaaRow
import Derived.Test.YtcfipimhpeblbaaOps
import Derived.RegionTactic
import Derived.BigRegion
import Derived.ChangeAlike
namespace Go.Proofs.Ytcfipimhpeblbaa
set_option linter.unusedVariables false
set_option linter.unusedSimpArgs false
open Go.ChangeShapes Go.WideShapes Go.ChangeAt Go.RowKit
attribute [local go_sem] Oper.semAt_some
/-- right behind the last one that is not above it. -/
def putAt (L : List Int) (cv : List Int) : Nat → Nat
  | 0 => 0
  | k + 1 => if lessC cv (rAt 9 L k) = true then putAt L cv k else k + 1
theorem putAt_le (L cv : List Int) : ∀ n, putAt L cv n ≤ n
  | 0 => Nat.le_refl _
  | n + 1 => by
    unfold putAt
    split
    · exact Nat.le_succ_of_le (putAt_le L cv n)
    · exact Nat.le_refl _
theorem putAt_all {L cv : List Int} : ∀ {n : Nat}, (∀ j, j < n → lessC cv (rAt 9 L j) = true) → putAt L cv n = 0
  | 0, _ => rfl
  | n + 1, h => by
    unfold putAt
    rw [if_pos (h n (by omega))]
    exact putAt_all fun j hj => h j (by omega)
theorem putAt_hit {L cv : List Int} {m : Nat} (h2 : lessC cv (rAt 9 L m) = false) : ∀ {n : Nat}, m < n → (∀ j, m < j → j < n → lessC cv (rAt 9 L j) = true) → putAt L cv n = m + 1
  | 0, h, _ => absurd h (Nat.not_lt_zero _)
  | n + 1, hm, h => by
    unfold putAt
    by_cases hmn : m = n
    · subst hmn
      rw [if_neg (by rw [h2]; decide)]
    · rw [if_pos (h n (by omega) (by omega))]
      exact putAt_hit h2 (by omega) fun j h1 hj => h j h1 (by omega)
theorem mem_downs {n k i : Nat} (h : i < k) : n - 1 - i ∈ downs n k := List.mem_map.2 ⟨i, List.mem_range.2 h, rfl⟩
def putC (L : List Int) (n : Nat) (cv : List Int) : List Int := L.take (putAt L cv n * 9) ++ cv ++ L.drop (putAt L cv n * 9)
theorem li_skip {F : Fence} {n : Nat} {P : Program} {w w' : World} {ops : Array Oper} {rest : List Oper} {o : Oper} {a : Act} {Q : Exit → Act → World → Prop} (hg : o.guard = none) (hd : ∀ c, o.op ≠ .defer c) (hab : o.about P w a.eval = none)
    (hr : (execOp a.eval o).run P w = .ok .skip w') (h : wpListIn F n P ops Q rest (a.put o.dst undef) w') : wpListIn F n P ops Q (o :: rest) a w := by
  refine wpListIn_plain hg fun K hK => ?_
  unfold Oper.wpIn
  refine ⟨(fun f hf => by rw [hab] at hf; cases hf), ?_⟩
  rw [Oper.semAt_plain F _ _ hd, hr]
  exact hK _ _ h
theorem li_st_new {F : Fence} {n : Nat} {w : World} {ops : Array Oper} {rest : List Oper} {a : Act} {Q : Exit → Act → World → Prop} {T t t' U : Nat} {cs : List Value} {old : Array Value} {ty : TypeId} {ps : String} {af : Array Edge} (hT : RowT T cs.length) (h1 : ∀ u ∈ cs, u.oneCell' = true)
    (hx : a.eval (.tmp t) = .pointer (some ⟨w.heap.size, 0, none⟩)) (hy : a.eval (.tmp t') = .agg cs.toArray) (hl : old.size = cs.length) (h : wpListIn F n Try.prog ops Q rest (a.put none undef) (w.alloc (.cells cs.toArray U))) :
    wpListIn F n Try.prog ops Q (⟨none, .store T (.tmp t) (.tmp t'), ty, ps, af, none⟩ :: rest) a (w.alloc (.cells old U)) := by
  refine li_skip (w' := (w.alloc (.cells old U)).setCells w.heap.size 0 cs) rfl (fun c e => by cases e) rfl (st_part_runT rfl hx hy (Blk.new w old U) (by simp [hl]) hT.2 h1) ?_
  rw [setAll_new w old _ U hl.symm]
  exact h
theorem blk_grown {W W' : World} {row : Option Nat} {g t : Nat} {cs : List Value} (h : Blk W g cs t) (hg : W.grownBy W' row) (hne : ∀ r, row = some r → r ≠ g) : Blk W' g cs t := (hg.block g h.lt (fun e => hne _ e.symm rfl)).trans h
theorem only_grown {p : Nat → Prop} {W0 W W' : World} {row : Option Nat} (h : Only p W0 W) (hg : W.grownBy W' row) (hr : ∀ r, row = some r → W0.heap.size ≤ r) : Only p W0 W' :=
  ⟨hg.os.trans h.os, hg.tape.trans h.tape, hg.output.trans h.output, Nat.le_trans h.size hg.size, fun k hk hp => (hg.block k (Nat.lt_of_lt_of_le hk h.size) (fun e => by have := hr k e.symm; omega)).trans (h.block k hk hp)⟩
theorem keeps_below {B : Nat} {W W' : World} (h : Below W.heap.size W W') : KeepsFrom B W W' := ⟨h.size, fun k o _ hk _ => (h.block k (Array.getElem?_eq_some_iff.1 hk).1).trans hk⟩
/-- whatever way out but a panic. -/
def calm (Q : Exit → Act → World → Prop) : Exit → Act → World → Prop
  | .panic _, _, _ => False
  | e, a, w => Q e a w
theorem calm_to (Q : Exit → Act → World → Prop) (e : Exit) (a : Act) (w : World) (h : calm Q e a w) : Q e a w := by
  cases e <;> first | exact h | exact h.elim
def pick3 {α : Type} (x y z : α) : Nat → α
  | 0 => x
  | 1 => y
  | _ => z
theorem concat3 (gs c : Nat) (a1 a2 a3 : Option Addr) (n1 c1 n2 c2 n3 c3 : Nat) (L1 L2 L3 : List Int) (w : World) (hg : Blk w gs [.slice a1 n1 c1, .slice a2 n2 c2, .slice a3 n3 c3] 24)
    (S1 : Sl w a1 n1 9 (ints L1)) (S2 : Sl w a2 n2 9 (ints L2)) (S3 : Sl w a3 n3 9 (ints L3)) (z1 : a1 = none → c1 = 0) (z2 : a2 = none → c2 = 0) (z3 : a3 = none → c3 = 0) (h1 : n1 ≤ 1000) (h2 : n2 ≤ 1000) (h3 : n3 ≤ 1000) (h : 1 ≤ n1 + n2 + n3) :
    Calls Try.prog 38 #[.slice (some ⟨gs, 0, none⟩) 3 c] w fun e w' => ∃ v, e = .returned v ∧ w'.ownsRow w.heap.size 36 9 v (n1 + n2 + n3) (ints (L1 ++ L2 ++ L3)) ∧ Below w.heap.size w w' := by
  have := concat_any 3 gs c (pick3 a1 a2 a3) (pick3 n1 n2 n3) (pick3 c1 c2 c3) (pick3 L1 L2 L3) w (by decide)
    (fun k hk => by rcases k with _ | _ | _ | k; exact hg.cell 0; exact hg.cell 1; exact hg.cell 2; omega)
    (fun k hk => by rcases k with _ | _ | _ | k; exact S1; exact S2; exact S3; omega)
    (fun k hk => by rcases k with _ | _ | _ | k; exact z1; exact z2; exact z3; omega)
    (fun k hk => by rcases k with _ | _ | _ | k; exact h1; exact h2; exact h3; omega)
    (show 1 ≤ 0 + n1 + n2 + n3 by omega) hg.lt
  have e1 : sumN (pick3 n1 n2 n3) 3 = n1 + n2 + n3 := show 0 + n1 + n2 + n3 = _ by omega
  rw [e1] at this
  exact this
theorem run_op_bs1 {t e d sz : Nat} {x : Operand} {ty : TypeId} {ps : String} {af : Array Edge} {gd : Option (Nat × Bool)} {a : Act} {w : World} {cs : List Value}
    (hu : Try.prog.underlying t = some (.slice e)) (hi : (Try.prog.info? e).map (fun i => (i.zero.isSome, i.size)) = some (true, sz)) (hpos : 0 < sz) (hsm : sz ≤ 16777216)
    (hx : a.eval x = .agg cs.toArray) (hl : cs.length = sz) : (execOp a.eval ⟨some d, .buildSlice t 1 #[(0, x)], ty, ps, af, gd⟩).run Try.prog w = .ok (.value (.slice (some ⟨w.heap.size, 0, none⟩) 1 1)) (w.alloc (.cells cs.toArray e)) := by
  cases hie : Try.prog.info? e with
  | none => rw [hie] at hi; cases hi
  | some ie =>
    rw [hie] at hi
    simp only [Option.map_some, Option.some.injEq, Prod.mk.injEq] at hi
    obtain ⟨z, hz⟩ := Option.isSome_iff_exists.1 hi.1
    have := Great.fill_whole hpos [.agg cs.toArray] ((Array.range (1 * sz)).map (z.cells[· % z.cells.size]!)) (by intro v hv; rw [List.mem_singleton] at hv; subst hv; simpa [Value.cells] using hl) (by simp)
    have hr := run_buildSlice (P := Try.prog) w t e 1 ((#[(0, x)] : Array (Nat × Operand)).map fun (i, x) => (i, a.eval x)) cs.toArray ie z hu hie hz (by rw [hi.2]; omega) (by rw [hi.2]; omega) (by rw [hi.2]; simpa [hx, Value.cells] using this)
    unfold execOp
    simp only [Sem.run_bind]
    rw [hr]
    rfl
/-- the address of s[k:]. -/
def cutAt (a : Option Addr) (c k : Nat) : Option Addr := if c = k then a else a.map fun x => x.add (k * 9)
theorem sl_rest {w : World} {a : Option Addr} {n c k : Nat} {L : List Int} (h : Sl w a n 9 (ints L)) (hk : k ≤ n) (hn : n ≤ c) : Sl w (cutAt a c k) (n - k) 9 (ints (L.drop (k * 9))) := by
  have hl := h.1
  rw [ints_len] at hl
  refine ⟨by rw [ints_len, List.length_drop, hl, Nat.sub_mul], ?_⟩
  by_cases h0 : n - k = 0
  · exact Or.inl h0
  rcases h.2 with h | ⟨b, off, rfl, hlt, hc⟩
  · omega
  right
  unfold cutAt
  rw [if_neg (by omega)]
  refine ⟨b, off + k * 9, by rw [Option.map_some, add_plain], hlt, fun j hj => ?_⟩
  rw [Nat.add_assoc, hc (k * 9 + j) (by have : (n - k) * 9 = n * 9 - k * 9 := Nat.sub_mul n k 9; omega)]
  congr 1
  unfold ints
  rw [List.map_drop, List.getD_eq_getElem?_getD, List.getD_eq_getElem?_getD, List.getElem?_drop]
set_option maxRecDepth 100000 in
set_option maxHeartbeats 4000000 in
theorem sput_any (a : Option Addr) (n c : Nat) (L cv : List Int) (w : World) (HS : Hid (Sl w a n 9 (ints L))) (hnil : a = none → c = 0) (hnc : n ≤ c) (hn : n ≤ 1000) (lc : cv.length = 9) :
    Calls Try.prog 25 #[.slice a n c, .agg (ints cv).toArray] w fun e w' => ∃ v, e = .returned v ∧ w'.ownsRow w.heap.size 36 9 v (n + 1) (ints (putC L n cv)) ∧ Below w.heap.size w w' := by
  refine (callsIn_wide (n := 9)).1 ?_
  refine callsIn_of_wp_marks Try.func25 rfl trivial ?_ rfl
  simp only [Try.ntmps25, List.size_toArray, List.length_cons, List.length_nil, Nat.reduceAdd, Nat.reduceSub, Array.replicate_succ, Array.replicate_zero, List.push_toArray, List.append_toArray, List.nil_append, List.cons_append]
  gi_wp2_with (gi_at_call 36; refine (back_in Fence.wide (9 - 1) trivial rfl _ _ _ _).mono ?_; rintro e w' ⟨rfl, rfl⟩)
  refine ⟨trivial, (back_in Fence.wide 8 trivial rfl _ _ _ _).mono ?_⟩
  rintro e w' ⟨rfl, rfl⟩
  obtain ⟨wa, hwa⟩ : ∃ wa, w.alloc (.cells (ints cv).toArray 36) = wa := ⟨_, rfl⟩
  obtain ⟨wb, hwb⟩ : ∃ wb, wa.alloc (.cells #[.int .i64 0] 3) = wb := ⟨_, rfl⟩
  obtain ⟨W0, hW0⟩ : ∃ W0, wb.alloc (.cells #[.slice a n c] 24) = W0 := ⟨_, rfl⟩
  have sa : wa.heap.size = w.heap.size + 1 := by rw [← hwa]; simp
  have sb : wb.heap.size = w.heap.size + 1 + 1 := by rw [← hwb]; simp [sa]
  have s0 : W0.heap.size = w.heap.size + 3 := by rw [← hW0]; simp [sb]
  have b1 : Below w.heap.size w wa := hwa ▸ (Below.refl _ _).alloc (Nat.le_refl _) _
  have b2 : Below w.heap.size w wb := hwb ▸ b1.alloc b1.size _
  have HB0 : Hid (Below w.heap.size w W0) := Lib.hid (hW0 ▸ b2.alloc b2.size _)
  have A1 : Blk wa w.heap.size (ints cv) 36 := hwa ▸ Blk.new w (ints cv).toArray 36
  have HA : Hid (Blk W0 w.heap.size (ints cv) 36) := Lib.hid (hW0 ▸ (hwb ▸ A1.alloc _).alloc _)
  have B1 : Blk wb (w.heap.size + 1) [.int .i64 0] 3 := sa ▸ (hwb ▸ Blk.new wa #[.int .i64 0] 3)
  have HBx : Hid (Blk W0 (w.heap.size + 1) [.int .i64 0] 3) := Lib.hid (hW0 ▸ B1.alloc _)
  have C1 : Blk W0 (w.heap.size + 1 + 1) [.slice a n c] 24 := sb ▸ (hW0 ▸ Blk.new wb #[.slice a n c] 24)
  have hcS := C1.cell 0
  have HS0 := Lib.hid (HS.out.keep HB0.out)
  have HC : Hid (n = 0 ∨ ∀ ad, a = some ad → ad.block < W0.heap.size) := Lib.hid (by
    rcases HS.out.2 with h | ⟨b, off, e2, hlt, _⟩
    · exact Or.inl h
    · exact Or.inr (fun ad e => by rw [e] at e2; cases e2; exact Nat.lt_of_lt_of_le hlt HB0.out.size))
  have HL : Hid (L.length = n * 9) := Lib.hid (by have := HS.out.1; rwa [ints_len] at this)
  rw [hwa, hwb, hW0, sb]
  have S0 := Lib.hid s0
  clear hwa hwb hW0 sa sb s0 b1 b2 A1 B1 C1
  gi_wp2
  rename_i Q7 K7 hK7
  have TAIL : Hid (∀ (k D : Nat) (W : World), k ≤ n → Below w.heap.size w W → Blk W w.heap.size (ints cv) 36 → Blk W (w.heap.size + 1) [.int .i64 k] 3 → Sl W a n 9 (ints L) → W.heap[D]? = some (.deferred (some [])) → w.heap.size ≤ D → putAt L cv n = k → K7 { tmps := #[.slice a n c, .agg (ints cv).toArray, undef, .pointer (some ⟨w.heap.size, 0, none⟩), .slice none 0 0, .pointer (some ⟨w.heap.size + 1, 0, none⟩), undef, undef, .slice a n c, .func (.func 40) #[] #[.pointer (some ⟨w.heap.size + 1 + 1, 0, none⟩)], undef, undef, undef, undef, undef, undef, undef, undef, undef, undef, undef, undef, undef, undef, undef, undef, undef, undef], defers := [{ target := .collected D, args := #[] }] } W) := Lib.hid (by
    intro k D W hk hB hA hX hS hK hD hp
    refine hK7 _ _ ?_
    refine wpIn_wide.2 ?_
    refine wp_mono (Q := calm Q7) ?_ (calm_to Q7)
    clear hK7 HB0 HA HBx HS0 HC S0 hcS
    have HX := Lib.hid hX
    have HA := Lib.hid hA
    have HK := Lib.hid hK
    have HBW := Lib.hid hB
    have HD := Lib.hid hD
    have ER : Hid (((ints cv).drop 0).take (ints cv).length = ints cv) := Lib.hid (by simp)
    have LC : Hid ((ints cv).length = 9) := Lib.hid (by rw [ints_len, lc])
    have TA : Hid (RowT 36 (ints cv).length) := Lib.hid (by rw [ints_len, lc]; exact rowChg)
    have HF : Hid (∀ (W' : World) (B : Nat) (v : Value), W'.ownsRow B 36 9 v (k + 1 + (n - k)) (ints (L.take (k * 9) ++ cv ++ L.drop (k * 9))) → w.heap.size ≤ B → W'.ownsRow w.heap.size 36 9 v (n + 1) (ints (putC L n cv))) := Lib.hid (fun W' B v ho hle => by
      rw [show k + 1 + (n - k) = n + 1 by omega] at ho
      unfold putC
      rw [hp]
      exact own_base ho hle)
    have CCG : ∀ (gs gD : Nat) (wF : World), Blk wF gs [.slice a k c, .slice (some ⟨gD, 0, none⟩) 1 1, .slice (cutAt a c k) (n - k) (c - k)] 24 → Below W.heap.size W wF → Blk wF gD (ints cv) 36 →
        Calls Try.prog 38 #[.slice (some ⟨gs, 0, none⟩) 3 3] wF fun e w' => ∃ v, e = .returned v ∧ w'.ownsRow wF.heap.size 36 9 v (k + 1 + (n - k)) (ints (L.take (k * 9) ++ cv ++ L.drop (k * 9))) ∧ Below wF.heap.size wF w' := fun gs gD wF hb hbe hbc =>
      concat3 gs 3 a (some ⟨gD, 0, none⟩) (cutAt a c k) k c 1 1 (n - k) (c - k) (L.take (k * 9)) cv (L.drop (k * 9)) wF hb ((hS.keep hbe).fewG hk) (sl_pre (S := []) (by rw [List.append_nil]; exact hbc) (by rw [ints_len, lc])) (sl_rest (hS.keep hbe) hk hnc) hnil (fun h => by cases h) (fun h => by
        have : a = none := by
          unfold cutAt at h
          split at h
          · exact h
          · cases a with
            | none => rfl
            | some _ => cases h
        have := hnil this
        omega) (by omega) (by omega) (by omega) (by omega)
    have hkI : (k : Int) ≤ n := by omega
    have hnI : (n : Int) ≤ c := by omega
    have hk0 : (0 : Int) ≤ k := by omega
    clear hA hX hS hK hB hD HL HS hp
    rcases a with _ | ad
    · obtain rfl : c = 0 := hnil rfl
      obtain rfl : n = 0 := by omega
      obtain rfl : k = 0 := by omega
      have CCT : Hid (∀ (gs gD : Nat) (wF : World), Blk wF gs [.slice none 0 0, .slice (some ⟨gD, 0, none⟩) 1 1, .slice none 0 0] 24 → Below W.heap.size W wF → Blk wF gD (ints cv) 36 → _) := Lib.hid CCG
      clear CCG
      go_upto_region 7 with fail
      refine held_begin (fun w' => Below W.heap.size W w') 11 [false, false, false, false, false, false, false, false, false, false, false] (by kernel_rfl) rfl (by rfl) ?_
      have hHeld : Below W.heap.size W W.drew := (Below.refl _ _).drew
      refine held_take (v := ?_) 0 18 [true, false, false, false, false, false, false, false, false, false, false] rfl (by rfl) (by rfl) (by kernel_rfl) (by kernel_rfl) (by kernel_rfl) (by rfl) (fun _ _ _ h => h) ?_ hHeld ?_
      rotate_left
      · intro w hSw; go_simp <;> with_reducible rfl
      simp only [Act.put, List.setIfInBounds_toArray, List.set_cons_zero, List.set_cons_succ]
      refine held_take (v := .int .i64 0) 1 19 [true, true, false, false, false, false, false, false, false, false, false] rfl (by rfl) (by rfl) (by kernel_rfl) (by kernel_rfl) (by kernel_rfl) (by rfl) (fun _ _ _ h => h) (fun w' h => run_op_one rfl rfl Try.underlying3 rfl ((HX.out.keep h HX.out.lt).cell 0)) hHeld ?_
      simp only [Act.put, List.setIfInBounds_toArray, List.set_cons_zero, List.set_cons_succ]
      refine held_take (v := .slice none 0 0) 2 20 [true, true, true, false, false, false, false, false, false, false, false] rfl (by rfl) (by rfl) (by kernel_rfl) (by kernel_rfl) (by kernel_rfl) (by rfl) (fun _ _ _ h => h) (fun w' h => by first | (go_simp; done) | (go_simp; omega) | (go_simp <;> rfl)) hHeld ?_
      simp only [Act.put, List.setIfInBounds_toArray, List.set_cons_zero, List.set_cons_succ]
      refine held_take (v := .agg (ints cv).toArray) 3 21 [true, true, true, true, false, false, false, false, false, false, false] rfl (by rfl) (by rfl) (by kernel_rfl) (by kernel_rfl) (by kernel_rfl) (by rfl) (fun _ _ _ h => h) (fun w' h => run_op_load rfl rfl ((HA.out.keep h HA.out.lt).range 0 (ints cv) ER.out) Try.underlying36 rfl TA.out.2) hHeld ?_
      simp only [Act.put, List.setIfInBounds_toArray, List.set_cons_zero, List.set_cons_succ]
      refine held_take (v := ?_) 5 23 [true, true, true, true, false, true, false, false, false, false, false] rfl (by rfl) (by rfl) (by kernel_rfl) (by kernel_rfl) (by kernel_rfl) (by rfl) (fun _ _ _ h => h) ?_ hHeld ?_
      rotate_left
      · intro w hSw; go_simp <;> with_reducible rfl
      simp only [Act.put, List.setIfInBounds_toArray, List.set_cons_zero, List.set_cons_succ]
      refine held_take (v := .int .i64 0) 6 24 [true, true, true, true, false, true, true, false, false, false, false] rfl (by rfl) (by rfl) (by kernel_rfl) (by kernel_rfl) (by kernel_rfl) (by rfl) (fun _ _ _ h => h) (fun w' h => run_op_one rfl rfl Try.underlying3 rfl ((HX.out.keep h HX.out.lt).cell 0)) hHeld ?_
      simp only [Act.put, List.setIfInBounds_toArray, List.set_cons_zero, List.set_cons_succ]
      refine held_take (v := .slice none 0 0) 7 25 [true, true, true, true, false, true, true, true, false, false, false] rfl (by rfl) (by rfl) (by kernel_rfl) (by kernel_rfl) (by kernel_rfl) (by rfl) (fun _ _ _ h => h) (fun w' h => by first | (go_simp; done) | (go_simp; omega) | (go_simp <;> rfl)) hHeld ?_
      simp only [Act.put, List.setIfInBounds_toArray, List.set_cons_zero, List.set_cons_succ]
      generalize W.drew = wD at *
      have hal := (Below.refl wD.heap.size wD).alloc (Nat.le_refl _) (.cells (ints cv).toArray 36)
      have BC : Hid (Blk (wD.alloc (.cells (ints cv).toArray 36)) wD.heap.size (ints cv) 36) := Lib.hid (Blk.new wD (ints cv).toArray 36)
      refine held_one 4 (by kernel_rfl) ?_
      refine op_value (v := .slice (some ⟨wD.heap.size, 0, none⟩) 1 1) 22 [true, true, true, true, true, true, true, true, false, false, false] rfl (by rfl) (by rfl) (by rfl) (run_op_bs1 Try.underlying24 (sz := 9) (by kernel_rfl) (by decide) (by decide) rfl LC.out) (hHeld.trans (hal.mono hHeld.size)) fun hHeld => ?_
      simp only [Act.put, List.setIfInBounds_toArray, List.set_cons_zero, List.set_cons_succ]
      generalize hgD : wD.heap.size = gD at *
      have hE : Below gD wD (wD.alloc (.cells (ints cv).toArray 36)) := hal
      generalize wD.alloc (.cells (ints cv).toArray 36) = wE at *
      have hal2 := (Below.refl wE.heap.size wE).alloc (Nat.le_refl _) (.cells #[.slice none 0 0, .slice (some ⟨gD, 0, none⟩) 1 1, .slice none 0 0] 24)
      have BS : Hid (Blk (wE.alloc (.cells #[.slice none 0 0, .slice (some ⟨gD, 0, none⟩) 1 1, .slice none 0 0] 24)) wE.heap.size [.slice none 0 0, .slice (some ⟨gD, 0, none⟩) 1 1, .slice none 0 0] 24) := Lib.hid (Blk.new wE #[.slice none 0 0, .slice (some ⟨gD, 0, none⟩) 1 1, .slice none 0 0] 24)
      refine held_one 8 (by kernel_rfl) ?_
      refine op_value (v := .slice (some ⟨wE.heap.size, 0, none⟩) 3 3) 26 [true, true, true, true, true, true, true, true, true, false, false] rfl (by rfl) (by rfl) (by rfl) (by go_simp <;> rfl) (hHeld.trans (hal2.mono hHeld.size)) fun hHeld => ?_
      simp only [Act.put, List.setIfInBounds_toArray, List.set_cons_zero, List.set_cons_succ]
      have HSZ := Lib.hid (Nat.le_trans HBW.out.size hHeld.size)
      have CT := Lib.hid (CCT.out _ gD _ BS.out hHeld (BC.out.alloc _))
      refine held_call 9 27 [true, true, true, true, true, true, true, true, true, true, false] (by kernel_rfl) rfl (by rfl) (by rfl) (by rfl) (by go_simp) ((CT.out).mono ?_)
      rintro e w4 ⟨v, rfl, hown4, hb4⟩
      refine ⟨_, rfl, hHeld.trans (hb4.mono hHeld.size), fun hHeld => ?_⟩
      simp only [Act.put, List.setIfInBounds_toArray, List.set_cons_zero, List.set_cons_succ]
      refine held_take (v := ?_) 10 4 [true, true, true, true, true, true, true, true, true, true, true] rfl (by rfl) (by rfl) (by kernel_rfl) (by kernel_rfl) (by kernel_rfl) (by rfl) (fun _ _ _ h => h) ?_ hHeld ?_
      rotate_left
      · intro w hSw; go_simp <;> with_reducible rfl
      simp only [Act.put, List.setIfInBounds_toArray, List.set_cons_zero, List.set_cons_succ]
      refine held_done (by kernel_rfl) ?_
      have hK4 := (hHeld.block D (Array.getElem?_eq_some_iff.1 HK.out).1).trans HK.out
      have HO4 := Lib.hid hown4
      have HB4 := Lib.hid (HBW.out.trans (hHeld.mono HBW.out.size))
      have HB5 := Lib.hid hb4
      have HK4 := Lib.hid hK4
      clear hown4 hb4 hHeld hK4 CT BS BC
      go_wp2_with fail
      refine ⟨by simp, .inl ⟨_, _, rfl, run_takeDeferred HK4.out, ?_⟩⟩
      exact ⟨v, by rw [results_tmp (t := 4) rfl]; rfl, v, rfl, HF.out _ _ _ (ownsRow_putObj HO4.out _ HK4.out rfl) HSZ.out, HB4.out.trans (belowK_b (w := w) (Nat.le_refl _) w4 D _ _ HD.out HK4.out rfl rfl)⟩
    · by_cases hck : c = k
      · have e : cutAt (some ad) c k = some ad := if_pos hck
        rw [e] at CCG
        have CCT := Lib.hid CCG
        clear CCG e
        go_upto_region 7 with fail
        refine held_begin (fun w' => Below W.heap.size W w') 11 [false, false, false, false, false, false, false, false, false, false, false] (by kernel_rfl) rfl (by rfl) ?_
        have hHeld : Below W.heap.size W W.drew := (Below.refl _ _).drew
        refine held_take (v := ?_) 0 18 [true, false, false, false, false, false, false, false, false, false, false] rfl (by rfl) (by rfl) (by kernel_rfl) (by kernel_rfl) (by kernel_rfl) (by rfl) (fun _ _ _ h => h) ?_ hHeld ?_
        rotate_left
        · intro w hSw; go_simp <;> with_reducible rfl
        simp only [Act.put, List.setIfInBounds_toArray, List.set_cons_zero, List.set_cons_succ]
        refine held_take (v := .int .i64 k) 1 19 [true, true, false, false, false, false, false, false, false, false, false] rfl (by rfl) (by rfl) (by kernel_rfl) (by kernel_rfl) (by kernel_rfl) (by rfl) (fun _ _ _ h => h) (fun w' h => run_op_one rfl rfl Try.underlying3 rfl ((HX.out.keep h HX.out.lt).cell 0)) hHeld ?_
        simp only [Act.put, List.setIfInBounds_toArray, List.set_cons_zero, List.set_cons_succ]
        refine held_take (v := .slice (some ad) k c) 2 20 [true, true, true, false, false, false, false, false, false, false, false] rfl (by rfl) (by rfl) (by kernel_rfl) (by kernel_rfl) (by kernel_rfl) (by rfl) (fun _ _ _ h => h) (fun w' h => by first | (go_simp; done) | (go_simp; omega) | (go_simp <;> rfl)) hHeld ?_
        simp only [Act.put, List.setIfInBounds_toArray, List.set_cons_zero, List.set_cons_succ]
        refine held_take (v := .agg (ints cv).toArray) 3 21 [true, true, true, true, false, false, false, false, false, false, false] rfl (by rfl) (by rfl) (by kernel_rfl) (by kernel_rfl) (by kernel_rfl) (by rfl) (fun _ _ _ h => h) (fun w' h => run_op_load rfl rfl ((HA.out.keep h HA.out.lt).range 0 (ints cv) ER.out) Try.underlying36 rfl TA.out.2) hHeld ?_
        simp only [Act.put, List.setIfInBounds_toArray, List.set_cons_zero, List.set_cons_succ]
        refine held_take (v := ?_) 5 23 [true, true, true, true, false, true, false, false, false, false, false] rfl (by rfl) (by rfl) (by kernel_rfl) (by kernel_rfl) (by kernel_rfl) (by rfl) (fun _ _ _ h => h) ?_ hHeld ?_
        rotate_left
        · intro w hSw; go_simp <;> with_reducible rfl
        simp only [Act.put, List.setIfInBounds_toArray, List.set_cons_zero, List.set_cons_succ]
        refine held_take (v := .int .i64 k) 6 24 [true, true, true, true, false, true, true, false, false, false, false] rfl (by rfl) (by rfl) (by kernel_rfl) (by kernel_rfl) (by kernel_rfl) (by rfl) (fun _ _ _ h => h) (fun w' h => run_op_one rfl rfl Try.underlying3 rfl ((HX.out.keep h HX.out.lt).cell 0)) hHeld ?_
        simp only [Act.put, List.setIfInBounds_toArray, List.set_cons_zero, List.set_cons_succ]
        refine held_take (v := .slice (some ad) (n - k) (c - k)) 7 25 [true, true, true, true, false, true, true, true, false, false, false] rfl (by rfl) (by rfl) (by kernel_rfl) (by kernel_rfl) (by kernel_rfl) (by rfl) (fun _ _ _ h => h) (fun w' h => by first | (go_simp; done) | (go_simp; omega) | (go_simp <;> rfl)) hHeld ?_
        simp only [Act.put, List.setIfInBounds_toArray, List.set_cons_zero, List.set_cons_succ]
        generalize W.drew = wD at *
        have hal := (Below.refl wD.heap.size wD).alloc (Nat.le_refl _) (.cells (ints cv).toArray 36)
        have BC : Hid (Blk (wD.alloc (.cells (ints cv).toArray 36)) wD.heap.size (ints cv) 36) := Lib.hid (Blk.new wD (ints cv).toArray 36)
        refine held_one 4 (by kernel_rfl) ?_
        refine op_value (v := .slice (some ⟨wD.heap.size, 0, none⟩) 1 1) 22 [true, true, true, true, true, true, true, true, false, false, false] rfl (by rfl) (by rfl) (by rfl) (run_op_bs1 Try.underlying24 (sz := 9) (by kernel_rfl) (by decide) (by decide) rfl LC.out) (hHeld.trans (hal.mono hHeld.size)) fun hHeld => ?_
        simp only [Act.put, List.setIfInBounds_toArray, List.set_cons_zero, List.set_cons_succ]
        generalize hgD : wD.heap.size = gD at *
        have hE : Below gD wD (wD.alloc (.cells (ints cv).toArray 36)) := hal
        generalize wD.alloc (.cells (ints cv).toArray 36) = wE at *
        have hal2 := (Below.refl wE.heap.size wE).alloc (Nat.le_refl _) (.cells #[.slice (some ad) k c, .slice (some ⟨gD, 0, none⟩) 1 1, .slice (some ad) (n - k) (c - k)] 24)
        have BS : Hid (Blk (wE.alloc (.cells #[.slice (some ad) k c, .slice (some ⟨gD, 0, none⟩) 1 1, .slice (some ad) (n - k) (c - k)] 24)) wE.heap.size [.slice (some ad) k c, .slice (some ⟨gD, 0, none⟩) 1 1, .slice (some ad) (n - k) (c - k)] 24) := Lib.hid (Blk.new wE #[.slice (some ad) k c, .slice (some ⟨gD, 0, none⟩) 1 1, .slice (some ad) (n - k) (c - k)] 24)
        refine held_one 8 (by kernel_rfl) ?_
        refine op_value (v := .slice (some ⟨wE.heap.size, 0, none⟩) 3 3) 26 [true, true, true, true, true, true, true, true, true, false, false] rfl (by rfl) (by rfl) (by rfl) (by go_simp <;> rfl) (hHeld.trans (hal2.mono hHeld.size)) fun hHeld => ?_
        simp only [Act.put, List.setIfInBounds_toArray, List.set_cons_zero, List.set_cons_succ]
        have HSZ := Lib.hid (Nat.le_trans HBW.out.size hHeld.size)
        have CT := Lib.hid (CCT.out _ gD _ BS.out hHeld (BC.out.alloc _))
        refine held_call 9 27 [true, true, true, true, true, true, true, true, true, true, false] (by kernel_rfl) rfl (by rfl) (by rfl) (by rfl) (by go_simp) ((CT.out).mono ?_)
        rintro e w4 ⟨v, rfl, hown4, hb4⟩
        refine ⟨_, rfl, hHeld.trans (hb4.mono hHeld.size), fun hHeld => ?_⟩
        simp only [Act.put, List.setIfInBounds_toArray, List.set_cons_zero, List.set_cons_succ]
        refine held_take (v := ?_) 10 4 [true, true, true, true, true, true, true, true, true, true, true] rfl (by rfl) (by rfl) (by kernel_rfl) (by kernel_rfl) (by kernel_rfl) (by rfl) (fun _ _ _ h => h) ?_ hHeld ?_
        rotate_left
        · intro w hSw; go_simp <;> with_reducible rfl
        simp only [Act.put, List.setIfInBounds_toArray, List.set_cons_zero, List.set_cons_succ]
        refine held_done (by kernel_rfl) ?_
        have hK4 := (hHeld.block D (Array.getElem?_eq_some_iff.1 HK.out).1).trans HK.out
        have HO4 := Lib.hid hown4
        have HB4 := Lib.hid (HBW.out.trans (hHeld.mono HBW.out.size))
        have HB5 := Lib.hid hb4
        have HK4 := Lib.hid hK4
        clear hown4 hb4 hHeld hK4 CT BS BC
        go_wp2_with fail
        refine ⟨by simp, .inl ⟨_, _, rfl, run_takeDeferred HK4.out, ?_⟩⟩
        exact ⟨v, by rw [results_tmp (t := 4) rfl]; rfl, v, rfl, HF.out _ _ _ (ownsRow_putObj HO4.out _ HK4.out rfl) HSZ.out, HB4.out.trans (belowK_b (w := w) (Nat.le_refl _) w4 D _ _ HD.out HK4.out rfl rfl)⟩
      · have e : cutAt (some ad) c k = some (ad.add (k * 9)) := if_neg hck
        rw [e] at CCG
        have CCT := Lib.hid CCG
        have hckI : (k : Int) < c := by omega
        clear CCG e
        go_upto_region 7 with fail
        refine held_begin (fun w' => Below W.heap.size W w') 11 [false, false, false, false, false, false, false, false, false, false, false] (by kernel_rfl) rfl (by rfl) ?_
        have hHeld : Below W.heap.size W W.drew := (Below.refl _ _).drew
        refine held_take (v := ?_) 0 18 [true, false, false, false, false, false, false, false, false, false, false] rfl (by rfl) (by rfl) (by kernel_rfl) (by kernel_rfl) (by kernel_rfl) (by rfl) (fun _ _ _ h => h) ?_ hHeld ?_
        rotate_left
        · intro w hSw; go_simp <;> with_reducible rfl
        simp only [Act.put, List.setIfInBounds_toArray, List.set_cons_zero, List.set_cons_succ]
        refine held_take (v := .int .i64 k) 1 19 [true, true, false, false, false, false, false, false, false, false, false] rfl (by rfl) (by rfl) (by kernel_rfl) (by kernel_rfl) (by kernel_rfl) (by rfl) (fun _ _ _ h => h) (fun w' h => run_op_one rfl rfl Try.underlying3 rfl ((HX.out.keep h HX.out.lt).cell 0)) hHeld ?_
        simp only [Act.put, List.setIfInBounds_toArray, List.set_cons_zero, List.set_cons_succ]
        refine held_take (v := .slice (some ad) k c) 2 20 [true, true, true, false, false, false, false, false, false, false, false] rfl (by rfl) (by rfl) (by kernel_rfl) (by kernel_rfl) (by kernel_rfl) (by rfl) (fun _ _ _ h => h) (fun w' h => by first | (go_simp; done) | (go_simp; omega) | (go_simp <;> rfl)) hHeld ?_
        simp only [Act.put, List.setIfInBounds_toArray, List.set_cons_zero, List.set_cons_succ]
        refine held_take (v := .agg (ints cv).toArray) 3 21 [true, true, true, true, false, false, false, false, false, false, false] rfl (by rfl) (by rfl) (by kernel_rfl) (by kernel_rfl) (by kernel_rfl) (by rfl) (fun _ _ _ h => h) (fun w' h => run_op_load rfl rfl ((HA.out.keep h HA.out.lt).range 0 (ints cv) ER.out) Try.underlying36 rfl TA.out.2) hHeld ?_
        simp only [Act.put, List.setIfInBounds_toArray, List.set_cons_zero, List.set_cons_succ]
        refine held_take (v := ?_) 5 23 [true, true, true, true, false, true, false, false, false, false, false] rfl (by rfl) (by rfl) (by kernel_rfl) (by kernel_rfl) (by kernel_rfl) (by rfl) (fun _ _ _ h => h) ?_ hHeld ?_
        rotate_left
        · intro w hSw; go_simp <;> with_reducible rfl
        simp only [Act.put, List.setIfInBounds_toArray, List.set_cons_zero, List.set_cons_succ]
        refine held_take (v := .int .i64 k) 6 24 [true, true, true, true, false, true, true, false, false, false, false] rfl (by rfl) (by rfl) (by kernel_rfl) (by kernel_rfl) (by kernel_rfl) (by rfl) (fun _ _ _ h => h) (fun w' h => run_op_one rfl rfl Try.underlying3 rfl ((HX.out.keep h HX.out.lt).cell 0)) hHeld ?_
        simp only [Act.put, List.setIfInBounds_toArray, List.set_cons_zero, List.set_cons_succ]
        refine held_take (v := .slice (some (ad.add (k * 9))) (n - k) (c - k)) 7 25 [true, true, true, true, false, true, true, true, false, false, false] rfl (by rfl) (by rfl) (by kernel_rfl) (by kernel_rfl) (by kernel_rfl) (by rfl) (fun _ _ _ h => h) (fun w' h => by first | (go_simp; done) | (go_simp; omega) | (go_simp <;> rfl)) hHeld ?_
        simp only [Act.put, List.setIfInBounds_toArray, List.set_cons_zero, List.set_cons_succ]
        generalize W.drew = wD at *
        have hal := (Below.refl wD.heap.size wD).alloc (Nat.le_refl _) (.cells (ints cv).toArray 36)
        have BC : Hid (Blk (wD.alloc (.cells (ints cv).toArray 36)) wD.heap.size (ints cv) 36) := Lib.hid (Blk.new wD (ints cv).toArray 36)
        refine held_one 4 (by kernel_rfl) ?_
        refine op_value (v := .slice (some ⟨wD.heap.size, 0, none⟩) 1 1) 22 [true, true, true, true, true, true, true, true, false, false, false] rfl (by rfl) (by rfl) (by rfl) (run_op_bs1 Try.underlying24 (sz := 9) (by kernel_rfl) (by decide) (by decide) rfl LC.out) (hHeld.trans (hal.mono hHeld.size)) fun hHeld => ?_
        simp only [Act.put, List.setIfInBounds_toArray, List.set_cons_zero, List.set_cons_succ]
        generalize hgD : wD.heap.size = gD at *
        have hE : Below gD wD (wD.alloc (.cells (ints cv).toArray 36)) := hal
        generalize wD.alloc (.cells (ints cv).toArray 36) = wE at *
        have hal2 := (Below.refl wE.heap.size wE).alloc (Nat.le_refl _) (.cells #[.slice (some ad) k c, .slice (some ⟨gD, 0, none⟩) 1 1, .slice (some (ad.add (k * 9))) (n - k) (c - k)] 24)
        have BS : Hid (Blk (wE.alloc (.cells #[.slice (some ad) k c, .slice (some ⟨gD, 0, none⟩) 1 1, .slice (some (ad.add (k * 9))) (n - k) (c - k)] 24)) wE.heap.size [.slice (some ad) k c, .slice (some ⟨gD, 0, none⟩) 1 1, .slice (some (ad.add (k * 9))) (n - k) (c - k)] 24) := Lib.hid (Blk.new wE #[.slice (some ad) k c, .slice (some ⟨gD, 0, none⟩) 1 1, .slice (some (ad.add (k * 9))) (n - k) (c - k)] 24)
        refine held_one 8 (by kernel_rfl) ?_
        refine op_value (v := .slice (some ⟨wE.heap.size, 0, none⟩) 3 3) 26 [true, true, true, true, true, true, true, true, true, false, false] rfl (by rfl) (by rfl) (by rfl) (by go_simp <;> rfl) (hHeld.trans (hal2.mono hHeld.size)) fun hHeld => ?_
        simp only [Act.put, List.setIfInBounds_toArray, List.set_cons_zero, List.set_cons_succ]
        have HSZ := Lib.hid (Nat.le_trans HBW.out.size hHeld.size)
        have CT := Lib.hid (CCT.out _ gD _ BS.out hHeld (BC.out.alloc _))
        refine held_call 9 27 [true, true, true, true, true, true, true, true, true, true, false] (by kernel_rfl) rfl (by rfl) (by rfl) (by rfl) (by go_simp) ((CT.out).mono ?_)
        rintro e w4 ⟨v, rfl, hown4, hb4⟩
        refine ⟨_, rfl, hHeld.trans (hb4.mono hHeld.size), fun hHeld => ?_⟩
        simp only [Act.put, List.setIfInBounds_toArray, List.set_cons_zero, List.set_cons_succ]
        refine held_take (v := ?_) 10 4 [true, true, true, true, true, true, true, true, true, true, true] rfl (by rfl) (by rfl) (by kernel_rfl) (by kernel_rfl) (by kernel_rfl) (by rfl) (fun _ _ _ h => h) ?_ hHeld ?_
        rotate_left
        · intro w hSw; go_simp <;> with_reducible rfl
        simp only [Act.put, List.setIfInBounds_toArray, List.set_cons_zero, List.set_cons_succ]
        refine held_done (by kernel_rfl) ?_
        have hK4 := (hHeld.block D (Array.getElem?_eq_some_iff.1 HK.out).1).trans HK.out
        have HO4 := Lib.hid hown4
        have HB4 := Lib.hid (HBW.out.trans (hHeld.mono HBW.out.size))
        have HB5 := Lib.hid hb4
        have HK4 := Lib.hid hK4
        clear hown4 hb4 hHeld hK4 CT BS BC
        go_wp2_with fail
        refine ⟨by simp, .inl ⟨_, _, rfl, run_takeDeferred HK4.out, ?_⟩⟩
        exact ⟨v, by rw [results_tmp (t := 4) rfl]; rfl, v, rfl, HF.out _ _ _ (ownsRow_putObj HO4.out _ HK4.out rfl) HSZ.out, HB4.out.trans (belowK_b (w := w) (Nat.le_refl _) w4 D _ _ HD.out HK4.out rfl rfl)⟩
)
  refine wpIn_rangeFunc_ownH rfl (by decide) (gf := 40) (lb := #[.pointer (some ⟨w.heap.size + 1 + 1, 0, none⟩)]) rfl trivial (enters_of Try.func40 (by kernel_rfl) rfl)
    (back_stops Fence.wide 8 trivial rfl (by decide) (w.heap.size + 1 + 1) W0.heap.size n c a L hn HC.out W0 (by have := S0.out; omega) (Nat.le_refl _) hcS HS0.out) belowK_t (belowK_b (Nat.le_refl _)) (Below.refl _ _) (fun _ => rfl)
    (fun pre W => (∀ j ∈ pre, lessC cv (rw9 L n j) = true) ∧ Below W0.heap.size W0 W)
    (fun c pre W => (c = .exit 0 ∧ (∃ ini last, pre = ini ++ [last] ∧ (∀ j ∈ ini, lessC cv (rw9 L n j) = true) ∧ lessC cv (rw9 L n last) = false ∧ Blk W (w.heap.size + 1) [.int .i64 (wrap64 ((last : Int) + 1))] 3)) ∧ Only (fun k => k = w.heap.size + 1) W0 W)
    (fun s A B row hs hg hr => ⟨hs.1, ownFrom_below (Nat.le_refl _) (Nat.le_refl _) () A B row hs.2 hg hr⟩)
    (fun cc s A B row hs hg hr => by
      obtain ⟨⟨e0, ini, last, e1, e2, e3, hb⟩, ho⟩ := hs
      exact ⟨⟨e0, ini, last, e1, e2, e3, blk_grown hb hg (fun r e => by have := (hr r e).1; have := S0.out; omega)⟩, only_grown ho hg (fun r e => (hr r e).1)⟩)
    ⟨(fun j hj => by cases hj), Below.refl _ _⟩
    (fun x a' W => ∃ Bx, W0.heap.size ≤ Bx ∧ Blk W Bx (ints (rw9 L n x)) 36 ∧ a' = { tmps := #[.slice a n c, .agg (ints cv).toArray, undef, .pointer (some ⟨w.heap.size, 0, none⟩), .slice none 0 0, .pointer (some ⟨w.heap.size + 1, 0, none⟩), .int .i64 (x : Int), .pointer (some ⟨Bx, 0, none⟩), .slice a n c, .func (.func 40) #[] #[.pointer (some ⟨w.heap.size + 1 + 1, 0, none⟩)], .int .i64 (x : Int), .agg (ints (rw9 L n x)).toArray, undef, undef, undef, undef, undef, undef, undef, undef, undef, undef, undef, undef, undef, undef, undef, undef], defers := [] })
    (fun x a' _ X Y row hs hg hr => by
      obtain ⟨Bx, h1, h2, h3⟩ := hs
      exact ⟨Bx, h1, blk_grown h2 hg (fun r e => by
        rintro rfl
        obtain ⟨o, ho, hc⟩ := (hr _ e).2
        rw [show X.heap[r]? = _ from h2] at ho
        cases ho
        cases hc), h3⟩)
    ?assign ?body ?done ?stop
  case assign =>
    rintro l pre x W K ⟨hp, hB⟩ hK
    unfold encB
    have TX : RowT 36 (ints (rw9 L n x)).length := by rw [ints_len, rw9_len HL.out]; exact rowChg
    have OX : ∀ u ∈ ints (rw9 L n x), u.oneCell' = true := fun u hu => ints_one hu
    have hlz : (#[.int .i64 0, .int .i64 0, .int .i64 0, .int .i64 0, .int .i64 0, .int .i64 0, .int .i64 0, .int .i64 0, .int .i64 0] : Array Value).size = (ints (rw9 L n x)).length := by rw [ints_len, rw9_len HL.out]; rfl
    gi_wp2_with ((with_reducible refine li_st_new (old := #[.int .i64 0, .int .i64 0, .int .i64 0, .int .i64 0, .int .i64 0, .int .i64 0, .int .i64 0, .int .i64 0, .int .i64 0]) TX OX ?_ ?_ hlz ?_); (· rfl); (· rfl); (simp only [Act.put, List.setIfInBounds_toArray, List.set_cons_zero, List.set_cons_succ]))
    exact hK _ _ ((KeepsOthers.alloc _ _).from _) ((Below.refl _ W).alloc hB.size _) ⟨hp, hB.alloc hB.size _⟩ ⟨W.heap.size, hB.size, Blk.new W _ _, rfl⟩
  case body =>
    rintro l pre x a' W hl ⟨r, hr⟩ ⟨hp, hB⟩ ⟨Bx, hBx2, bX, rfl⟩ hlt
    have cA := HA.out.keep hB HA.out.lt
    have cB := HBx.out.keep hB HBx.out.lt
    have rA := cA.range 0 (ints cv) (by simp)
    have rX := bX.range 0 (ints (rw9 L n x)) (by simp)
    have TA : RowT 36 (ints cv).length := by rw [ints_len, lc]; exact rowChg
    have TX : RowT 36 (ints (rw9 L n x)).length := by rw [ints_len, rw9_len HL.out]; exact rowChg
    have CL := sless cv (rw9 L n x) lc (rw9_len HL.out x) W
    cases hv : lessC cv (rw9 L n x)
    · rw [hv] at CL
      gi_wp2_with (first | ((with_reducible refine li_row rA TA ?_ ?_); (· rfl); (simp only [Act.put, List.setIfInBounds_toArray, List.set_cons_zero, List.set_cons_succ])) | ((with_reducible refine li_row rX TX ?_ ?_); (· rfl); (simp only [Act.put, List.setIfInBounds_toArray, List.set_cons_zero, List.set_cons_succ])))
      refine ⟨trivial, (CallsIn.inRound l (callsIn_wide.2 CL)).mono ?_⟩
      rintro e W2 ⟨rfl, hb2⟩
      have cB2 := cB.keep hb2 cB.lt
      have hc2 := cB2.cell 0
      have hf2 := cB2.froz 0
      gi_wp2
      refine ⟨(keeps_below hb2).trans ((KeepsOthers.setCell _ _ _).from _), ⟨rfl, pre, x, rfl, hp, hv, cB2.set 0 _⟩, ((Only.ofBelow (p := fun k => k = w.heap.size + 1) (hB.trans (hb2.mono hB.size)) (fun _ _ h => h)).setCell rfl 0 _)⟩
    · rw [hv] at CL
      gi_wp2_with (first | ((with_reducible refine li_row rA TA ?_ ?_); (· rfl); (simp only [Act.put, List.setIfInBounds_toArray, List.set_cons_zero, List.set_cons_succ])) | ((with_reducible refine li_row rX TX ?_ ?_); (· rfl); (simp only [Act.put, List.setIfInBounds_toArray, List.set_cons_zero, List.set_cons_succ])))
      refine ⟨trivial, (CallsIn.inRound l (callsIn_wide.2 CL)).mono ?_⟩
      rintro e W2 ⟨rfl, hb2⟩
      gi_wp2
      refine ⟨keeps_below hb2, hb2.mono hB.size, ⟨fun j hj => ?_, hB.trans (hb2.mono hB.size)⟩⟩
      rcases List.mem_append.1 hj with hj | hj
      · exact hp j hj
      · rw [List.mem_singleton] at hj
        subst hj
        exact hv
  case done =>
    rintro D ys W hD rfl ⟨hp, hB⟩ hK
    show K7 _ W
    refine TAIL.out 0 D W (Nat.zero_le _) (HB0.out.trans (hB.mono HB0.out.size)) (HA.out.keep hB HA.out.lt) (HBx.out.keep hB HBx.out.lt) (HS0.out.keep hB) hK (Nat.le_trans HB0.out.size hD) (putAt_all fun j hj => ?_)
    have := hp (n - 1 - (n - 1 - j)) (mem_downs (by omega))
    rw [show n - 1 - (n - 1 - j) = j by omega, rw9_at hj] at this
    exact this
  case stop =>
    rintro D cc pre W hD ⟨k, hk, rfl⟩ ⟨⟨rfl, ini, last, e1, e2, e3, hb⟩, hO⟩ hK
    refine wpIn_exit ?_
    show K7 _ W
    obtain ⟨k', rfl⟩ : ∃ k', k = k' + 1 := by
      cases k with
      | zero => simp [downs] at e1
      | succ k' => exact ⟨k', rfl⟩
    rw [downs_succ] at e1
    obtain ⟨rfl, e5⟩ := List.append_inj' e1 rfl
    obtain rfl : n - 1 - k' = last := by simpa using e5
    have hlast : n - 1 - k' < n := by omega
    have hw : wrap64 (((n - 1 - k' : Nat) : Int) + 1) = ((n - 1 - k' + 1 : Nat) : Int) := by rw [IntWalk.wrap64_in _ ⟨by omega, by omega⟩]; rfl
    rw [hw] at hb
    have hnp : ∀ x, a = some x → n ≠ 0 → ¬ x.block = w.heap.size + 1 := fun x hx hn0 => by
      rcases HS.out.2 with h | ⟨b, off, h2, hlt, _⟩
      · exact absurd h hn0
      · rw [hx] at h2; cases h2; exact Nat.ne_of_lt (Nat.lt_succ_of_lt hlt)
    have hSW : Sl W a n 9 (ints L) := by
      by_cases hn0 : n = 0
      · exact ⟨HS.out.1, Or.inl hn0⟩
      · exact HS0.out.only hO (fun x hx => hnp x hx hn0)
    refine TAIL.out (n - 1 - k' + 1) D W (by omega) (HB0.out.trans (hO.toBelow (fun x hx => hx ▸ Nat.le_succ _) HB0.out.size)) (HA.out.only hO (by omega)) hb hSW hK (Nat.le_trans HB0.out.size hD) ?_
    rw [rw9_at hlast] at e3
    refine putAt_hit e3 hlast fun j h1 hj => ?_
    have := e2 (n - 1 - (n - 1 - j)) (mem_downs (by omega))
    rw [show n - 1 - (n - 1 - j) = j by omega, rw9_at hj] at this
    exact this
end Go.Proofs.Ytcfipimhpeblbaa
