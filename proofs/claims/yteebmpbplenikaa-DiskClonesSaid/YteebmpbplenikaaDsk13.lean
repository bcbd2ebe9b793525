/- The statements of disks: one that is alive; DiskClones. -/
import Derived.Test.YteebmpbplenikaaDsk11
import Derived.RegionTactic
import Derived.BigRegion
import Derived.ChangeAlike
import Derived.Laws.IdiomCopy
import Derived.Deep.LoopGhost
import Derived.Deep.DeepCutAuto
namespace Go.Proofs.Yteebmpbplenikaa
set_option linter.unusedVariables false
set_option linter.unusedSimpArgs false
open Go.ChangeShapes Go.WideShapes Go.ChangeAt Go.RowKit
theorem has_odd (v : Option Addr) (w : World) (C : Hid (Calls Try.prog 23 #[.pointer v] w fun e w' => e = .returned (.bool true) ∧ w = w')) (i : Int) : Calls Try.prog 25 #[.pointer v, .int .i64 i] w fun e w' => e = .returned (.bool false) ∧ w = w' := by
  go_enter Try.func25, Try.ntmps25
  go_wp2_with (go_at_call 23; refine C.out.mono ?_; rintro e w' ⟨rfl, rfl⟩)
  go_ret
  exact ⟨rfl, rfl⟩
theorem len_odd (v : Option Addr) (w : World) (C : Hid (Calls Try.prog 23 #[.pointer v] w fun e w' => e = .returned (.bool true) ∧ w = w')) : Calls Try.prog 18 #[.pointer v] w fun e w' => e = .returned (.int .i64 0) ∧ w = w' := by
  go_enter Try.func18, Try.ntmps18
  go_wp2_with (go_at_call 23; refine C.out.mono ?_; rintro e w' ⟨rfl, rfl⟩)
  go_ret
  exact ⟨rfl, rfl⟩
theorem dead_odd (v : Option Addr) (w : World) (C : Hid (Calls Try.prog 23 #[.pointer v] w fun e w' => e = .returned (.bool true) ∧ w = w')) : Calls Try.prog 19 #[.pointer v] w fun e w' => e = .returned (.bool false) ∧ w = w' := by
  go_enter Try.func19, Try.ntmps19
  go_wp2_with (go_at_call 23; refine C.out.mono ?_; rintro e w' ⟨rfl, rfl⟩)
  go_ret
  exact ⟨rfl, rfl⟩
theorem written_odd (v : Option Addr) (w : World) (C : Hid (Calls Try.prog 23 #[.pointer v] w fun e w' => e = .returned (.bool true) ∧ w = w')) : Calls Try.prog 20 #[.pointer v] w fun e w' => e = .returned (.int .i64 0) ∧ w = w' := by
  go_enter Try.func20, Try.ntmps20
  go_wp2_with (go_at_call 23; refine C.out.mono ?_; rintro e w' ⟨rfl, rfl⟩)
  go_ret
  exact ⟨rfl, rfl⟩
theorem arm_odd (v : Option Addr) (w : World) (C : Hid (Calls Try.prog 23 #[.pointer v] w fun e w' => e = .returned (.bool true) ∧ w = w')) (z : Int) : Calls Try.prog 14 #[.pointer v, .int .i64 z] w fun e w' => e = .returned (.tuple #[]) ∧ w = w' := by
  go_enter Try.func14, Try.ntmps14
  go_wp2_with (go_at_call 23; refine C.out.mono ?_; rintro e w' ⟨rfl, rfl⟩)
  refine bodyPost_ret (results_none rfl _ _ _) rfl ?_
  exact ⟨rfl, rfl⟩
theorem revive_odd (v : Option Addr) (w : World) (C : Hid (Calls Try.prog 23 #[.pointer v] w fun e w' => e = .returned (.bool true) ∧ w = w')) : Calls Try.prog 15 #[.pointer v] w fun e w' => e = .returned (.tuple #[]) ∧ w = w' := by
  go_enter Try.func15, Try.ntmps15
  go_wp2_with (go_at_call 23; refine C.out.mono ?_; rintro e w' ⟨rfl, rfl⟩)
  go_end0
  exact ⟨rfl, rfl⟩
theorem read_odd (v : Option Addr) (w : World) (C : Hid (Calls Try.prog 23 #[.pointer v] w fun e w' => e = .returned (.bool true) ∧ w = w')) (i : Int) : Calls Try.prog 16 #[.pointer v, .int .i64 i] w fun e w' => e = .returned (.tuple #[.slice none 0 0, .bool false]) ∧ w = w' := by
  have CH := Lib.hid (has_odd v w C i)
  clear C
  go_enter Try.func16, Try.ntmps16
  go_wp2_with (go_at_call 25; refine CH.out.mono ?_; rintro e w' ⟨rfl, rfl⟩)
  go_ret2
  exact ⟨rfl, rfl⟩
theorem write_odd (v : Option Addr) (w : World) (C : Hid (Calls Try.prog 23 #[.pointer v] w fun e w' => e = .returned (.bool true) ∧ w = w')) (i : Int) (ab : Option Addr) (nb cb : Nat) : Calls Try.prog 17 #[.pointer v, .int .i64 i, .slice ab nb cb] w fun e w' => e = .returned (.bool false) ∧ w = w' := by
  have CH := Lib.hid (has_odd v w C i)
  clear C
  go_enter Try.func17, Try.ntmps17
  go_wp2_with (go_at_call 25; refine CH.out.mono ?_; rintro e w' ⟨rfl, rfl⟩)
  go_ret
  exact ⟨rfl, rfl⟩
theorem Two.low {w : World} {B B' g n c k kc : Nat} {a ka : Option Addr} {bs : List UInt8} {left wr : Int} {dead : Bool} (h : Two w B g a n c k ka kc bs left dead wr) (hb : B' ≤ B) (hw : B' ≤ w.heap.size) : Two w B' g a n c k ka kc bs left dead wr :=
  ⟨h.d, h.b, h.kg, h.ak, h.kag, h.aka, Nat.le_trans hb h.lg, Nat.le_trans hb h.lk, fun s hs => Nat.le_trans hb (h.la s hs), fun s hs => Nat.le_trans hb (h.lka s hs), hw, h.top⟩
theorem two_begin2 {w w1 w2 : World} {k g n c kc : Nat} {ka a : Option Addr} {bs : List UInt8} {l t : Int} {dead : Bool} (hb1 : Below w.heap.size w w1) (hb2 : Below w1.heap.size w1 w2) (hg : w.heap.size ≤ g) (ha : ∀ s, a = some s → w.heap.size ≤ s.block ∧ s.block < w1.heap.size) (hD : Dsk w1 g a n c bs l dead t)
    (hk : w1.heap.size ≤ k) (hka : ∀ s, ka = some s → w1.heap.size ≤ s.block ∧ s.block < w2.heap.size) (hB : Bok w2 k ka (32 * n) kc bs l dead t) : Two w2 w.heap.size g a n c k ka kc bs l dead t := by
  have hgl := hD.head.lt
  have hkl := hB.head.lt
  have s1 := hb1.size
  have s2 := hb2.size
  refine ⟨hD.keep hb2, hB, by omega, fun s hs => ?_, fun t ht => ?_, fun s t hs ht => ?_, hg, by omega, fun s hs => (ha s hs).1, fun t ht => ?_, by omega, ?_⟩
  · have := (ha s hs).2; omega
  · have := (hka t ht).1; omega
  · have := (hka t ht).1; have := (ha s hs).2; omega
  · have := (hka t ht).1; omega
  · rintro j ((rfl | ⟨s, hs, rfl⟩) | (rfl | ⟨s, hs, rfl⟩))
    · omega
    · have := (ha s hs).2; omega
    · exact hkl
    · exact (hka s hs).2
theorem dclone_any2 {g n c : Nat} {a : Option Addr} {bs : List UInt8} {left wr : Int} {dead : Bool} {w : World} (h : Dsk w g a n c bs left dead wr) : Calls Try.prog 12 #[.pointer (some ⟨g, 0, none⟩)] w fun e w' => ∃ g' a' c', e = .returned (.pointer (some ⟨g', 0, none⟩)) ∧ w.heap.size ≤ g' ∧ (a' = none ∨ ∃ s sp, a' = some ⟨s, 0, none⟩ ∧ w.heap.size ≤ s ∧ Blk w' s sp 52) ∧ Dsk w' g' a' n c' bs left dead wr ∧ Below w.heap.size w w' := by
  have C := Lib.hid (unmade_no g w h.cells.1)
  have HD := Lib.hid h
  have h1 := h.cells.2.1
  have rd : w.rangeAt g 0 (dkc a n c left dead wr) := h.head.range 0 _ rfl
  have TD : RowT 39 (dkc a n c left dead wr).length := rowDk
  have AX : Hid (Blk (w.alloc (.cells (dkc a n c left dead wr).toArray 39)) w.heap.size (dkc a n c left dead wr) 39) := Lib.hid (by have := Blk.new w (dkc a n c left dead wr).toArray 39; rwa [List.toList_toArray] at this)
  have BX := Lib.hid ((Below.refl w.heap.size w).alloc (Nat.le_refl _) (.cells (dkc a n c left dead wr).toArray 39))
  have OD : Hid (∀ u ∈ dkc a n c left dead wr, u.oneCell' = true) := Lib.hid (by intro u hu; simp [dkc] at hu; rcases hu with rfl | rfl | rfl | rfl | rfl <;> rfl)
  have CL := Lib.hid (clone_sec a n c (bcells bs) (w.alloc (.cells (dkc a n c left dead wr).toArray 39)) (h.sl.keep ((Below.refl _ _).alloc (Nat.le_refl _) _)) (fun u hu => bcells_one hu) (by have := h.few; omega))
  have hg : g < w.heap.size := h.head.lt
  clear h
  go_enter Try.func12, Try.ntmps12
  go_upto_region 4 with (first
    | (go_at_call 23; refine C.out.mono ?_; rintro e w' ⟨rfl, rfl⟩)
    | ((with_reducible refine ld_row rd TD ?_ ?_ ?_); (· rfl); (· rfl); (simp only [Act.put, List.setIfInBounds_toArray, List.set_cons_zero, List.set_cons_succ]))
    | ((with_reducible refine st_row_new (cs := dkc a n c left dead wr) TD OD.out ?_ ?_ ?_ ?_); (· first | rfl | simp); (· rfl); (· rfl); (simp only [Act.put, List.setIfInBounds_toArray, List.set_cons_zero, List.set_cons_succ])))
  have h1' : (w.alloc (.cells (dkc a n c left dead wr).toArray 39)).cell? ⟨g, 1, none⟩ = some (.slice a n c) := (BX.out.cell (p := ⟨g, 1, none⟩) hg).trans h1
  have hz : Hid ((w.alloc (.cells (dkc a n c left dead wr).toArray 39)).heap.size = w.heap.size + 1) := Lib.hid (by simp)
  have hgw0 : ∃ gw, gw = w.heap.size := ⟨_, rfl⟩
  obtain ⟨gw, hgw⟩ := hgw0
  rw [← hgw] at AX BX hz hg ⊢
  have HGW := Lib.hid hgw
  clear hgw
  generalize w.alloc (.cells (dkc a n c left dead wr).toArray 39) = W at *
  clear rd h1
  go_wp2_with fail
  refine CL.out.mono ?_
  rintro e w2 ⟨v, rfl, ho, hb⟩
  obtain ⟨a', c', rfl, hnc, hcm, hxl, hsec⟩ := own_blk ho
  have A2 := Lib.hid (AX.out.keep hb AX.out.lt)
  have B2 := Lib.hid (BX.out.trans (hb.mono (by rw [hz.out]; omega)))
  have SC := Lib.hid (And.intro hnc hsec)
  have q1 := A2.out.cell 1
  have k1 : w2.cell? ⟨gw, 1, none⟩ = some (.slice a n c) := q1
  have f1 := A2.out.froz 1
  clear ho hb hnc hcm hxl hsec CL AX BX h1' q1
  go_wp2_with fail
  go_ret
  rw [← HGW.out]
  refine ⟨gw, a', c', rfl, Nat.le_refl _, ?_, ⟨A2.out.set 1 _, HD.out.len, SC.out.1, HD.out.few, HD.out.lo, HD.out.hi, ?_⟩, below_set B2.out (Nat.le_refl _) 1 _⟩
  · rcases SC.out.2 with ⟨_, h0⟩ | ⟨g2, sp, h0, hB, hblk⟩
    · exact Or.inl h0
    · have hne : g2 ≠ gw := by have := hz.out; omega
      exact Or.inr ⟨g2, _, h0, by have := hz.out; omega, hblk.set_other hne 1 _⟩
  · rcases SC.out.2 with ⟨h0, _⟩ | ⟨g2, sp, h0, hB, hblk⟩
    · exact Or.inl h0
    · have hne : g2 ≠ gw := by have := hz.out; omega
      exact Or.inr ⟨g2, sp, h0, hblk.set_other hne 1 _, hne⟩
theorem run_op_boxD {P : Program} {o : Oper} {ty : TypeId} {x : Operand} {a : Act} {w : World} {cs : Array Value} (ho : o.op = .box ty x) (hx : a.eval x = .agg cs) : (execOp a.eval o).run P w = .ok (.value (.pointer (some ⟨w.heap.size, 0, none⟩))) (w.alloc (.cells cs ty)) := by
  unfold execOp
  simp only [ho, hx]
  simp [Instr.box, newVar, newRow, go_sem, Value.cells]
theorem run_op_slice0 {P : Program} {o : Oper} {t e : TypeId} {i : TypeInfo} {a : Act} {w : World} (ho : o.op = .buildSlice t 0 #[]) (hu : P.underlying t = some (.slice e)) (hi : P.info? e = some i) : (execOp a.eval o).run P w = .ok (.value (.slice (some ⟨w.heap.size, 0, none⟩) 0 0)) (w.alloc (.cells #[] e)) := by
  unfold execOp
  simp [ho, Instr.buildSlice, run_underlying hu, sizeOf, typeInfo, hi, Instr.fill, newRow, go_sem]
theorem run_op_appD {P : Program} {o : Oper} {d s : Operand} {dT sT : TypeId} {a : Act} {w w' : World} {vd vs r : Value} (ho : o.op = .call { callee := .builtin .append, args := #[d, s], argTypes := #[dT, sT] }) (hd : a.eval d = vd) (hs : a.eval s = vs) (h : (Builtin.append_ #[dT, sT] o.type #[vd, vs]).run P w = .ok r w') :
    (execOp a.eval o).run P w = .ok (.value r) w' := by
  simp [execOp, ho, resolve, invoke, builtin, hd, hs, h, Result.andThen]
theorem blk_ne {w : World} {g h t u : Nat} {xs ys : List Value} (h1 : Blk w g xs t) (h2 : Blk w h ys u) (ht : t ≠ u) : g ≠ h := by
  rintro rfl
  unfold Blk at h1 h2
  rw [h1] at h2
  simp only [Option.some.injEq, Obj.cells.injEq] at h2
  exact ht h2.2.1
theorem Two.only {B g n c k kc : Nat} {a ka : Option Addr} {bs : List UInt8} {left wr : Int} {dead : Bool} {w w' : World} {p : Nat → Prop} (h : Two w B g a n c k ka kc bs left dead wr) (ho : Only p w w') (hp : ∀ j, dkp g a j ∨ bkp k ka j → ¬ p j) : Two w' B g a n c k ka kc bs left dead wr :=
  ⟨h.d.only ho fun j hj => hp j (Or.inl hj), h.b.only ho fun j hj => hp j (Or.inr hj), h.kg, h.ak, h.kag, h.aka, h.lg, h.lk, h.la, h.lka, Nat.le_trans h.lw ho.size, fun j hj => Nat.lt_of_lt_of_le (h.top j hj) ho.size⟩
/-- the clone of a disk, above W. -/
structure Cl (w : World) (W g : Nat) (a : Option Addr) (n c : Nat) (bs : List UInt8) (l : Int) (dd : Bool) (t : Int) : Prop where
  d : Dsk w g a n c bs l dd t
  lo : W ≤ g
  sec : a = none ∨ ∃ s sp, a = some ⟨s, 0, none⟩ ∧ W ≤ s ∧ Blk w s sp 52
section
variable {w w' : World} {W g n c : Nat} {a : Option Addr} {bs : List UInt8} {l t : Int} {dd : Bool}
theorem Cl.only {p : Nat → Prop} (h : Cl w W g a n c bs l dd t) (ho : Only p w w') (hp : ∀ j, dkp g a j → ¬ p j) : Cl w' W g a n c bs l dd t :=
  ⟨h.d.only ho hp, h.lo, h.sec.imp id fun ⟨s, sp, ha, hl, hb⟩ => ⟨s, sp, ha, hl, hb.only ho (hp s (Or.inr ⟨_, ha, rfl⟩))⟩⟩
theorem Cl.keep (h : Cl w W g a n c bs l dd t) (hb : Below w.heap.size w w') : Cl w' W g a n c bs l dd t := h.only (p := fun _ => False) (Only.ofBelow' hb) fun _ _ => id
theorem Cl.ty (h : Cl w W g a n c bs l dd t) : ∀ j, dkp g a j → ∃ cs u, Blk w j cs u ∧ (u = 39 ∨ u = 52) ∧ W ≤ j := by
  rintro j (rfl | ⟨s, hs, rfl⟩)
  · exact ⟨_, _, h.d.head, Or.inl rfl, h.lo⟩
  · rcases h.sec with h0 | ⟨s', sp, ha, hl, hb⟩
    · rw [h0] at hs; cases hs
    · rw [ha] at hs; cases hs; exact ⟨_, _, hb, Or.inr rfl, hl⟩
theorem Cl.ne (h : Cl w W g a n c bs l dd t) {b : Nat} {xs : List Value} (hb : Blk w b xs 5) : ∀ j, dkp g a j → j ≠ b := fun j hj => by
  obtain ⟨cs, u, h1, h2, _⟩ := h.ty j hj
  exact blk_ne h1 hb (by rcases h2 with rfl | rfl <;> decide)
end
/-- the disk and its book, the clone, and a row of our own. -/
structure Mid (w : World) (B W g : Nat) (a : Option Addr) (n c k : Nat) (ka : Option Addr) (bs : List UInt8) (l : Int) (dd : Bool) (t : Int) (g' : Nat) (a' : Option Addr) (c' : Nat) (v : Value) (m : Nat) (xs : List Value) : Prop where
  two : Two w B g a n c k ka (32 * n) bs l dd t
  low : ∀ j, dkp g a j ∨ bkp k ka j → j < W
  cl : Cl w W g' a' n c' bs l dd t
  row : w.ownsRow W 5 1 v m xs
  hW : W ≤ w.heap.size
section
variable {w w' : World} {B W g n c k g' c' m : Nat} {a ka a' : Option Addr} {bs : List UInt8} {l t : Int} {dd : Bool} {v : Value} {xs : List Value}
theorem Mid.grow {s0 : Nat} (h : Mid w B W g a n c k ka bs l dd t g' a' c' (.slice (some ⟨s0, 0, none⟩) 0 0) 0 []) (ty : TypeId) : ∃ v' w', (Builtin.append_ #[33, 33] ty #[.slice (some ⟨s0, 0, none⟩) 0 0, .slice ka (32 * n) (32 * n)]).run Try.prog w = .ok v' w' ∧ Mid w' B W g a n c k ka bs l dd t g' a' c' v' (32 * n) (bcells bs) ∧ Below W w w' := by
  obtain ⟨i0, hi, hz0, hz1, hz2⟩ := info_parts byte_info
  have hfew := h.two.d.few
  have hsl := h.two.b.sl
  have hbl := h.two.d.len
  cases ka with
  | none =>
    have hn : 32 * n = 0 := by
      rcases h.two.b.sec with h0 | ⟨s, sp, h0, _⟩
      · exact h0
      · cases h0
    have hb0 : bs = [] := List.eq_nil_of_length_eq_zero (by omega)
    subst hb0
    refine ⟨.slice (some ⟨s0, 0, none⟩) 0 0, w, ?_, ?_, Below.refl _ _⟩
    · have := run_append_owned_none (P := Try.prog) (w := w) W 33 ty 5 i0 1 Try.underlying33 hi _ 0 [] h.row
      rw [hn]
      exact this
    · have := h
      rw [hn]
      exact ⟨this.two, this.low, this.cl, this.row, this.hW⟩
  | some ad =>
    obtain ⟨v', w', hr, hro, hg, _⟩ := run_append_own (P := Try.prog) w W 33 ty 5 i0 (.int .u8 0) 1 1 Try.underlying33 hi hz0 hz1 hz2 rfl (by decide) _ 0 [] h.row ad (32 * n) (32 * n) (bcells bs) (by rw [bcells_len]; omega) (fun j u hu => by
        have hj : j < (bcells bs).length := by
          rcases Nat.lt_or_ge j (bcells bs).length with hh | hh
          · exact hh
          · rw [List.getElem?_eq_none hh] at hu; cases hu
        rcases hsl.2 with h0 | ⟨b, off, hh, hb, hc⟩
        · rw [bcells_len] at hj; omega
        · obtain rfl := Option.some.inj hh
          rw [add_plain]
          refine (hc j (by rw [bcells_len] at hj; omega)).trans ?_
          rw [List.getD_eq_getElem?_getD, hu]; rfl) (fun u hu => bcells_one hu) (by simp only [maxLen]; omega) (by omega) h.hW
    have hlt := h.row.lt s0 rfl
    have ho : Only (fun j => j = s0) w w' := ⟨hg.os, hg.tape, hg.output, hg.size, fun k hk hn => hg.block k hk fun e => hn (Option.some.inj e)⟩
    have hblk : ∃ ys, Blk w s0 ys 5 := by
      rcases h.row.2 with ⟨h0, _⟩ | ⟨g2, cap, cur, h0, _, hh, _⟩
      · cases h0
      · cases h0
        exact ⟨cur.toList, by unfold Blk; rw [hh, Array.toArray_toList]⟩
    obtain ⟨ys, hblk⟩ := hblk
    refine ⟨v', w', hr, ⟨h.two.only ho fun j hj e => ?_, h.low, h.cl.only ho (h.cl.ne hblk), ?_, Nat.le_trans h.hW ho.size⟩, ho.toBelow (fun j hj => hj ▸ hlt.1) h.hW⟩
    · have := h.low j hj; omega
    · simpa using hro
theorem Mid.box (h : Mid w B W g a n c k ka bs l dd t g' a' c' v (32 * n) (bcells bs)) (hBW : B ≤ W) : ∃ ka' kc', v = .slice ka' (32 * n) kc' ∧ Two (w.alloc (.cells #[v, .int .i64 l, .bool dd, .int .i64 t] 35)) B g' a' n c' w.heap.size ka' kc' bs l dd t ∧ ∀ j, dkp g' a' j ∨ bkp w.heap.size ka' j → W ≤ j := by
  obtain ⟨ka', kc', rfl, hnc, hcm, hxl, hsec⟩ := own_blk h.row
  have hb : Below w.heap.size w (w.alloc (.cells #[.slice ka' (32 * n) kc', .int .i64 l, .bool dd, .int .i64 t] 35)) := (Below.refl _ _).alloc (Nat.le_refl _) _
  have HC : ∀ j, dkp g' a' j → W ≤ j ∧ j < w.heap.size := fun j hj => by
    obtain ⟨cs, u, h1, _, h3⟩ := h.cl.ty j hj
    exact ⟨h3, h1.lt⟩
  have HK : ∀ x, ka' = some x → W ≤ x.block ∧ x.block < w.heap.size ∧ ∀ j, dkp g' a' j → j ≠ x.block := fun x hx => by
    rcases hsec with ⟨_, h0⟩ | ⟨g2, sp, h0, hB, hblk⟩
    · rw [h0] at hx; cases hx
    · rw [h0] at hx; cases hx
      exact ⟨hB, hblk.lt, h.cl.ne hblk⟩
  have hW := h.hW
  have HG := HC g' (Or.inl rfl)
  have hN : Blk (w.alloc (.cells #[.slice ka' (32 * n) kc', .int .i64 l, .bool dd, .int .i64 t] 35)) w.heap.size (bkc ka' (32 * n) kc' l dd t) 35 := Blk.new w #[.slice ka' (32 * n) kc', .int .i64 l, .bool dd, .int .i64 t] 35
  refine ⟨ka', kc', rfl, ⟨h.cl.d.keep hb, ⟨hN, h.two.d.len, hnc, ?_⟩, by omega, fun s hs => ?_, fun x hx => ?_, fun s x hs hx => ?_, by omega, by omega, fun s hs => ?_, fun x hx => ?_, ?_, ?_⟩, ?_⟩
  · rcases hsec with ⟨h0, _⟩ | ⟨g2, sp, h0, hB, hblk⟩
    · exact Or.inl h0
    · have := hblk.lt
      exact Or.inr ⟨g2, sp, h0, hblk.only (p := fun _ => False) (Only.ofBelow' hb) id, by omega⟩
  · have := (HC s.block (Or.inr ⟨s, hs, rfl⟩)).2; omega
  · exact fun e => (HK x hx).2.2 g' (Or.inl rfl) e.symm
  · exact (HK x hx).2.2 _ (Or.inr ⟨s, hs, rfl⟩)
  · have := (HC s.block (Or.inr ⟨s, hs, rfl⟩)).1; omega
  · have := (HK x hx).1; omega
  · have := hb.size; omega
  · have hlt : w.heap.size < (w.alloc (.cells #[.slice ka' (32 * n) kc', .int .i64 l, .bool dd, .int .i64 t] 35)).heap.size := by simp
    rintro j (hj | hj | ⟨x, hx, rfl⟩)
    · have := (HC j hj).2; omega
    · omega
    · have := (HK x hx).2.1; omega
  · rintro j (hj | hj | ⟨x, hx, rfl⟩)
    · exact (HC j hj).1
    · omega
    · exact (HK x hx).1
end
end Go.Proofs.Yteebmpbplenikaa
