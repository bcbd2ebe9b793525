/- The law on what one owns. -/
import Derived.Test.YtkegknpoejjcjaaLaw02
import Derived.Deep.QuietTactic
import Derived.BigQuiet
import Derived.Lib.SmallJoins
import Derived.Laws.AppendOwnNone
namespace Go.Proofs.Ytkegknpoejjcjaa
set_option linter.unusedVariables false
set_option linter.unusedSimpArgs false
open Go.ChangeShapes Go.WideShapes Go.ChangeAt Go.RowKit
theorem Rdr.grown {w w' : World} {g : Nat} {v : Value} {f : Bool} {row : Option Nat} (h : Rdr w g v f) (hg : w.grownBy w' row) (hne : some g ≠ row) : Rdr w' g v f := (hg.block g h.lt hne).trans h
theorem owned_at {w : World} {base : Nat} {e : TypeId} {a : Option Addr} {c n : Nat} {bs : List UInt8} (h : w.ownsRow base e 1 (.slice a n c) n (bcells bs)) {j : Nat} (hj : j < n) :
    ∃ g, a = some ⟨g, 0, none⟩ ∧ base ≤ g ∧ w.cell? ⟨g, j, none⟩ = some (.int .u8 ((bs.getD j 0).toNat : Int)) ∧ w.frozen? ⟨g, j, none⟩ = false := by
  rcases h.2 with ⟨hv, h0⟩ | ⟨g, cap, cur, hv, hb, hh, hn, hm, hs, ht⟩
  · omega
  · injection hv with e1 e2 e3
    refine ⟨g, e1, hb, ?_, frozen_of_row w g j cur e hh⟩
    obtain ⟨_, b, off, e4, _, hc⟩ := (show Sl w a n 1 (bcells bs) from by
      obtain ⟨a', c', e5, _, _, hs⟩ := Sl.own h
      injection e5 with e6 e7 e8
      subst e6
      exact hs).byte (by omega)
    rw [e1] at e4
    injection e4 with e4
    injection e4 with e4 e5
    subst e4; subst e5
    have := hc j hj
    rwa [Nat.zero_add] at this
theorem bytes_at (g n c k : Nat) (a : Option Addr) (bs : List UInt8) (w : World) (h : Rdr w g (.slice a n c) true) (hs : Sl w a n 1 (bcells bs)) (hk : k ≤ n) (hn : n ≤ c) (hc : c ≤ 9223372036854775807) (hb : n ≤ 140737488355328) (z : Int) (hz : z = k) :
    Calls Try.prog 15 #[.pointer (some ⟨g, 0, none⟩), .int .i64 z] w fun e w' => ∃ va vc, e = .returned (.tuple #[.slice va k vc, .bool true]) ∧ w'.ownsRow w.heap.size 5 1 (.slice va k vc) k (bcells (bs.take k)) ∧ Rdr w' g (.slice (restOf a c k) (n - k) (c - k)) true ∧ w.grownBy w' (some g) := by
  subst hz
  refine (bytes_ok g n c k a bs w h hs hk hn hc hb).mono ?_
  rintro e w' ⟨v, rfl, ho, h1, h2⟩
  obtain ⟨va, vc, rfl, _⟩ := Sl.own ho
  exact ⟨va, vc, rfl, ho, h1, h2⟩
/-- a row of one's own stays where a block below its base is written. -/
theorem own_lo {w w' : World} {base : Nat} {e : TypeId} {sz : Nat} {v : Value} {n : Nat} {xs : List Value} {row : Option Nat} (h : w.ownsRow base e sz v n xs) (hg : w.grownBy w' row) (hr : ∀ q, row = some q → q < base) : w'.ownsRow base e sz v n xs := by
  refine h.kept hg ?_
  cases hv : v.ownBlock with
  | none => exact Or.inl rfl
  | some q =>
    refine Or.inr fun e => ?_
    have h1 := (h.lt q hv).1
    have h2 := hr q e.symm
    omega
/-- or a block from some number on above which it does not lie. -/
theorem own_hi {w w' : World} {base : Nat} {e : TypeId} {sz : Nat} {v : Value} {n : Nat} {xs : List Value} {row : Option Nat} (h : w.ownsRow base e sz v n xs) (hg : w.grownBy w' row) (hr : ∀ q, row = some q → ∀ p, v.ownBlock = some p → p ≠ q) : w'.ownsRow base e sz v n xs := by
  refine h.kept hg ?_
  cases hv : v.ownBlock with
  | none => exact Or.inl rfl
  | some p =>
    refine Or.inr fun e => ?_
    exact hr p e.symm p hv rfl
theorem sl_own {w : World} {base : Nat} {e : TypeId} {sz : Nat} {a : Option Addr} {c : Nat} {n : Nat} {xs : List Value} (h : w.ownsRow base e sz (.slice a n c) n xs) : Sl w a n sz xs := by
  obtain ⟨a', c', he, _, _, hs⟩ := Sl.own h
  injection he with e1 e2 e3
  subst e1
  exact hs
/-- octets stay where a reader is written. -/
theorem Sl.other {w w' : World} {a : Option Addr} {g n : Nat} {v : Value} {f : Bool} {bs : List UInt8} (h : Sl w a n 1 (bcells bs)) (hr : Rdr w g v f) (hv : ∀ k n, v ≠ .int k n) (hg : w.grownBy w' (some g)) : Sl w' a n 1 (bcells bs) := by
  refine ⟨h.1, ?_⟩
  by_cases h0 : n = 0
  · exact Or.inl h0
  · obtain ⟨_, b, off, rfl, hb, hcell⟩ := h.byte (by omega)
    have hne : b ≠ g := hr.ne_ hv (hcell 0 (by omega))
    rcases h.2 with h1 | ⟨b', off', ha, _, hc⟩
    · exact absurd h1 h0
    · injection ha with ha
      injection ha with ha1 ha2
      subst ha1; subst ha2
      refine Or.inr ⟨b, off, rfl, Nat.lt_of_lt_of_le hb hg.size, fun j hj => ?_⟩
      have h3 := hcell j (by omega)
      rw [hg.cell (a := ⟨b, off + j, none⟩) h3 (fun e => hne (by injection e)), ← h3]
      exact hc j hj
theorem Sl.front {w : World} {a : Option Addr} {n k : Nat} {bs : List UInt8} (h : Sl w a n 1 (bcells bs)) (hk : k ≤ n) : Sl w a k 1 (bcells (bs.take k)) := by
  have hbl : bs.length = n := by have := h.1; rw [bcells_len] at this; omega
  refine ⟨by rw [bcells_len, List.length_take]; omega, ?_⟩
  by_cases h0 : k = 0
  · exact Or.inl h0
  · obtain ⟨_, b, off, rfl, hb, hcell⟩ := h.byte (by omega)
    refine Or.inr ⟨b, off, rfl, hb, fun j hj => ?_⟩
    rw [hcell j (by omega)]
    simp [bcells, List.getD_eq_getElem?_getD, List.getElem?_eq_getElem (show j < bs.length by omega), show j < k by omega]
theorem conv_draws {w : World} {a : Option Addr} {n : Nat} {bs : List UInt8} (h : Sl w a n 1 (bcells bs)) (c nq : Nat) : (convert 22 9 (.slice a n c)).run Try.prog (w.drewN nq) = .ok (.string ⟨bs.toArray⟩) (w.drewN nq) := conv_bytes (h.keep (Go.Joins.below_draws _ _ _)) c
/-- two growths, the second above. -/
theorem grown_up {w w1 w2 : World} {r r2 : Option Nat} (h1 : w.grownBy w1 r) (h2 : w1.grownBy w2 r2) (h : ∀ q, r2 = some q → w.heap.size ≤ q) : w.grownBy w2 r :=
  ⟨h2.os.trans h1.os, h2.tape.trans h1.tape, h2.output.trans h1.output, Nat.le_trans h1.size h2.size, fun k hk hne => (h2.block k (Nat.lt_of_lt_of_le hk h1.size) (fun e => by have := h k e.symm; omega)).trans (h1.block k hk hne)⟩
set_option maxRecDepth 100000 in
set_option maxHeartbeats 4000000 in
theorem own_walk (v0 v1 : Value) (w : World) (h0 : Arg Try.prog w 22 v0) (h1 : Arg Try.prog w 3 v1) :
    Calls Try.prog 4 #[v0, v1] w fun e w' => e = .returned (.bool true) ∧ Below w.heap.size w w' := by
  obtain ⟨a, n, c, bs, rfl, hnc, hcm, hnr, hbl, hsl⟩ := h0.bytes
  obtain ⟨n0, rfl, _⟩ := h1.int Try.underlying3
  clear h0 h1
  have hn47 : n ≤ 140737488355328 := Nat.le_trans hnr (by decide)
  obtain ⟨i0, hi, hz0, hz1, hz2⟩ := info_parts info_byte
  have HS := Lib.hid hsl
  have HL := Lib.hid hbl
  clear hsl hbl hnr
  go_enter Try.func4, Try.ntmps4
  go_wp2_with fail
  refine (alive02 w).mono ?_
  rintro e w1 ⟨rfl, hb1⟩
  have HS1 := Lib.hid (HS.out.keep hb1)
  have HB1 := Lib.hid hb1
  have hsz1 := hb1.size
  clear hb1
  go_upto_region 3 with fail
  go_cut [5] (fun s wx => ∃ va vc, s = .slice va n vc ∧ wx.ownsRow w1.heap.size 5 1 (.slice va n vc) n (bcells bs) ∧ Below w1.heap.size w1 wx)
  case first =>
    cases a with
    | none =>
      obtain ⟨rfl, hx⟩ := HS1.out.nil_
      have hbs : bs = [] := by simpa [bcells] using hx
      subst hbs
      go_wp2_with fail
      go_meet
      exact ⟨_, 0, rfl, World.ownsRow_made w1 #[] 0 (Nat.le_refl _) (by decide) rfl, (Below.refl _ _).alloc (Nat.le_refl _) _⟩
    | some ad =>
      have hlen := Lib.hid HS1.out.1
      have HN := Lib.hid (fun (o : Obj) j u hu => ((Below.refl w1.heap.size w1).alloc (Nat.le_refl _) o).cell (block_lt_of_cell (HS1.out.cells j u hu)) |>.trans (HS1.out.cells j u hu))
      have HO := Lib.hid (show ∀ u ∈ bcells bs, u.oneCell' = true from fun u hu => bcells_one hu)
      go_wp2_with (at_builtin; refine wpList_append_own _ rfl _ _ 22 rfl w1.heap.size 5 i0 (.int .u8 0) 1 1 Try.underlying22 hi hz0 hz1 hz2 rfl (by decide) _ 0 [] rfl (World.ownsRow_made w1 #[] 0 (Nat.le_refl _) (by decide) rfl) ad n c (bcells bs) rfl hlen.out (HN.out _) HO.out ?c1 ?c2 (by simp) ?_)
      case c1 => simp only [maxLen]; omega
      case c2 => omega
      intro v' w2 hown hgr hnil
      obtain ⟨va, vc, rfl, _⟩ := Sl.own hown
      have HOW := Lib.hid hown
      have HG := Lib.hid (((Below.refl w1.heap.size w1).alloc (Nat.le_refl _) _).grown hgr (by simp) (by intro k hk; simp only [Value.ownBlock, Option.some.injEq] at hk; omega))
      clear hown hgr hnil
      go_wp2_with fail
      go_meet
      exact ⟨va, vc, rfl, by simpa using HOW.out, HG.out⟩
  case rest =>
    obtain ⟨va, vc, rfl, ho1, hb2⟩ := hcut
    have hcases : ∃ k : Nat, k ≤ n ∧ ((n0 < 0 ∧ k ≤ 0) ∨ (0 ≤ n0 ∧ n0 ≤ n ∧ n0 ≤ k ∧ (k : Int) ≤ n0) ∨ (0 ≤ n0 ∧ (n : Int) < n0 ∧ n ≤ k)) := by
      by_cases q1 : n0 < 0
      · exact ⟨0, Nat.zero_le _, Or.inl ⟨q1, Nat.le_refl _⟩⟩
      · by_cases q2 : n0 ≤ n
        · exact ⟨n0.toNat, by omega, Or.inr (Or.inl ⟨by omega, q2, by omega, by omega⟩)⟩
        · exact ⟨n, Nat.le_refl _, Or.inr (Or.inr ⟨by omega, by omega, Nat.le_refl _⟩)⟩
    obtain ⟨k, hkn, hk⟩ := hcases
    have HB2 := Lib.hid (HB1.out.trans (hb2.mono hsz1))
    have hsz2 := hb2.size
    -- the two readers
    have hslo : Sl wc va n 1 (bcells bs) := by
      obtain ⟨a', c', e, _, _, hs⟩ := Sl.own ho1
      injection e with e1 e2 e3
      subst e1
      exact hs
    have N1 := Lib.hid (new_own va n vc bs wc hslo hn47)
    have HO1 := Lib.hid ho1
    clear ho1 hslo hb2
    go_wp2_with fail
    refine N1.out.mono ?_
    rintro e w3 ⟨g1, a1, c1, rfl, hg1, hr1, hnc1, hm1, hs1, hb3⟩
    have hsz3 := hb3.size
    have HB3 := Lib.hid (HB2.out.trans (hb3.mono (by omega)))
    have N2 := Lib.hid (new_own a n c bs w3 (HS.out.keep HB3.out) hn47)
    clear N1
    go_wp2_with fail
    refine N2.out.mono ?_
    rintro e w4 ⟨g2, a2, c2, rfl, hg2, hr2, hnc2, hm2, hs2, hb4⟩
    have hsz4 := hb4.size
    have HB4 := Lib.hid (HB3.out.trans (hb4.mono (by omega)))
    have HO4 := Lib.hid ((HO1.out.kept (grown_of hb3 none) (by cases va <;> simp [Value.ownBlock])).kept (grown_of hb4 none) (by cases va <;> simp [Value.ownBlock]))
    have HR1 := Lib.hid (hr1.grown (grown_of hb4 none) (by simp))
    have HS1' := Lib.hid (hs1.kept (grown_of hb4 none) (by cases a1 <;> simp [Value.ownBlock]))
    have HLT := Lib.hid (fun q hq => (HO1.out.lt q hq).2)
    have HGE := Lib.hid (fun q hq => (HO1.out.lt q hq).1)
    have HR2 := Lib.hid hr2
    have HS2 := Lib.hid hs2
    have hg1l := hr1.lt
    have hg2l := hr2.lt
    have hm1' : c1 ≤ 9223372036854775807 := by simpa [maxLen] using hm1
    have hm2' : c2 ≤ 9223372036854775807 := by simpa [maxLen] using hm2
    have HS1L := Lib.hid (fun q hq => hs1.lt q hq)
    have HS2L := Lib.hid (fun q hq => hs2.lt q hq)
    clear N2 hr1 hr2 hs1 hs2 hb3 hb4 hm1 hm2
    go_wp2_with fail
    go_loopg [8] n (fun q s8 wr => ∃ i : Nat, q + i = n ∧ s8 = .int .i64 i ∧ Hid (w4.grownBy wr (Value.slice va n vc).ownBlock) ∧ Hid (∀ j g, i ≤ j → j < n → va = some ⟨g, 0, none⟩ → wr.cell? ⟨g, j, none⟩ = some (.int .u8 ((bs.getD j 0).toNat : Int)) ∧ wr.frozen? ⟨g, j, none⟩ = false))
    case atStart =>
      refine ⟨0, rfl, rfl, World.grownBy.refl _ _, fun j g _ hj hg => ?_⟩
      obtain ⟨g', e, _, h1, h2⟩ := owned_at HO4.out hj
      rw [e] at hg
      injection hg with hg
      injection hg with hg
      subst hg
      exact ⟨h1, h2⟩
    case round =>
      obtain ⟨i, hqi, rfl, HG, HC⟩ := hrel
      by_cases hlt : i < n
      · obtain ⟨g0, rfl, _, _, _⟩ := owned_at HO4.out hlt
        obtain ⟨hcell, hfr⟩ := HC.out i g0 (Nat.le_refl _) hlt rfl
        generalize ((bs.getD i 0).toNat : Int) = z at hcell
        go_wp2
        go_roundg (gk - 1)
        case measure => omega
        case rel =>
          refine ⟨i + 1, by omega, by go_num, (HG.out.trans (by simpa [Value.ownBlock] using grown_set _ g0 i _)), fun j g hj hjn hg => ?_⟩
          injection hg with hg
          injection hg with hg
          subst hg
          obtain ⟨h1, h2⟩ := HC.out j g0 (by omega) hjn rfl
          exact ⟨(World.cell?_setCell_other _ _ _ _ (by intro e; injection e with _ e; omega)).trans h1, (World.frozen?_setCell _ _ _ _).trans h2⟩
      · have HB5 := Lib.hid (HB4.out.grown HG.out HB4.out.size (fun q hq => Nat.le_trans hsz1 (HGE.out q hq)))
        have HR1' := Lib.hid (HR1.out.grown HG.out (fun e => by have := HLT.out _ e.symm; omega))
        have HS1o := Lib.hid (own_lo HS1'.out HG.out (fun q hq => HLT.out q hq))
        have HR2' := Lib.hid (HR2.out.grown HG.out (fun e => by have := HLT.out _ e.symm; omega))
        have HS2o := Lib.hid (own_lo HS2.out HG.out (fun q hq => by have := HLT.out q hq; omega))
        have hszr := HG.out.size
        have B1 := Lib.hid (bytes_at g1 n c1 k a1 bs wr HR1'.out (sl_own HS1o.out) hkn hnc1 hm1' hn47)
        clear HG HC HR1 HS1' HR2 HS2 HO4
        go_upto_region 9 with fail
        go_cut [9] (fun s wx => ∃ vp cp, s = .slice vp k cp ∧ wx.ownsRow wr.heap.size 5 1 (.slice vp k cp) k (bcells (bs.take k)) ∧ Rdr wx g1 (.slice (restOf a1 c1 k) (n - k) (c1 - k)) true ∧ wr.grownBy wx (some g1))
        case first =>
          rcases hk with ⟨q1, q2⟩ | ⟨q1, q2, q3, q4⟩ | ⟨q1, q2, q3⟩
          all_goals
            have HK := Lib.hid hkn
            go_wp2_with fail
            refine (B1.out _ (by omega)).mono ?_
            rintro e w5 ⟨vp, cp, rfl, h1, h2, h3⟩
            go_wp2_with fail
            go_meet
            exact ⟨vp, cp, rfl, h1, h2, h3⟩
        case rest =>
          obtain ⟨vp, cp, rfl, hop, hrp, hgp⟩ := hcut
          have hszA := HB5.out.size
          have hg1A := HR1'.out.lt
          have HOP := Lib.hid hop
          have HR1p := Lib.hid hrp
          have HR2p := Lib.hid (HR2'.out.grown hgp (fun e => by injection e with e; omega))
          have HS2p := Lib.hid (own_hi HS2o.out hgp (fun q hq p hp => by injection hq with hq; have := (HS2L.out p hp).1; omega))
          have HBp := Lib.hid (HB5.out.grown hgp HB5.out.size (fun q hq => by injection hq with hq; omega))
          have HGp := Lib.hid hgp
          have hszp := hgp.size
          have HC1 := Lib.hid (fun w' r2 hg (hq : ∀ q, r2 = some q → wr.heap.size ≤ q) => (sl_own HS1o.out).cut_rest (w' := w') HR1'.out hkn hnc1 (grown_up hgp hg hq))
          have HA2 := Lib.hid (show ∀ q, (Value.slice a2 n c2).ownBlock = some q → q < wr.heap.size from fun q hq => by have := (HS2L.out q hq).2; omega)
          have hg2A : g2 < wr.heap.size := by omega
          clear hop hrp hgp HR1' HS1o HR2' HS2o HB5 B1
          generalize wr.heap.size = zA at *
          go_wp2_with fail
          go_loopg [11] k (fun q s11 wr => ∃ i : Nat, q + i = k ∧ s11 = .int .i64 i ∧ Hid (wc.grownBy wr (Value.slice vp k cp).ownBlock) ∧ Hid (∀ j g, i ≤ j → j < k → vp = some ⟨g, 0, none⟩ → wr.cell? ⟨g, j, none⟩ = some (.int .u8 (((bs.take k).getD j 0).toNat : Int)) ∧ wr.frozen? ⟨g, j, none⟩ = false))
          case atStart =>
            refine ⟨0, rfl, rfl, World.grownBy.refl _ _, fun j g _ hj hg => ?_⟩
            obtain ⟨g', e, _, h1, h2⟩ := owned_at HOP.out hj
            rw [e] at hg
            injection hg with hg
            injection hg with hg
            subst hg
            exact ⟨h1, h2⟩
          case round =>
            obtain ⟨i, hqi, rfl, HG, HC⟩ := hrel
            by_cases hlt : i < k
            · obtain ⟨g0, rfl, _, _, _⟩ := owned_at HOP.out hlt
              obtain ⟨hcell, hfr⟩ := HC.out i g0 (Nat.le_refl _) hlt rfl
              generalize (((bs.take k).getD i 0).toNat : Int) = z at hcell
              go_wp2
              go_roundg (gk - 1)
              case measure => omega
              case rel =>
                refine ⟨i + 1, by omega, by go_num, (HG.out.trans (by simpa [Value.ownBlock] using grown_set _ g0 i _)), fun j g hj hjn hg => ?_⟩
                injection hg with hg
                injection hg with hg
                subst hg
                obtain ⟨h1, h2⟩ := HC.out j g0 (by omega) hjn rfl
                exact ⟨(World.cell?_setCell_other _ _ _ _ (by intro e; injection e with _ e; omega)).trans h1, (World.frozen?_setCell _ _ _ _).trans h2⟩
            · have hszB := HBp.out.size
              have HR1q := Lib.hid (HR1p.out.grown HG.out (fun e => by have := (HOP.out.lt _ e.symm).1; omega))
              have HR2q := Lib.hid (HR2p.out.grown HG.out (fun e => by have := (HOP.out.lt _ e.symm).1; omega))
              have HS1q := Lib.hid (HC1.out _ _ HG.out (fun q hq => (HOP.out.lt q hq).1))
              have HS2q := Lib.hid (own_hi HS2p.out HG.out (fun q hq p hp => by have := HA2.out p hp; have := (HOP.out.lt q hq).1; omega))
              have HBq := Lib.hid (HBp.out.grown HG.out HBp.out.size (fun q hq => by have := (HOP.out.lt q hq).1; omega))
              have hszq := HG.out.size
              have B1 := Lib.hid (bytes_at g2 n c2 k a2 bs wr HR2q.out (sl_own HS2q.out) hkn hnc2 hm2' hn47)
              have HC2 := Lib.hid (fun w' hg => (sl_own HS2q.out).cut_rest (w' := w') HR2q.out hkn hnc2 hg)
              clear HG HC HR1p HR2p HS2p HC1 HOP HBp HA2 HGp HS2q
              go_upto_region 14 with fail
              go_cut [12] (fun s wx => ∃ vq cq, s = .slice vq k cq ∧ wx.ownsRow wr.heap.size 5 1 (.slice vq k cq) k (bcells (bs.take k)) ∧ Rdr wx g2 (.slice (restOf a2 c2 k) (n - k) (c2 - k)) true ∧ wr.grownBy wx (some g2))
              case first =>
                rcases hk with ⟨q1, q2⟩ | ⟨q1, q2, q3, q4⟩ | ⟨q1, q2, q3⟩
                all_goals
                  have HK := Lib.hid hkn
                  go_wp2_with fail
                  refine (B1.out _ (by omega)).mono ?_
                  rintro e w5 ⟨vp, cp, rfl, h1, h2, h3⟩
                  go_wp2_with fail
                  go_meet
                  exact ⟨vp, cp, rfl, h1, h2, h3⟩
              case rest =>
                obtain ⟨vq, cq, rfl, hoq, hrq, hgq⟩ := hcut
                have hszC := HBq.out.size
                have hg1C := HR1q.out.lt
                have hg2C := HR2q.out.lt
                have HOq := Lib.hid hoq
                have HR1d := Lib.hid (HR1q.out.grown hgq (fun e => by injection e with e; omega))
                have HR2d := Lib.hid hrq
                have HS1d := Lib.hid (HS1q.out.other HR2q.out (by intro k n h; cases h) hgq)
                have HS2d := Lib.hid (HC2.out _ hgq)
                have HBd := Lib.hid (HBq.out.grown hgq HBq.out.size (fun q hq => by injection hq with hq; omega))
                have hszD := hgq.size
                have hsub : ((n - k : Nat) : Int) = (n : Int) - k := by omega
                have L1 := Lib.hid (left_any g1 _ _ _ _ wc HR1d.out)
                have B3 := Lib.hid (fun z hz => bytes_at g1 (n - k) (c1 - k) (n - k) (restOf a1 c1 k) (bs.drop k) wc HR1d.out HS1d.out (Nat.le_refl _) (by omega) (by omega) (by omega) z hz)
                rw [if_pos rfl] at L1
                clear hoq hrq hgq B1 HC2 HR1q HR2q HS1q HBq
                go_wp2_with (go_at_call 20; refine L1.out.mono ?_; rintro e w' ⟨rfl, rfl⟩)
                refine (B3.out _ hsub.symm).mono ?_
                rintro e w5 ⟨vx, cx, rfl, hox, hrx, hgx⟩
                have hszE := hgx.size
                have HOx := Lib.hid hox
                have HOq5 := Lib.hid (own_lo HOq.out hgx (fun q hq => by injection hq with hq; omega))
                have HOqL := Lib.hid (fun q hq => (HOq.out.lt q hq).2)
                have HR2e := Lib.hid (HR2d.out.grown hgx (fun e => by injection e with e; omega))
                have HS2e := Lib.hid (HS2d.out.other HR1d.out (by intro k n h; cases h) hgx)
                have HBe := Lib.hid (HBd.out.grown hgx HBd.out.size (fun q hq => by injection hq with hq; omega))
                have L2 := Lib.hid (left_any g2 _ _ _ _ w5 HR2e.out)
                have B4 := Lib.hid (fun z hz => bytes_at g2 (n - k) (c2 - k) (n - k) (restOf a2 c2 k) (bs.drop k) w5 HR2e.out HS2e.out (Nat.le_refl _) (by omega) (by omega) (by omega) z hz)
                rw [if_pos rfl] at L2
                have hszE2 := HBe.out.size
                clear hox hrx hgx B3 L1 HR1d HR2d HS1d HS2d HBd HOq
                go_wp2_with (go_at_call 20; refine L2.out.mono ?_; rintro e w' ⟨rfl, rfl⟩)
                refine (B4.out _ hsub.symm).mono ?_
                rintro e w6 ⟨vy, cy, rfl, hoy, hry, hgy⟩
                have hszF := hgy.size
                have HOy := Lib.hid hoy
                have HOx6 := Lib.hid (own_lo HOx.out hgy (fun q hq => by injection hq with hq; omega))
                have HOq6 := Lib.hid (own_lo HOq5.out hgy (fun q hq => by injection hq with hq; omega))
                have HBf := Lib.hid (HBe.out.grown hgy HBe.out.size (fun q hq => by injection hq with hq; omega))
                clear hoy hry hgy B4 L2 HR2e HS2e HBe HOq5 HOx
                go_wp2_with fail
                have HBg := Lib.hid (HBf.out.alloc HBf.out.size (.cells #[.slice none 0 0, .bool false] 39))
                have HRo := Lib.hid (show Rdr (w6.alloc (.cells #[.slice none 0 0, .bool false] 39)) w6.heap.size (.slice none 0 0) false from heap_alloc_new _ _)
                have HOx7 := Lib.hid (HOx6.out.alloc (.cells #[.slice none 0 0, .bool false] 39))
                have HOy7 := Lib.hid (HOy.out.alloc (.cells #[.slice none 0 0, .bool false] 39))
                have HOq7 := Lib.hid (HOq6.out.alloc (.cells #[.slice none 0 0, .bool false] 39))
                have HLx := Lib.hid (show ∀ p, (Value.slice vx (n - k) cx).ownBlock = some p → p < w6.heap.size from fun p hp => (HOx6.out.lt p hp).2)
                have HLy := Lib.hid (show ∀ p, (Value.slice vy (n - k) cy).ownBlock = some p → p < w6.heap.size from fun p hp => (HOy.out.lt p hp).2)
                have HLq := Lib.hid (show ∀ p, (Value.slice vq k cq).ownBlock = some p → p < w6.heap.size from fun p hp => (HOq6.out.lt p hp).2)
                have hszG : w.heap.size ≤ w6.heap.size := HBf.out.size
                clear HOx6 HOy HOq6 HBf
                generalize w6.alloc (.cells #[.slice none 0 0, .bool false] 39) = w7 at *
                generalize w6.heap.size = go at *
                go_wp2_with (go_at_call 16; refine (take_nil 1 _).mono ?_; rintro e w' ⟨rfl, rfl⟩)
                have BF := Lib.hid (bytes_fail go 0 0 0 false none w7 HRo.out (Or.inl rfl) (by decide))
                refine BF.out.mono ?_
                rintro e w8 ⟨rfl, hr8, hg8⟩
                have HB8 := Lib.hid (HBg.out.grown hg8 HBg.out.size (fun q hq => by injection hq with hq; omega))
                have HX := Lib.hid (sl_own (own_hi HOx7.out hg8 (fun q hq p hp => by injection hq with hq; have := HLx.out p hp; omega)))
                have HY := Lib.hid (sl_own (own_hi HOy7.out hg8 (fun q hq p hp => by injection hq with hq; have := HLy.out p hp; omega)))
                have HQ := Lib.hid (sl_own (own_hi HOq7.out hg8 (fun q hq p hp => by injection hq with hq; have := HLq.out p hp; omega)))
                have HSb := Lib.hid ((HS.out.keep HB8.out).front hkn)
                have HR8 := Lib.hid hr8
                clear hr8 hg8 BF HBg HRo HOx7 HOy7 HOq7 HLx HLy HLq
                go_wp2_with fail
                have cvx := fun nq => conv_draws HX.out cx nq
                have cvy := fun nq => conv_draws HY.out cy nq
                have cvq := fun nq => conv_draws HQ.out cq nq
                have cvb := fun nq => conv_draws HSb.out c nq
                have hkn' : (k : Int) ≤ n := by omega
                have hkc' : (k : Int) ≤ c := by omega
                have hkc : k ≤ c := by omega
                have C1 := Lib.hid (show ∀ (nq : Nat) (p : Option Addr), (p = none ∨ p = some ⟨go, 0, none⟩) → Calls Try.prog 18 #[.pointer p] (w8.drewN nq) fun e w'' => e = .returned (.bool true) ∧ ∃ m, w'' = w8.drewN m from fun nq p hp => by
                  rcases hp with rfl | rfl
                  · exact Calls.quiet_of_same ((bad_nil (w8.drewN nq)).mono fun e w' h => ⟨h.1, h.2.symm⟩)
                  · exact Calls.quiet_of_same ((bad_any go _ false (w8.drewN nq) HR8.out).mono fun e w' h => ⟨h.1, h.2.symm⟩))
                have C3 := Lib.hid (show ∀ (nq : Nat), Calls Try.prog 20 #[.pointer none] (w8.drewN nq) fun e w'' => e = .returned (.int .i64 0) ∧ ∃ m, w'' = w8.drewN m from fun nq => Calls.quiet_of_same ((left_nil (w8.drewN nq)).mono fun e w' h => ⟨h.1, h.2.symm⟩))
                have C4 := Lib.hid (show ∀ (nq : Nat) (p : Option Addr), (p = none ∨ p = some ⟨go, 0, none⟩) → Calls Try.prog 19 #[.pointer p] (w8.drewN nq) fun e w'' => e = .returned (.bool false) ∧ ∃ m, w'' = w8.drewN m from fun nq p hp => by
                  rcases hp with rfl | rfl
                  · exact Calls.quiet_of_same ((done_nil (w8.drewN nq)).mono fun e w' h => ⟨h.1, h.2.symm⟩)
                  · exact Calls.quiet_of_same ((done_any go _ _ _ false (w8.drewN nq) HR8.out).mono fun e w' h => ⟨h.1, h.2.symm⟩))
                clear HX HY HQ HSb HR8
                go_quiet (first
                  | (go_at_call 18; refine C1.out _ _ (by first | exact Or.inl rfl | exact Or.inr rfl))
                  | (go_at_call 20; refine C3.out _)
                  | (go_at_call 19; refine C4.out _ _ (by first | exact Or.inl rfl | exact Or.inr rfl)))
                have HBz := Lib.hid (HB8.out.trans (Go.Joins.below_draws _ w8 nq))
                clear cvx cvy cvq cvb C1 C3 C4
                generalize w8.drewN nq = w9 at *
                go_wp2_with fail
                go_ret
                exact ⟨rfl, HBz.out⟩
end Go.Proofs.Ytkegknpoejjcjaa
