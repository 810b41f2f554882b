/- A part of the proof: contracts of the program's functions for every input. No conditions. -/
import Derived.Test.YtcllfjjhijkakaaGreatDoorGD
import Derived.LoopTactic
import Derived.Test.YtcllfjjhijkakaaGreatDoorGC
set_option linter.all false
namespace Go.Proofs.YtcllfjjhijkakaaGreatDoor
open Go.RowKit Go.Sort Go.Rg
set_option maxRecDepth 100000
set_option maxHeartbeats 4000000
theorem field_notes (lo hi many : Int) (W : World) : (Instr.field 56 (.agg #[.int .i64 lo, .int .i64 hi, .int .i64 many]) 0).run Tryz.prog W = .ok (.agg #[.int .i64 lo, .int .i64 hi]) W := by kernel_rfl
theorem two0 (a0 a1 : Value) (W : World) : (Instr.index 154 (.agg #[a0, a1]) (.int .i64 0)).run Tryz.prog W = .ok a0 W := by kernel_rfl
theorem two1 (a0 a1 : Value) (W : World) : (Instr.index 154 (.agg #[a0, a1]) (.int .i64 1)).run Tryz.prog W = .ok a1 W := by kernel_rfl
attribute [local go_sem] field_notes two0 two1
def surelyN (B : Book) (boy : Nat) (week note : Int) : Int := match B.boys[boy]? with
 | none => 0
 | some x => oftenOf (B.truths boy x) (singsN B week note note boy)
def sureP (B : Book) (x : Piece) (y : Part) (boy : Nat) : Bool := decide (surelyN B boy x.week y.lo = 2) && decide (surelyN B boy x.week y.hi = 2)
theorem sings_one (p q : Option Addr) (cap capt : Nat) (B : Book) (boy : Nat) (week note : Int) (W : World) (h : BookAt W p q cap capt B) (hg : Nothing W) (hok0 : B.okB = true) (hcan : Can B) (hb : boy < B.boys.length) (hwk0 : 0 ≤ week ∧ week < B.weeks) (hnt0 : 0 ≤ note ∧ note ≤ 40) :
  Calls Tryz.prog 100 #[.agg #[.slice p B.boys.length cap, .int .i64 B.weeks, .slice q B.trials.length capt], .int .i64 (boy : Int), .int .i64 week, .int .i64 note] W fun e C => e = .returned (.tuple #[.int .i64 (surelyN B boy week note), .int .i64 0]) ∧ Kept W C := by
 refine (sings_all p q cap capt B boy week note W h hg hok0 hb hwk0 hnt0).mono ?_
 rintro e C ⟨v, err, rfl, hk, ⟨rfl, _, x, hx, rfl⟩ | ⟨rfl, hn, _⟩⟩
 ·refine ⟨?_, hk⟩
  simp only [surelyN, hx]
 ·exact absurd hcan hn
structure GoodB (w : World) (X : BBook) : Prop where
 at_ : BBookAt w X
 nothing : Nothing w
 ok : X.okB = true
 can : Can X.B
theorem GoodB.kept {w W : World} {X : BBook} (h : GoodB w X) (k : Kept w W) : GoodB W X := ⟨h.at_.kept k, h.nothing.kept k, h.ok, h.can⟩
theorem okB_parts {X : BBook} (h : X.okB = true) : X.B.okB = true ∧ (1 ≤ X.pieces.length ∧ X.pieces.length ≤ 3) ∧ (1 ≤ X.most ∧ X.most ≤ 3) ∧
  ∀ (i : Nat) (x : Piece), X.pieces[i]? = some x → (0 ≤ x.week ∧ x.week < X.B.weeks) ∧ (1 ≤ x.parts.length ∧ x.parts.length ≤ 3) ∧
   ∀ (k : Nat) (y : Part), x.parts[k]? = some y → 0 ≤ y.lo ∧ y.lo ≤ y.hi ∧ y.hi ≤ 40 ∧ 1 ≤ y.many ∧ y.many ≤ 3 := by
 simp only [BBook.okB, Bool.and_eq_true, inB, decide_eq_true_eq, List.all_eq_true] at h
 obtain ⟨⟨⟨h1, h2⟩, h3⟩, h4⟩ := h
 refine ⟨h1, by omega, h3, fun i x hx => ?_⟩
 have := h4 x (List.mem_of_getElem? hx)
 simp only [Piece.okB, Bool.and_eq_true, inB, decide_eq_true_eq, List.all_eq_true] at this
 obtain ⟨⟨h5, h6⟩, h7⟩ := this
 refine ⟨by omega, by omega, fun k y hy => ?_⟩
 have := h7 y (List.mem_of_getElem? hy)
 simp only [Part.okB, Bool.and_eq_true, inB, decide_eq_true_eq] at this
 omega
theorem surelySings_any (X : BBook) (m : Nat) (out : Value) (i k boy : Nat) (x : Piece) (y : Part) (hx : X.pieces[i]? = some x) (hy : x.parts[k]? = some y) (hb : boy < X.B.boys.length) (w : World) (h : GoodB w X) :
  Calls Tryz.prog 76 #[X.sval m out, keyV i k, .int .i64 (boy : Int)] w fun e w' => e = .returned (.bool (sureP X.B x y boy)) ∧ Kept w w' := by
 obtain ⟨o1, o2, o3, o4⟩ := okB_parts h.ok
 obtain ⟨o5, o6, o7⟩ := o4 i x hx
 obtain ⟨n1, n2, n3, n4, n5⟩ := o7 k y hy
 have hnp := h.at_.np
 obtain ⟨b, o, hr, hbz, p0, p1, hpi⟩ := piece_cells h.at_ hx
 have hil : i < X.pieces.length := (List.getElem?_eq_some_iff.1 hx).1
 have hilI : (i : Int) < X.pieces.length := by omega
 have hi0 : (0 : Int) ≤ i := by omega
 have hk0 : Kept w ((w.alloc (Obj.cells #[.slice X.p X.B.boys.length X.cap, .int .i64 X.B.weeks, .slice X.q X.B.trials.length X.capt, .slice X.r X.pieces.length X.capp, .int .i64 X.most, .map (some m), out] 74)).alloc (Obj.cells #[.int .i64 (i : Int), .int .i64 (k : Int)] 86)) := kept_alloc (kept_alloc (kept_refl _) _) _
 have HP := Lib.hid (part_any X m out i k x y hx hy _ (h.at_.kept hk0))
 have HS := Lib.hid (fun note W (hk : Kept w W) (hn : 0 ≤ note ∧ note ≤ 40) => sings_one X.p X.q X.cap X.capt X.B boy x.week note W (h.at_.book.kept hk) (h.nothing.kept hk) o1 h.can hb o5 hn)
 have ZZ : ∀ Z, Z = ((w.alloc (Obj.cells #[.slice X.p X.B.boys.length X.cap, .int .i64 X.B.weeks, .slice X.q X.B.trials.length X.capt, .slice X.r X.pieces.length X.capp, .int .i64 X.most, .map (some m), out] 74)).alloc (Obj.cells #[.int .i64 (i : Int), .int .i64 (k : Int)] 86)) → Z.cell? ⟨w.heap.size, 0, none⟩ = some (.slice X.p X.B.boys.length X.cap) ∧ Z.cell? ⟨w.heap.size, 1, none⟩ = some (.int .i64 X.B.weeks) ∧ Z.cell? ⟨w.heap.size, 2, none⟩ = some (.slice X.q X.B.trials.length X.capt) ∧ Z.cell? ⟨w.heap.size, 3, none⟩ = some (.slice X.r X.pieces.length X.capp) ∧ Z.cell? ⟨w.heap.size + 1, 0, none⟩ = some (.int .i64 (i : Int)) := by rintro _ rfl; refine ⟨?_, ?_, ?_, ?_, ?_⟩ <;> go_simp
 obtain ⟨a0, a1, a2, a3, k0⟩ := ZZ _ rfl; clear ZZ
 have HRR := Lib.hid hr; clear hr
 clear h hpi o1 o2 o3 o4 o7 hx hy
 have HW := Lib.hid (And.intro (show 0 ≤ y.lo ∧ y.lo ≤ 40 by omega) (show 0 ≤ y.hi ∧ y.hi ≤ 40 by omega))
 clear n1 n2 n3 n4 n5 o5 o6
 have hsp : sureP X.B x y boy = (decide (surelyN X.B boy x.week y.lo = 2) && decide (surelyN X.B boy x.week y.hi = 2)) := rfl
 have HSP := Lib.hid hsp; clear hsp
 generalize sureP X.B x y boy = res at *
 unfold BBook.sval keyV at *
 unfold Part.val at HP
 go_enter Tryz.func76, Tryz.ntmps76
 go_wp2_with fail
 with_reducible refine HP.out.mono ?_
 rintro e W1 ⟨rfl, hk1⟩
 have hk01 := kept_trans hk0 hk1
 have kb : Kept W1 (W1.alloc (Obj.cells #[.int .i64 y.lo, .int .i64 y.hi] 54)) := kept_alloc (kept_refl _) _
 have hk03 := kept_trans hk01 kb
 replace p0 := kcell hk03 p0
 replace a0 := kcell (kept_trans hk1 kb) a0
 replace a1 := kcell (kept_trans hk1 kb) a1
 replace a2 := kcell (kept_trans hk1 kb) a2
 replace a3 := kcell (kept_trans hk1 kb) a3
 replace k0 := kcell (kept_trans hk1 kb) k0
 clear HP p1
 generalize ((w.alloc (Obj.cells #[.slice X.p X.B.boys.length X.cap, .int .i64 X.B.weeks, .slice X.q X.B.trials.length X.capt, .slice X.r X.pieces.length X.capp, .int .i64 X.most, .map (some m), out] 74)).alloc (Obj.cells #[.int .i64 (i : Int), .int .i64 (k : Int)] 86)) = W0 at *
 have s0 : (W1.alloc (Obj.cells #[.int .i64 y.lo, .int .i64 y.hi] 54)).cell? ⟨W1.heap.size, 0, none⟩ = some (.int .i64 y.lo) := by go_simp
 have s1 : (W1.alloc (Obj.cells #[.int .i64 y.lo, .int .i64 y.hi] 54)).cell? ⟨W1.heap.size, 1, none⟩ = some (.int .i64 y.hi) := by go_simp
 go_wp2_with fail
 generalize (W1.alloc (Obj.cells #[.int .i64 y.lo, .int .i64 y.hi] 54)) = W2 at *
 go_loopw [21] (fun i W => ∃ n : Nat, n ≤ 2 ∧ i = .int .i64 n ∧ (1 ≤ n → surelyN X.B boy x.week y.lo = 2) ∧ (2 ≤ n → surelyN X.B boy x.week y.hi = 2) ∧ Kept W2 W) (fun i W => 2 - (intOf i).toNat)
 case atStart => exact ⟨0, by omega, rfl, fun h => by omega, fun h => by omega, kept_refl _⟩
 case round =>
  obtain ⟨n, hn, rfl, hlo, hhi, hkW⟩ := hrel
  have HLO := Lib.hid hlo
  have HHI := Lib.hid hhi
  clear hlo hhi
  have e0 := cell_regrown (kcell hkW a0)
  have e1 := cell_regrown (kcell hkW a1)
  have e2 := cell_regrown (kcell hkW a2)
  have e3 := cell_regrown (kcell hkW a3)
  simp only [HRR.out] at e3
  have e4 := cell_regrown (kcell hkW k0)
  have e5 := cell_regrown (kcell hkW p0)
  have HSW := Lib.hid (fun note (hn : 0 ≤ note ∧ note ≤ 40) d os => Calls.regrown_of (HS.out note (grow (redrawn wr d) os) (kept_trans hk03 (kept_trans hkW (below_regrown wr d os))) hn))
  rcases (show n = 0 ∨ n = 1 ∨ n = 2 by omega) with rfl | rfl | rfl
  ·go_wp2_with fail
   refine wp_region_quiet_below (by kernel_rfl) (by kernel_rfl) ?_
   repeat (any_goals (quiet_step (first | with_reducible exact HSW.out _ HW.out.1 _ _)))
   refine wpQuiet_nil ?_
   rintro _ ⟨⟨dq, osq⟩, rfl⟩
   have hkW2 := kept_trans hkW (below_regrown wr dq osq)
   by_cases hv : surelyN X.B boy x.week y.lo = 2
   ·have hv1 : (surelyN X.B boy x.week y.lo != 2) = false := by simp [hv]
    have HV := Lib.hid hv; clear hv
    go_wp2_with fail
    go_roundw
    case rel => exact ⟨1, by omega, by go_num, fun _ => HV.out, fun h => by omega, hkW2⟩
    case measure => simp [intOf]
   ·have hv1 : (surelyN X.B boy x.week y.lo != 2) = true := by simp [hv]
    have HR := Lib.hid (show res = false by rw [HSP.out]; simp [hv]); clear hv
    go_wp2_with fail
    go_ret
    exact ⟨by simp [HR.out], kept_trans hk03 hkW2⟩
  ·go_wp2_with fail
   refine wp_region_quiet_below (by kernel_rfl) (by kernel_rfl) ?_
   repeat (any_goals (quiet_step (first | with_reducible exact HSW.out _ HW.out.2 _ _)))
   refine wpQuiet_nil ?_
   rintro _ ⟨⟨dq, osq⟩, rfl⟩
   have hkW2 := kept_trans hkW (below_regrown wr dq osq)
   by_cases hv : surelyN X.B boy x.week y.hi = 2
   ·have hv1 : (surelyN X.B boy x.week y.hi != 2) = false := by simp [hv]
    have HV := Lib.hid hv; clear hv
    go_wp2_with fail
    go_roundw
    case rel => exact ⟨2, by omega, by go_num, fun _ => HLO.out (by omega), fun h => HV.out, hkW2⟩
    case measure => simp [intOf]
   ·have hv1 : (surelyN X.B boy x.week y.hi != 2) = true := by simp [hv]
    have HR := Lib.hid (show res = false by rw [HSP.out]; simp [hv]); clear hv
    go_wp2_with fail
    go_ret
    exact ⟨by simp [HR.out], kept_trans hk03 hkW2⟩
  ·have HR := Lib.hid (show res = true by rw [HSP.out, HLO.out (by omega), HHI.out (by omega)]; rfl)
   go_wp2_with fail
   go_ret
   exact ⟨by simp [HR.out], kept_trans hk03 hkW⟩
end Go.Proofs.YtcllfjjhijkakaaGreatDoor
namespace Go.Proofs.YtcllfjjhijkakaaGreatDoor
open Go.RowKit Go.Sort Go.Rg
set_option maxRecDepth 100000
set_option maxHeartbeats 4000000
theorem infoPl : (Tryz.prog.info? 86).map (fun i => (i.zero, i.size, i.bytes)) = some (some (.agg #[.int .i64 0, .int .i64 0]), 2, 16) := by kernel_rfl
def partsOf (X : BBook) (p : Nat) : List (Nat × Nat) := match X.pieces[p]? with
 | none => []
 | some x => (List.range x.parts.length).map fun k => (p, k)
def partsL (X : BBook) (l : List Nat) : List (Nat × Nat) := l.flatMap (partsOf X)
def placeV (x : Nat × Nat) : List Value := [.int .i64 (x.1 : Int), .int .i64 (x.2 : Int)]
def placesV (l : List (Nat × Nat)) : List Value := l.flatMap placeV
theorem placesV_snoc (l : List (Nat × Nat)) (p k : Nat) : placesV (l ++ [(p, k)]) = placesV l ++ [.int .i64 (p : Int), .int .i64 (k : Int)] := by simp [placesV, placeV]
theorem cell_two_new (w : World) (a b : Value) (e : TypeId) : ∀ (j : Nat) (u : Value), [a, b][j]? = some u → (w.alloc (Obj.cells #[a, b] e)).cell? ((⟨w.heap.size, 0, none⟩ : Addr).add j) = some u
 | 0, u, h => by simp at h; subst h; go_simp
 | 1, u, h => by simp at h; subst h; go_simp
 | j + 2, u, h => by simp at h
theorem kept_grown {V0 V2 V3 : World} {o : Obj} {r : Option Nat} (hkV2 : Kept V0 V2) (hgrow : (V2.alloc o).grownBy V3 r) (hr : ∀ i, r = some i → V0.heap.size ≤ i) : Kept V0 V3 :=
 Below.trans (kept_trans hkV2 (kept_alloc (kept_refl _) o)) ⟨hgrow.os, hgrow.tape, hgrow.output, hgrow.size, fun k hk => hgrow.block k (by simp; have := hkV2.size; omega) (fun e => by have := hr k e.symm; omega)⟩
theorem parts_any (X : BBook) (m : Nat) (out v : Value) (l : List Nat) (w : World) (h : BBookAt w X) (hl : ListAt w v l) (hlen : l.length ≤ 3) (hX : X.pieces.length ≤ 3) (hps : ∀ x ∈ X.pieces, x.parts.length ≤ 3) (hlt : ∀ p ∈ l, p < X.pieces.length) :
  Calls Tryz.prog 34 #[X.sval m out, v] w fun e w' => ∃ pv, e = .returned pv ∧ Kept w w' ∧ w'.ownsRow w.heap.size 86 2 pv (partsL X l).length (placesV (partsL X l)) := by
 obtain ⟨i0, hi, hiz, his, hib⟩ := info_parts infoPl
 have hk0 : Kept w (w.alloc (Obj.cells #[.slice X.p X.B.boys.length X.cap, .int .i64 X.B.weeks, .slice X.q X.B.trials.length X.capt, .slice X.r X.pieces.length X.capp, .int .i64 X.most, .map (some m), out] 74)) := kept_alloc (kept_refl _) _
 have a3 : (w.alloc (Obj.cells #[.slice X.p X.B.boys.length X.cap, .int .i64 X.B.weeks, .slice X.q X.B.trials.length X.capt, .slice X.r X.pieces.length X.capp, .int .i64 X.most, .map (some m), out] 74)).cell? ⟨w.heap.size, 3, none⟩ = some (.slice X.r X.pieces.length X.capp) := by go_simp
 have HL := Lib.hid (hl.kept hk0)
 have HX := Lib.hid (h.kept hk0)
 have HLT := Lib.hid hlt
 have HPS := Lib.hid hps
 obtain ⟨pl, capl, rfl⟩ := listAt_len hl
 clear hl h hlt hps
 unfold BBook.sval
 go_enter Tryz.func34, Tryz.ntmps34
 go_wp2_with fail
 generalize w.alloc (Obj.cells #[.slice X.p X.B.boys.length X.cap, .int .i64 X.B.weeks, .slice X.q X.B.trials.length X.capt, .slice X.r X.pieces.length X.capp, .int .i64 X.most, .map (some m), out] 74) = V0 at *
 go_loopw [5, 11] (fun v i V => ∃ j : Nat, j ≤ l.length ∧ i = .int .i64 j ∧ V.ownsRow V0.heap.size 86 2 v (partsL X (l.take j)).length (placesV (partsL X (l.take j))) ∧ Kept V0 V) (fun v i V => l.length - (intOf i).toNat)
 case atStart => exact ⟨0, by omega, rfl, World.ownsRow_nil _ _ _ _, kept_refl _⟩
 case round =>
  obtain ⟨j, hj, rfl, hrow, hV⟩ := hrel
  have hkV := kept_trans hk0 hV
  by_cases hjl : j < l.length
  ·have hjlI : (j : Int) < l.length := by omega
   have hget : l[j]? = some l[j] := List.getElem?_eq_getElem hjl
   have hmem : l[j] ∈ l := List.getElem_mem hjl
   obtain ⟨p, hp⟩ : ∃ p, p = l[j] := ⟨_, rfl⟩
   rw [← hp] at hget hmem
   have hpX := HLT.out p hmem
   have hpXI : (p : Int) < X.pieces.length := by omega
   have hp0 : (0 : Int) ≤ p := by omega
   have hxg : X.pieces[p]? = some X.pieces[p] := List.getElem?_eq_getElem hpX
   have hxm : X.pieces[p] ∈ X.pieces := List.getElem_mem hpX
   generalize X.pieces[p] = x at *
   have hxl := HPS.out x hxm
   obtain ⟨b, o, hr, hbz, c0, c1, hpi⟩ := piece_cells (HX.out.kept hV) hxg
   have hlen2 : ∀ k, k ≤ x.parts.length → (partsL X (l.take j) ++ (List.range k).map fun k => (p, k)).length ≤ 9 := by
    intro k hk
    have e : ∀ (q : List Nat), q.length ≤ 2 → (∀ a ∈ q, a < X.pieces.length) → (partsL X q).length ≤ q.length * 3 := by
     intro q _ hq
     induction q with
     | nil => simp [partsL]
     | cons a q ih =>
      have h1 : (partsOf X a).length ≤ 3 := by
       unfold partsOf
       cases ha : X.pieces[a]? with
       | none => simp
       | some y => simpa using HPS.out y (List.mem_of_getElem? ha)
      have h2 := ih (by simp at *; omega) (fun a ha => hq a (by simp [ha]))
      have h3 : (partsL X (a :: q)).length = (partsOf X a).length + (partsL X q).length := by simp [partsL]
      rw [h3]; simp only [List.length_cons]; omega
    have := e (l.take j) (by simp; omega) (fun a ha => HLT.out a (List.mem_of_mem_take ha))
    simp only [List.length_append, List.length_map, List.length_range]
    simp only [List.length_take] at this
    have : min j l.length ≤ 2 := by omega
    omega
   have HL2 := Lib.hid hlen2; clear hlen2
   have hnext : partsL X (l.take (j + 1)) = partsL X (l.take j) ++ (List.range x.parts.length).map fun k => (p, k) := by
    rw [List.take_succ, hget]; simp [partsL, partsOf, hxg]
   have HN := Lib.hid hnext; clear hnext
   have cl : ∃ bl, pl = some ⟨bl, 0, none⟩ ∧ wr.cell? ⟨bl, j, none⟩ = some (.int .i64 (p : Int)) := by
    rcases HL.out with ⟨_, e⟩ | ⟨bl, cap2, e, _, hc⟩
    ·rw [e] at hjl; simp at hjl
    ·simp only [Value.slice.injEq] at e
     exact ⟨bl, e.1, kcell hV (hc j p hget)⟩
   obtain ⟨bl, rfl, cj⟩ := cl
   have a3' := kcell hV a3
   rw [hr] at a3'
   have HRR := Lib.hid hr; clear hr
   have HG := Lib.hid hget
   clear hget hmem hp hxg hxm
   generalize hbase : partsL X (l.take j) = L0 at *
   clear hbase
   go_wp2_with fail
   go_loopw [5, 23] (fun v i V => ∃ k : Nat, k ≤ x.parts.length ∧ i = .int .i64 k ∧ V.ownsRow V0.heap.size 86 2 v (L0 ++ (List.range k).map fun k => (p, k)).length (placesV (L0 ++ (List.range k).map fun k => (p, k))) ∧ Kept V0 V) (fun v i V => x.parts.length - (intOf i).toNat)
   case atStart => exact ⟨0, by omega, rfl, by simpa using hrow, hV⟩
   case round =>
    obtain ⟨k, hk, rfl, hrow2, hV2⟩ := hrel
    by_cases hkl : k < x.parts.length
    ·have hklI : (k : Int) < x.parts.length := by omega
     have hll := HL2.out k (by omega)
     have hbase : V0.heap.size ≤ wr.heap.size := hV2.size
     have HE := Lib.hid (show (L0 ++ (List.range (k + 1)).map fun k => (p, k)) = (L0 ++ (List.range k).map fun k => (p, k)) ++ [(p, k)] by rw [List.range_succ]; simp)
     generalize (L0 ++ (List.range k).map fun k => (p, k)) = L1 at *
     clear hrow c0 c1 cj a3'
     go_wp2_with (at_builtin; refine wpList_append_lies _ rfl _ _ 79 rfl V0.heap.size 86 i0 _ 2 16 Tryz.underlying79 hi hiz his hib rfl (by decide) _ L1.length _ rfl (hrow2.alloc _) ⟨wr.heap.size, 0, none⟩ 1 1 [.int .i64 (p : Int), .int .i64 (k : Int)] rfl rfl (cell_two_new _ _ _ _) (by simp [Value.oneCell']) (by decide) (by unfold maxLen; omega) (by omega) (by simp; omega) _ rfl ?_; intro g2 cap2 V3 hown hgrow hat hlt3)
     have hkV3 : Kept V0 V3 := kept_grown hV2 hgrow (fun i e => (hrow2.lt i e).1)
     go_roundw
     case rel =>
      refine ⟨k + 1, by omega, by go_num, ?_, hkV3⟩
      rw [HE.out, placesV_snoc]
      simpa using hown
     case measure => simp [intOf]; omega
    ·have hklI : ¬ (k : Int) < x.parts.length := by omega
     obtain rfl : k = x.parts.length := by omega
     rw [← HN.out] at hrow2
     have HR2 := Lib.hid hrow2; clear hrow2
     go_wp2_with fail
     go_roundw
     case rel => exact ⟨j + 1, by omega, by go_num, HR2.out, hV2⟩
     case measure => simp [intOf]; omega
  ·have hjlI : ¬ (j : Int) < l.length := by omega
   obtain rfl : j = l.length := by omega
   rw [List.take_length] at hrow
   go_wp2_with fail
   go_ret
   exact ⟨_, rfl, hkV, row_le hrow hk0.size⟩
end Go.Proofs.YtcllfjjhijkakaaGreatDoor
namespace Go.Proofs.YtcllfjjhijkakaaGreatDoor
open Go.RowKit Go.Sort Go.Rg
open Go.ChangeMaps (setBlock)
set_option maxRecDepth 100000
structure Tri where
 p : Nat
 k : Nat
 boy : Nat
 deriving Inhabited
theorem pklaw : WideMaps.KeyLaw Tryz.prog 86 := deep_law_laid laidOut (m := 2) (by omega) (by decide +kernel) (by kernel_rfl) (by kernel_rfl)
theorem pkeys_some : ((List.range 3).all fun a => (List.range 3).all fun b => (keyOf Tryz.prog 86 (keyV a b)).isSome) = true := by kernel_rfl
theorem pkey_some {a b : Nat} (ha : a < 3) (hb : b < 3) : ∃ l, keyOf Tryz.prog 86 (keyV a b) = some l := by
 have := pkeys_some
 rw [List.all_eq_true] at this
 have := this a (List.mem_range.2 ha)
 rw [List.all_eq_true] at this
 have := this b (List.mem_range.2 hb)
 exact Option.isSome_iff_exists.1 this
theorem row_not_map1 {W : World} {base : Nat} {e : TypeId} {v : Value} {n : Nat} {xs : List Value} {bm : Nat} {es : Array MapEntry} {c : Nat} (h : W.ownsRow base e 1 v n xs) (hm : W.heap[bm]? = some (.map es c)) : v.ownBlock = none ∨ v.ownBlock ≠ some bm := by
 rcases h.2 with ⟨rfl, _⟩ | ⟨g, cap, cur, rfl, _, hg, _⟩
 ·exact .inl rfl
 ·refine .inr fun e => ?_
  simp only [Value.ownBlock, Option.some.injEq] at e
  subst e
  rw [hg] at hm; cases hm
structure PSlot where
 b : Nat
 w : Nat
 v : Value
 ts : List Tri
def PSlot.key (s : PSlot) : Value := keyV s.b s.w
def pentriesFrom : Nat → List PSlot → List MapEntry
 | _, [] => []
 | i, s :: l => ⟨s.key, s.v, i⟩ :: pentriesFrom (i + 1) l
def pentries (l : List PSlot) : Array MapEntry := (pentriesFrom 0 l).toArray
theorem pentriesFrom_get : ∀ (i j : Nat) (l : List PSlot), (pentriesFrom i l)[j]? = (l[j]?).map fun s => ⟨s.key, s.v, i + j⟩
 | _, _, [] => by simp [pentriesFrom]
 | i, 0, s :: l => by simp [pentriesFrom]
 | i, j + 1, s :: l => by
  simp only [pentriesFrom, List.getElem?_cons_succ, pentriesFrom_get (i + 1) j l]
  congr 1; funext s; simp; omega
theorem pentriesFrom_mem {i : Nat} {l : List PSlot} {e : MapEntry} (h : e ∈ pentriesFrom i l) : ∃ s ∈ l, e.key = s.key := by
 obtain ⟨j, hj, rfl⟩ := List.getElem_of_mem h
 have := pentriesFrom_get i j l
 rw [List.getElem?_eq_getElem hj] at this
 cases hs : l[j]? with
 | none => rw [hs] at this; cases this
 | some s =>
  rw [hs] at this
  simp only [Option.map_some, Option.some.injEq] at this
  exact ⟨s, List.mem_of_getElem? hs, by rw [this]⟩
theorem pentriesFrom_snoc : ∀ (i : Nat) (l : List PSlot) (s : PSlot), pentriesFrom i (l ++ [s]) = pentriesFrom i l ++ [⟨s.key, s.v, i + l.length⟩]
 | i, [], s => by simp [pentriesFrom]
 | i, t :: l, s => by simp [pentriesFrom, pentriesFrom_snoc (i + 1) l s]; omega
def PSlotOk (l : List PSlot) : Prop := ∀ s ∈ l, s.b < 3 ∧ s.w < 3
theorem pfind_slot (w : World) (l : List PSlot) (hl : PSlotOk l) {b k : Nat} (hb : b < 3) (hk : k < 3) :
  ((Instr.findKey 86 (keyV b k) (pentries l).toList).run Tryz.prog w = .ok none w ∧ ∀ s ∈ l, ¬ (s.b = b ∧ s.w = k)) ∨
  ∃ j s, (Instr.findKey 86 (keyV b k) (pentries l).toList).run Tryz.prog w = .ok (some (j, s.v)) w ∧ l[j]? = some s ∧ s.b = b ∧ s.w = k := by
 obtain ⟨lx, hlx⟩ := pkey_some hb hk
 rcases pklaw.find w hlx (pentries l).toList (fun e he => by
  obtain ⟨s, hs, e2⟩ := pentriesFrom_mem (by simpa [pentries] using he)
  obtain ⟨h1, h2⟩ := hl s hs
  rw [e2]; exact pkey_some h1 h2) with ⟨h1, h2⟩ | ⟨j, e, h1, h2, h3⟩
 ·refine .inl ⟨h1, fun s hs ⟨e1, e2⟩ => ?_⟩
  obtain ⟨j, hj, rfl⟩ := List.getElem_of_mem hs
  have := pentriesFrom_get 0 j l
  rw [List.getElem?_eq_getElem hj] at this
  refine h2 _ (by simpa [pentries] using List.mem_of_getElem? this) ?_
  simp [PSlot.key, e1, e2]
 ·have := pentriesFrom_get 0 j l
  rw [show (pentriesFrom 0 l)[j]? = some e by simpa [pentries] using h2] at this
  cases hs : l[j]? with
  | none => rw [hs] at this; cases this
  | some s =>
   rw [hs] at this
   simp only [Option.map_some, Option.some.injEq] at this
   subst this
   obtain ⟨e1, e2⟩ := keyV_inj h3
   exact .inr ⟨j, s, h1, hs, e1, e2⟩
theorem pund : Tryz.prog.underlying 71 = some (.map 86 32) := by kernel_rfl
theorem pzero_sl (w : World) : (zeroValue 32).run Tryz.prog w = .ok (.slice none 0 0) w := by kernel_rfl
theorem plookup_slot (w w2 : World) (bm : Nat) (l : List PSlot) (n : Nat) (hl : PSlotOk l) {b k : Nat} (hb : b < 3) (hk : k < 3) (hm : w.heap[bm]? = some (.map (pentries l) n)) (h2 : w2.heap[bm]? = w.heap[bm]?) (v : Value)
  (hv : (v = .slice none 0 0 ∧ ∀ s ∈ l, ¬ (s.b = b ∧ s.w = k)) ∨ ∃ s ∈ l, s.b = b ∧ s.w = k ∧ s.v = v) (hn : ∀ s ∈ l, ∀ t ∈ l, s.b = t.b → s.w = t.w → s.v = t.v) :
  (Instr.lookup 71 (.map (some bm)) (keyV b k) false).run Tryz.prog w2 = .ok v w2 := by
 obtain ⟨lx, hlx⟩ := pkey_some hb hk
 have hg := MapKept.run_getObj_map (P := Tryz.prog) (h2.trans hm)
 rcases pfind_slot w2 l hl hb hk with ⟨h1, h3⟩ | ⟨j, s, h1, h3, h4, h5⟩
 ·rcases hv with ⟨rfl, _⟩ | ⟨s, hs, e1, e2, _⟩
  ·simp [Instr.lookup, run_underlying pund, hg, pklaw.check w2 _ hlx, h1, pzero_sl, Result.andThen]
  ·exact absurd ⟨e1, e2⟩ (h3 s hs)
 ·rcases hv with ⟨_, hno⟩ | ⟨s', hs', e1, e2, rfl⟩
  ·exact absurd ⟨h4, h5⟩ (hno s (List.mem_of_getElem? h3))
  ·have : s.v = s'.v := hn s (List.mem_of_getElem? h3) s' hs' (by omega) (by omega)
   simp [Instr.lookup, run_underlying pund, hg, pklaw.check w2 _ hlx, h1, Result.andThen, this]
theorem pmapEntry_old (w : World) (bm : Nat) (l : List PSlot) (n : Nat) {b k j : Nat} {s : PSlot} (hb : b < 3) (hk : k < 3) (hm : w.heap[bm]? = some (.map (pentries l) n))
  (h1 : (Instr.findKey 86 (keyV b k) (pentries l).toList).run Tryz.prog w = .ok (some (j, s.v)) w) (hs : l[j]? = some s) (e1 : s.b = b) (e2 : s.w = k) :
  (Instr.mapEntry 71 (.map (some bm)) (keyV b k)).run Tryz.prog w = .ok (.tuple #[s.v, .int .i64 (j : Int)]) w := by
 obtain ⟨lx, hlx⟩ := pkey_some hb hk
 have hg := MapKept.run_getObj_map (P := Tryz.prog) hm
 have hj : (pentries l)[j]? = some ⟨keyV b k, s.v, j⟩ := by
  have := pentriesFrom_get 0 j l
  rw [hs] at this
  simp only [Option.map_some, Nat.zero_add, PSlot.key, e1, e2] at this
  simpa [pentries] using this
 have hmod : (pentries l).modify j (fun e => { e with key := keyV b k }) = pentries l := by
  apply Array.ext'
  rw [Array.toList_modify]
  apply List.ext_getElem?
  intro i
  rw [List.getElem?_modify]
  by_cases e : j = i
  ·subst e
   have : (pentries l).toList[j]? = some ⟨keyV b k, s.v, j⟩ := by simpa using hj
   rw [this]; simp
  ·simp [e]
 have hset := MapKept.run_setObj_map (P := Tryz.prog) (.map (pentries l) n) hm
 have hself := setBlock_self hm
 unfold setBlock at hself
 rw [hself] at hset
 simp [Instr.mapEntry, run_underlying pund, hg, pklaw.check w _ hlx, h1, Result.andThen, hj, pklaw.stays w hlx, hmod, hset, goInt]
theorem pmapEntry_new (w : World) (bm : Nat) (l : List PSlot) {b k : Nat} (hb : b < 3) (hk : k < 3) (hm : w.heap[bm]? = some (.map (pentries l) l.length))
  (h1 : (Instr.findKey 86 (keyV b k) (pentries l).toList).run Tryz.prog w = .ok none w) :
  (Instr.mapEntry 71 (.map (some bm)) (keyV b k)).run Tryz.prog w = .ok (.tuple #[.slice none 0 0, .int .i64 (l.length : Int)]) (setBlock w bm (.map (pentries (l ++ [⟨b, k, .slice none 0 0, []⟩])) (l.length + 1))) := by
 obtain ⟨lx, hlx⟩ := pkey_some hb hk
 have hg := MapKept.run_getObj_map (P := Tryz.prog) hm
 have hpush : (pentries l).push ⟨keyV b k, .slice none 0 0, l.length⟩ = pentries (l ++ [⟨b, k, .slice none 0 0, []⟩]) := by
  apply Array.ext'
  simp [pentries, pentriesFrom_snoc, PSlot.key]
 have hset := MapKept.run_setObj_map (P := Tryz.prog) (.map (pentries (l ++ [⟨b, k, .slice none 0 0, []⟩])) (l.length + 1)) hm
 simp [Instr.mapEntry, run_underlying pund, hg, pklaw.check w _ hlx, h1, Result.andThen, pzero_sl, hpush, hset, goInt, setBlock]
theorem pentryStore_at (w : World) (bm : Nat) (l : List PSlot) (n j : Nat) (s : PSlot) (v : Value) (ts : List Tri) (hm : w.heap[bm]? = some (.map (pentries l) n)) (hs : l[j]? = some s) :
  (Instr.entryStore 71 (.map (some bm)) (.int .i64 (j : Int)) v).run Tryz.prog w = .ok () (setBlock w bm (.map (pentries (l.set j { s with v := v, ts := ts })) n)) := by
 have hg := MapKept.run_getObj_map (P := Tryz.prog) hm
 have hf : (pentries l).findIdx? (fun e => (e.born : Int) == (j : Int)) = some j := by
  have hj : (pentries l).toList[j]? = some ⟨s.key, s.v, j⟩ := by
   have := pentriesFrom_get 0 j l
   rw [hs] at this
   simpa [pentries] using this
  rw [WideElems.findIdx_arr]
  refine WideElems.findIdx_born ?_ hj
  have : ∀ (i : Nat) (l : List PSlot), ((pentriesFrom i l).map (·.born)) = List.range' i l.length := by
   intro i l
   induction l generalizing i with
   | nil => rfl
   | cons s l ih => simp [pentriesFrom, ih, List.range'_succ]
  show ((pentries l).toList.map (·.born)).Nodup
  simp only [pentries, this]
  exact List.nodup_range'
 have hmod : (pentries l).modify j (fun e => { e with val := v }) = pentries (l.set j { s with v := v, ts := ts }) := by
  apply Array.ext'
  rw [Array.toList_modify]
  apply List.ext_getElem?
  intro i
  rw [List.getElem?_modify]
  simp only [pentries]
  rw [pentriesFrom_get, pentriesFrom_get, List.getElem?_set]
  by_cases e : j = i
  ·subst e
   have hjl := (List.getElem?_eq_some_iff.1 hs).1
   rw [hs]; simp [hjl, PSlot.key]
  ·simp [e]
 have hset := MapKept.run_setObj_map (P := Tryz.prog) (.map (pentries (l.set j { s with v := v, ts := ts })) n) hm
 simp [Instr.entryStore, hg, Result.andThen, asInt, asIntOf, hf, hmod, hset, setBlock]
def pcellsT (t : Tri) : List Value := [.int .i64 (t.boy : Int)]
def pcellsOfT (ts : List Tri) : List Value := ts.flatMap pcellsT
def pisAt (b k : Nat) (t : Tri) : Bool := decide (t.p = b) && decide (t.k = k)
structure Listed (W : World) (bm base : Nat) (l : List PSlot) (ts : List Tri) : Prop where
 map : W.heap[bm]? = some (.map (pentries l) l.length)
 ok : PSlotOk l
 nodup : ∀ (i j : Nat) (s t : PSlot), l[i]? = some s → l[j]? = some t → s.b = t.b → s.w = t.w → i = j
 rows : ∀ s ∈ l, W.ownsRow base 3 1 s.v s.ts.length (pcellsOfT s.ts) ∧ s.ts.length ≤ ts.length
 apart : ∀ (i j : Nat) (s t : PSlot), l[i]? = some s → l[j]? = some t → s.v.ownBlock = t.v.ownBlock → s.v.ownBlock ≠ none → i = j
 told : ∀ b k : Nat, b < 3 → k < 3 → (∃ s ∈ l, s.b = b ∧ s.w = k ∧ s.ts = ts.filter (pisAt b k)) ∨ ((∀ s ∈ l, ¬ (s.b = b ∧ s.w = k)) ∧ ts.filter (pisAt b k) = [])
theorem Listed.kept {A B : World} {bm base : Nat} {l : List PSlot} {ts : List Tri} (h : Listed A bm base l ts) (k : Kept A B) : Listed B bm base l ts :=
 { h with map := (k.block bm (Array.getElem?_eq_some_iff.1 h.map).1).trans h.map, rows := fun s hs => ⟨(h.rows s hs).1.kept (row := none) ⟨k.os, k.tape, k.output, k.size, fun i hi _ => k.block i hi⟩ (by cases s.v.ownBlock <;> simp), (h.rows s hs).2⟩ }
theorem Listed.push {W : World} {bm base : Nat} {l : List PSlot} {ts : List Tri} (h : Listed W bm base l ts) {b k : Nat} (hb : b < 3) (hk : k < 3) (hno : ∀ s ∈ l, ¬ (s.b = b ∧ s.w = k)) :
  Listed (setBlock W bm (.map (pentries (l ++ [⟨b, k, .slice none 0 0, []⟩])) (l.length + 1))) bm base (l ++ [⟨b, k, .slice none 0 0, []⟩]) ts where
 map := by rw [set_same (Array.getElem?_eq_some_iff.1 h.map).1]; simp
 ok := fun s hs => by
  rcases List.mem_append.1 hs with hs | hs
  ·exact h.ok s hs
  ·simp only [List.mem_singleton] at hs; subst hs; exact ⟨hb, hk⟩
 nodup := fun i j s t hi hj e1 e2 => by
  rcases getElem?_snoc hi with hi | ⟨rfl, rfl⟩ <;> rcases getElem?_snoc hj with hj | ⟨rfl, rfl⟩
  ·exact h.nodup i j s t hi hj e1 e2
  ·exact absurd ⟨e1, e2⟩ (hno s (List.mem_of_getElem? hi))
  ·exact absurd ⟨e1.symm, e2.symm⟩ (hno t (List.mem_of_getElem? hj))
  ·rfl
 rows := fun s hs => by
  rcases List.mem_append.1 hs with hs | hs
  ·exact ⟨(h.rows s hs).1.kept grown_set (row_not_map1 (h.rows s hs).1 h.map), (h.rows s hs).2⟩
  ·simp only [List.mem_singleton] at hs; subst hs; exact ⟨World.ownsRow_nil _ _ _ _, Nat.zero_le _⟩
 apart := fun i j s t hi hj e1 e2 => by
  rcases getElem?_snoc hi with hi | ⟨rfl, rfl⟩ <;> rcases getElem?_snoc hj with hj | ⟨rfl, rfl⟩
  ·exact h.apart i j s t hi hj e1 e2
  ·rw [e1] at e2; exact absurd rfl e2
  ·exact absurd rfl e2
  ·rfl
 told := fun b' k' hb' hk' => by
  rcases h.told b' k' hb' hk' with ⟨s, hs, e⟩ | ⟨hn, he⟩
  ·exact .inl ⟨s, List.mem_append_left _ hs, e⟩
  ·by_cases e : b = b' ∧ k = k'
   ·obtain ⟨rfl, rfl⟩ := e
    exact .inl ⟨⟨b, k, .slice none 0 0, []⟩, by simp, rfl, rfl, he.symm⟩
   ·refine .inr ⟨fun s hs => ?_, he⟩
    rcases List.mem_append.1 hs with hs | hs
    ·exact hn s hs
    ·simp only [List.mem_singleton] at hs; subst hs; exact e
theorem Listed.append {W W4 : World} {bm base g cap j : Nat} {l : List PSlot} {ts : List Tri} {s : PSlot} {t : Tri} (h : Listed W bm base l ts) (hs : l[j]? = some s) (ht : pisAt s.b s.w t = true)
  (hg : W.grownBy W4 s.v.ownBlock) (hown : W4.ownsRow base 3 1 (.slice (some ⟨g, 0, none⟩) (s.ts.length + 1) cap) (s.ts.length + 1) (pcellsOfT s.ts ++ pcellsT t)) (hat : s.v.ownBlock = some g ∨ g = W.heap.size) :
  Listed (setBlock W4 bm (.map (pentries (l.set j { s with v := .slice (some ⟨g, 0, none⟩) (s.ts.length + 1) cap, ts := s.ts ++ [t] })) l.length)) bm base (l.set j { s with v := .slice (some ⟨g, 0, none⟩) (s.ts.length + 1) cap, ts := s.ts ++ [t] }) (ts ++ [t]) := by
 have hjl := (List.getElem?_eq_some_iff.1 hs).1
 have hmz := (Array.getElem?_eq_some_iff.1 h.map).1
 have hm4 : W4.heap[bm]? = some (.map (pentries l) l.length) := (hg.block bm hmz (fun e => by
  rcases row_not_map1 (h.rows s (List.mem_of_getElem? hs)).1 h.map with h1 | h1
  ·rw [h1] at e; cases e
  ·exact h1 e.symm)).trans h.map
 have get : ∀ {i x}, (l.set j { s with v := .slice (some ⟨g, 0, none⟩) (s.ts.length + 1) cap, ts := s.ts ++ [t] })[i]? = some x → (i ≠ j ∧ l[i]? = some x) ∨ (i = j ∧ x = { s with v := .slice (some ⟨g, 0, none⟩) (s.ts.length + 1) cap, ts := s.ts ++ [t] }) := fun {i x} hx => by
  rw [List.getElem?_set] at hx
  by_cases e : j = i
  ·subst e; simp [hjl] at hx; exact .inr ⟨rfl, hx.symm⟩
  ·simp only [e, if_false] at hx; exact .inl ⟨fun h => e h.symm, hx⟩
 have ne_g : ∀ i x, i ≠ j → l[i]? = some x → x.v.ownBlock ≠ some g := fun i x hij hx e => by
  rcases hat with h1 | h1
  ·exact hij (h.apart i j x s hx hs (e.trans h1.symm) (by rw [e]; simp))
  ·have := ((h.rows x (List.mem_of_getElem? hx)).1.lt g e).2
   omega
 refine ⟨by rw [set_same (Array.getElem?_eq_some_iff.1 hm4).1]; simp, ?_, ?_, ?_, ?_, ?_⟩
 ·intro x hx
  obtain ⟨i, hi, rfl⟩ := List.getElem_of_mem hx
  rcases get (List.getElem?_eq_getElem hi) with ⟨_, h1⟩ | ⟨_, h1⟩
  ·exact h.ok _ (List.mem_of_getElem? h1)
  ·rw [h1]; exact h.ok s (List.mem_of_getElem? hs)
 ·intro i i' x y hi hi' e1 e2
  rcases get hi with ⟨n1, h1⟩ | ⟨rfl, rfl⟩ <;> rcases get hi' with ⟨n2, h2⟩ | ⟨rfl, rfl⟩
  ·exact h.nodup i i' x y h1 h2 e1 e2
  ·exact h.nodup i _ x s h1 hs e1 e2
  ·exact h.nodup _ i' s y hs h2 e1 e2
  ·rfl
 ·intro x hx
  obtain ⟨i, hi, rfl⟩ := List.getElem_of_mem hx
  have hset : ∀ {v n xs}, W4.ownsRow base 3 1 v n xs → (setBlock W4 bm (.map (pentries (l.set j { s with v := .slice (some ⟨g, 0, none⟩) (s.ts.length + 1) cap, ts := s.ts ++ [t] })) l.length)).ownsRow base 3 1 v n xs := fun h4 => h4.kept grown_set (row_not_map1 h4 hm4)
  rcases get (List.getElem?_eq_getElem hi) with ⟨n1, h1⟩ | ⟨_, h1⟩
  ·have hr := h.rows _ (List.mem_of_getElem? h1)
   refine ⟨hset (hr.1.kept hg ?_), by simp; omega⟩
   cases hb : ((l.set j { s with v := .slice (some ⟨g, 0, none⟩) (s.ts.length + 1) cap, ts := s.ts ++ [t] })[i]).v.ownBlock with
   | none => exact .inl rfl
   | some g' => exact .inr fun e => n1 (h.apart i j _ s h1 hs (hb.trans e) (by rw [hb]; simp))
  ·rw [h1]
   refine ⟨?_, by have := (h.rows s (List.mem_of_getElem? hs)).2; simp; omega⟩
   have e : pcellsOfT (s.ts ++ [t]) = pcellsOfT s.ts ++ pcellsT t := by simp [pcellsOfT]
   rw [e]
   simpa using hset hown
 ·intro i i' x y hi hi' e1 e2
  rcases get hi with ⟨n1, h1⟩ | ⟨rfl, rfl⟩ <;> rcases get hi' with ⟨n2, h2⟩ | ⟨rfl, rfl⟩
  ·exact h.apart i i' x y h1 h2 e1 e2
  ·exact absurd e1 (ne_g _ _ n1 h1)
  ·exact absurd e1.symm (ne_g _ _ n2 h2)
  ·rfl
 ·intro b k hb hk
  have hf : (ts ++ [t]).filter (pisAt b k) = ts.filter (pisAt b k) ++ (if pisAt b k t then [t] else []) := by
   rw [List.filter_append]; congr 1; simp only [List.filter_cons, List.filter_nil]
  have key : ∀ {b k b' k' : Nat}, pisAt b k t = true → pisAt b' k' t = true → b = b' ∧ k = k' := fun h1 h2 => by
   simp only [pisAt, Bool.and_eq_true, decide_eq_true_eq] at h1 h2
   omega
  by_cases e : pisAt b k t = true
  ·obtain ⟨rfl, rfl⟩ := key ht e
   refine .inl ⟨{ s with v := .slice (some ⟨g, 0, none⟩) (s.ts.length + 1) cap, ts := s.ts ++ [t] }, List.mem_of_getElem? (i := j) (by simp [List.getElem?_set, hjl]), rfl, rfl, ?_⟩
   rw [hf, if_pos e]
   rcases h.told s.b s.w hb hk with ⟨s', hs', e1, e2, e3⟩ | ⟨hno, _⟩
   ·obtain ⟨i, hi, rfl⟩ := List.getElem_of_mem hs'
    have := h.nodup i j _ s (List.getElem?_eq_getElem hi) hs e1 e2
    subst this
    rw [List.getElem?_eq_getElem hi] at hs
    cases hs
    rw [e3]
   ·exact absurd ⟨rfl, rfl⟩ (hno s (List.mem_of_getElem? hs))
  ·rw [hf, if_neg e, List.append_nil]
   rcases h.told b k hb hk with ⟨s', hs', e1, e2, e3⟩ | ⟨hno, he⟩
   ·obtain ⟨i, hi, rfl⟩ := List.getElem_of_mem hs'
    have hij : i ≠ j := by
     rintro rfl
     rw [List.getElem?_eq_getElem hi] at hs
     cases hs
     exact e (by rw [← e1, ← e2]; exact ht)
    exact .inl ⟨_, List.mem_of_getElem? (i := i) (by rw [List.getElem?_set, if_neg (Ne.symm hij)]; exact List.getElem?_eq_getElem hi), e1, e2, e3⟩
   ·refine .inr ⟨fun x hx => ?_, he⟩
    obtain ⟨i, hi, rfl⟩ := List.getElem_of_mem hx
    rcases get (List.getElem?_eq_getElem hi) with ⟨_, h1⟩ | ⟨_, h1⟩
    ·exact hno _ (List.mem_of_getElem? h1)
    ·rw [h1]; exact hno s (List.mem_of_getElem? hs)
theorem pcells_ints (ts : List Tri) : pcellsOfT ts = intsV (ts.map Tri.boy) := by
 induction ts with
 | nil => rfl
 | cons t ts ih => simpa [pcellsOfT, pcellsT, intsV] using ih
def boysAt (ts : List Tri) (p k : Nat) : List Nat := (ts.filter (pisAt p k)).map Tri.boy
theorem Listed.look {W : World} {bm base : Nat} {l : List PSlot} {ts : List Tri} (h : Listed W bm base l ts) {p k : Nat} (hp : p < 3) (hk : k < 3) :
  ∃ v, (∀ W', W'.heap[bm]? = W.heap[bm]? → (Instr.lookup 71 (.map (some bm)) (keyV p k) false).run Tryz.prog W' = .ok v W') ∧ ListAt W v (boysAt ts p k) := by
 have hn : ∀ s ∈ l, ∀ t ∈ l, s.b = t.b → s.w = t.w → s.v = t.v := fun s hs t ht e1 e2 => by
  obtain ⟨i, hi, rfl⟩ := List.getElem_of_mem hs
  obtain ⟨j, hj, rfl⟩ := List.getElem_of_mem ht
  have := h.nodup i j _ _ (List.getElem?_eq_getElem hi) (List.getElem?_eq_getElem hj) e1 e2
  subst this; rfl
 rcases h.told p k hp hk with ⟨s, hs, e1, e2, e3⟩ | ⟨hno, he⟩
 ·refine ⟨s.v, fun W' hW' => plookup_slot W W' bm l _ h.ok hp hk h.map hW' s.v (.inr ⟨s, hs, e1, e2, rfl⟩) hn, ?_⟩
  have hr := (h.rows s hs).1
  rw [pcells_ints] at hr
  have e : (s.ts.map Tri.boy) = boysAt ts p k := by rw [e3]; rfl
  rw [← e]
  exact ListAt.of_row (n := base) (e := 3) (by simpa using hr)
 ·refine ⟨.slice none 0 0, fun W' hW' => plookup_slot W W' bm l _ h.ok hp hk h.map hW' _ (.inl ⟨rfl, hno⟩) hn, .inl ⟨rfl, ?_⟩⟩
  unfold boysAt
  rw [he]; rfl
structure Evolve (bm : Nat) (l : List PSlot) (V : World) (l' : List PSlot) (V' : World) : Prop where
 os : V'.os = V.os
 tape : V'.tape = V.tape
 output : V'.output = V.output
 size : V.heap.size ≤ V'.heap.size
 block : ∀ i, i < V.heap.size → i ≠ bm → (∀ s ∈ l, s.v.ownBlock ≠ some i) → V'.heap[i]? = V.heap[i]?
 own : ∀ s ∈ l', ∀ g, s.v.ownBlock = some g → (∃ t ∈ l, t.v.ownBlock = some g) ∨ V.heap.size ≤ g
theorem Evolve.refl (bm : Nat) (l : List PSlot) (V : World) : Evolve bm l V l V := ⟨rfl, rfl, rfl, Nat.le_refl _, fun _ _ _ _ => rfl, fun s hs g h => .inl ⟨s, hs, h⟩⟩
theorem Evolve.trans {bm : Nat} {l l' l'' : List PSlot} {V V' V'' : World} (h : Evolve bm l V l' V') (k : Evolve bm l' V' l'' V'') : Evolve bm l V l'' V'' where
 os := k.os.trans h.os
 tape := k.tape.trans h.tape
 output := k.output.trans h.output
 size := Nat.le_trans h.size k.size
 block := fun i hi hb hs => (k.block i (Nat.lt_of_lt_of_le hi h.size) hb (fun s hs' e => by
  rcases h.own s hs' i e with ⟨t, ht, e2⟩ | h2
  ·exact hs t ht e2
  ·omega)).trans (h.block i hi hb hs)
 own := fun s hs g e => by
  rcases k.own s hs g e with ⟨t, ht, e2⟩ | h2
  ·exact h.own t ht g e2
  ·exact .inr (Nat.le_trans h.size h2)
theorem Evolve.kept {bm : Nat} {l l' : List PSlot} {V V' V'' : World} (h : Evolve bm l V l' V') (k : Kept V' V'') : Evolve bm l V l' V'' :=
 h.trans ⟨k.os, k.tape, k.output, k.size, fun i hi _ _ => k.block i hi, fun s hs g h => .inl ⟨s, hs, h⟩⟩
theorem Evolve.heap {bm : Nat} {l l' : List PSlot} {V V' : World} (h : Evolve bm l V l' V') {b : Nat} (hb : b < V.heap.size) (hbm : b ≠ bm) (hl : ∀ s ∈ l, s.v.ownBlock ≠ some b) : V'.heap[b]? = V.heap[b]? := h.block b hb hbm hl
theorem Evolve.cell {bm : Nat} {l l' : List PSlot} {V V' : World} (h : Evolve bm l V l' V') {b o : Nat} {v : Value} (hc : V.cell? ⟨b, o, none⟩ = some v) (hbm : b ≠ bm) (hl : ∀ s ∈ l, s.v.ownBlock ≠ some b) : V'.cell? ⟨b, o, none⟩ = some v := by
 have e := h.block b (Go.Ai.lt_of_cell hc) hbm hl
 rw [World.cell?_of_block e]; exact hc
theorem Evolve.below {bm n : Nat} {l l' : List PSlot} {V V' : World} (h : Evolve bm l V l' V') (hn : n ≤ V.heap.size) (hbm : n ≤ bm) (hl : ∀ s ∈ l, ∀ g, s.v.ownBlock = some g → n ≤ g) : Below n V V' :=
 ⟨h.os, h.tape, h.output, h.size, fun i hi => h.block i (by omega) (by omega) (fun s hs e => by have := hl s hs i e; omega)⟩
theorem entry2 {W : World} {bm base : Nat} {l : List PSlot} {ts : List Tri} (h : Listed W bm base l ts) {b k : Nat} (hb : b < 3) (hk : k < 3) :
  ∃ (W' : World) (l' : List PSlot) (j : Nat) (s : PSlot), (Instr.mapEntry 71 (.map (some bm)) (keyV b k)).run Tryz.prog W = .ok (.tuple #[s.v, .int .i64 (j : Int)]) W' ∧ Listed W' bm base l' ts ∧ l'[j]? = some s ∧ s.b = b ∧ s.w = k ∧ Evolve bm l W l' W' ∧ W'.heap.size = W.heap.size := by
 rcases pfind_slot W l h.ok hb hk with ⟨h1, hno⟩ | ⟨j, s, h1, hs, e1, e2⟩
 ·refine ⟨_, _, l.length, ⟨b, k, .slice none 0 0, []⟩, pmapEntry_new W bm l hb hk h.map h1, h.push hb hk hno, by simp, rfl, rfl, ?_, by simp [setBlock]⟩
  have := grown_set (W := W) (bm := bm) (o := .map (pentries (l ++ [⟨b, k, .slice none 0 0, []⟩])) (l.length + 1))
  refine ⟨this.os, this.tape, this.output, this.size, fun i hi hne _ => this.block i hi (fun e => hne (by cases e; rfl)), fun s hs g e => ?_⟩
  rcases List.mem_append.1 hs with hs | hs
  ·exact .inl ⟨s, hs, e⟩
  ·simp only [List.mem_singleton] at hs; subst hs; cases e
 ·exact ⟨W, l, j, s, pmapEntry_old W bm l _ hb hk h.map h1 hs e1 e2, h, hs, e1, e2, Evolve.refl _ _ _, rfl⟩
theorem evolve_store {W W4 : World} {bm g cap j : Nat} {l : List PSlot} {s : PSlot} {n : Nat} {tt : List Tri} {c : Nat} (hs : l[j]? = some s) (hg : W.grownBy W4 s.v.ownBlock) (hat : s.v.ownBlock = some g ∨ W.heap.size ≤ g) :
  Evolve bm l W (l.set j { s with v := .slice (some ⟨g, 0, none⟩) n cap, ts := tt }) (setBlock W4 bm (.map (pentries (l.set j { s with v := .slice (some ⟨g, 0, none⟩) n cap, ts := tt })) c)) := by
 have hset := grown_set (W := W4) (bm := bm) (o := .map (pentries (l.set j { s with v := .slice (some ⟨g, 0, none⟩) n cap, ts := tt })) c)
 refine ⟨hset.os.trans hg.os, hset.tape.trans hg.tape, hset.output.trans hg.output, Nat.le_trans hg.size hset.size, fun i hi hbm hl => ?_, fun x hx g' e => ?_⟩
 ·exact (hset.block i (Nat.lt_of_lt_of_le hi hg.size) (fun e => hbm (by cases e; rfl))).trans (hg.block i hi (fun e => hl s (List.mem_of_getElem? hs) e.symm))
 ·obtain ⟨i, hi, rfl⟩ := List.getElem_of_mem hx
  rw [List.getElem_set] at e
  split at e
  ·simp only [Value.ownBlock, Option.some.injEq] at e
   subst e
   rcases hat with h1 | h1
   ·exact .inl ⟨s, List.mem_of_getElem? hs, h1⟩
   ·exact .inr h1
  ·exact .inl ⟨_, List.getElem_mem _, e⟩
def surT (X : BBook) (p k boy : Nat) : Bool := match X.pieces[p]? with
 | none => false
 | some x => match x.parts[k]? with
  | none => false
  | some y => sureP X.B x y boy
def triB (X : BBook) (p k n : Nat) : List Tri := ((List.range n).filter (surT X p k)).map fun b => ⟨p, k, b⟩
def triK (X : BBook) (q : List (Nat × Nat)) : List Tri := q.flatMap fun q => triB X q.1 q.2 X.B.boys.length
def triO (X : BBook) (n : Nat) : List Tri := (List.range n).flatMap fun p => triK X (partsOf X p)
theorem triB_len (X : BBook) (p k n : Nat) : (triB X p k n).length ≤ n := by
 have := List.length_filter_le (surT X p k) (List.range n)
 simpa [triB] using this
theorem triB_succ (X : BBook) (p k n : Nat) : triB X p k (n + 1) = triB X p k n ++ (if surT X p k n then [⟨p, k, n⟩] else []) := by
 unfold triB
 rw [List.range_succ, List.filter_append, List.map_append]
 congr 1
 cases h : surT X p k n <;> simp [List.filter_cons, h]
theorem triK_len (X : BBook) : ∀ (q : List (Nat × Nat)), (triK X q).length ≤ q.length * X.B.boys.length
 | [] => by simp [triK]
 | a :: q => by
  have h1 := triB_len X a.1 a.2 X.B.boys.length
  have h2 := triK_len X q
  have h3 : (triK X (a :: q)).length = (triB X a.1 a.2 X.B.boys.length).length + (triK X q).length := by simp [triK]
  rw [h3, List.length_cons, Nat.succ_mul]; omega
theorem partsOf_len {X : BBook} (h : X.okB = true) (p : Nat) : (partsOf X p).length ≤ 3 := by
 unfold partsOf
 cases hp : X.pieces[p]? with
 | none => simp
 | some x =>
  have := ((okB_parts h).2.2.2 p x hp).2.1
  simpa using this.2
theorem triO_len {X : BBook} (h : X.okB = true) (n : Nat) : (triO X n).length ≤ n * 12 := by
 have hb : X.B.boys.length ≤ 4 := by
  have := (okB_parts h).1
  simp only [Book.okB, inB, Bool.and_eq_true, decide_eq_true_eq] at this
  omega
 induction n with
 | zero => simp [triO]
 | succ n ih =>
  have h1 := triK_len X (partsOf X n)
  have h2 := partsOf_len h n
  have h3 : (triO X (n + 1)).length = (triO X n).length + (triK X (partsOf X n)).length := by simp [triO, List.range_succ]
  have h4 : (partsOf X n).length * X.B.boys.length ≤ 3 * 4 := Nat.mul_le_mul h2 hb
  omega
def noneOut : Value := .func (.func 75) #[] #[]
structure StallsAt (n0 : Nat) (C : World) (X : BBook) (m : Nat) : Prop where
 lo : n0 ≤ m
 told : ∃ (base : Nat) (l : List PSlot), n0 ≤ base ∧ Listed C m base l (triO X X.pieces.length)
theorem StallsAt.kept {n0 m : Nat} {C D : World} {X : BBook} (h : StallsAt n0 C X m) (k : Kept C D) : StallsAt n0 D X m :=
 ⟨h.lo, h.told.imp fun base h => h.imp fun l h => ⟨h.1, h.2.kept k⟩⟩
theorem partsL_one (X : BBook) (j : Nat) : partsL X [j] = partsOf X j := by simp [partsL]
theorem partsOf_eq {X : BBook} {j : Nat} {x : Piece} (h : X.pieces[j]? = some x) : partsOf X j = (List.range x.parts.length).map fun k => (j, k) := by simp [partsOf, h]
theorem placesV_get : ∀ (l : List (Nat × Nat)) (i : Nat) (q : Nat × Nat), l[i]? = some q → (placesV l)[i * 2]? = some (.int .i64 (q.1 : Int)) ∧ (placesV l)[i * 2 + 1]? = some (.int .i64 (q.2 : Int))
 | [], i, q, h => by simp at h
 | a :: l, 0, q, h => by
  simp only [List.getElem?_cons_zero, Option.some.injEq] at h
  subst h
  simp [placesV, placeV]
 | a :: l, i + 1, q, h => by
  simp only [List.getElem?_cons_succ] at h
  have := placesV_get l i q h
  have e : placesV (a :: l) = .int .i64 (a.1 : Int) :: .int .i64 (a.2 : Int) :: placesV l := rfl
  rw [e, show (i + 1) * 2 = i * 2 + 1 + 1 by omega, show i * 2 + 1 + 1 + 1 = (i * 2 + 1) + 1 + 1 by omega]
  simpa using this
theorem placesV_len : ∀ (l : List (Nat × Nat)), (placesV l).length = l.length * 2
 | [] => rfl
 | a :: l => by
  have := placesV_len l
  have e : placesV (a :: l) = .int .i64 (a.1 : Int) :: .int .i64 (a.2 : Int) :: placesV l := rfl
  rw [e]; simp only [List.length_cons]; omega
def PlacesAt (w : World) (g : Nat) (l : List (Nat × Nat)) : Prop := g < w.heap.size ∧ ∀ i q, l[i]? = some q → w.cell? ⟨g, i * 2, none⟩ = some (.int .i64 (q.1 : Int)) ∧ w.cell? ⟨g, i * 2 + 1, none⟩ = some (.int .i64 (q.2 : Int))
theorem PlacesAt.of_row {w : World} {base : Nat} {v : Value} {l : List (Nat × Nat)} (h : w.ownsRow base 86 2 v l.length (placesV l)) (hl : l ≠ []) : ∃ g cap, v = .slice (some ⟨g, 0, none⟩) l.length cap ∧ base ≤ g ∧ PlacesAt w g l := by
 rcases h.2 with ⟨_, h0⟩ | ⟨g, cap, cur, rfl, hb, hg, _⟩
 ·exact absurd (List.eq_nil_of_length_eq_zero h0) hl
 ·refine ⟨g, cap, rfl, hb, (Array.getElem?_eq_some_iff.1 hg).1, fun i q hi => ?_⟩
  obtain ⟨g1, g2⟩ := placesV_get l i q hi
  have get : ∀ r u, (placesV l)[r]? = some u → w.cell? ⟨g, r, none⟩ = some u := fun r u hu => by
   have := h.cells (g := g) rfl r u hu
   have e : (⟨g, 0, none⟩ : Addr).add r = ⟨g, r, none⟩ := by
    unfold Addr.add
    split
    ·rename_i h0; rw [h0]
    ·simp
   rw [← e]; exact this
  exact ⟨get _ _ g1, get _ _ g2⟩
theorem Listed.turns1 {A B : World} {bm base rb : Nat} {l : List PSlot} {ts : List Tri} (h : Listed A bm base l ts) (k : Turns (fun b => b = rb) A B) (hu1 : bm ≠ rb) (hu2 : rb < base) : Listed B bm base l ts :=
 { h with map := (k.block bm (Array.getElem?_eq_some_iff.1 h.map).1 hu1).trans h.map, rows := fun s hs => ⟨(h.rows s hs).1.kept (row := some rb) ⟨k.os, k.tape, k.output, k.size, fun i hi hne => k.block i hi (fun e => hne (by rw [e]))⟩ (by
       cases hb : s.v.ownBlock with
       | none => exact .inl rfl
       | some g => exact .inr fun e => by have := ((h.rows s hs).1.lt g hb).1; cases e; omega), (h.rows s hs).2⟩ }
set_option maxHeartbeats 8000000 in
theorem newStalls_any (X : BBook) (W : World) (h : GoodB W X) :
  Calls Tryz.prog 51 #[X.val] W fun e C => ∃ m, e = .returned (X.sval m noneOut) ∧ Kept W C ∧ StallsAt W.heap.size C X m := by
 have hmm := @run_makeMap Tryz.prog
 unfold BBook.val BBook.sval noneOut
 obtain ⟨hokV, hnp, hmo, hpp⟩ := okB_parts h.ok
 have hnb : X.B.boys.length ≤ 4 := by
  simp only [Book.okB, inB, Bool.and_eq_true, decide_eq_true_eq] at hokV
  omega
 have HTO := Lib.hid (fun n => triO_len h.ok n)
 have HPL := Lib.hid (fun p => partsOf_len h.ok p)
 have hpsl : ∀ x ∈ X.pieces, x.parts.length ≤ 3 := fun x hx => by
  obtain ⟨i, hi, rfl⟩ := List.getElem_of_mem hx
  exact (hpp i _ (List.getElem?_eq_getElem hi)).2.1.2
 have HPSL := Lib.hid hpsl
 have HPP := Lib.hid hpp
 have HGB := Lib.hid h
 clear hpsl hpp h hokV hmo
 have HS := Lib.hid (fun m out i k boy x y hx hy hb w h => surelySings_any X m out i k boy x y hx hy hb w h)
 have HPA := Lib.hid (fun m out v l w h hl hlen hlt => parts_any X m out v l w h hl hlen hnp.2 HPSL.out hlt)
 unfold BBook.sval keyV at HS
 unfold BBook.sval at HPA
 have hk0 : Kept W ((((W.alloc (Obj.cells #[.slice X.p X.B.boys.length X.cap, .int .i64 X.B.weeks, .slice X.q X.B.trials.length X.capt, .slice X.r X.pieces.length X.capp, .int .i64 X.most] 28)).alloc (Obj.cells #[.slice none 0 0, .int .i64 0, .slice none 0 0, .slice none 0 0, .int .i64 0, .map none, .nilFunc] 74)).alloc (Obj.map #[] 0)).alloc (Obj.cells #[.slice X.p X.B.boys.length X.cap, .int .i64 X.B.weeks, .slice X.q X.B.trials.length X.capt, .slice X.r X.pieces.length X.capp, .int .i64 X.most, .map (some (W.heap.size + 1 + 1)), .func (.func 75) #[] #[]] 74)) := kept_alloc (kept_alloc (kept_alloc (kept_alloc (kept_refl _) _) _) _) _
 have hz0 : ((((W.alloc (Obj.cells #[.slice X.p X.B.boys.length X.cap, .int .i64 X.B.weeks, .slice X.q X.B.trials.length X.capt, .slice X.r X.pieces.length X.capp, .int .i64 X.most] 28)).alloc (Obj.cells #[.slice none 0 0, .int .i64 0, .slice none 0 0, .slice none 0 0, .int .i64 0, .map none, .nilFunc] 74)).alloc (Obj.map #[] 0)).alloc (Obj.cells #[.slice X.p X.B.boys.length X.cap, .int .i64 X.B.weeks, .slice X.q X.B.trials.length X.capt, .slice X.r X.pieces.length X.capp, .int .i64 X.most, .map (some (W.heap.size + 1 + 1)), .func (.func 75) #[] #[]] 74)).heap.size = W.heap.size + 4 := by simp
 have hmap : ((((W.alloc (Obj.cells #[.slice X.p X.B.boys.length X.cap, .int .i64 X.B.weeks, .slice X.q X.B.trials.length X.capt, .slice X.r X.pieces.length X.capp, .int .i64 X.most] 28)).alloc (Obj.cells #[.slice none 0 0, .int .i64 0, .slice none 0 0, .slice none 0 0, .int .i64 0, .map none, .nilFunc] 74)).alloc (Obj.map #[] 0)).alloc (Obj.cells #[.slice X.p X.B.boys.length X.cap, .int .i64 X.B.weeks, .slice X.q X.B.trials.length X.capt, .slice X.r X.pieces.length X.capp, .int .i64 X.most, .map (some (W.heap.size + 1 + 1)), .func (.func 75) #[] #[]] 74)).heap[W.heap.size + 1 + 1]? = some (.map #[] 0) := by
  have h1 := World.alloc_heap_new ((W.alloc (Obj.cells #[.slice X.p X.B.boys.length X.cap, .int .i64 X.B.weeks, .slice X.q X.B.trials.length X.capt, .slice X.r X.pieces.length X.capp, .int .i64 X.most] 28)).alloc (Obj.cells #[.slice none 0 0, .int .i64 0, .slice none 0 0, .slice none 0 0, .int .i64 0, .map none, .nilFunc] 74)) (Obj.map #[] 0)
  simp only [World.size_alloc] at h1
  exact (Below.heap_alloc _ _ _ (by simp)).trans h1
 have ZZ : ∀ Z, Z = ((((W.alloc (Obj.cells #[.slice X.p X.B.boys.length X.cap, .int .i64 X.B.weeks, .slice X.q X.B.trials.length X.capt, .slice X.r X.pieces.length X.capp, .int .i64 X.most] 28)).alloc (Obj.cells #[.slice none 0 0, .int .i64 0, .slice none 0 0, .slice none 0 0, .int .i64 0, .map none, .nilFunc] 74)).alloc (Obj.map #[] 0)).alloc (Obj.cells #[.slice X.p X.B.boys.length X.cap, .int .i64 X.B.weeks, .slice X.q X.B.trials.length X.capt, .slice X.r X.pieces.length X.capp, .int .i64 X.most, .map (some (W.heap.size + 1 + 1)), .func (.func 75) #[] #[]] 74)) → Z.cell? ⟨W.heap.size, 0, none⟩ = some (.slice X.p X.B.boys.length X.cap) ∧ Z.cell? ⟨W.heap.size, 3, none⟩ = some (.slice X.r X.pieces.length X.capp) ∧ Z.cell? ⟨W.heap.size + 1 + 1 + 1, 0, none⟩ = some (.slice X.p X.B.boys.length X.cap) ∧ Z.cell? ⟨W.heap.size + 1 + 1 + 1, 1, none⟩ = some (.int .i64 X.B.weeks) ∧ Z.cell? ⟨W.heap.size + 1 + 1 + 1, 2, none⟩ = some (.slice X.q X.B.trials.length X.capt) ∧ Z.cell? ⟨W.heap.size + 1 + 1 + 1, 3, none⟩ = some (.slice X.r X.pieces.length X.capp) ∧ Z.cell? ⟨W.heap.size + 1 + 1 + 1, 4, none⟩ = some (.int .i64 X.most) ∧ Z.cell? ⟨W.heap.size + 1 + 1 + 1, 5, none⟩ = some (.map (some (W.heap.size + 1 + 1))) ∧ Z.cell? ⟨W.heap.size + 1 + 1 + 1, 6, none⟩ = some (.func (.func 75) #[] #[]) ∧ Z.cell? ⟨W.heap.size + 1, 0, none⟩ = some (.slice none 0 0) ∧ Z.cell? ⟨W.heap.size + 1, 1, none⟩ = some (.int .i64 0) ∧ Z.cell? ⟨W.heap.size + 1, 2, none⟩ = some (.slice none 0 0) ∧ Z.cell? ⟨W.heap.size + 1, 3, none⟩ = some (.slice none 0 0) ∧ Z.cell? ⟨W.heap.size + 1, 4, none⟩ = some (.int .i64 0) ∧ Z.cell? ⟨W.heap.size + 1, 5, none⟩ = some (.map none) ∧ Z.cell? ⟨W.heap.size + 1, 6, none⟩ = some (.nilFunc) ∧ Z.frozen? ⟨W.heap.size + 1, 0, none⟩ = false ∧ Z.frozen? ⟨W.heap.size + 1, 1, none⟩ = false ∧ Z.frozen? ⟨W.heap.size + 1, 2, none⟩ = false ∧ Z.frozen? ⟨W.heap.size + 1, 3, none⟩ = false ∧ Z.frozen? ⟨W.heap.size + 1, 4, none⟩ = false ∧ Z.frozen? ⟨W.heap.size + 1, 5, none⟩ = false ∧ Z.frozen? ⟨W.heap.size + 1, 6, none⟩ = false := by rintro _ rfl; refine ⟨?_, ?_, ?_, ?_, ?_, ?_, ?_, ?_, ?_, ?_, ?_, ?_, ?_, ?_, ?_, ?_, ?_, ?_, ?_, ?_, ?_, ?_, ?_⟩ <;> go_simp
 obtain ⟨a0, a3, c0, c1, c2, c3, c4, c5, c6, d0, d1, d2, d3, d4, d5, d6, df0, df1, df2, df3, df4, df5, df6⟩ := ZZ _ rfl; clear ZZ
 go_enter Tryz.func51, Tryz.ntmps51
 go_wp2_with fail
 generalize ((((W.alloc (Obj.cells #[.slice X.p X.B.boys.length X.cap, .int .i64 X.B.weeks, .slice X.q X.B.trials.length X.capt, .slice X.r X.pieces.length X.capp, .int .i64 X.most] 28)).alloc (Obj.cells #[.slice none 0 0, .int .i64 0, .slice none 0 0, .slice none 0 0, .int .i64 0, .map none, .nilFunc] 74)).alloc (Obj.map #[] 0)).alloc (Obj.cells #[.slice X.p X.B.boys.length X.cap, .int .i64 X.B.weeks, .slice X.q X.B.trials.length X.capt, .slice X.r X.pieces.length X.capp, .int .i64 X.most, .map (some (W.heap.size + 1 + 1)), .func (.func 75) #[] #[]] 74)) = V0 at *
 generalize hcb : W.heap.size + 1 + 1 + 1 = sb at *
 generalize hbm : W.heap.size + 1 + 1 = bm at *
 generalize hrb : W.heap.size + 1 = rb at *
 have HK := Lib.hid (show ∀ l V, Evolve bm [] V0 l V → Kept W V from fun l V hE => Below.trans hk0 (hE.below (n := W.heap.size) (by omega) (by omega) (fun s hs => nomatch hs)))
 go_loopw [17] (fun i V => ∃ (j : Nat) (l : List PSlot), j ≤ X.pieces.length ∧ i = .int .i64 j ∧ Listed V bm V0.heap.size l (triO X j) ∧ Evolve bm [] V0 l V) (fun i V => X.pieces.length - (intOf i).toNat)
 case atStart =>
  exact ⟨0, [], by omega, rfl, ⟨hmap, (fun s hs => nomatch hs), (fun i j s t h => by simp at h), (fun s hs => nomatch hs), (fun i j s t h => by simp at h), (fun b k _ _ => .inr ⟨(fun s hs => nomatch hs), rfl⟩)⟩, Evolve.refl _ _ _⟩
 case round =>
  obtain ⟨j, l, hj, rfl, hT, hE⟩ := hrel
  have nl0 : ∀ b, ∀ s ∈ ([] : List PSlot), s.v.ownBlock ≠ some b := fun b s hs => nomatch hs
  by_cases hlt : j < X.pieces.length
  ·have hltI : (j : Int) < X.pieces.length := by omega
   obtain ⟨x, hx⟩ : ∃ x, X.pieces[j]? = some x := ⟨_, List.getElem?_eq_getElem hlt⟩
   obtain ⟨-, hxl, -⟩ := HPP.out j x hx
   have e0 := hE.cell c0 (by omega) (nl0 _)
   have e1 := hE.cell c1 (by omega) (nl0 _)
   have e2 := hE.cell c2 (by omega) (nl0 _)
   have e3 := hE.cell c3 (by omega) (nl0 _)
   have e4 := hE.cell c4 (by omega) (nl0 _)
   have e5 := hE.cell c5 (by omega) (nl0 _)
   have e6 := hE.cell c6 (by omega) (nl0 _)
   have f0 := hE.cell a0 (by omega) (nl0 _)
   have f3 := hE.cell a3 (by omega) (nl0 _)
   have kW := HK.out l wr hE
   have hzc := Go.Ai.lt_of_cell e0
   have hza := Go.Ai.lt_of_cell f0
   have kA : Kept wr (wr.alloc (Obj.cells #[.int .i64 (j : Int)] 3)) := kept_alloc (kept_refl _) _
   have hla : ListAt (wr.alloc (Obj.cells #[.int .i64 (j : Int)] 3)) (.slice (some ⟨wr.heap.size, 0, none⟩) 1 1) [j] := .inr ⟨wr.heap.size, 1, rfl, by simp, fun i y hy => by
    match i, hy with
    | 0, hy => simp at hy; subst hy; go_simp
    | i + 1, hy => simp at hy⟩
   have HP1 := Lib.hid (HPA.out bm (.func (.func 75) #[] #[]) _ [j] _ (HGB.out.kept (kept_trans kW kA)).at_ hla (by simp) (fun p hp => by simp at hp; omega))
   have HT := Lib.hid hT
   have HE := Lib.hid hE
   have HX := Lib.hid hx
   clear hla hT hE hx
   go_wp2_with fail
   with_reducible refine HP1.out.mono ?_
   rintro e V1 ⟨pv, rfl, hk1, hrow⟩
   rw [partsL_one] at hrow
   have hpe := partsOf_eq HX.out
   have hpl : (partsOf X j).length = x.parts.length := by rw [hpe]; simp
   obtain ⟨g, cap, rfl, hgb, hPL⟩ := PlacesAt.of_row hrow (by rw [← List.length_pos_iff, hpl]; omega)
   rw [hpl]
   have hg0 : wr.heap.size ≤ g := by have : wr.heap.size + 1 ≤ g := (by simpa using hgb); omega
   have hkV1 := kept_trans kA hk1
   have hnog : ∀ s ∈ l, s.v.ownBlock ≠ some g := fun s hs e => by have := ((HT.out.rows s hs).1.lt g e).2; omega
   have hbmz : bm < wr.heap.size := (Array.getElem?_eq_some_iff.1 HT.out.map).1
   replace e0 := kcell hkV1 e0
   replace e1 := kcell hkV1 e1
   replace e2 := kcell hkV1 e2
   replace e3 := kcell hkV1 e3
   replace e4 := kcell hkV1 e4
   replace e5 := kcell hkV1 e5
   replace e6 := kcell hkV1 e6
   replace f0 := kcell hkV1 f0
   replace f3 := kcell hkV1 f3
   have HPLL := Lib.hid (show ∀ (k : Nat), k < x.parts.length → (partsOf X j)[k]? = some (j, k) from fun k hk => by rw [hpe]; simp [hk])
   have HNEXT := Lib.hid (show triO X (j + 1) = triO X j ++ triK X ((partsOf X j).take x.parts.length) from by rw [← hpl, List.take_length]; simp [triO, List.range_succ])
   have HT1 := Lib.hid (HT.out.kept hkV1)
   have HE1 := Lib.hid (HE.out.kept hkV1)
   have HPV := Lib.hid hPL
   have HBND := Lib.hid (show ∀ k n, n ≤ 4 → ((triO X j ++ triK X ((partsOf X j).take k)) ++ triB X j k n).length ≤ 40 from fun k n hn => by
    have h1 := HTO.out j
    have h2 := triK_len X ((partsOf X j).take k)
    have h3 : ((partsOf X j).take k).length * X.B.boys.length ≤ 3 * 4 := Nat.mul_le_mul (by have := HPL.out j; simp only [List.length_take]; omega) hnb
    have h4 := triB_len X j k n
    simp only [List.length_append]
    omega)
   clear hrow hPL hpe hpl HP1
   go_wp2_with fail
   go_loopw [25] (fun i V => ∃ (k : Nat) (l' : List PSlot), k ≤ x.parts.length ∧ i = .int .i64 k ∧ Listed V bm V0.heap.size l' (triO X j ++ triK X ((partsOf X j).take k)) ∧ Evolve bm l V1 l' V) (fun i V => x.parts.length - (intOf i).toNat)
   case atStart => exact ⟨0, l, by omega, rfl, by simpa [triK] using HT1.out, Evolve.refl _ _ _⟩
   case round =>
    obtain ⟨k, l', hk, rfl, hT, hE⟩ := hrel
    by_cases hkl : k < x.parts.length
    ·have hklI : (k : Int) < x.parts.length := by omega
     have hget := HPLL.out k hkl
     obtain ⟨y, hy⟩ : ∃ y, x.parts[k]? = some y := ⟨_, List.getElem?_eq_getElem hkl⟩
     obtain ⟨p0, p1⟩ := HPV.out.2 k (j, k) hget
     replace p0 := hE.cell p0 (by omega) hnog
     replace p1 := hE.cell p1 (by omega) hnog
     simp only at p0 p1
     have nsb : ∀ s ∈ l, s.v.ownBlock ≠ some sb := fun s hs e => by have := ((HT.out.rows s hs).1.lt sb e).1; omega
     have nbb : ∀ s ∈ l, s.v.ownBlock ≠ some W.heap.size := fun s hs e => by have := ((HT.out.rows s hs).1.lt _ e).1; omega
     have m0 := hE.cell e0 (by omega) nsb
     have m1 := hE.cell e1 (by omega) nsb
     have m2 := hE.cell e2 (by omega) nsb
     have m3 := hE.cell e3 (by omega) nsb
     have m4 := hE.cell e4 (by omega) nsb
     have m5 := hE.cell e5 (by omega) nsb
     have m6 := hE.cell e6 (by omega) nsb
     have n0 := hE.cell f0 (by omega) nbb
     have hgw := Go.Ai.lt_of_cell p0
     have hsw := Go.Ai.lt_of_cell m0
     have hbw := Go.Ai.lt_of_cell n0
     have HT2 := Lib.hid hT
     have HE2 := Lib.hid hE
     have HY := Lib.hid hy
     have HGET := Lib.hid hget
     clear hT hE hy hget
     have kat : Kept wr (wr.alloc (Obj.cells #[.int .i64 (j : Int), .int .i64 (k : Int)] 86)) := kept_alloc (kept_refl _) _
     have q0 : (wr.alloc (Obj.cells #[.int .i64 (j : Int), .int .i64 (k : Int)] 86)).cell? ⟨wr.heap.size, 0, none⟩ = some (.int .i64 (j : Int)) := by go_simp
     have q1 : (wr.alloc (Obj.cells #[.int .i64 (j : Int), .int .i64 (k : Int)] 86)).cell? ⟨wr.heap.size, 1, none⟩ = some (.int .i64 (k : Int)) := by go_simp
     go_wp2_with fail
     replace m0 := kcell kat m0
     replace m1 := kcell kat m1
     replace m2 := kcell kat m2
     replace m3 := kcell kat m3
     replace m4 := kcell kat m4
     replace m5 := kcell kat m5
     replace m6 := kcell kat m6
     replace n0 := kcell kat n0
     have hno' : ∀ s ∈ l', s.v.ownBlock ≠ some wr.heap.size := fun s hs e => by have := ((HT2.out.rows s hs).1.lt _ e).2; omega
     have nsb' : ∀ s ∈ l', s.v.ownBlock ≠ some sb := fun s hs e => by have := ((HT2.out.rows s hs).1.lt sb e).1; omega
     have hbm2 : bm < wr.heap.size := (Array.getElem?_eq_some_iff.1 HT2.out.map).1
     have HT3 := Lib.hid (HT2.out.kept kat)
     have HE3 := Lib.hid (HE2.out.kept kat)
     have hzat : wr.heap.size < (wr.alloc (Obj.cells #[.int .i64 (j : Int), .int .i64 (k : Int)] 86)).heap.size := by simp
     generalize wr.alloc (Obj.cells #[.int .i64 (j : Int), .int .i64 (k : Int)] 86) = V2 at *
     generalize hhb : wr.heap.size = hb at *
     go_loopw [33] (fun i V => ∃ (n : Nat) (l'' : List PSlot), n ≤ X.B.boys.length ∧ i = .int .i64 n ∧ Listed V bm V0.heap.size l'' ((triO X j ++ triK X ((partsOf X j).take k)) ++ triB X j k n) ∧ Evolve bm l' V2 l'' V) (fun i V => X.B.boys.length - (intOf i).toNat)
     case atStart => exact ⟨0, l', by omega, rfl, by simpa [triB] using HT3.out, Evolve.refl _ _ _⟩
     case round =>
      obtain ⟨n, l'', hn, rfl, hT, hE⟩ := hrel
      by_cases hnl : n < X.B.boys.length
      ·have hnlI : (n : Int) < X.B.boys.length := by omega
       have hEall := (HE1.out.trans HE3.out).trans hE
       have kW' := HK.out l'' wr hEall
       have s5 := hE.cell m5 (by omega) nsb'
       have t0 := hE.cell q0 (by omega) hno'
       have t1 := hE.cell q1 (by omega) hno'
       have hz5 := Go.Ai.lt_of_cell s5
       have hz6 := Go.Ai.lt_of_cell t0
       have HT4 := Lib.hid hT
       have HE4 := Lib.hid hE
       have HSG := Lib.hid (HS.out bm (.func (.func 75) #[] #[]) j k n x y HX.out HY.out hnl wr (HGB.out.kept kW'))
       have HST := Lib.hid (show surT X j k n = sureP X.B x y n by simp [surT, HX.out, HY.out])
       clear hT hE hEall kW'
       go_wp2_with fail
       with_reducible refine HSG.out.mono ?_
       rintro e V' ⟨rfl, hk'⟩
       have HT5 := Lib.hid (HT4.out.kept hk')
       have HE5 := Lib.hid (HE4.out.kept hk')
       replace s5 := kcell hk' s5
       replace t0 := kcell hk' t0
       replace t1 := kcell hk' t1
       rcases hv : sureP X.B x y n with _ | _
       ·have HEND : Hid (∃ (n2 : Nat) (l2 : List PSlot), n2 ≤ X.B.boys.length ∧ Value.int .i64 ((n : Int) + 1) = .int .i64 (n2 : Int) ∧ Listed V' bm V0.heap.size l2 ((triO X j ++ triK X ((partsOf X j).take k)) ++ triB X j k n2) ∧ Evolve bm l' V2 l2 V') := Lib.hid ⟨n + 1, l'', by omega, by simp, by rw [triB_succ, HST.out, hv]; simpa using HT5.out, HE5.out⟩
        clear hv
        go_wp2_with fail
        go_roundw
        case rel => exact HEND.out
        case measure => simp [intOf]; omega
       ·have HV := Lib.hid hv; clear hv
        have hj3 : j < 3 := by omega
        have hk3 : k < 3 := by omega
        have hnb' : (V'.alloc (Obj.cells #[.int .i64 (n : Int)] 3)).heap[V'.heap.size]? = some (.cells #[.int .i64 (n : Int)] 3 (0, 0)) := World.alloc_heap_new _ _
        have kS : Kept V' (V'.alloc (Obj.cells #[.int .i64 (n : Int)] 3)) := kept_alloc (kept_refl _) _
        have hzS : (V'.alloc (Obj.cells #[.int .i64 (n : Int)] 3)).heap.size = V'.heap.size + 1 := by simp
        have hz5' := Go.Ai.lt_of_cell s5
        have hz6' := Go.Ai.lt_of_cell t0
        go_wp2_with fail
        generalize (V'.alloc (Obj.cells #[.int .i64 (n : Int)] 3)) = W3 at *
        obtain ⟨W3', l3, j3, s, hme, hT', hs, e1, e2, hEv, hz3'⟩ := entry2 (HT5.out.kept kS) hj3 hk3
        unfold keyV at hme
        rw [hme]
        have HT' := Lib.hid hT'; clear hT' hme
        have hbmz : bm < V'.heap.size := (Array.getElem?_eq_some_iff.1 HT5.out.map).1
        have hnews := World.news_of_block ((hEv.block _ (by omega) (by omega) (fun s hs e => by have := ((HT5.out.rows s hs).1.lt _ e).2; omega)).trans hnb')
        obtain ⟨i0, hi, hiz, his, hib⟩ := info_parts infoI
        have hrow := (HT'.out.rows s (List.mem_of_getElem? hs)).1
        have hrl : s.ts.length ≤ 40 := Nat.le_trans (HT'.out.rows s (List.mem_of_getElem? hs)).2 (HBND.out k n (by omega))
        have hbase : V0.heap.size ≤ W3'.heap.size := by
         have h1 := HE1.out.size
         have h2 := HE3.out.size
         have h3 := HE5.out.size
         omega
        go_wp2_with (at_builtin; refine wpList_append_lies _ rfl _ _ 32 rfl V0.heap.size 3 i0 _ 1 8 Tryz.underlying32 hi hiz his hib rfl (by decide) s.v s.ts.length _ rfl hrow ⟨V'.heap.size, 0, none⟩ 1 1 [.int .i64 (n : Int)] rfl rfl hnews (by simp [Value.oneCell']) (by decide) (by unfold maxLen; omega) (by omega) hbase _ rfl ?_; intro g' cap' W4 hown hgrow hat hlt4)
        have hm4 : W4.heap[bm]? = some (.map (pentries l3) l3.length) := (hgrow.block bm (by omega) (fun e => by
         rcases row_not_map1 hrow HT'.out.map with h1 | h1
         ·rw [h1] at e; cases e
         ·exact h1 e.symm)).trans HT'.out.map
        have hes := pentryStore_at W4 bm l3 l3.length j3 s (.slice (some ⟨g', 0, none⟩) (s.ts.length + 1) cap') (s.ts ++ [⟨j, k, n⟩]) hm4 hs
        have hend := HT'.out.append (t := ⟨j, k, n⟩) hs (by simp [pisAt, e1, e2]) hgrow hown hat
        have hEv2 := evolve_store (bm := bm) (n := s.ts.length + 1) (cap := cap') (tt := s.ts ++ [⟨j, k, n⟩]) (c := l3.length) hs hgrow (hat.imp id (fun e => by omega))
        have HEND : Hid (∃ (n2 : Nat) (l2 : List PSlot), n2 ≤ X.B.boys.length ∧ Value.int .i64 ((n : Int) + 1) = .int .i64 (n2 : Int) ∧ Listed (setBlock W4 bm (.map (pentries (l3.set j3 { s with v := .slice (some ⟨g', 0, none⟩) (s.ts.length + 1) cap', ts := s.ts ++ [⟨j, k, n⟩] })) l3.length)) bm V0.heap.size l2 ((triO X j ++ triK X ((partsOf X j).take k)) ++ triB X j k n2) ∧ Evolve bm l' V2 l2 (setBlock W4 bm (.map (pentries (l3.set j3 { s with v := .slice (some ⟨g', 0, none⟩) (s.ts.length + 1) cap', ts := s.ts ++ [⟨j, k, n⟩] })) l3.length))) :=
         Lib.hid ⟨n + 1, _, by omega, by simp, by rw [triB_succ, HST.out, HV.out, if_pos rfl, ← List.append_assoc]; exact hend, ((HE5.out.kept kS).trans hEv).trans hEv2⟩
        rw [hes]
        clear hes hm4 hown hgrow hat hrow hend hEv2 hEv hnews
        generalize setBlock W4 bm (.map (pentries (l3.set j3 { s with v := .slice (some ⟨g', 0, none⟩) (s.ts.length + 1) cap', ts := s.ts ++ [⟨j, k, n⟩] })) l3.length) = W5 at *
        go_wp2_with fail
        go_roundw
        case rel => exact HEND.out
        case measure => simp [intOf]; omega
      ·have hnlI : ¬ (n : Int) < X.B.boys.length := by omega
       obtain rfl : n = X.B.boys.length := by omega
       have HEND : Hid (∃ (k' : Nat) (l2 : List PSlot), k' ≤ x.parts.length ∧ Value.int .i64 ((k : Int) + 1) = .int .i64 (k' : Int) ∧ Listed wr bm V0.heap.size l2 (triO X j ++ triK X ((partsOf X j).take k')) ∧ Evolve bm l V1 l2 wr) := Lib.hid ⟨k + 1, l'', by omega, by simp, by
        have e : triK X ((partsOf X j).take (k + 1)) = triK X ((partsOf X j).take k) ++ triB X j k X.B.boys.length := by
         rw [List.take_succ, HGET.out]; simp [triK]
        rw [e, ← List.append_assoc]; exact hT, HE3.out.trans hE⟩
       clear hT hE
       go_wp2_with fail
       go_roundw
       case rel => exact HEND.out
       case measure => simp [intOf]; omega
    ·have hklI : ¬ (k : Int) < x.parts.length := by omega
     obtain rfl : k = x.parts.length := by omega
     have HEND : Hid (∃ (j' : Nat) (l2 : List PSlot), j' ≤ X.pieces.length ∧ Value.int .i64 ((j : Int) + 1) = .int .i64 (j' : Int) ∧ Listed wr bm V0.heap.size l2 (triO X j') ∧ Evolve bm [] V0 l2 wr) := Lib.hid ⟨j + 1, l', by omega, by simp, by rw [HNEXT.out]; exact hT, HE1.out.trans hE⟩
     clear hT hE
     go_wp2_with fail
     go_roundw
     case rel => exact HEND.out
     case measure => simp [intOf]; omega
  ·have hltI : ¬ (j : Int) < X.pieces.length := by omega
   obtain rfl : j = X.pieces.length := by omega
   have e0 := hE.cell c0 (by omega) (nl0 _)
   have e1 := hE.cell c1 (by omega) (nl0 _)
   have e2 := hE.cell c2 (by omega) (nl0 _)
   have e3 := hE.cell c3 (by omega) (nl0 _)
   have e4 := hE.cell c4 (by omega) (nl0 _)
   have e5 := hE.cell c5 (by omega) (nl0 _)
   have e6 := hE.cell c6 (by omega) (nl0 _)
   have g0 := hE.cell d0 (by omega) (nl0 _)
   have g1 := hE.cell d1 (by omega) (nl0 _)
   have g2 := hE.cell d2 (by omega) (nl0 _)
   have g3 := hE.cell d3 (by omega) (nl0 _)
   have g4 := hE.cell d4 (by omega) (nl0 _)
   have g5 := hE.cell d5 (by omega) (nl0 _)
   have g6 := hE.cell d6 (by omega) (nl0 _)
   have gf0 := (World.frozen?_of_block (a := ⟨rb, 0, none⟩) (hE.heap (Go.Ai.lt_of_cell d0) (show rb ≠ bm by omega) (nl0 _))).trans df0
   have gf1 := (World.frozen?_of_block (a := ⟨rb, 1, none⟩) (hE.heap (Go.Ai.lt_of_cell d0) (show rb ≠ bm by omega) (nl0 _))).trans df1
   have gf2 := (World.frozen?_of_block (a := ⟨rb, 2, none⟩) (hE.heap (Go.Ai.lt_of_cell d0) (show rb ≠ bm by omega) (nl0 _))).trans df2
   have gf3 := (World.frozen?_of_block (a := ⟨rb, 3, none⟩) (hE.heap (Go.Ai.lt_of_cell d0) (show rb ≠ bm by omega) (nl0 _))).trans df3
   have gf4 := (World.frozen?_of_block (a := ⟨rb, 4, none⟩) (hE.heap (Go.Ai.lt_of_cell d0) (show rb ≠ bm by omega) (nl0 _))).trans df4
   have gf5 := (World.frozen?_of_block (a := ⟨rb, 5, none⟩) (hE.heap (Go.Ai.lt_of_cell d0) (show rb ≠ bm by omega) (nl0 _))).trans df5
   have gf6 := (World.frozen?_of_block (a := ⟨rb, 6, none⟩) (hE.heap (Go.Ai.lt_of_cell d0) (show rb ≠ bm by omega) (nl0 _))).trans df6
   have kW := HK.out l wr hE
   have HT := Lib.hid hT
   clear hT hE
   go_wp2_with fail
   have ZZ : ∀ Z, Z = (((((((wr.setCell ⟨rb, 0, none⟩ (.slice X.p X.B.boys.length X.cap)).setCell ⟨rb, 1, none⟩ (.int .i64 X.B.weeks)).setCell ⟨rb, 2, none⟩ (.slice X.q X.B.trials.length X.capt)).setCell ⟨rb, 3, none⟩ (.slice X.r X.pieces.length X.capp)).setCell ⟨rb, 4, none⟩ (.int .i64 X.most)).setCell ⟨rb, 5, none⟩ (.map (some bm))).setCell ⟨rb, 6, none⟩ (.func (.func 75) #[] #[])) → Z.cell? ⟨rb, 0, none⟩ = some (.slice X.p X.B.boys.length X.cap) ∧ Z.cell? ⟨rb, 1, none⟩ = some (.int .i64 X.B.weeks) ∧ Z.cell? ⟨rb, 2, none⟩ = some (.slice X.q X.B.trials.length X.capt) ∧ Z.cell? ⟨rb, 3, none⟩ = some (.slice X.r X.pieces.length X.capp) ∧ Z.cell? ⟨rb, 4, none⟩ = some (.int .i64 X.most) ∧ Z.cell? ⟨rb, 5, none⟩ = some (.map (some bm)) ∧ Z.cell? ⟨rb, 6, none⟩ = some (.func (.func 75) #[] #[]) := by rintro _ rfl; refine ⟨?_, ?_, ?_, ?_, ?_, ?_, ?_⟩ <;> go_simp
   obtain ⟨r0, r1, r2, r3, r4, r5, r6⟩ := ZZ _ rfl; clear ZZ
   have hTC : Turns (fun b => b = rb) wr (((((((wr.setCell ⟨rb, 0, none⟩ (.slice X.p X.B.boys.length X.cap)).setCell ⟨rb, 1, none⟩ (.int .i64 X.B.weeks)).setCell ⟨rb, 2, none⟩ (.slice X.q X.B.trials.length X.capt)).setCell ⟨rb, 3, none⟩ (.slice X.r X.pieces.length X.capp)).setCell ⟨rb, 4, none⟩ (.int .i64 X.most)).setCell ⟨rb, 5, none⟩ (.map (some bm))).setCell ⟨rb, 6, none⟩ (.func (.func 75) #[] #[])) := ((((((((Turns.refl (fun b => b = rb) wr).setCell rfl _ _).setCell rfl _ _).setCell rfl _ _).setCell rfl _ _).setCell rfl _ _).setCell rfl _ _).setCell rfl _ _)
   generalize (((((((wr.setCell ⟨rb, 0, none⟩ (.slice X.p X.B.boys.length X.cap)).setCell ⟨rb, 1, none⟩ (.int .i64 X.B.weeks)).setCell ⟨rb, 2, none⟩ (.slice X.q X.B.trials.length X.capt)).setCell ⟨rb, 3, none⟩ (.slice X.r X.pieces.length X.capp)).setCell ⟨rb, 4, none⟩ (.int .i64 X.most)).setCell ⟨rb, 5, none⟩ (.map (some bm))).setCell ⟨rb, 6, none⟩ (.func (.func 75) #[] #[])) = C at *
   have kC : Kept W C := Below.trans kW (hTC.toBelow (n := W.heap.size) (by rintro b rfl; omega) kW.size)
   refine bodyPost_ret (v := .agg #[.slice X.p X.B.boys.length X.cap, .int .i64 X.B.weeks, .slice X.q X.B.trials.length X.capt, .slice X.r X.pieces.length X.capp, .int .i64 X.most, .map (some bm), .func (.func 75) #[] #[]]) (by simp [results, Tryz.results51, go_sem, r0, r1, r2, r3, r4, r5, r6]) rfl ?_
   refine ⟨bm, rfl, kC, ⟨by omega, V0.heap.size, l, hk0.size, HT.out.turns1 hTC (by omega) (by omega)⟩⟩
end Go.Proofs.YtcllfjjhijkakaaGreatDoor
namespace Go.Proofs.YtcllfjjhijkakaaGreatDoor
open Go.RowKit Go.Sort Go.Rg
set_option maxRecDepth 100000
def zeroStalls : Value := .agg #[.slice none 0 0, .int .i64 0, .slice none 0 0, .slice none 0 0, .int .i64 0, .map none, .nilFunc]
theorem StallsAt.mono {n0 n1 m : Nat} {C : World} {X : BBook} (h : StallsAt n0 C X m) (k : n1 ≤ n0) : StallsAt n1 C X m := ⟨Nat.le_trans k h.lo, h.told.imp fun base h => h.imp fun l h => ⟨Nat.le_trans k h.1, h.2⟩⟩
theorem StallsAt.turns1 {n0 m rb : Nat} {C D : World} {X : BBook} (h : StallsAt n0 C X m) (k : Turns (fun b => b = rb) C D) (hr : rb < n0) : StallsAt n0 D X m := by
 obtain ⟨base, l, hb, hl⟩ := h.told
 have := h.lo
 exact ⟨h.lo, base, l, hb, hl.turns1 k (by omega) (by omega)⟩
def OpenBP (X : BBook) (asked : Bool) (W : World) (e : Ending) (C : World) : Prop :=
 ∃ v err, e = .returned (.tuple #[v, .int .i64 err]) ∧ Kept W C ∧
  ((err = 0 ∧ X.okB = true ∧ asked = true ∧ Can X.B ∧ ∃ m, v = X.sval m noneOut ∧ StallsAt W.heap.size C X m) ∨
   (v = zeroStalls ∧ ((err = 70 ∧ X.okB = false) ∨ (err = 71 ∧ X.okB = true ∧ asked = false) ∨ (err = 72 ∧ X.okB = true ∧ asked = true ∧ ¬ Can X.B))))
set_option maxHeartbeats 8000000 in
theorem bOpen_any (X : BBook) (asked : Bool) (W : World) (h : BBookAt W X) (hg : Nothing W) :
  Calls Tryz.prog 31 #[X.val, .bool asked] W (OpenBP X asked W) := by
 have hk0 : Kept W ((W.alloc (Obj.cells #[.slice X.p X.B.boys.length X.cap, .int .i64 X.B.weeks, .slice X.q X.B.trials.length X.capt, .slice X.r X.pieces.length X.capp, .int .i64 X.most] 28)).alloc (Obj.cells #[.slice none 0 0, .int .i64 0, .slice none 0 0, .slice none 0 0, .int .i64 0, .map none, .nilFunc] 74)) := kept_alloc (kept_alloc (kept_refl _) _) _
 have ZZ : ∀ Z, Z = ((W.alloc (Obj.cells #[.slice X.p X.B.boys.length X.cap, .int .i64 X.B.weeks, .slice X.q X.B.trials.length X.capt, .slice X.r X.pieces.length X.capp, .int .i64 X.most] 28)).alloc (Obj.cells #[.slice none 0 0, .int .i64 0, .slice none 0 0, .slice none 0 0, .int .i64 0, .map none, .nilFunc] 74)) → Z.cell? ⟨W.heap.size, 0, none⟩ = some (.slice X.p X.B.boys.length X.cap) ∧ Z.cell? ⟨W.heap.size, 1, none⟩ = some (.int .i64 X.B.weeks) ∧ Z.cell? ⟨W.heap.size, 2, none⟩ = some (.slice X.q X.B.trials.length X.capt) ∧ Z.cell? ⟨W.heap.size, 3, none⟩ = some (.slice X.r X.pieces.length X.capp) ∧ Z.cell? ⟨W.heap.size, 4, none⟩ = some (.int .i64 X.most) ∧ Z.cell? ⟨W.heap.size + 1, 0, none⟩ = some (.slice none 0 0) ∧ Z.cell? ⟨W.heap.size + 1, 1, none⟩ = some (.int .i64 0) ∧ Z.cell? ⟨W.heap.size + 1, 2, none⟩ = some (.slice none 0 0) ∧ Z.cell? ⟨W.heap.size + 1, 3, none⟩ = some (.slice none 0 0) ∧ Z.cell? ⟨W.heap.size + 1, 4, none⟩ = some (.int .i64 0) ∧ Z.cell? ⟨W.heap.size + 1, 5, none⟩ = some (.map none) ∧ Z.cell? ⟨W.heap.size + 1, 6, none⟩ = some (.nilFunc) ∧ Z.frozen? ⟨W.heap.size + 1, 0, none⟩ = false ∧ Z.frozen? ⟨W.heap.size + 1, 1, none⟩ = false ∧ Z.frozen? ⟨W.heap.size + 1, 2, none⟩ = false ∧ Z.frozen? ⟨W.heap.size + 1, 3, none⟩ = false ∧ Z.frozen? ⟨W.heap.size + 1, 4, none⟩ = false ∧ Z.frozen? ⟨W.heap.size + 1, 5, none⟩ = false ∧ Z.frozen? ⟨W.heap.size + 1, 6, none⟩ = false := by rintro _ rfl; refine ⟨?_, ?_, ?_, ?_, ?_, ?_, ?_, ?_, ?_, ?_, ?_, ?_, ?_, ?_, ?_, ?_, ?_, ?_, ?_⟩ <;> go_simp
 obtain ⟨a0, a1, a2, a3, a4, d0, d1, d2, d3, d4, d5, d6, df0, df1, df2, df3, df4, df5, df6⟩ := ZZ _ rfl; clear ZZ
 have HC := Lib.hid (bCheck_any X ((W.alloc (Obj.cells #[.slice X.p X.B.boys.length X.cap, .int .i64 X.B.weeks, .slice X.q X.B.trials.length X.capt, .slice X.r X.pieces.length X.capp, .int .i64 X.most] 28)).alloc (Obj.cells #[.slice none 0 0, .int .i64 0, .slice none 0 0, .slice none 0 0, .int .i64 0, .map none, .nilFunc] 74)) (h.kept hk0))
 have HN := Lib.hid (fun V k (hok : X.okB = true) (hcan : Can X.B) => newStalls_any X V ⟨h.kept k, hg.kept k, hok, hcan⟩)
 have HR := Lib.hid (fun V k (hok : X.okB = true) => right_any X.p X.q X.cap X.capt X.B V (h.book.kept k) (hg.kept k) (okB_parts hok).1)
 clear h hg
 unfold BBook.val at *
 unfold Book.val at HR
 go_enter Tryz.func31, Tryz.ntmps31
 go_wp2_with fail
 generalize ((W.alloc (Obj.cells #[.slice X.p X.B.boys.length X.cap, .int .i64 X.B.weeks, .slice X.q X.B.trials.length X.capt, .slice X.r X.pieces.length X.capp, .int .i64 X.most] 28)).alloc (Obj.cells #[.slice none 0 0, .int .i64 0, .slice none 0 0, .slice none 0 0, .int .i64 0, .map none, .nilFunc] 74)) = V0 at *
 generalize hrb : W.heap.size + 1 = rb at *
 with_reducible refine HC.out.mono ?_
 rintro e V1 ⟨rfl, hk1⟩
 have hk01 := kept_trans hk0 hk1
 clear HC
 replace a0 := kcell hk1 a0
 replace a1 := kcell hk1 a1
 replace a2 := kcell hk1 a2
 replace a3 := kcell hk1 a3
 replace a4 := kcell hk1 a4
 replace df0 := (World.frozen?_of_block (a := ⟨rb, 0, none⟩) (hk1.block _ (Go.Ai.lt_of_cell d0))).trans df0
 replace df1 := (World.frozen?_of_block (a := ⟨rb, 1, none⟩) (hk1.block _ (Go.Ai.lt_of_cell d0))).trans df1
 replace df2 := (World.frozen?_of_block (a := ⟨rb, 2, none⟩) (hk1.block _ (Go.Ai.lt_of_cell d0))).trans df2
 replace df3 := (World.frozen?_of_block (a := ⟨rb, 3, none⟩) (hk1.block _ (Go.Ai.lt_of_cell d0))).trans df3
 replace df4 := (World.frozen?_of_block (a := ⟨rb, 4, none⟩) (hk1.block _ (Go.Ai.lt_of_cell d0))).trans df4
 replace df5 := (World.frozen?_of_block (a := ⟨rb, 5, none⟩) (hk1.block _ (Go.Ai.lt_of_cell d0))).trans df5
 replace df6 := (World.frozen?_of_block (a := ⟨rb, 6, none⟩) (hk1.block _ (Go.Ai.lt_of_cell d0))).trans df6
 replace d0 := kcell hk1 d0
 replace d1 := kcell hk1 d1
 replace d2 := kcell hk1 d2
 replace d3 := kcell hk1 d3
 replace d4 := kcell hk1 d4
 replace d5 := kcell hk1 d5
 replace d6 := kcell hk1 d6
 rcases hok : X.okB with _ | _
 ·have e70 : (if false = true then (0 : Int) else 70) = 70 := rfl
  rw [e70]
  have kW := hk01
  have HOK := Lib.hid hok; clear hok e70
  go_wp2_with fail
  have ZZ : ∀ Z, Z = (((((((V1.setCell ⟨rb, 0, none⟩ (.slice none 0 0)).setCell ⟨rb, 1, none⟩ (.int .i64 0)).setCell ⟨rb, 2, none⟩ (.slice none 0 0)).setCell ⟨rb, 3, none⟩ (.slice none 0 0)).setCell ⟨rb, 4, none⟩ (.int .i64 0)).setCell ⟨rb, 5, none⟩ (.map none)).setCell ⟨rb, 6, none⟩ (.nilFunc)) → Z.cell? ⟨rb, 0, none⟩ = some (.slice none 0 0) ∧ Z.cell? ⟨rb, 1, none⟩ = some (.int .i64 0) ∧ Z.cell? ⟨rb, 2, none⟩ = some (.slice none 0 0) ∧ Z.cell? ⟨rb, 3, none⟩ = some (.slice none 0 0) ∧ Z.cell? ⟨rb, 4, none⟩ = some (.int .i64 0) ∧ Z.cell? ⟨rb, 5, none⟩ = some (.map none) ∧ Z.cell? ⟨rb, 6, none⟩ = some (.nilFunc) := by rintro _ rfl; refine ⟨?_, ?_, ?_, ?_, ?_, ?_, ?_⟩ <;> go_simp
  obtain ⟨r0, r1, r2, r3, r4, r5, r6⟩ := ZZ _ rfl; clear ZZ
  have hTC : Turns (fun b => b = rb) V1 (((((((V1.setCell ⟨rb, 0, none⟩ (.slice none 0 0)).setCell ⟨rb, 1, none⟩ (.int .i64 0)).setCell ⟨rb, 2, none⟩ (.slice none 0 0)).setCell ⟨rb, 3, none⟩ (.slice none 0 0)).setCell ⟨rb, 4, none⟩ (.int .i64 0)).setCell ⟨rb, 5, none⟩ (.map none)).setCell ⟨rb, 6, none⟩ (.nilFunc)) := ((((((((Turns.refl (fun b => b = rb) V1).setCell rfl _ _).setCell rfl _ _).setCell rfl _ _).setCell rfl _ _).setCell rfl _ _).setCell rfl _ _).setCell rfl _ _)
  generalize (((((((V1.setCell ⟨rb, 0, none⟩ (.slice none 0 0)).setCell ⟨rb, 1, none⟩ (.int .i64 0)).setCell ⟨rb, 2, none⟩ (.slice none 0 0)).setCell ⟨rb, 3, none⟩ (.slice none 0 0)).setCell ⟨rb, 4, none⟩ (.int .i64 0)).setCell ⟨rb, 5, none⟩ (.map none)).setCell ⟨rb, 6, none⟩ (.nilFunc)) = C at *
  have kC : Kept W C := Below.trans kW (hTC.toBelow (n := W.heap.size) (by rintro b rfl; omega) kW.size)
  refine bodyPost_ret (v := .tuple #[.agg #[.slice none 0 0, .int .i64 0, .slice none 0 0, .slice none 0 0, .int .i64 0, .map none, .nilFunc], .int .i64 70]) (by simp [results, Tryz.results31, go_sem, r0, r1, r2, r3, r4, r5, r6]) rfl ?_
  exact ⟨_, _, rfl, kC, .inr ⟨rfl, .inl ⟨rfl, HOK.out⟩⟩⟩
 ·have e0 : (if true = true then (0 : Int) else 70) = 0 := rfl
  rw [e0]
  have HOK := Lib.hid hok; clear hok e0
  cases asked with
  | false =>
   have kW := hk01
   go_wp2_with fail
   have ZZ : ∀ Z, Z = (((((((V1.setCell ⟨rb, 0, none⟩ (.slice none 0 0)).setCell ⟨rb, 1, none⟩ (.int .i64 0)).setCell ⟨rb, 2, none⟩ (.slice none 0 0)).setCell ⟨rb, 3, none⟩ (.slice none 0 0)).setCell ⟨rb, 4, none⟩ (.int .i64 0)).setCell ⟨rb, 5, none⟩ (.map none)).setCell ⟨rb, 6, none⟩ (.nilFunc)) → Z.cell? ⟨rb, 0, none⟩ = some (.slice none 0 0) ∧ Z.cell? ⟨rb, 1, none⟩ = some (.int .i64 0) ∧ Z.cell? ⟨rb, 2, none⟩ = some (.slice none 0 0) ∧ Z.cell? ⟨rb, 3, none⟩ = some (.slice none 0 0) ∧ Z.cell? ⟨rb, 4, none⟩ = some (.int .i64 0) ∧ Z.cell? ⟨rb, 5, none⟩ = some (.map none) ∧ Z.cell? ⟨rb, 6, none⟩ = some (.nilFunc) := by rintro _ rfl; refine ⟨?_, ?_, ?_, ?_, ?_, ?_, ?_⟩ <;> go_simp
   obtain ⟨r0, r1, r2, r3, r4, r5, r6⟩ := ZZ _ rfl; clear ZZ
   have hTC : Turns (fun b => b = rb) V1 (((((((V1.setCell ⟨rb, 0, none⟩ (.slice none 0 0)).setCell ⟨rb, 1, none⟩ (.int .i64 0)).setCell ⟨rb, 2, none⟩ (.slice none 0 0)).setCell ⟨rb, 3, none⟩ (.slice none 0 0)).setCell ⟨rb, 4, none⟩ (.int .i64 0)).setCell ⟨rb, 5, none⟩ (.map none)).setCell ⟨rb, 6, none⟩ (.nilFunc)) := ((((((((Turns.refl (fun b => b = rb) V1).setCell rfl _ _).setCell rfl _ _).setCell rfl _ _).setCell rfl _ _).setCell rfl _ _).setCell rfl _ _).setCell rfl _ _)
   generalize (((((((V1.setCell ⟨rb, 0, none⟩ (.slice none 0 0)).setCell ⟨rb, 1, none⟩ (.int .i64 0)).setCell ⟨rb, 2, none⟩ (.slice none 0 0)).setCell ⟨rb, 3, none⟩ (.slice none 0 0)).setCell ⟨rb, 4, none⟩ (.int .i64 0)).setCell ⟨rb, 5, none⟩ (.map none)).setCell ⟨rb, 6, none⟩ (.nilFunc)) = C at *
   have kC : Kept W C := Below.trans kW (hTC.toBelow (n := W.heap.size) (by rintro b rfl; omega) kW.size)
   refine bodyPost_ret (v := .tuple #[.agg #[.slice none 0 0, .int .i64 0, .slice none 0 0, .slice none 0 0, .int .i64 0, .map none, .nilFunc], .int .i64 71]) (by simp [results, Tryz.results31, go_sem, r0, r1, r2, r3, r4, r5, r6]) rfl ?_
   exact ⟨_, _, rfl, kC, .inr ⟨rfl, .inr (.inl ⟨rfl, HOK.out, rfl⟩)⟩⟩
  | true =>
   go_wp2_with fail
   with_reducible refine (HR.out V1 hk01 HOK.out).mono ?_
   rintro e V2 ⟨r, rfl, hk2, hrc⟩
   have kW := kept_trans hk01 hk2
   replace a0 := kcell hk2 a0
   replace a1 := kcell hk2 a1
   replace a2 := kcell hk2 a2
   replace a3 := kcell hk2 a3
   replace a4 := kcell hk2 a4
   replace df0 := (World.frozen?_of_block (a := ⟨rb, 0, none⟩) (hk2.block _ (Go.Ai.lt_of_cell d0))).trans df0
   replace df1 := (World.frozen?_of_block (a := ⟨rb, 1, none⟩) (hk2.block _ (Go.Ai.lt_of_cell d0))).trans df1
   replace df2 := (World.frozen?_of_block (a := ⟨rb, 2, none⟩) (hk2.block _ (Go.Ai.lt_of_cell d0))).trans df2
   replace df3 := (World.frozen?_of_block (a := ⟨rb, 3, none⟩) (hk2.block _ (Go.Ai.lt_of_cell d0))).trans df3
   replace df4 := (World.frozen?_of_block (a := ⟨rb, 4, none⟩) (hk2.block _ (Go.Ai.lt_of_cell d0))).trans df4
   replace df5 := (World.frozen?_of_block (a := ⟨rb, 5, none⟩) (hk2.block _ (Go.Ai.lt_of_cell d0))).trans df5
   replace df6 := (World.frozen?_of_block (a := ⟨rb, 6, none⟩) (hk2.block _ (Go.Ai.lt_of_cell d0))).trans df6
   replace d0 := kcell hk2 d0
   replace d1 := kcell hk2 d1
   replace d2 := kcell hk2 d2
   replace d3 := kcell hk2 d3
   replace d4 := kcell hk2 d4
   replace d5 := kcell hk2 d5
   replace d6 := kcell hk2 d6
   have HRC := Lib.hid hrc; clear hrc
   cases r with
   | false =>
    go_wp2_with fail
    have ZZ : ∀ Z, Z = (((((((V2.setCell ⟨rb, 0, none⟩ (.slice none 0 0)).setCell ⟨rb, 1, none⟩ (.int .i64 0)).setCell ⟨rb, 2, none⟩ (.slice none 0 0)).setCell ⟨rb, 3, none⟩ (.slice none 0 0)).setCell ⟨rb, 4, none⟩ (.int .i64 0)).setCell ⟨rb, 5, none⟩ (.map none)).setCell ⟨rb, 6, none⟩ (.nilFunc)) → Z.cell? ⟨rb, 0, none⟩ = some (.slice none 0 0) ∧ Z.cell? ⟨rb, 1, none⟩ = some (.int .i64 0) ∧ Z.cell? ⟨rb, 2, none⟩ = some (.slice none 0 0) ∧ Z.cell? ⟨rb, 3, none⟩ = some (.slice none 0 0) ∧ Z.cell? ⟨rb, 4, none⟩ = some (.int .i64 0) ∧ Z.cell? ⟨rb, 5, none⟩ = some (.map none) ∧ Z.cell? ⟨rb, 6, none⟩ = some (.nilFunc) := by rintro _ rfl; refine ⟨?_, ?_, ?_, ?_, ?_, ?_, ?_⟩ <;> go_simp
    obtain ⟨r0, r1, r2, r3, r4, r5, r6⟩ := ZZ _ rfl; clear ZZ
    have hTC : Turns (fun b => b = rb) V2 (((((((V2.setCell ⟨rb, 0, none⟩ (.slice none 0 0)).setCell ⟨rb, 1, none⟩ (.int .i64 0)).setCell ⟨rb, 2, none⟩ (.slice none 0 0)).setCell ⟨rb, 3, none⟩ (.slice none 0 0)).setCell ⟨rb, 4, none⟩ (.int .i64 0)).setCell ⟨rb, 5, none⟩ (.map none)).setCell ⟨rb, 6, none⟩ (.nilFunc)) := ((((((((Turns.refl (fun b => b = rb) V2).setCell rfl _ _).setCell rfl _ _).setCell rfl _ _).setCell rfl _ _).setCell rfl _ _).setCell rfl _ _).setCell rfl _ _)
    generalize (((((((V2.setCell ⟨rb, 0, none⟩ (.slice none 0 0)).setCell ⟨rb, 1, none⟩ (.int .i64 0)).setCell ⟨rb, 2, none⟩ (.slice none 0 0)).setCell ⟨rb, 3, none⟩ (.slice none 0 0)).setCell ⟨rb, 4, none⟩ (.int .i64 0)).setCell ⟨rb, 5, none⟩ (.map none)).setCell ⟨rb, 6, none⟩ (.nilFunc)) = C at *
    have kC : Kept W C := Below.trans kW (hTC.toBelow (n := W.heap.size) (by rintro b rfl; omega) kW.size)
    refine bodyPost_ret (v := .tuple #[.agg #[.slice none 0 0, .int .i64 0, .slice none 0 0, .slice none 0 0, .int .i64 0, .map none, .nilFunc], .int .i64 72]) (by simp [results, Tryz.results31, go_sem, r0, r1, r2, r3, r4, r5, r6]) rfl ?_
    exact ⟨_, _, rfl, kC, .inr ⟨rfl, .inr (.inr ⟨rfl, HOK.out, rfl, fun hc => by have := HRC.out.2 hc; cases this⟩)⟩⟩
   | true =>
    go_wp2_with fail
    with_reducible refine (HN.out V2 kW HOK.out (HRC.out.1 (by trivial))).mono ?_
    rintro e V3 ⟨m, rfl, hk3, hst⟩
    have hzr : rb < V2.heap.size := Go.Ai.lt_of_cell d0
    have hmr : V2.heap.size ≤ m := hst.lo
    have kW2 := kept_trans kW hk3
    replace df0 := (World.frozen?_of_block (a := ⟨rb, 0, none⟩) (hk3.block _ (Go.Ai.lt_of_cell d0))).trans df0
    replace df1 := (World.frozen?_of_block (a := ⟨rb, 1, none⟩) (hk3.block _ (Go.Ai.lt_of_cell d0))).trans df1
    replace df2 := (World.frozen?_of_block (a := ⟨rb, 2, none⟩) (hk3.block _ (Go.Ai.lt_of_cell d0))).trans df2
    replace df3 := (World.frozen?_of_block (a := ⟨rb, 3, none⟩) (hk3.block _ (Go.Ai.lt_of_cell d0))).trans df3
    replace df4 := (World.frozen?_of_block (a := ⟨rb, 4, none⟩) (hk3.block _ (Go.Ai.lt_of_cell d0))).trans df4
    replace df5 := (World.frozen?_of_block (a := ⟨rb, 5, none⟩) (hk3.block _ (Go.Ai.lt_of_cell d0))).trans df5
    replace df6 := (World.frozen?_of_block (a := ⟨rb, 6, none⟩) (hk3.block _ (Go.Ai.lt_of_cell d0))).trans df6
    replace d0 := kcell hk3 d0
    replace d1 := kcell hk3 d1
    replace d2 := kcell hk3 d2
    replace d3 := kcell hk3 d3
    replace d4 := kcell hk3 d4
    replace d5 := kcell hk3 d5
    replace d6 := kcell hk3 d6
    have HST := Lib.hid hst; clear hst
    unfold BBook.sval noneOut
    go_wp2_with fail
    have ZZ : ∀ Z, Z = (((((((V3.setCell ⟨rb, 0, none⟩ (.slice X.p X.B.boys.length X.cap)).setCell ⟨rb, 1, none⟩ (.int .i64 X.B.weeks)).setCell ⟨rb, 2, none⟩ (.slice X.q X.B.trials.length X.capt)).setCell ⟨rb, 3, none⟩ (.slice X.r X.pieces.length X.capp)).setCell ⟨rb, 4, none⟩ (.int .i64 X.most)).setCell ⟨rb, 5, none⟩ (.map (some m))).setCell ⟨rb, 6, none⟩ (.func (.func 75) #[] #[])) → Z.cell? ⟨rb, 0, none⟩ = some (.slice X.p X.B.boys.length X.cap) ∧ Z.cell? ⟨rb, 1, none⟩ = some (.int .i64 X.B.weeks) ∧ Z.cell? ⟨rb, 2, none⟩ = some (.slice X.q X.B.trials.length X.capt) ∧ Z.cell? ⟨rb, 3, none⟩ = some (.slice X.r X.pieces.length X.capp) ∧ Z.cell? ⟨rb, 4, none⟩ = some (.int .i64 X.most) ∧ Z.cell? ⟨rb, 5, none⟩ = some (.map (some m)) ∧ Z.cell? ⟨rb, 6, none⟩ = some (.func (.func 75) #[] #[]) := by rintro _ rfl; refine ⟨?_, ?_, ?_, ?_, ?_, ?_, ?_⟩ <;> go_simp
    obtain ⟨r0, r1, r2, r3, r4, r5, r6⟩ := ZZ _ rfl; clear ZZ
    have hTC : Turns (fun b => b = rb) V3 (((((((V3.setCell ⟨rb, 0, none⟩ (.slice X.p X.B.boys.length X.cap)).setCell ⟨rb, 1, none⟩ (.int .i64 X.B.weeks)).setCell ⟨rb, 2, none⟩ (.slice X.q X.B.trials.length X.capt)).setCell ⟨rb, 3, none⟩ (.slice X.r X.pieces.length X.capp)).setCell ⟨rb, 4, none⟩ (.int .i64 X.most)).setCell ⟨rb, 5, none⟩ (.map (some m))).setCell ⟨rb, 6, none⟩ (.func (.func 75) #[] #[])) := ((((((((Turns.refl (fun b => b = rb) V3).setCell rfl _ _).setCell rfl _ _).setCell rfl _ _).setCell rfl _ _).setCell rfl _ _).setCell rfl _ _).setCell rfl _ _)
    generalize (((((((V3.setCell ⟨rb, 0, none⟩ (.slice X.p X.B.boys.length X.cap)).setCell ⟨rb, 1, none⟩ (.int .i64 X.B.weeks)).setCell ⟨rb, 2, none⟩ (.slice X.q X.B.trials.length X.capt)).setCell ⟨rb, 3, none⟩ (.slice X.r X.pieces.length X.capp)).setCell ⟨rb, 4, none⟩ (.int .i64 X.most)).setCell ⟨rb, 5, none⟩ (.map (some m))).setCell ⟨rb, 6, none⟩ (.func (.func 75) #[] #[])) = C at *
    have kC : Kept W C := Below.trans kW2 (hTC.toBelow (n := W.heap.size) (by rintro b rfl; omega) kW2.size)
    refine bodyPost_ret (v := .tuple #[.agg #[.slice X.p X.B.boys.length X.cap, .int .i64 X.B.weeks, .slice X.q X.B.trials.length X.capt, .slice X.r X.pieces.length X.capp, .int .i64 X.most, .map (some m), .func (.func 75) #[] #[]], .int .i64 0]) (by simp [results, Tryz.results31, go_sem, r0, r1, r2, r3, r4, r5, r6]) rfl ?_
    exact ⟨_, _, rfl, kC, .inl ⟨rfl, HOK.out, rfl, HRC.out.1 (by trivial), m, rfl, (HST.out.turns1 hTC hzr).mono (by have := kW.size; omega)⟩⟩
end Go.Proofs.YtcllfjjhijkakaaGreatDoor
