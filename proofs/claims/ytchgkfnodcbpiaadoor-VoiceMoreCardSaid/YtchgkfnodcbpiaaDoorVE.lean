/- A part of the proof: contracts of the program's functions for every input. No conditions. -/
import Derived.Test.YtchgkfnodcbpiaaDoorVD
import Derived.Laws.EntriesVeiled
import Derived.Test.YtchgkfnodcbpiaaDoorVC
set_option linter.all false
set_option linter.all false
namespace Go.Proofs.YtchgkfnodcbpiaaDoor
open Go.RowKit Go.Sort Go.Rg
set_option maxRecDepth 100000
attribute [local go_sem] Oper.semAt_some

/-- a function value that asks something of the truths of a boy -/
structure Asks (c : Choir) (boy : Nat) (x : Boy) (W : World) (g : Nat) (caps : Array Value) (sb : List Int → Bool) : Prop where
  enter : ∀ args w, (callFunc g args).run Tryd.prog w = .ok (.enter g args) w
  call : ∀ A n, Kept W A → n ∈ c.B.truths boy x → Calls Tryd.prog g (#[encT c boy n] ++ caps) A fun e B => e = .returned (.bool (sb n)) ∧ Kept A B

set_option maxHeartbeats 4000000 in
theorem inEach_any (S : Nat → Prop) (c : Choir) (boy : Nat) (x : Boy) (hx : c.B.boys[boy]? = some x) (W : World) (h : ChoirAt S W c) (hS : ∀ b, S b → b < W.heap.size)
    (g : Nat) (caps : Array Value) (sb : List Int → Bool) (hso : Asks c boy x W g caps sb) :
    Calls Tryd.prog 57 #[c.val, .int .i64 (boy : Int), .func (.func g) #[] caps] W fun e B => e = .returned (.bool ((c.B.truths boy x).all sb)) ∧ Kept W B := by
  refine callsIn_wide.1 (callsIn_of_wp_marks (n := 0) Tryd.func57 rfl trivial ?_ rfl)
  simp only [Tryd.ntmps57, List.size_toArray, List.length_cons, List.length_nil, Nat.reduceAdd, Nat.reduceSub, Array.replicate_succ, Array.replicate_zero, List.push_toArray, List.append_toArray, List.nil_append, List.cons_append]
  generalize hall : (c.B.truths boy x).all sb = RR
  unfold Choir.val
  gi_wp2_with fail
  have hk0 : Kept W (((W.alloc (Obj.cells #[.slice (some ⟨c.bb, c.ob, none⟩) c.B.boys.length c.capb, .int .i64 c.B.weeks, .slice c.q c.B.trials.length c.capt, .map (some c.bm)] 64)).alloc (Obj.cells #[.func (.func g) #[] caps] 78)).alloc (Obj.cells #[.bool false] 4)) := kept_alloc (kept_alloc (kept_alloc (kept_refl _) _) _) _
  have hz0 : (((W.alloc (Obj.cells #[.slice (some ⟨c.bb, c.ob, none⟩) c.B.boys.length c.capb, .int .i64 c.B.weeks, .slice c.q c.B.trials.length c.capt, .map (some c.bm)] 64)).alloc (Obj.cells #[.func (.func g) #[] caps] 78)).alloc (Obj.cells #[.bool false] 4)).heap.size = W.heap.size + 1 + 1 + 1 := by simp
  have s0 : (((W.alloc (Obj.cells #[.slice (some ⟨c.bb, c.ob, none⟩) c.B.boys.length c.capb, .int .i64 c.B.weeks, .slice c.q c.B.trials.length c.capt, .map (some c.bm)] 64)).alloc (Obj.cells #[.func (.func g) #[] caps] 78)).alloc (Obj.cells #[.bool false] 4)).cell? ⟨W.heap.size + 1, 0, none⟩ = some (.func (.func g) #[] caps) := by go_simp
  have r0 : (((W.alloc (Obj.cells #[.slice (some ⟨c.bb, c.ob, none⟩) c.B.boys.length c.capb, .int .i64 c.B.weeks, .slice c.q c.B.trials.length c.capt, .map (some c.bm)] 64)).alloc (Obj.cells #[.func (.func g) #[] caps] 78)).alloc (Obj.cells #[.bool false] 4)).cell? ⟨W.heap.size + 1 + 1, 0, none⟩ = some (.bool false) := by go_simp
  have rf : (((W.alloc (Obj.cells #[.slice (some ⟨c.bb, c.ob, none⟩) c.B.boys.length c.capb, .int .i64 c.B.weeks, .slice c.q c.B.trials.length c.capt, .map (some c.bm)] 64)).alloc (Obj.cells #[.func (.func g) #[] caps] 78)).alloc (Obj.cells #[.bool false] 4)).frozen? ⟨W.heap.size + 1 + 1, 0, none⟩ = false := by go_simp
  generalize (((W.alloc (Obj.cells #[.slice (some ⟨c.bb, c.ob, none⟩) c.B.boys.length c.capb, .int .i64 c.B.weeks, .slice c.q c.B.trials.length c.capt, .map (some c.bm)] 64)).alloc (Obj.cells #[.func (.func g) #[] caps] 78)).alloc (Obj.cells #[.bool false] 4)) = W1 at *
  have hcall := truths_any c boy W1
  unfold Choir.val at hcall
  refine ⟨trivial, rfl, (callsIn_wide.2 hcall).mono ?_⟩
  rintro e W2 ⟨rfl, hk2, hz2, d0, d1, d2, d3, d4⟩
  rw [hz0] at d0 d1 d2 d3 d4 hz2
  have HKW := Lib.hid (kept_trans hk0 hk2)
  have hat := truthsAt_of (h.turns (kturns hk0 (fun _ => False)) (fun _ _ h => h)) hk2 rfl d0 d1 d2 d3 d4
  have HAT := Lib.hid hat; clear hat
  have q0 := kcell hk2 r0
  have qf : W2.frozen? ⟨W.heap.size + 1 + 1, 0, none⟩ = false := ((kturns hk2 (fun _ => False)).frozen (by omega) (fun h => h)).trans rf
  have t0 := kcell hk2 s0
  clear hcall d0 d1 d2 d3 d4 r0 rf s0
  generalize hrb : W.heap.size + 1 + 1 = rb at *
  generalize hsb : W.heap.size + 1 = sbx at *
  gi_wp2_with fail
  refine wpIn_range (gf := 65) (lb := #[.pointer (some ⟨rb + 1, 0, none⟩), .pointer (some ⟨rb + 1 + 1, 0, none⟩)]) rfl (enters_of Tryd.func65 (by kernel_rfl) rfl)
    (truths1_gives S c boy x hx (rb + 1) (rb + 1 + 1)) rfl (fun b => b = rb) (by rintro b rfl; omega) ?hS (fun B hB => HAT.out.kept hB)
    (fun k T' A => T' = (fun b => b = rb) ∧ A.cell? ⟨rb, 0, none⟩ = some (.bool false) ∧ A.frozen? ⟨rb, 0, none⟩ = false ∧ ∀ i n, i < k → (c.B.truths boy x)[i]? = some n → sb n = true)
    (fun e k T' A => e = .ret ∧ T' = (fun b => b = rb) ∧ A.cell? ⟨rb, 0, none⟩ = some (.bool false) ∧ ∃ n, n ∈ c.B.truths boy x ∧ sb n = false)
    ?hI ?hIx ⟨rfl, q0, qf, fun i n hi => by omega⟩ ?round ?done ?stop
  case hS =>
    rintro b (hb | rfl | rfl)
    · have := hS b hb
      exact ⟨by omega, by omega⟩
    · exact ⟨by omega, by omega⟩
    · exact ⟨by omega, by omega⟩
  case hI =>
    rintro k T' A B ⟨rfl, h1, h2, h3⟩ hq
    have hb := Go.Ai.lt_of_cell h1
    exact ⟨rfl, (hq.cell hb (.inr rfl)).trans h1, (hq.frozen hb (.inr rfl)).trans h2, h3⟩
  case hIx =>
    rintro e k T' A B ⟨rfl, rfl, h1, h2⟩ hq
    exact ⟨rfl, rfl, (hq.cell (Go.Ai.lt_of_cell h1) (.inr rfl)).trans h1, h2⟩
  case round =>
    rintro l k n T' A hn hE hz hTA hl hlA hnl ⟨rfl, h1, h2, h3⟩
    have hmem := List.mem_of_getElem? hn
    obtain ⟨n0, n1, n2, n3, n4, rfl⟩ := truths_len hmem
    have hkA : Kept W A := Below.trans HKW.out (hTA.toBelow (n := W.heap.size) (by rintro b rfl; omega) (by omega))
    have H3 := Lib.hid h3; clear h3
    have HN := Lib.hid hn; clear hn
    simp only [encT, List.map_cons, List.map_nil, List.append_toArray, List.cons_append, List.nil_append, Choir.k0, Choir.k2, Choir.m]
    gi_wp2_with fail
    refine ⟨_, Ext.refl _ _, (Turns.refl _ _).alloc _, ?_⟩
    intro A2 hA2 hs2 r hr
    have z1 : rb < A.heap.size := Go.Ai.lt_of_cell h1
    have hk1 : Kept A (A.alloc (Obj.cells #[.slice (some ⟨c.bb, c.ob, none⟩) c.B.boys.length c.capb, .int .i64 c.B.weeks, .slice c.q c.B.trials.length c.capt, .map (some c.bm), .int .i64 (boy : Int), .int .i64 n0, .int .i64 n1, .int .i64 n2, .int .i64 n3, .int .i64 n4] 76)) := kept_alloc (kept_refl _) _
    have e0 := tcell hA2 (by omega) (show (A.alloc (Obj.cells #[.slice (some ⟨c.bb, c.ob, none⟩) c.B.boys.length c.capb, .int .i64 c.B.weeks, .slice c.q c.B.trials.length c.capt, .map (some c.bm), .int .i64 (boy : Int), .int .i64 n0, .int .i64 n1, .int .i64 n2, .int .i64 n3, .int .i64 n4] 76)).cell? ⟨A.heap.size, 0, none⟩ = some (.slice (some ⟨c.bb, c.ob, none⟩) c.B.boys.length c.capb) by go_simp)
    have e1 := tcell hA2 (by omega) (show (A.alloc (Obj.cells #[.slice (some ⟨c.bb, c.ob, none⟩) c.B.boys.length c.capb, .int .i64 c.B.weeks, .slice c.q c.B.trials.length c.capt, .map (some c.bm), .int .i64 (boy : Int), .int .i64 n0, .int .i64 n1, .int .i64 n2, .int .i64 n3, .int .i64 n4] 76)).cell? ⟨A.heap.size, 1, none⟩ = some (.int .i64 c.B.weeks) by go_simp)
    have e2 := tcell hA2 (by omega) (show (A.alloc (Obj.cells #[.slice (some ⟨c.bb, c.ob, none⟩) c.B.boys.length c.capb, .int .i64 c.B.weeks, .slice c.q c.B.trials.length c.capt, .map (some c.bm), .int .i64 (boy : Int), .int .i64 n0, .int .i64 n1, .int .i64 n2, .int .i64 n3, .int .i64 n4] 76)).cell? ⟨A.heap.size, 2, none⟩ = some (.slice c.q c.B.trials.length c.capt) by go_simp)
    have e3 := tcell hA2 (by omega) (show (A.alloc (Obj.cells #[.slice (some ⟨c.bb, c.ob, none⟩) c.B.boys.length c.capb, .int .i64 c.B.weeks, .slice c.q c.B.trials.length c.capt, .map (some c.bm), .int .i64 (boy : Int), .int .i64 n0, .int .i64 n1, .int .i64 n2, .int .i64 n3, .int .i64 n4] 76)).cell? ⟨A.heap.size, 3, none⟩ = some (.map (some c.bm)) by go_simp)
    have e4 := tcell hA2 (by omega) (show (A.alloc (Obj.cells #[.slice (some ⟨c.bb, c.ob, none⟩) c.B.boys.length c.capb, .int .i64 c.B.weeks, .slice c.q c.B.trials.length c.capt, .map (some c.bm), .int .i64 (boy : Int), .int .i64 n0, .int .i64 n1, .int .i64 n2, .int .i64 n3, .int .i64 n4] 76)).cell? ⟨A.heap.size, 4, none⟩ = some (.int .i64 (boy : Int)) by go_simp)
    have e5 := tcell hA2 (by omega) (show (A.alloc (Obj.cells #[.slice (some ⟨c.bb, c.ob, none⟩) c.B.boys.length c.capb, .int .i64 c.B.weeks, .slice c.q c.B.trials.length c.capt, .map (some c.bm), .int .i64 (boy : Int), .int .i64 n0, .int .i64 n1, .int .i64 n2, .int .i64 n3, .int .i64 n4] 76)).cell? ⟨A.heap.size, 5, none⟩ = some (.int .i64 n0) by go_simp)
    have e6 := tcell hA2 (by omega) (show (A.alloc (Obj.cells #[.slice (some ⟨c.bb, c.ob, none⟩) c.B.boys.length c.capb, .int .i64 c.B.weeks, .slice c.q c.B.trials.length c.capt, .map (some c.bm), .int .i64 (boy : Int), .int .i64 n0, .int .i64 n1, .int .i64 n2, .int .i64 n3, .int .i64 n4] 76)).cell? ⟨A.heap.size, 6, none⟩ = some (.int .i64 n1) by go_simp)
    have e7 := tcell hA2 (by omega) (show (A.alloc (Obj.cells #[.slice (some ⟨c.bb, c.ob, none⟩) c.B.boys.length c.capb, .int .i64 c.B.weeks, .slice c.q c.B.trials.length c.capt, .map (some c.bm), .int .i64 (boy : Int), .int .i64 n0, .int .i64 n1, .int .i64 n2, .int .i64 n3, .int .i64 n4] 76)).cell? ⟨A.heap.size, 7, none⟩ = some (.int .i64 n2) by go_simp)
    have e8 := tcell hA2 (by omega) (show (A.alloc (Obj.cells #[.slice (some ⟨c.bb, c.ob, none⟩) c.B.boys.length c.capb, .int .i64 c.B.weeks, .slice c.q c.B.trials.length c.capt, .map (some c.bm), .int .i64 (boy : Int), .int .i64 n0, .int .i64 n1, .int .i64 n2, .int .i64 n3, .int .i64 n4] 76)).cell? ⟨A.heap.size, 8, none⟩ = some (.int .i64 n3) by go_simp)
    have e9 := tcell hA2 (by omega) (show (A.alloc (Obj.cells #[.slice (some ⟨c.bb, c.ob, none⟩) c.B.boys.length c.capb, .int .i64 c.B.weeks, .slice c.q c.B.trials.length c.capt, .map (some c.bm), .int .i64 (boy : Int), .int .i64 n0, .int .i64 n1, .int .i64 n2, .int .i64 n3, .int .i64 n4] 76)).cell? ⟨A.heap.size, 9, none⟩ = some (.int .i64 n4) by go_simp)
    have p0 := tcell hA2 (by omega) (kcell hk1 h1)
    have pf : A2.frozen? ⟨rb, 0, none⟩ = false := (hA2.frozen (by simp; omega) (by omega)).trans (((kturns hk1 (fun _ => False)).frozen z1 (fun h => h)).trans h2)
    have f0 := tcell hA2 (by omega) (kcell hk1 (tcell hTA (by omega) t0))
    have hk3 : Kept W A2 := Below.trans (kept_trans hkA hk1) (hA2.toBelow (n := W.heap.size) (by rintro b rfl; omega) (by have := hkA.size; have := hk1.size; omega))
    have hcall := hso.call A2 _ hk3 hmem
    simp only [encT, List.map_cons, List.map_nil, List.append_toArray, List.cons_append, List.nil_append, Choir.k0, Choir.k2, Choir.m] at hcall
    have heg := hso.enter
    clear hA2 hr hk1 h1 h2
    gi_wp2_with fail
    refine ⟨trivial, rfl, (CallsIn.inRound _ (callsIn_wide.2 hcall)).mono ?_⟩
    rintro e A3 ⟨rfl, hk4⟩
    have p0 := kcell hk4 p0
    have pf : A3.frozen? ⟨rb, 0, none⟩ = false := ((kturns hk4 (fun _ => False)).frozen (by omega) (fun h => h)).trans pf
    clear e0 e1 e2 e3 e4 e5 e6 e7 e8 e9 f0 hcall heg
    rcases hv : sb [n0, n1, n2, n3, n4] with _ | _
    · have HV := Lib.hid hv; clear hv
      gi_wp2_with fail
      refine ⟨fun b => b = rb, Ext.refl _ _, ?_, Turns.setCell (T := fun b => b = rb) (kturns hk4 _) rfl _ _, rfl, rfl, ?_, _, hmem, HV.out⟩
      · rintro b rfl
        have := hk4.size
        simp; omega
      · exact cell_set_eq p0
    · have HV := Lib.hid hv; clear hv
      gi_wp2_with fail
      refine ⟨fun b => b = rb, Ext.refl _ _, ?_, kturns hk4 _, rfl, p0, pf, ?_⟩
      · rintro b rfl
        have := hk4.size
        omega
      · intro i m hi hm
        by_cases e : i = k
        · subst e; rw [HN.out] at hm; cases hm; exact HV.out
        · exact H3.out i m (by omega) hm
  case done =>
    rintro Db T' B hDb hnD hE hTB ⟨rfl, h1, h2, h3⟩ hK
    have hkB : Below W.heap.size W B := Below.trans HKW.out (hTB.toBelow (n := W.heap.size) (by rintro b rfl; omega) (by omega))
    have hRR : RR = true := by
      rw [← hall, List.all_eq_true]
      intro n hn
      obtain ⟨i, hi, rfl⟩ := List.getElem_of_mem hn
      exact h3 i _ hi (List.getElem?_eq_getElem hi)
    have hzR := Go.Ai.lt_of_cell h1
    clear h3
    gi_wp2_with fail
    have hT5 : Turns (fun b => b = rb) B (B.setCell ⟨rb, 0, none⟩ (.bool true)) := (Turns.refl (fun b => b = rb) B).setCell rfl _ _
    have hc5 : (B.setCell ⟨rb, 0, none⟩ (.bool true)).cell? ⟨rb, 0, none⟩ = some (.bool true) := cell_set_eq h1
    generalize B.setCell ⟨rb, 0, none⟩ (.bool true) = B5 at *
    have hK5 := (hT5.block Db (Array.getElem?_eq_some_iff.1 hK).1 hnD).trans hK
    refine leave_mark (v := .bool true) hK5 fun C hC hCT => ?_
    have q0 := tcell hCT (Ne.symm hnD) hc5
    refine ⟨by simp [results, Tryd.results57, go_sem, q0], rfl, ?_⟩
    exact Below.trans (Below.trans hkB (hT5.toBelow (by rintro b rfl; omega) (by have := hkB.size; omega))) (hCT.toBelow (by rintro b rfl; omega) (by have := hkB.size; have := hT5.size; omega))
  case stop =>
    rintro Db e k T' B hDb hnD hE hTB hk ⟨rfl, rfl, h1, n, hn, hno⟩ hK
    have hkB : Below W.heap.size W B := Below.trans HKW.out (hTB.toBelow (n := W.heap.size) (by rintro b rfl; omega) (by omega))
    have hRR : RR = false := by
      rw [← hall, List.all_eq_false]
      exact ⟨n, hn, by simp [hno]⟩
    gi_wp2_with fail
    refine leave_mark (v := .bool false) hK fun C hC hCT => ?_
    have q0 := tcell hCT (Ne.symm hnD) h1
    refine ⟨by simp [results, Tryd.results57, go_sem, q0], rfl, ?_⟩
    exact Below.trans hkB (hCT.toBelow (by rintro b rfl; omega) (by have := hkB.size; omega))
end Go.Proofs.YtchgkfnodcbpiaaDoor
set_option linter.all false
namespace Go.Proofs.YtchgkfnodcbpiaaDoor
open Go.RowKit Go.Sort Go.Rg
set_option maxRecDepth 100000
attribute [local go_sem] Oper.semAt_some

set_option maxHeartbeats 4000000 in
theorem inSome_any (S : Nat → Prop) (c : Choir) (boy : Nat) (x : Boy) (hx : c.B.boys[boy]? = some x) (W : World) (h : ChoirAt S W c) (hS : ∀ b, S b → b < W.heap.size)
    (g : Nat) (caps : Array Value) (sb : List Int → Bool) (hso : Asks c boy x W g caps sb) :
    Calls Tryd.prog 58 #[c.val, .int .i64 (boy : Int), .func (.func g) #[] caps] W fun e B => e = .returned (.bool ((c.B.truths boy x).any sb)) ∧ Kept W B := by
  refine callsIn_wide.1 (callsIn_of_wp_marks (n := 0) Tryd.func58 rfl trivial ?_ rfl)
  simp only [Tryd.ntmps58, List.size_toArray, List.length_cons, List.length_nil, Nat.reduceAdd, Nat.reduceSub, Array.replicate_succ, Array.replicate_zero, List.push_toArray, List.append_toArray, List.nil_append, List.cons_append]
  generalize hany : (c.B.truths boy x).any sb = RR
  unfold Choir.val
  gi_wp2_with fail
  have hk0 : Kept W (((W.alloc (Obj.cells #[.slice (some ⟨c.bb, c.ob, none⟩) c.B.boys.length c.capb, .int .i64 c.B.weeks, .slice c.q c.B.trials.length c.capt, .map (some c.bm)] 64)).alloc (Obj.cells #[.func (.func g) #[] caps] 78)).alloc (Obj.cells #[.bool false] 4)) := kept_alloc (kept_alloc (kept_alloc (kept_refl _) _) _) _
  have hz0 : (((W.alloc (Obj.cells #[.slice (some ⟨c.bb, c.ob, none⟩) c.B.boys.length c.capb, .int .i64 c.B.weeks, .slice c.q c.B.trials.length c.capt, .map (some c.bm)] 64)).alloc (Obj.cells #[.func (.func g) #[] caps] 78)).alloc (Obj.cells #[.bool false] 4)).heap.size = W.heap.size + 1 + 1 + 1 := by simp
  have s0 : (((W.alloc (Obj.cells #[.slice (some ⟨c.bb, c.ob, none⟩) c.B.boys.length c.capb, .int .i64 c.B.weeks, .slice c.q c.B.trials.length c.capt, .map (some c.bm)] 64)).alloc (Obj.cells #[.func (.func g) #[] caps] 78)).alloc (Obj.cells #[.bool false] 4)).cell? ⟨W.heap.size + 1, 0, none⟩ = some (.func (.func g) #[] caps) := by go_simp
  have r0 : (((W.alloc (Obj.cells #[.slice (some ⟨c.bb, c.ob, none⟩) c.B.boys.length c.capb, .int .i64 c.B.weeks, .slice c.q c.B.trials.length c.capt, .map (some c.bm)] 64)).alloc (Obj.cells #[.func (.func g) #[] caps] 78)).alloc (Obj.cells #[.bool false] 4)).cell? ⟨W.heap.size + 1 + 1, 0, none⟩ = some (.bool false) := by go_simp
  have rf : (((W.alloc (Obj.cells #[.slice (some ⟨c.bb, c.ob, none⟩) c.B.boys.length c.capb, .int .i64 c.B.weeks, .slice c.q c.B.trials.length c.capt, .map (some c.bm)] 64)).alloc (Obj.cells #[.func (.func g) #[] caps] 78)).alloc (Obj.cells #[.bool false] 4)).frozen? ⟨W.heap.size + 1 + 1, 0, none⟩ = false := by go_simp
  generalize (((W.alloc (Obj.cells #[.slice (some ⟨c.bb, c.ob, none⟩) c.B.boys.length c.capb, .int .i64 c.B.weeks, .slice c.q c.B.trials.length c.capt, .map (some c.bm)] 64)).alloc (Obj.cells #[.func (.func g) #[] caps] 78)).alloc (Obj.cells #[.bool false] 4)) = W1 at *
  have hcall := truths_any c boy W1
  unfold Choir.val at hcall
  refine ⟨trivial, rfl, (callsIn_wide.2 hcall).mono ?_⟩
  rintro e W2 ⟨rfl, hk2, hz2, d0, d1, d2, d3, d4⟩
  rw [hz0] at d0 d1 d2 d3 d4 hz2
  have HKW := Lib.hid (kept_trans hk0 hk2)
  have hat := truthsAt_of (h.turns (kturns hk0 (fun _ => False)) (fun _ _ h => h)) hk2 rfl d0 d1 d2 d3 d4
  have HAT := Lib.hid hat; clear hat
  have q0 := kcell hk2 r0
  have qf : W2.frozen? ⟨W.heap.size + 1 + 1, 0, none⟩ = false := ((kturns hk2 (fun _ => False)).frozen (by omega) (fun h => h)).trans rf
  have t0 := kcell hk2 s0
  clear hcall d0 d1 d2 d3 d4 r0 rf s0
  generalize hrb : W.heap.size + 1 + 1 = rb at *
  generalize hsb : W.heap.size + 1 = sbx at *
  gi_wp2_with fail
  refine wpIn_range (gf := 65) (lb := #[.pointer (some ⟨rb + 1, 0, none⟩), .pointer (some ⟨rb + 1 + 1, 0, none⟩)]) rfl (enters_of Tryd.func65 (by kernel_rfl) rfl)
    (truths1_gives S c boy x hx (rb + 1) (rb + 1 + 1)) rfl (fun b => b = rb) (by rintro b rfl; omega) ?hS (fun B hB => HAT.out.kept hB)
    (fun k T' A => T' = (fun b => b = rb) ∧ A.cell? ⟨rb, 0, none⟩ = some (.bool false) ∧ A.frozen? ⟨rb, 0, none⟩ = false ∧ ∀ i n, i < k → (c.B.truths boy x)[i]? = some n → sb n = false)
    (fun e k T' A => e = .ret ∧ T' = (fun b => b = rb) ∧ A.cell? ⟨rb, 0, none⟩ = some (.bool true) ∧ ∃ n, n ∈ c.B.truths boy x ∧ sb n = true)
    ?hI ?hIx ⟨rfl, q0, qf, fun i n hi => by omega⟩ ?round ?done ?stop
  case hS =>
    rintro b (hb | rfl | rfl)
    · have := hS b hb
      exact ⟨by omega, by omega⟩
    · exact ⟨by omega, by omega⟩
    · exact ⟨by omega, by omega⟩
  case hI =>
    rintro k T' A B ⟨rfl, h1, h2, h3⟩ hq
    have hb := Go.Ai.lt_of_cell h1
    exact ⟨rfl, (hq.cell hb (.inr rfl)).trans h1, (hq.frozen hb (.inr rfl)).trans h2, h3⟩
  case hIx =>
    rintro e k T' A B ⟨rfl, rfl, h1, h2⟩ hq
    exact ⟨rfl, rfl, (hq.cell (Go.Ai.lt_of_cell h1) (.inr rfl)).trans h1, h2⟩
  case round =>
    rintro l k n T' A hn hE hz hTA hl hlA hnl ⟨rfl, h1, h2, h3⟩
    have hmem := List.mem_of_getElem? hn
    obtain ⟨n0, n1, n2, n3, n4, rfl⟩ := truths_len hmem
    have hkA : Kept W A := Below.trans HKW.out (hTA.toBelow (n := W.heap.size) (by rintro b rfl; omega) (by omega))
    have H3 := Lib.hid h3; clear h3
    have HN := Lib.hid hn; clear hn
    simp only [encT, List.map_cons, List.map_nil, List.append_toArray, List.cons_append, List.nil_append, Choir.k0, Choir.k2, Choir.m]
    gi_wp2_with fail
    refine ⟨_, Ext.refl _ _, (Turns.refl _ _).alloc _, ?_⟩
    intro A2 hA2 hs2 r hr
    have z1 : rb < A.heap.size := Go.Ai.lt_of_cell h1
    have hk1 : Kept A (A.alloc (Obj.cells #[.slice (some ⟨c.bb, c.ob, none⟩) c.B.boys.length c.capb, .int .i64 c.B.weeks, .slice c.q c.B.trials.length c.capt, .map (some c.bm), .int .i64 (boy : Int), .int .i64 n0, .int .i64 n1, .int .i64 n2, .int .i64 n3, .int .i64 n4] 76)) := kept_alloc (kept_refl _) _
    have e0 := tcell hA2 (by omega) (show (A.alloc (Obj.cells #[.slice (some ⟨c.bb, c.ob, none⟩) c.B.boys.length c.capb, .int .i64 c.B.weeks, .slice c.q c.B.trials.length c.capt, .map (some c.bm), .int .i64 (boy : Int), .int .i64 n0, .int .i64 n1, .int .i64 n2, .int .i64 n3, .int .i64 n4] 76)).cell? ⟨A.heap.size, 0, none⟩ = some (.slice (some ⟨c.bb, c.ob, none⟩) c.B.boys.length c.capb) by go_simp)
    have e1 := tcell hA2 (by omega) (show (A.alloc (Obj.cells #[.slice (some ⟨c.bb, c.ob, none⟩) c.B.boys.length c.capb, .int .i64 c.B.weeks, .slice c.q c.B.trials.length c.capt, .map (some c.bm), .int .i64 (boy : Int), .int .i64 n0, .int .i64 n1, .int .i64 n2, .int .i64 n3, .int .i64 n4] 76)).cell? ⟨A.heap.size, 1, none⟩ = some (.int .i64 c.B.weeks) by go_simp)
    have e2 := tcell hA2 (by omega) (show (A.alloc (Obj.cells #[.slice (some ⟨c.bb, c.ob, none⟩) c.B.boys.length c.capb, .int .i64 c.B.weeks, .slice c.q c.B.trials.length c.capt, .map (some c.bm), .int .i64 (boy : Int), .int .i64 n0, .int .i64 n1, .int .i64 n2, .int .i64 n3, .int .i64 n4] 76)).cell? ⟨A.heap.size, 2, none⟩ = some (.slice c.q c.B.trials.length c.capt) by go_simp)
    have e3 := tcell hA2 (by omega) (show (A.alloc (Obj.cells #[.slice (some ⟨c.bb, c.ob, none⟩) c.B.boys.length c.capb, .int .i64 c.B.weeks, .slice c.q c.B.trials.length c.capt, .map (some c.bm), .int .i64 (boy : Int), .int .i64 n0, .int .i64 n1, .int .i64 n2, .int .i64 n3, .int .i64 n4] 76)).cell? ⟨A.heap.size, 3, none⟩ = some (.map (some c.bm)) by go_simp)
    have e4 := tcell hA2 (by omega) (show (A.alloc (Obj.cells #[.slice (some ⟨c.bb, c.ob, none⟩) c.B.boys.length c.capb, .int .i64 c.B.weeks, .slice c.q c.B.trials.length c.capt, .map (some c.bm), .int .i64 (boy : Int), .int .i64 n0, .int .i64 n1, .int .i64 n2, .int .i64 n3, .int .i64 n4] 76)).cell? ⟨A.heap.size, 4, none⟩ = some (.int .i64 (boy : Int)) by go_simp)
    have e5 := tcell hA2 (by omega) (show (A.alloc (Obj.cells #[.slice (some ⟨c.bb, c.ob, none⟩) c.B.boys.length c.capb, .int .i64 c.B.weeks, .slice c.q c.B.trials.length c.capt, .map (some c.bm), .int .i64 (boy : Int), .int .i64 n0, .int .i64 n1, .int .i64 n2, .int .i64 n3, .int .i64 n4] 76)).cell? ⟨A.heap.size, 5, none⟩ = some (.int .i64 n0) by go_simp)
    have e6 := tcell hA2 (by omega) (show (A.alloc (Obj.cells #[.slice (some ⟨c.bb, c.ob, none⟩) c.B.boys.length c.capb, .int .i64 c.B.weeks, .slice c.q c.B.trials.length c.capt, .map (some c.bm), .int .i64 (boy : Int), .int .i64 n0, .int .i64 n1, .int .i64 n2, .int .i64 n3, .int .i64 n4] 76)).cell? ⟨A.heap.size, 6, none⟩ = some (.int .i64 n1) by go_simp)
    have e7 := tcell hA2 (by omega) (show (A.alloc (Obj.cells #[.slice (some ⟨c.bb, c.ob, none⟩) c.B.boys.length c.capb, .int .i64 c.B.weeks, .slice c.q c.B.trials.length c.capt, .map (some c.bm), .int .i64 (boy : Int), .int .i64 n0, .int .i64 n1, .int .i64 n2, .int .i64 n3, .int .i64 n4] 76)).cell? ⟨A.heap.size, 7, none⟩ = some (.int .i64 n2) by go_simp)
    have e8 := tcell hA2 (by omega) (show (A.alloc (Obj.cells #[.slice (some ⟨c.bb, c.ob, none⟩) c.B.boys.length c.capb, .int .i64 c.B.weeks, .slice c.q c.B.trials.length c.capt, .map (some c.bm), .int .i64 (boy : Int), .int .i64 n0, .int .i64 n1, .int .i64 n2, .int .i64 n3, .int .i64 n4] 76)).cell? ⟨A.heap.size, 8, none⟩ = some (.int .i64 n3) by go_simp)
    have e9 := tcell hA2 (by omega) (show (A.alloc (Obj.cells #[.slice (some ⟨c.bb, c.ob, none⟩) c.B.boys.length c.capb, .int .i64 c.B.weeks, .slice c.q c.B.trials.length c.capt, .map (some c.bm), .int .i64 (boy : Int), .int .i64 n0, .int .i64 n1, .int .i64 n2, .int .i64 n3, .int .i64 n4] 76)).cell? ⟨A.heap.size, 9, none⟩ = some (.int .i64 n4) by go_simp)
    have p0 := tcell hA2 (by omega) (kcell hk1 h1)
    have pf : A2.frozen? ⟨rb, 0, none⟩ = false := (hA2.frozen (by simp; omega) (by omega)).trans (((kturns hk1 (fun _ => False)).frozen z1 (fun h => h)).trans h2)
    have f0 := tcell hA2 (by omega) (kcell hk1 (tcell hTA (by omega) t0))
    have hk3 : Kept W A2 := Below.trans (kept_trans hkA hk1) (hA2.toBelow (n := W.heap.size) (by rintro b rfl; omega) (by have := hkA.size; have := hk1.size; omega))
    have hcall := hso.call A2 _ hk3 hmem
    simp only [encT, List.map_cons, List.map_nil, List.append_toArray, List.cons_append, List.nil_append, Choir.k0, Choir.k2, Choir.m] at hcall
    have heg := hso.enter
    clear hA2 hr hk1 h1 h2
    gi_wp2_with fail
    refine ⟨trivial, rfl, (CallsIn.inRound _ (callsIn_wide.2 hcall)).mono ?_⟩
    rintro e A3 ⟨rfl, hk4⟩
    have p0 := kcell hk4 p0
    have pf : A3.frozen? ⟨rb, 0, none⟩ = false := ((kturns hk4 (fun _ => False)).frozen (by omega) (fun h => h)).trans pf
    clear e0 e1 e2 e3 e4 e5 e6 e7 e8 e9 f0 hcall heg
    rcases hv : sb [n0, n1, n2, n3, n4] with _ | _
    · have HV := Lib.hid hv; clear hv
      gi_wp2_with fail
      refine ⟨fun b => b = rb, Ext.refl _ _, ?_, kturns hk4 _, rfl, p0, pf, ?_⟩
      · rintro b rfl
        have := hk4.size
        omega
      · intro i m hi hm
        by_cases e : i = k
        · subst e; rw [HN.out] at hm; cases hm; exact HV.out
        · exact H3.out i m (by omega) hm
    · have HV := Lib.hid hv; clear hv
      gi_wp2_with fail
      refine ⟨fun b => b = rb, Ext.refl _ _, ?_, Turns.setCell (T := fun b => b = rb) (kturns hk4 _) rfl _ _, rfl, rfl, ?_, _, hmem, HV.out⟩
      · rintro b rfl
        have := hk4.size
        simp; omega
      · exact cell_set_eq p0
  case done =>
    rintro Db T' B hDb hnD hE hTB ⟨rfl, h1, h2, h3⟩ hK
    have hkB : Below W.heap.size W B := Below.trans HKW.out (hTB.toBelow (n := W.heap.size) (by rintro b rfl; omega) (by omega))
    have hRR : RR = false := by
      rw [← hany, List.any_eq_false]
      intro n hn
      obtain ⟨i, hi, rfl⟩ := List.getElem_of_mem hn
      simp [h3 i _ hi (List.getElem?_eq_getElem hi)]
    have hzR := Go.Ai.lt_of_cell h1
    clear h3
    gi_wp2_with fail
    have hT5 : Turns (fun b => b = rb) B (B.setCell ⟨rb, 0, none⟩ (.bool false)) := (Turns.refl (fun b => b = rb) B).setCell rfl _ _
    have hc5 : (B.setCell ⟨rb, 0, none⟩ (.bool false)).cell? ⟨rb, 0, none⟩ = some (.bool false) := cell_set_eq h1
    generalize B.setCell ⟨rb, 0, none⟩ (.bool false) = B5 at *
    have hK5 := (hT5.block Db (Array.getElem?_eq_some_iff.1 hK).1 hnD).trans hK
    refine leave_mark (v := .bool false) hK5 fun C hC hCT => ?_
    have q0 := tcell hCT (Ne.symm hnD) hc5
    refine ⟨by simp [results, Tryd.results58, go_sem, q0], rfl, ?_⟩
    exact Below.trans (Below.trans hkB (hT5.toBelow (by rintro b rfl; omega) (by have := hkB.size; omega))) (hCT.toBelow (by rintro b rfl; omega) (by have := hkB.size; have := hT5.size; omega))
  case stop =>
    rintro Db e k T' B hDb hnD hE hTB hk ⟨rfl, rfl, h1, n, hn, hno⟩ hK
    have hkB : Below W.heap.size W B := Below.trans HKW.out (hTB.toBelow (n := W.heap.size) (by rintro b rfl; omega) (by omega))
    have hRR : RR = true := by
      rw [← hany, List.any_eq_true]
      exact ⟨n, hn, hno⟩
    gi_wp2_with fail
    refine leave_mark (v := .bool true) hK fun C hC hCT => ?_
    have q0 := tcell hCT (Ne.symm hnD) h1
    refine ⟨by simp [results, Tryd.results58, go_sem, q0], rfl, ?_⟩
    exact Below.trans hkB (hCT.toBelow (by rintro b rfl; omega) (by have := hkB.size; omega))
end Go.Proofs.YtchgkfnodcbpiaaDoor
set_option linter.all false
namespace Go.Proofs.YtchgkfnodcbpiaaDoor
open Go.RowKit Go.Sort Go.Rg
set_option maxRecDepth 100000

theorem Asks.kept {c : Choir} {boy : Nat} {x : Boy} {W V : World} {g : Nat} {caps : Array Value} {sb : List Int → Bool} (h : Asks c boy x W g caps sb) (k : Kept W V) : Asks c boy x V g caps sb :=
  ⟨h.enter, fun A n hA hn => h.call A n (kept_trans k hA) hn⟩
theorem oidx0 (w : World) : (Instr.index 97 (.agg #[.int .i64 2, .func (.func 57) #[] #[], .int .i64 1, .func (.func 58) #[] #[]]) (.int .i64 0)).run Tryd.prog w = .ok (.agg #[.int .i64 2, .func (.func 57) #[] #[]]) w := by kernel_rfl
theorem oidx1 (w : World) : (Instr.index 97 (.agg #[.int .i64 2, .func (.func 57) #[] #[], .int .i64 1, .func (.func 58) #[] #[]]) (.int .i64 1)).run Tryd.prog w = .ok (.agg #[.int .i64 1, .func (.func 58) #[] #[]]) w := by kernel_rfl
attribute [local go_sem] oidx0 oidx1
def oftenOf (l : List (List Int)) (sb : List Int → Bool) : Int := if l.all sb then 2 else if l.any sb then 1 else 0

set_option maxHeartbeats 4000000 in
theorem often_any (S : Nat → Prop) (c : Choir) (boy : Nat) (x : Boy) (hx : c.B.boys[boy]? = some x) (W : World) (h : ChoirAt S W c) (hS : ∀ b, S b → b < W.heap.size)
    (g : Nat) (caps : Array Value) (sb : List Int → Bool) (hso : Asks c boy x W g caps sb) :
    Calls Tryd.prog 38 #[c.val, .int .i64 (boy : Int), .func (.func g) #[] caps] W fun e B => e = .returned (.int .i64 (oftenOf (c.B.truths boy x) sb)) ∧ Kept W B := by
  have hE := fun V (k : Kept W V) => inEach_any S c boy x hx V (h.turns (kturns k (fun _ => False)) (fun _ _ h => h)) (fun b hb => Nat.lt_of_lt_of_le (hS b hb) k.size) g caps sb (hso.kept k)
  have hI := fun V (k : Kept W V) => inSome_any S c boy x hx V (h.turns (kturns k (fun _ => False)) (fun _ _ h => h)) (fun b hb => Nat.lt_of_lt_of_le (hS b hb) k.size) g caps sb (hso.kept k)
  generalize hRR : oftenOf (c.B.truths boy x) sb = RR
  generalize hall : (c.B.truths boy x).all sb = al at *
  generalize hany : (c.B.truths boy x).any sb = an at *
  have HRR : Hid (RR = if al then 2 else if an then 1 else 0) := Lib.hid (by rw [← hRR, ← hall, ← hany]; rfl)
  clear hRR hall hany
  unfold Choir.val at *
  go_enter Tryd.func38, Tryd.ntmps38
  go_wp2_with fail
  have hk0 : Kept W ((W.alloc (Obj.cells #[.slice (some ⟨c.bb, c.ob, none⟩) c.B.boys.length c.capb, .int .i64 c.B.weeks, .slice c.q c.B.trials.length c.capt, .map (some c.bm)] 64)).alloc (Obj.cells #[.int .i64 2, .func (.func 57) #[] #[], .int .i64 1, .func (.func 58) #[] #[]] 97)) := kept_alloc (kept_alloc (kept_refl _) _) _
  have c0 : ((W.alloc (Obj.cells #[.slice (some ⟨c.bb, c.ob, none⟩) c.B.boys.length c.capb, .int .i64 c.B.weeks, .slice c.q c.B.trials.length c.capt, .map (some c.bm)] 64)).alloc (Obj.cells #[.int .i64 2, .func (.func 57) #[] #[], .int .i64 1, .func (.func 58) #[] #[]] 97)).cell? ⟨W.heap.size, 0, none⟩ = some (.slice (some ⟨c.bb, c.ob, none⟩) c.B.boys.length c.capb) := by go_simp
  have c1 : ((W.alloc (Obj.cells #[.slice (some ⟨c.bb, c.ob, none⟩) c.B.boys.length c.capb, .int .i64 c.B.weeks, .slice c.q c.B.trials.length c.capt, .map (some c.bm)] 64)).alloc (Obj.cells #[.int .i64 2, .func (.func 57) #[] #[], .int .i64 1, .func (.func 58) #[] #[]] 97)).cell? ⟨W.heap.size, 1, none⟩ = some (.int .i64 c.B.weeks) := by go_simp
  have c2 : ((W.alloc (Obj.cells #[.slice (some ⟨c.bb, c.ob, none⟩) c.B.boys.length c.capb, .int .i64 c.B.weeks, .slice c.q c.B.trials.length c.capt, .map (some c.bm)] 64)).alloc (Obj.cells #[.int .i64 2, .func (.func 57) #[] #[], .int .i64 1, .func (.func 58) #[] #[]] 97)).cell? ⟨W.heap.size, 2, none⟩ = some (.slice c.q c.B.trials.length c.capt) := by go_simp
  have c3 : ((W.alloc (Obj.cells #[.slice (some ⟨c.bb, c.ob, none⟩) c.B.boys.length c.capb, .int .i64 c.B.weeks, .slice c.q c.B.trials.length c.capt, .map (some c.bm)] 64)).alloc (Obj.cells #[.int .i64 2, .func (.func 57) #[] #[], .int .i64 1, .func (.func 58) #[] #[]] 97)).cell? ⟨W.heap.size, 3, none⟩ = some (.map (some c.bm)) := by go_simp
  generalize ((W.alloc (Obj.cells #[.slice (some ⟨c.bb, c.ob, none⟩) c.B.boys.length c.capb, .int .i64 c.B.weeks, .slice c.q c.B.trials.length c.capt, .map (some c.bm)] 64)).alloc (Obj.cells #[.int .i64 2, .func (.func 57) #[] #[], .int .i64 1, .func (.func 58) #[] #[]] 97)) = V0 at *
  have HEI := Lib.hid (And.intro hE hI); clear hE hI
  clear hso
  go_loopw [14] (fun i V => ∃ j : Nat, j ≤ 2 ∧ i = .int .i64 j ∧ (1 ≤ j → al = false) ∧ (2 ≤ j → an = false) ∧ Kept V0 V) (fun i V => 2 - (intOf i).toNat)
  case atStart => exact ⟨0, by omega, rfl, (fun h => by omega), (fun h => by omega), kept_refl _⟩
  case round =>
    obtain ⟨j, hj, rfl, hal, han, hV⟩ := hrel
    have HAL := Lib.hid (And.intro hal han); clear hal han
    have hkV := kept_trans hk0 hV
    rcases (show j = 0 ∨ j = 1 ∨ j = 2 by omega) with rfl | rfl | rfl
    · have hltI : ((0 : Nat) : Int) < 2 := by omega
      have a0 := kcell hV c0
      have a1 := kcell hV c1
      have a2 := kcell hV c2
      have a3 := kcell hV c3
      have hzz := Go.Ai.lt_of_cell a0
      simp only [Int.natCast_zero] at hltI ⊢
      go_wp2_with fail
      refine (HEI.out.1 _ (kept_trans hkV (kept_alloc (kept_refl _) _))).mono ?_
      rintro e V2 ⟨rfl, hk2⟩
      have hk3 := kept_trans (kept_alloc (kept_refl _) _) hk2
      have hb0 := kcell hk2 (show (wr.alloc (Obj.cells #[.int .i64 2, .func (.func 57) #[] #[]] 96)).cell? ⟨wr.heap.size, 0, none⟩ = some (.int .i64 2) by go_simp)
      clear a0 a1 a2 a3
      cases al with
      | true =>
        go_wp2_with fail
        go_ret
        exact ⟨by rw [HRR.out]; rfl, kept_trans hkV hk3⟩
      | false =>
        go_wp2_with fail
        go_roundw
        case rel => exact ⟨1, by omega, by go_num, (fun _ => by simp), (fun h => by omega), kept_trans hV hk3⟩
        case measure => simp [intOf]
    · have hltI : ((1 : Nat) : Int) < 2 := by omega
      have a0 := kcell hV c0
      have a1 := kcell hV c1
      have a2 := kcell hV c2
      have a3 := kcell hV c3
      have hzz := Go.Ai.lt_of_cell a0
      go_wp2_with fail
      refine (HEI.out.2 _ (kept_trans hkV (kept_alloc (kept_refl _) _))).mono ?_
      rintro e V2 ⟨rfl, hk2⟩
      have hk3 := kept_trans (kept_alloc (kept_refl _) _) hk2
      have hb0 := kcell hk2 (show (wr.alloc (Obj.cells #[.int .i64 1, .func (.func 58) #[] #[]] 96)).cell? ⟨wr.heap.size, 0, none⟩ = some (.int .i64 1) by go_simp)
      have hal := HAL.out.1 (by omega)
      clear a0 a1 a2 a3
      cases an with
      | true =>
        go_wp2_with fail
        go_ret
        exact ⟨by rw [HRR.out, hal]; rfl, kept_trans hkV hk3⟩
      | false =>
        go_wp2_with fail
        go_roundw
        case rel => exact ⟨2, by omega, by go_num, (fun _ => by simpa using hal), (fun _ => by simp), kept_trans hV hk3⟩
        case measure => simp [intOf]
    · have hltI : ¬ ((2 : Nat) : Int) < 2 := by omega
      go_wp2_with fail
      go_ret
      exact ⟨by rw [HRR.out, HAL.out.1 (by omega), HAL.out.2 (by omega)]; rfl, hkV⟩
end Go.Proofs.YtchgkfnodcbpiaaDoor
set_option linter.all false
namespace Go.Proofs.YtchgkfnodcbpiaaDoor
open Go.RowKit Go.Sort Go.Rg
set_option maxRecDepth 100000

theorem infoI : (Tryd.prog.info? 3).map (fun i => (i.zero, i.size, i.bytes)) = some (some (.int .i64 0), 1, 8) := by kernel_rfl
theorem row_le {w : World} {base base' size n : Nat} {e : TypeId} {v : Value} {xs : List Value} (h : w.ownsRow base e size v n xs) (hb : base' ≤ base) : w.ownsRow base' e size v n xs :=
  ⟨h.1, h.2.imp id fun ⟨g, cap, cur, e1, e2, r⟩ => ⟨g, cap, cur, e1, Nat.le_trans hb e2, r⟩⟩
def surelyB (B : Book) (sb : Nat → List Int → Bool) (boy : Nat) : Bool := match B.boys[boy]? with
  | some x => (B.truths boy x).all (sb boy)
  | none => false
def surelyL (B : Book) (sb : Nat → List Int → Bool) (n : Nat) : List Nat := (List.range n).filter (surelyB B sb)
def intsV (l : List Nat) : List Value := l.map fun b : Nat => .int .i64 (b : Int)
theorem surelyL_succ (B : Book) (sb : Nat → List Int → Bool) (n : Nat) : surelyL B sb (n + 1) = surelyL B sb n ++ (if surelyB B sb n then [n] else []) := by
  unfold surelyL
  rw [List.range_succ, List.filter_append]
  congr 1
  simp only [List.filter_cons, List.filter_nil]
theorem surelyL_len (B : Book) (sb : Nat → List Int → Bool) (n : Nat) : (surelyL B sb n).length ≤ n := by
  have := List.length_filter_le (surelyB B sb) (List.range n)
  simpa [surelyL] using this

set_option maxHeartbeats 4000000 in
theorem surely_any (S : Nat → Prop) (c : Choir) (W : World) (h : ChoirAt S W c) (hS : ∀ b, S b → b < W.heap.size)
    (g : Nat) (caps : Array Value) (sb : Nat → List Int → Bool) (hso : ∀ boy x, c.B.boys[boy]? = some x → Asks c boy x W g caps (sb boy)) :
    Calls Tryd.prog 46 #[c.val, .func (.func g) #[] caps] W fun e B => ∃ v, e = .returned v ∧ Kept W B ∧ B.ownsRow W.heap.size 3 1 v (surelyL c.B sb c.B.boys.length).length (intsV (surelyL c.B sb c.B.boys.length)) := by
  have hlen : c.B.boys.length ≤ 4 := by
    have := h.ok
    simp only [Book.okB, inB, Bool.and_eq_true, decide_eq_true_eq] at this
    omega
  have hof := fun V (k : Kept W V) boy x (hx : c.B.boys[boy]? = some x) => often_any S c boy x hx V (h.turns (kturns k (fun _ => False)) (fun _ _ h => h)) (fun b hb => Nat.lt_of_lt_of_le (hS b hb) k.size) g caps (sb boy) ((hso boy x hx).kept k)
  have HOF := Lib.hid hof; clear hof hso
  obtain ⟨i0, hi, hiz, his, hib⟩ := info_parts infoI
  unfold Choir.val at HOF
  unfold Choir.val
  have hk0 : Kept W (W.alloc (Obj.cells #[.slice (some ⟨c.bb, c.ob, none⟩) c.B.boys.length c.capb, .int .i64 c.B.weeks, .slice c.q c.B.trials.length c.capt, .map (some c.bm)] 64)) := kept_alloc (kept_refl _) _
  have hz0 : (W.alloc (Obj.cells #[.slice (some ⟨c.bb, c.ob, none⟩) c.B.boys.length c.capb, .int .i64 c.B.weeks, .slice c.q c.B.trials.length c.capt, .map (some c.bm)] 64)).heap.size = W.heap.size + 1 := by simp
  have c0 : (W.alloc (Obj.cells #[.slice (some ⟨c.bb, c.ob, none⟩) c.B.boys.length c.capb, .int .i64 c.B.weeks, .slice c.q c.B.trials.length c.capt, .map (some c.bm)] 64)).cell? ⟨W.heap.size, 0, none⟩ = some (.slice (some ⟨c.bb, c.ob, none⟩) c.B.boys.length c.capb) := by go_simp
  have c1 : (W.alloc (Obj.cells #[.slice (some ⟨c.bb, c.ob, none⟩) c.B.boys.length c.capb, .int .i64 c.B.weeks, .slice c.q c.B.trials.length c.capt, .map (some c.bm)] 64)).cell? ⟨W.heap.size, 1, none⟩ = some (.int .i64 c.B.weeks) := by go_simp
  have c2 : (W.alloc (Obj.cells #[.slice (some ⟨c.bb, c.ob, none⟩) c.B.boys.length c.capb, .int .i64 c.B.weeks, .slice c.q c.B.trials.length c.capt, .map (some c.bm)] 64)).cell? ⟨W.heap.size, 2, none⟩ = some (.slice c.q c.B.trials.length c.capt) := by go_simp
  have c3 : (W.alloc (Obj.cells #[.slice (some ⟨c.bb, c.ob, none⟩) c.B.boys.length c.capb, .int .i64 c.B.weeks, .slice c.q c.B.trials.length c.capt, .map (some c.bm)] 64)).cell? ⟨W.heap.size, 3, none⟩ = some (.map (some c.bm)) := by go_simp
  go_enter Tryd.func46, Tryd.ntmps46
  go_wp2_with fail
  generalize W.alloc (Obj.cells #[.slice (some ⟨c.bb, c.ob, none⟩) c.B.boys.length c.capb, .int .i64 c.B.weeks, .slice c.q c.B.trials.length c.capt, .map (some c.bm)] 64) = V0 at *
  go_loopw [5, 11] (fun v i V => ∃ j : Nat, j ≤ c.B.boys.length ∧ i = .int .i64 j ∧ V.ownsRow V0.heap.size 3 1 v (surelyL c.B sb j).length (intsV (surelyL c.B sb j)) ∧ Kept V0 V) (fun v i V => c.B.boys.length - (intOf i).toNat)
  case atStart => exact ⟨0, by omega, rfl, World.ownsRow_nil _ _ _ _, kept_refl _⟩
  case round =>
    obtain ⟨j, hj, rfl, hrow, hV⟩ := hrel
    have hkV := kept_trans hk0 hV
    by_cases hlt : j < c.B.boys.length
    · have hltI : (j : Int) < c.B.boys.length := by omega
      have hget : c.B.boys[j]? = some c.B.boys[j] := List.getElem?_eq_getElem hlt
      generalize c.B.boys[j] = x at *
      have a0 := kcell hV c0
      have a1 := kcell hV c1
      have a2 := kcell hV c2
      have a3 := kcell hV c3
      have hslen := surelyL_len c.B sb j
      have hsb : surelyB c.B sb j = (c.B.truths j x).all (sb j) := by simp [surelyB, hget]
      go_wp2_with fail
      refine (HOF.out _ hkV j x hget).mono ?_
      rintro e V2 ⟨rfl, hk2⟩
      have hrow2 := hrow.kept (row := none) ⟨hk2.os, hk2.tape, hk2.output, hk2.size, fun i hi _ => hk2.block i hi⟩ (by cases u5.ownBlock <;> simp)
      have hkV2 := kept_trans hV hk2
      clear a0 a1 a2 a3
      rcases hal : (c.B.truths j x).all (sb j) with _ | _
      · have hL : surelyL c.B sb (j + 1) = surelyL c.B sb j := by rw [surelyL_succ, hsb, hal]; simp
        have HL := Lib.hid hL; clear hL
        have HROW := Lib.hid hrow2; clear hrow2 hrow
        rcases hof : (c.B.truths j x).any (sb j) with _ | _
        · have ho : oftenOf (c.B.truths j x) (sb j) = 0 := by unfold oftenOf; rw [hal, hof]; rfl
          rw [ho]
          clear hsb hal hof ho
          go_wp2_with fail
          go_roundw
          case rel => exact ⟨j + 1, by omega, by go_num, by rw [HL.out]; exact HROW.out, hkV2⟩
          case measure => simp [intOf]; omega
        · have ho : oftenOf (c.B.truths j x) (sb j) = 1 := by unfold oftenOf; rw [hal, hof]; rfl
          rw [ho]
          clear hsb hal hof ho
          go_wp2_with fail
          go_roundw
          case rel => exact ⟨j + 1, by omega, by go_num, by rw [HL.out]; exact HROW.out, hkV2⟩
          case measure => simp [intOf]; omega
      · have hL : surelyL c.B sb (j + 1) = surelyL c.B sb j ++ [j] := by rw [surelyL_succ, hsb, hal]; simp
        have HL := Lib.hid hL; clear hL
        have ho : oftenOf (c.B.truths j x) (sb j) = 2 := by unfold oftenOf; rw [hal]; rfl
        rw [ho]
        clear hsb hal ho hrow
        have hbase : V0.heap.size ≤ V2.heap.size := hkV2.size
        go_wp2_with (at_builtin; refine wpList_append_lies _ rfl _ _ 45 rfl V0.heap.size 3 i0 _ 1 8 Tryd.underlying45 hi hiz his hib rfl (by decide) u5 (surelyL c.B sb j).length _ rfl (hrow2.alloc _) ⟨V2.heap.size, 0, none⟩ 1 1 [.int .i64 (j : Int)] rfl rfl (cell_one_new _ _ _) (by simp [Value.oneCell']) (by decide) (by unfold maxLen; omega) (by omega) (by simp; omega) _ rfl ?_; intro g2 cap2 V3 hown hgrow hat hlt3)
        have hkV3 : Kept V0 V3 := by
          refine Below.trans (kept_trans hkV2 (kept_alloc (kept_refl _) (Obj.cells #[.int .i64 (j : Int)] 3))) ⟨hgrow.os, hgrow.tape, hgrow.output, hgrow.size, fun k hk => hgrow.block k (by simp; omega) (fun e => ?_)⟩
          have := (hrow2.lt k e.symm).1
          omega
        go_roundw
        case rel =>
          refine ⟨j + 1, by omega, by go_num, ?_, hkV3⟩
          rw [HL.out]
          simpa [intsV] using hown
        case measure => simp [intOf]; omega
    · have hltI : ¬ (j : Int) < c.B.boys.length := by omega
      have hje : j = c.B.boys.length := by omega
      go_wp2_with fail
      go_ret
      refine ⟨_, rfl, hkV, ?_⟩
      rw [← hje]
      exact row_le hrow (by omega)
end Go.Proofs.YtchgkfnodcbpiaaDoor
set_option linter.all false
namespace Go.Proofs.YtchgkfnodcbpiaaDoor
open Go.RowKit Go.Sort Go.Rg
set_option maxRecDepth 100000
attribute [local go_sem] Oper.semAt_some

/-- a function value that tells a number of the truths of a boy -/
structure Tells (c : Choir) (boy : Nat) (x : Boy) (W : World) (g : Nat) (caps : Array Value) (f : List Int → Int × Bool) : Prop where
  enter : ∀ args w, (callFunc g args).run Tryd.prog w = .ok (.enter g args) w
  call : ∀ A n, Kept W A → n ∈ c.B.truths boy x → Calls Tryd.prog g (#[encT c boy n] ++ caps) A fun e B => e = .returned (.tuple #[.int .i64 (f n).1, .bool (f n).2]) ∧ Kept A B
def spanStep (s : Int × Int × Bool) (n : Int) : Int × Int × Bool :=
  if s.2.2 then (min s.1 n, max s.2.1 n, true) else (n, n, true)
def spanAcc (f : List Int → Int × Bool) (s : Int × Int × Bool) (n : List Int) : Int × Int × Bool := if (f n).2 then spanStep s (f n).1 else s
def spanOf (f : List Int → Int × Bool) (l : List (List Int)) : Int × Int × Bool := l.foldl (spanAcc f) (0, 0, false)

/-- the world while the new span is reckoned -/
def SpanW (V : World) (sp : Nat) (m M fn : Int) (b3 b10 : Bool) : World :=
  let w := if b3 then V.drew.alloc (Obj.cells #[.int .i64 fn] 3) else V.drew
  if b10 then (w.setCell ⟨sp, 0, none⟩ (.int .i64 m)).setCell ⟨sp, 1, none⟩ (.int .i64 M) else w
def SpanCW (V : World) (sp : Nat) (m M fn : Int) (listed : Array Bool) (w : World) : Prop :=
  (on listed 10 = true → ∀ j, j < 10 → on listed j = true) ∧ w = SpanW V sp m M fn (on listed 3) (on listed 10)
def spanVs (N sp : Nat) (lo hi fn : Int) : Nat → Value
  | 0 => .pointer (some ⟨sp, 0, none⟩)
  | 1 => .int .i64 lo
  | 2 => .int .i64 fn
  | 3 => .slice (some ⟨N, 0, none⟩) 1 1
  | 4 => .int .i64 (min lo fn)
  | 5 => .pointer (some ⟨sp, 1, none⟩)
  | 6 => .int .i64 hi
  | 7 => .int .i64 fn
  | 8 => .int .i64 (max hi fn)
  | 9 => .agg #[.int .i64 (min lo fn), .int .i64 (max hi fn)]
  | _ => undef

theorem cell_alloc_new (V : World) (v : Value) (t : TypeId) : (V.alloc (Obj.cells #[v] t)).cell? ⟨V.heap.size, 0, none⟩ = some v := by go_simp

set_option maxHeartbeats 4000000 in
theorem span_region (l : Nat) (a0 : Act) (V : World) (sp : Nat) (lo hi fn : Int) (Q : Exit → Act → World → Prop) (h6 : a0.tmps.getD 6 undef = .pointer (some ⟨sp, 0, none⟩)) (h9 : a0.tmps.getD 9 undef = .int .i64 fn) (hz : a0.tmps.size = 40)
    (p0 : V.cell? ⟨sp, 0, none⟩ = some (.int .i64 lo)) (p1 : V.cell? ⟨sp, 1, none⟩ = some (.int .i64 hi)) (pf0 : V.frozen? ⟨sp, 0, none⟩ = false) (pf1 : V.frozen? ⟨sp, 1, none⟩ = false)
    (hend : ∀ a, Q .normal a (SpanW V sp (min lo fn) (max hi fn) fn true true)) :
    (Code.region 7 #[{ dst := some 28, op := Op.fieldAddr 38 (Operand.tmp 6) 0, type := 0, pos := "ask.go:20", after := #[], guard := none }, { dst := some 29, op := Op.load 3 (Operand.tmp 28), type := 3, pos := "ask.go:20", after := #[{ on := 0, ground := Ground.data }], guard := none }, { dst := some 30, op := Op.move (Operand.tmp 9), type := 3, pos := "ask.go:20", after := #[], guard := none }, { dst := some 31, op := Op.buildSlice 45 1 #[(0, Operand.tmp 30)], type := 45, pos := "ask.go:20", after := #[{ on := 2, ground := Ground.data }], guard := none }, { dst := some 32, op := Op.call { callee := Callee.value (Operand.func 59), args := #[Operand.tmp 29, Operand.tmp 31], argTypes := #[3, 45] }, type := 3, pos := "ask.go:20", after := #[{ on := 1, ground := Ground.data }, { on := 3, ground := Ground.data }], guard := none }, { dst := some 33, op := Op.fieldAddr 38 (Operand.tmp 6) 1, type := 0, pos := "ask.go:20", after := #[], guard := none }, { dst := some 34, op := Op.load 3 (Operand.tmp 33), type := 3, pos := "ask.go:20", after := #[{ on := 5, ground := Ground.data }], guard := none }, { dst := some 35, op := Op.move (Operand.tmp 9), type := 3, pos := "ask.go:20", after := #[], guard := none }, { dst := some 36, op := Op.call { callee := Callee.builtin Builtin.max, args := #[Operand.tmp 34, Operand.tmp 35], argTypes := #[3, 3] }, type := 3, pos := "ask.go:20", after := #[{ on := 6, ground := Ground.data }, { on := 7, ground := Ground.data }], guard := none }, { dst := some 37, op := Op.build 38 #[(0, Operand.tmp 32), (1, Operand.tmp 36)], type := 38, pos := "ask.go:20", after := #[{ on := 4, ground := Ground.data }, { on := 8, ground := Ground.data }], guard := none }, { dst := none, op := Op.store 38 (Operand.tmp 6) (Operand.tmp 37), type := 0, pos := "ask.go:20", after := #[{ on := 9, ground := Ground.data }, { on := 4, ground := Ground.chain }, { on := 0, ground := Ground.phase }, { on := 1, ground := Ground.phase }, { on := 2, ground := Ground.phase }, { on := 3, ground := Ground.phase }, { on := 4, ground := Ground.phase }, { on := 5, ground := Ground.phase }, { on := 6, ground := Ground.phase }, { on := 7, ground := Ground.phase }, { on := 8, ground := Ground.phase }, { on := 9, ground := Ground.phase }], guard := none }] true).wpIn (Fence.wide.inRound l) 0 Tryd.prog Q a0 V := by
  refine wpIn_region_states (spanVs V.heap.size sp lo hi fn) (SpanCW V sp (min lo fn) (max hi fn) fn) (by kernel_rfl) (by kernel_rfl) ⟨(fun h => by cases h), rfl⟩ ?hop ?hend
  case hop =>
    have z3 : sp < V.heap.size := Go.Ai.lt_of_cell p0
    have kb : ∀ b, Kept V (SpanW V sp (min lo fn) (max hi fn) fn b false) := by
      intro b; cases b
      · exact kept_drew (kept_refl _)
      · exact kept_alloc (kept_drew (kept_refl _)) _
    intro i o listed a w hl ho h1 h2 ha hw
    have hi11 : i < 11 := (List.getElem?_eq_some_iff.1 ho).1
    have hno := on_no h1
    obtain ⟨hc, rfl⟩ := hw
    have n10 : on listed 10 = false := by
      cases hb : on listed 10 with
      | false => rfl
      | true =>
        by_cases e : i = 10
        · rw [e, hb] at hno; cases hno
        · have := hc hb i (by omega); rw [this] at hno; cases hno
    have stay : i ≠ 3 → i ≠ 10 → SpanCW V sp (min lo fn) (max hi fn) fn (listed.setIfInBounds i true) (SpanW V sp (min lo fn) (max hi fn) fn (on listed 3) false) := fun h3 h10 =>
      ⟨fun h => (by rw [on_set (Ne.symm h10), n10] at h; cases h), by rw [on_set (Ne.symm h3), on_set (Ne.symm h10), n10]⟩
    rw [n10]
    clear hc
    have gr : ∀ b o v, V.cell? ⟨sp, o, none⟩ = some v → (SpanW V sp (min lo fn) (max hi fn) fn b false).cell? ⟨sp, o, none⟩ = some v := fun b o v h => kcell (kb b) h
    match i, ho with
    | 0, ho =>
      cases ho
      have st := stay (by omega) (by omega)
      have t6 := (ha.old 6 (by kernel_rfl)).trans h6
      generalize SpanW V sp (min lo fn) (max hi fn) fn (on listed 3) false = w at *
      clear stay gr kb
      go_simp
      first | done | rfl | exact ⟨rfl, st⟩
    | 1, ho =>
      cases ho
      have st := stay (by omega) (by omega)
      have t28 := ha.new 0 (h2 ⟨0, .data⟩ (by simp) rfl) (d := 28) rfl rfl (by rw [hz]; decide)
      simp [spanVs] at t28
      have c := gr (on listed 3) 0 _ p0
      generalize SpanW V sp (min lo fn) (max hi fn) fn (on listed 3) false = w at *
      clear stay gr kb
      go_simp
      first | done | rfl | exact ⟨rfl, st⟩
    | 2, ho =>
      cases ho
      have st := stay (by omega) (by omega)
      have t9 := (ha.old 9 (by kernel_rfl)).trans h9
      generalize SpanW V sp (min lo fn) (max hi fn) fn (on listed 3) false = w at *
      clear stay gr kb
      go_simp
      first | done | rfl | exact ⟨rfl, st⟩
    | 3, ho =>
      cases ho
      have t30 := ha.new 2 (h2 ⟨2, .data⟩ (by simp) rfl) (d := 30) rfl rfl (by rw [hz]; decide)
      simp [spanVs] at t30
      rw [hno]
      have hsz : (SpanW V sp (min lo fn) (max hi fn) fn false false).heap.size = V.heap.size := rfl
      have hal : SpanCW V sp (min lo fn) (max hi fn) fn (listed.setIfInBounds 3 true) ((SpanW V sp (min lo fn) (max hi fn) fn false false).alloc (Obj.cells #[.int .i64 fn] 3)) :=
        ⟨fun h => (by rw [on_set (by omega), n10] at h; cases h), by rw [on_self (by rw [hl]; simp), on_set (by omega), n10]; rfl⟩
      generalize SpanW V sp (min lo fn) (max hi fn) fn false false = w at *
      clear stay gr kb
      go_simp
      first | done | rfl | exact ⟨rfl, hal⟩
    | 4, ho =>
      cases ho
      have st := stay (by omega) (by omega)
      have t29 := ha.new 1 (h2 ⟨1, .data⟩ (by simp) rfl) (d := 29) rfl rfl (by rw [hz]; decide)
      simp [spanVs] at t29
      have t31 := ha.new 3 (h2 ⟨3, .data⟩ (by simp) rfl) (d := 31) rfl rfl (by rw [hz]; decide)
      simp [spanVs] at t31
      have h3 : on listed 3 = true := h2 ⟨3, .data⟩ (by simp) rfl
      rw [h3] at st ⊢
      have cn : (SpanW V sp (min lo fn) (max hi fn) fn true false).cell? ⟨V.heap.size, 0, none⟩ = some (.int .i64 fn) := cell_alloc_new V.drew _ _
      generalize SpanW V sp (min lo fn) (max hi fn) fn true false = w at *
      have hle := least2 lo fn ⟨V.heap.size, 0, none⟩ w cn
      clear stay gr kb
      go_simp
      refine ⟨trivial, rfl, (CallsIn.inRound _ (callsIn_wide.2 hle)).mono ?_⟩
      rintro e w' ⟨rfl, rfl⟩
      first | exact ⟨rfl, st⟩
    | 5, ho =>
      cases ho
      have st := stay (by omega) (by omega)
      have t6 := (ha.old 6 (by kernel_rfl)).trans h6
      generalize SpanW V sp (min lo fn) (max hi fn) fn (on listed 3) false = w at *
      clear stay gr kb
      go_simp
      first | done | rfl | exact ⟨rfl, st⟩
    | 6, ho =>
      cases ho
      have st := stay (by omega) (by omega)
      have t33 := ha.new 5 (h2 ⟨5, .data⟩ (by simp) rfl) (d := 33) rfl rfl (by rw [hz]; decide)
      simp [spanVs] at t33
      have c := gr (on listed 3) 1 _ p1
      generalize SpanW V sp (min lo fn) (max hi fn) fn (on listed 3) false = w at *
      clear stay gr kb
      go_simp
      first | done | rfl | exact ⟨rfl, st⟩
    | 7, ho =>
      cases ho
      have st := stay (by omega) (by omega)
      have t9 := (ha.old 9 (by kernel_rfl)).trans h9
      generalize SpanW V sp (min lo fn) (max hi fn) fn (on listed 3) false = w at *
      clear stay gr kb
      go_simp
      first | done | rfl | exact ⟨rfl, st⟩
    | 8, ho =>
      cases ho
      have st := stay (by omega) (by omega)
      have t34 := ha.new 6 (h2 ⟨6, .data⟩ (by simp) rfl) (d := 34) rfl rfl (by rw [hz]; decide)
      simp [spanVs] at t34
      have t35 := ha.new 7 (h2 ⟨7, .data⟩ (by simp) rfl) (d := 35) rfl rfl (by rw [hz]; decide)
      simp [spanVs] at t35
      generalize SpanW V sp (min lo fn) (max hi fn) fn (on listed 3) false = w at *
      clear stay gr kb
      go_simp
      have hmx : (if hi < fn then fn else hi) = max hi fn := by split <;> omega
      rw [hmx]; rfl
    | 9, ho =>
      cases ho
      have st := stay (by omega) (by omega)
      have t32 := ha.new 4 (h2 ⟨4, .data⟩ (by simp) rfl) (d := 32) rfl rfl (by rw [hz]; decide)
      simp [spanVs] at t32
      have t36 := ha.new 8 (h2 ⟨8, .data⟩ (by simp) rfl) (d := 36) rfl rfl (by rw [hz]; decide)
      simp [spanVs] at t36
      generalize SpanW V sp (min lo fn) (max hi fn) fn (on listed 3) false = w at *
      clear stay gr kb
      go_simp
      first | done | rfl | exact ⟨rfl, st⟩
    | 10, ho =>
      cases ho
      have t6 := (ha.old 6 (by kernel_rfl)).trans h6
      have t37 := ha.new 9 (h2 ⟨9, .data⟩ (by simp) rfl) (d := 37) rfl rfl (by rw [hz]; decide)
      simp [spanVs] at t37
      have h3 : on listed 3 = true := h2 ⟨3, .phase⟩ (by simp) rfl
      have c0 := gr true 0 _ p0
      have c1 := gr true 1 _ p1
      have cf0 : (SpanW V sp (min lo fn) (max hi fn) fn true false).frozen? ⟨sp, 0, none⟩ = false := ((kturns (kb true) (fun _ => False)).frozen z3 (fun h => h)).trans pf0
      have cf1 : (SpanW V sp (min lo fn) (max hi fn) fn true false).frozen? ⟨sp, 1, none⟩ = false := ((kturns (kb true) (fun _ => False)).frozen z3 (fun h => h)).trans pf1
      have st : SpanCW V sp (min lo fn) (max hi fn) fn (listed.setIfInBounds 10 true) (((SpanW V sp (min lo fn) (max hi fn) fn true false).setCell ⟨sp, 0, none⟩ (.int .i64 (min lo fn))).setCell ⟨sp, 1, none⟩ (.int .i64 (max hi fn))) := by
        refine ⟨fun _ j hj => ?_, by rw [on_set (by omega), on_self (by rw [hl]; simp), h3]; rfl⟩
        rw [on_set (by omega)]
        match j, hj with
        | 0, _ => exact h2 ⟨0, .phase⟩ (by simp) rfl
        | 1, _ => exact h2 ⟨1, .phase⟩ (by simp) rfl
        | 2, _ => exact h2 ⟨2, .phase⟩ (by simp) rfl
        | 3, _ => exact h2 ⟨3, .phase⟩ (by simp) rfl
        | 4, _ => exact h2 ⟨4, .phase⟩ (by simp) rfl
        | 5, _ => exact h2 ⟨5, .phase⟩ (by simp) rfl
        | 6, _ => exact h2 ⟨6, .phase⟩ (by simp) rfl
        | 7, _ => exact h2 ⟨7, .phase⟩ (by simp) rfl
        | 8, _ => exact h2 ⟨8, .phase⟩ (by simp) rfl
        | 9, _ => exact h2 ⟨9, .phase⟩ (by simp) rfl
      rw [h3]
      generalize SpanW V sp (min lo fn) (max hi fn) fn true false = w at *
      clear stay gr kb
      go_simp
      first | done | rfl | exact ⟨rfl, st⟩
  case hend =>
    rintro listed a w hall ha ⟨hc, rfl⟩
    rw [show on listed 3 = true from hall 3 (by simp), show on listed 10 = true from hall 10 (by simp)]
    exact hend a

theorem spanW_facts {V : World} {sp : Nat} {m M fn lo hi : Int} (p0 : V.cell? ⟨sp, 0, none⟩ = some (.int .i64 lo)) (p1 : V.cell? ⟨sp, 1, none⟩ = some (.int .i64 hi)) :
    (SpanW V sp m M fn true true).cell? ⟨sp, 0, none⟩ = some (.int .i64 m) ∧ (SpanW V sp m M fn true true).cell? ⟨sp, 1, none⟩ = some (.int .i64 M) ∧ Turns (fun b => b = sp) V (SpanW V sp m M fn true true) ∧ (∀ i, (SpanW V sp m M fn true true).frozen? ⟨sp, i, none⟩ = V.frozen? ⟨sp, i, none⟩) := by
  have hk : Kept V (V.drew.alloc (Obj.cells #[.int .i64 fn] 3)) := kept_alloc (kept_drew (kept_refl _)) _
  have q0 := kcell hk p0
  have q1 := kcell hk p1
  have e : SpanW V sp m M fn true true = ((V.drew.alloc (Obj.cells #[.int .i64 fn] 3)).setCell ⟨sp, 0, none⟩ (.int .i64 m)).setCell ⟨sp, 1, none⟩ (.int .i64 M) := rfl
  rw [e]
  exact ⟨(cell_set_ne (by omega)).trans (cell_set_eq q0), cell_set_eq ((cell_set_ne (by omega)).trans q1), Turns.setCell (T := fun b => b = sp) (Turns.setCell (T := fun b => b = sp) (kturns hk _) rfl _ _) rfl _ _, fun i => by
    rw [World.frozen?_setCell, World.frozen?_setCell]
    exact (kturns hk (fun _ => False)).frozen (Go.Ai.lt_of_cell p0) (fun h => h)⟩
def DoneCW (B : World) (sp fo : Nat) (lo hi : Int) (fd : Bool) (w : World) : Prop :=
  Turns (fun b => b = sp ∨ b = fo) B w ∧ w.cell? ⟨sp, 0, none⟩ = some (.int .i64 lo) ∧ w.cell? ⟨sp, 1, none⟩ = some (.int .i64 hi) ∧ w.cell? ⟨fo, 0, none⟩ = some (.bool fd) ∧ (∀ i, w.frozen? ⟨sp, i, none⟩ = false) ∧ w.frozen? ⟨fo, 0, none⟩ = false
theorem DoneCW.store1 {B w : World} {sp fo : Nat} {lo hi : Int} {fd : Bool} (h : DoneCW B sp fo lo hi fd w) (hne : fo ≠ sp) : DoneCW B sp fo lo hi fd ((w.setCell ⟨sp, 0, none⟩ (.int .i64 lo)).setCell ⟨sp, 1, none⟩ (.int .i64 hi)) := by
  obtain ⟨w0, w1, w2, w3, w4, w5⟩ := h
  have hTs : Turns (fun b => b = sp) w ((w.setCell ⟨sp, 0, none⟩ (.int .i64 lo)).setCell ⟨sp, 1, none⟩ (.int .i64 hi)) := Turns.setCell (T := fun b => b = sp) (Turns.setCell (T := fun b => b = sp) (Turns.refl _ _) rfl _ _) rfl _ _
  refine ⟨Turns.setCell (T := fun b => b = sp ∨ b = fo) (Turns.setCell (T := fun b => b = sp ∨ b = fo) w0 (.inl rfl) _ _) (.inl rfl) _ _, ?_, ?_, tcell hTs hne w3, fun i => ?_, ?_⟩
  · rw [cell_set_ne (by omega)]; exact cell_set_eq w1
  · exact cell_set_eq ((cell_set_ne (by omega)).trans w2)
  · rw [World.frozen?_setCell, World.frozen?_setCell]; exact w4 i
  · rw [World.frozen?_setCell, World.frozen?_setCell]; exact w5
theorem DoneCW.store2 {B w : World} {sp fo : Nat} {lo hi : Int} {fd : Bool} (h : DoneCW B sp fo lo hi fd w) (hne : fo ≠ sp) : DoneCW B sp fo lo hi fd (w.setCell ⟨fo, 0, none⟩ (.bool fd)) := by
  obtain ⟨w0, w1, w2, w3, w4, w5⟩ := h
  have hTs : Turns (fun b => b = fo) w (w.setCell ⟨fo, 0, none⟩ (.bool fd)) := Turns.setCell (T := fun b => b = fo) (Turns.refl _ _) rfl _ _
  refine ⟨Turns.setCell (T := fun b => b = sp ∨ b = fo) w0 (.inr rfl) _ _, tcell hTs (Ne.symm hne) w1, tcell hTs (Ne.symm hne) w2, cell_set_eq w3, fun i => ?_, ?_⟩
  · rw [World.frozen?_setCell]; exact w4 i
  · rw [World.frozen?_setCell]; exact w5
end Go.Proofs.YtchgkfnodcbpiaaDoor
set_option linter.all false
namespace Go.Proofs.YtchgkfnodcbpiaaDoor
open Go.RowKit Go.Sort Go.Rg
set_option maxRecDepth 100000
attribute [local go_sem] Oper.semAt_some

set_option maxHeartbeats 4000000 in
theorem span_any (S : Nat → Prop) (c : Choir) (boy : Nat) (x : Boy) (hx : c.B.boys[boy]? = some x) (W : World) (h : ChoirAt S W c) (hS : ∀ b, S b → b < W.heap.size)
    (g : Nat) (caps : Array Value) (f : List Int → Int × Bool) (hso : Tells c boy x W g caps f) :
    Calls Tryd.prog 45 #[.agg #[.func (.func g) #[] caps], c.val, .int .i64 (boy : Int)] W fun e B => e = .returned (.tuple #[.agg #[.int .i64 (spanOf f (c.B.truths boy x)).1, .int .i64 (spanOf f (c.B.truths boy x)).2.1], .bool (spanOf f (c.B.truths boy x)).2.2]) ∧ Kept W B := by
  refine callsIn_wide.1 (callsIn_of_wp_marks (n := 0) Tryd.func45 rfl trivial ?_ rfl)
  simp only [Tryd.ntmps45, List.size_toArray, List.length_cons, List.length_nil, Nat.reduceAdd, Nat.reduceSub, Array.replicate_succ, Array.replicate_zero, List.push_toArray, List.append_toArray, List.nil_append, List.cons_append]
  generalize hall : spanOf f (c.B.truths boy x) = RR
  unfold Choir.val
  gi_wp2_with fail
  have hk0 : Kept W ((((W.alloc (Obj.cells #[.func (.func g) #[] caps] 82)).alloc (Obj.cells #[.slice (some ⟨c.bb, c.ob, none⟩) c.B.boys.length c.capb, .int .i64 c.B.weeks, .slice c.q c.B.trials.length c.capt, .map (some c.bm)] 64)).alloc (Obj.cells #[.int .i64 0, .int .i64 0] 38)).alloc (Obj.cells #[.bool false] 4)) := kept_alloc (kept_alloc (kept_alloc (kept_alloc (kept_refl _) _) _) _) _
  have hz0 : ((((W.alloc (Obj.cells #[.func (.func g) #[] caps] 82)).alloc (Obj.cells #[.slice (some ⟨c.bb, c.ob, none⟩) c.B.boys.length c.capb, .int .i64 c.B.weeks, .slice c.q c.B.trials.length c.capt, .map (some c.bm)] 64)).alloc (Obj.cells #[.int .i64 0, .int .i64 0] 38)).alloc (Obj.cells #[.bool false] 4)).heap.size = W.heap.size + 1 + 1 + 1 + 1 := by simp
  have s0 : ((((W.alloc (Obj.cells #[.func (.func g) #[] caps] 82)).alloc (Obj.cells #[.slice (some ⟨c.bb, c.ob, none⟩) c.B.boys.length c.capb, .int .i64 c.B.weeks, .slice c.q c.B.trials.length c.capt, .map (some c.bm)] 64)).alloc (Obj.cells #[.int .i64 0, .int .i64 0] 38)).alloc (Obj.cells #[.bool false] 4)).cell? ⟨W.heap.size, 0, none⟩ = some (.func (.func g) #[] caps) := by go_simp
  have r0 : ((((W.alloc (Obj.cells #[.func (.func g) #[] caps] 82)).alloc (Obj.cells #[.slice (some ⟨c.bb, c.ob, none⟩) c.B.boys.length c.capb, .int .i64 c.B.weeks, .slice c.q c.B.trials.length c.capt, .map (some c.bm)] 64)).alloc (Obj.cells #[.int .i64 0, .int .i64 0] 38)).alloc (Obj.cells #[.bool false] 4)).cell? ⟨W.heap.size + 1 + 1, 0, none⟩ = some (.int .i64 0) := by go_simp
  have r1 : ((((W.alloc (Obj.cells #[.func (.func g) #[] caps] 82)).alloc (Obj.cells #[.slice (some ⟨c.bb, c.ob, none⟩) c.B.boys.length c.capb, .int .i64 c.B.weeks, .slice c.q c.B.trials.length c.capt, .map (some c.bm)] 64)).alloc (Obj.cells #[.int .i64 0, .int .i64 0] 38)).alloc (Obj.cells #[.bool false] 4)).cell? ⟨W.heap.size + 1 + 1, 1, none⟩ = some (.int .i64 0) := by go_simp
  have r2 : ((((W.alloc (Obj.cells #[.func (.func g) #[] caps] 82)).alloc (Obj.cells #[.slice (some ⟨c.bb, c.ob, none⟩) c.B.boys.length c.capb, .int .i64 c.B.weeks, .slice c.q c.B.trials.length c.capt, .map (some c.bm)] 64)).alloc (Obj.cells #[.int .i64 0, .int .i64 0] 38)).alloc (Obj.cells #[.bool false] 4)).cell? ⟨W.heap.size + 1 + 1 + 1, 0, none⟩ = some (.bool false) := by go_simp
  have rf : ∀ i, ((((W.alloc (Obj.cells #[.func (.func g) #[] caps] 82)).alloc (Obj.cells #[.slice (some ⟨c.bb, c.ob, none⟩) c.B.boys.length c.capb, .int .i64 c.B.weeks, .slice c.q c.B.trials.length c.capt, .map (some c.bm)] 64)).alloc (Obj.cells #[.int .i64 0, .int .i64 0] 38)).alloc (Obj.cells #[.bool false] 4)).frozen? ⟨W.heap.size + 1 + 1, i, none⟩ = false := by intro i; go_simp
  have rg : ((((W.alloc (Obj.cells #[.func (.func g) #[] caps] 82)).alloc (Obj.cells #[.slice (some ⟨c.bb, c.ob, none⟩) c.B.boys.length c.capb, .int .i64 c.B.weeks, .slice c.q c.B.trials.length c.capt, .map (some c.bm)] 64)).alloc (Obj.cells #[.int .i64 0, .int .i64 0] 38)).alloc (Obj.cells #[.bool false] 4)).frozen? ⟨W.heap.size + 1 + 1 + 1, 0, none⟩ = false := by go_simp
  generalize ((((W.alloc (Obj.cells #[.func (.func g) #[] caps] 82)).alloc (Obj.cells #[.slice (some ⟨c.bb, c.ob, none⟩) c.B.boys.length c.capb, .int .i64 c.B.weeks, .slice c.q c.B.trials.length c.capt, .map (some c.bm)] 64)).alloc (Obj.cells #[.int .i64 0, .int .i64 0] 38)).alloc (Obj.cells #[.bool false] 4)) = W1 at *
  have hcall := truths_any c boy W1
  unfold Choir.val at hcall
  refine ⟨trivial, rfl, (callsIn_wide.2 hcall).mono ?_⟩
  rintro e W2 ⟨rfl, hk2, hz2, d0, d1, d2, d3, d4⟩
  rw [hz0] at d0 d1 d2 d3 d4 hz2
  have HKW := Lib.hid (kept_trans hk0 hk2)
  have hat := truthsAt_of (h.turns (kturns hk0 (fun _ => False)) (fun _ _ h => h)) hk2 rfl d0 d1 d2 d3 d4
  have HAT := Lib.hid hat; clear hat
  have q0 := kcell hk2 r0
  have q1 := kcell hk2 r1
  have q2 := kcell hk2 r2
  have qf : ∀ i, W2.frozen? ⟨W.heap.size + 1 + 1, i, none⟩ = false := fun i => ((kturns hk2 (fun _ => False)).frozen (by omega) (fun h => h)).trans (rf i)
  have qg : W2.frozen? ⟨W.heap.size + 1 + 1 + 1, 0, none⟩ = false := ((kturns hk2 (fun _ => False)).frozen (by omega) (fun h => h)).trans rg
  have t0 := kcell hk2 s0
  clear hcall d0 d1 d2 d3 d4 r0 r1 r2 rf rg s0
  generalize hfo : W.heap.size + 1 + 1 + 1 = fo at *
  generalize hsp : W.heap.size + 1 + 1 = sp at *
  gi_wp2_with fail
  refine wpIn_range (gf := 65) (lb := #[.pointer (some ⟨fo + 1, 0, none⟩), .pointer (some ⟨fo + 1 + 1, 0, none⟩)]) rfl (enters_of Tryd.func65 (by kernel_rfl) rfl)
    (truths1_gives S c boy x hx (fo + 1) (fo + 1 + 1)) rfl (fun b => b = sp ∨ b = fo) (by rintro b (rfl | rfl) <;> omega) ?hS (fun B hB => HAT.out.kept hB)
    (fun k T' A => T' = (fun b => b = sp ∨ b = fo) ∧ A.cell? ⟨sp, 0, none⟩ = some (.int .i64 (spanOf f ((c.B.truths boy x).take k)).1) ∧ A.cell? ⟨sp, 1, none⟩ = some (.int .i64 (spanOf f ((c.B.truths boy x).take k)).2.1) ∧ A.cell? ⟨fo, 0, none⟩ = some (.bool (spanOf f ((c.B.truths boy x).take k)).2.2) ∧ (∀ i, A.frozen? ⟨sp, i, none⟩ = false) ∧ A.frozen? ⟨fo, 0, none⟩ = false)
    (fun e k T' A => False)
    ?hI ?hIx ⟨rfl, q0, q1, q2, qf, qg⟩ ?round ?done ?stop
  case hS =>
    rintro b (hb | rfl | rfl)
    · have := hS b hb
      exact ⟨by omega, by omega⟩
    · exact ⟨by omega, by omega⟩
    · exact ⟨by omega, by omega⟩
  case hI =>
    rintro k T' A B ⟨rfl, h1, h2, h3, h4, h5⟩ hq
    have hb := Go.Ai.lt_of_cell h1
    have hb2 := Go.Ai.lt_of_cell h3
    exact ⟨rfl, (hq.cell hb (.inr (.inl rfl))).trans h1, (hq.cell hb (.inr (.inl rfl))).trans h2, (hq.cell hb2 (.inr (.inr rfl))).trans h3, fun i => (hq.frozen hb (.inr (.inl rfl))).trans (h4 i), (hq.frozen hb2 (.inr (.inr rfl))).trans h5⟩
  case hIx =>
    intro e k T' A B h
    exact h.elim
  case stop =>
    intro Db e k T' B _ _ _ _ _ h
    exact h.elim
  case round =>
    rintro l k n T' A hn hE hz hTA hl hlA hnl ⟨rfl, h1, h2, h3, h4, h5⟩
    have hmem := List.mem_of_getElem? hn
    have htk : spanOf f ((c.B.truths boy x).take (k + 1)) = spanAcc f (spanOf f ((c.B.truths boy x).take k)) n := by
      rw [List.take_succ, hn]; simp [spanOf, List.foldl_append]
    have HTK := Lib.hid htk; clear htk
    obtain ⟨n0, n1, n2, n3, n4, rfl⟩ := truths_len hmem
    have hkA : Kept W A := Below.trans HKW.out (hTA.toBelow (n := W.heap.size) (by rintro b (rfl | rfl) <;> omega) (by omega))
    have HN := Lib.hid hn; clear hn
    generalize spanOf f ((c.B.truths boy x).take k) = st at *
    obtain ⟨lo, hi, fd⟩ := st
    simp only at h1 h2 h3
    simp only [encT, List.map_cons, List.map_nil, List.append_toArray, List.cons_append, List.nil_append, Choir.k0, Choir.k2, Choir.m]
    gi_wp2_with fail
    refine ⟨_, Ext.refl _ _, (Turns.refl _ _).alloc _, ?_⟩
    intro A2 hA2 hs2 r hr
    have z1 : sp < A.heap.size := Go.Ai.lt_of_cell h1
    have z2 : fo < A.heap.size := Go.Ai.lt_of_cell h3
    have hk1 : Kept A (A.alloc (Obj.cells #[.slice (some ⟨c.bb, c.ob, none⟩) c.B.boys.length c.capb, .int .i64 c.B.weeks, .slice c.q c.B.trials.length c.capt, .map (some c.bm), .int .i64 (boy : Int), .int .i64 n0, .int .i64 n1, .int .i64 n2, .int .i64 n3, .int .i64 n4] 76)) := kept_alloc (kept_refl _) _
    have e0 := tcell hA2 (by omega) (show (A.alloc (Obj.cells #[.slice (some ⟨c.bb, c.ob, none⟩) c.B.boys.length c.capb, .int .i64 c.B.weeks, .slice c.q c.B.trials.length c.capt, .map (some c.bm), .int .i64 (boy : Int), .int .i64 n0, .int .i64 n1, .int .i64 n2, .int .i64 n3, .int .i64 n4] 76)).cell? ⟨A.heap.size, 0, none⟩ = some (.slice (some ⟨c.bb, c.ob, none⟩) c.B.boys.length c.capb) by go_simp)
    have e1 := tcell hA2 (by omega) (show (A.alloc (Obj.cells #[.slice (some ⟨c.bb, c.ob, none⟩) c.B.boys.length c.capb, .int .i64 c.B.weeks, .slice c.q c.B.trials.length c.capt, .map (some c.bm), .int .i64 (boy : Int), .int .i64 n0, .int .i64 n1, .int .i64 n2, .int .i64 n3, .int .i64 n4] 76)).cell? ⟨A.heap.size, 1, none⟩ = some (.int .i64 c.B.weeks) by go_simp)
    have e2 := tcell hA2 (by omega) (show (A.alloc (Obj.cells #[.slice (some ⟨c.bb, c.ob, none⟩) c.B.boys.length c.capb, .int .i64 c.B.weeks, .slice c.q c.B.trials.length c.capt, .map (some c.bm), .int .i64 (boy : Int), .int .i64 n0, .int .i64 n1, .int .i64 n2, .int .i64 n3, .int .i64 n4] 76)).cell? ⟨A.heap.size, 2, none⟩ = some (.slice c.q c.B.trials.length c.capt) by go_simp)
    have e3 := tcell hA2 (by omega) (show (A.alloc (Obj.cells #[.slice (some ⟨c.bb, c.ob, none⟩) c.B.boys.length c.capb, .int .i64 c.B.weeks, .slice c.q c.B.trials.length c.capt, .map (some c.bm), .int .i64 (boy : Int), .int .i64 n0, .int .i64 n1, .int .i64 n2, .int .i64 n3, .int .i64 n4] 76)).cell? ⟨A.heap.size, 3, none⟩ = some (.map (some c.bm)) by go_simp)
    have e4 := tcell hA2 (by omega) (show (A.alloc (Obj.cells #[.slice (some ⟨c.bb, c.ob, none⟩) c.B.boys.length c.capb, .int .i64 c.B.weeks, .slice c.q c.B.trials.length c.capt, .map (some c.bm), .int .i64 (boy : Int), .int .i64 n0, .int .i64 n1, .int .i64 n2, .int .i64 n3, .int .i64 n4] 76)).cell? ⟨A.heap.size, 4, none⟩ = some (.int .i64 (boy : Int)) by go_simp)
    have e5 := tcell hA2 (by omega) (show (A.alloc (Obj.cells #[.slice (some ⟨c.bb, c.ob, none⟩) c.B.boys.length c.capb, .int .i64 c.B.weeks, .slice c.q c.B.trials.length c.capt, .map (some c.bm), .int .i64 (boy : Int), .int .i64 n0, .int .i64 n1, .int .i64 n2, .int .i64 n3, .int .i64 n4] 76)).cell? ⟨A.heap.size, 5, none⟩ = some (.int .i64 n0) by go_simp)
    have e6 := tcell hA2 (by omega) (show (A.alloc (Obj.cells #[.slice (some ⟨c.bb, c.ob, none⟩) c.B.boys.length c.capb, .int .i64 c.B.weeks, .slice c.q c.B.trials.length c.capt, .map (some c.bm), .int .i64 (boy : Int), .int .i64 n0, .int .i64 n1, .int .i64 n2, .int .i64 n3, .int .i64 n4] 76)).cell? ⟨A.heap.size, 6, none⟩ = some (.int .i64 n1) by go_simp)
    have e7 := tcell hA2 (by omega) (show (A.alloc (Obj.cells #[.slice (some ⟨c.bb, c.ob, none⟩) c.B.boys.length c.capb, .int .i64 c.B.weeks, .slice c.q c.B.trials.length c.capt, .map (some c.bm), .int .i64 (boy : Int), .int .i64 n0, .int .i64 n1, .int .i64 n2, .int .i64 n3, .int .i64 n4] 76)).cell? ⟨A.heap.size, 7, none⟩ = some (.int .i64 n2) by go_simp)
    have e8 := tcell hA2 (by omega) (show (A.alloc (Obj.cells #[.slice (some ⟨c.bb, c.ob, none⟩) c.B.boys.length c.capb, .int .i64 c.B.weeks, .slice c.q c.B.trials.length c.capt, .map (some c.bm), .int .i64 (boy : Int), .int .i64 n0, .int .i64 n1, .int .i64 n2, .int .i64 n3, .int .i64 n4] 76)).cell? ⟨A.heap.size, 8, none⟩ = some (.int .i64 n3) by go_simp)
    have e9 := tcell hA2 (by omega) (show (A.alloc (Obj.cells #[.slice (some ⟨c.bb, c.ob, none⟩) c.B.boys.length c.capb, .int .i64 c.B.weeks, .slice c.q c.B.trials.length c.capt, .map (some c.bm), .int .i64 (boy : Int), .int .i64 n0, .int .i64 n1, .int .i64 n2, .int .i64 n3, .int .i64 n4] 76)).cell? ⟨A.heap.size, 9, none⟩ = some (.int .i64 n4) by go_simp)
    have p0 := tcell hA2 (by omega) (kcell hk1 h1)
    have p1 := tcell hA2 (by omega) (kcell hk1 h2)
    have p2 := tcell hA2 (by omega) (kcell hk1 h3)
    have pf : ∀ i, A2.frozen? ⟨sp, i, none⟩ = false := fun i => (hA2.frozen (by simp; omega) (by omega)).trans (((kturns hk1 (fun _ => False)).frozen z1 (fun h => h)).trans (h4 i))
    have pg : A2.frozen? ⟨fo, 0, none⟩ = false := (hA2.frozen (by simp; omega) (by omega)).trans (((kturns hk1 (fun _ => False)).frozen z2 (fun h => h)).trans h5)
    have f0 := tcell hA2 (by omega) (kcell hk1 (tcell hTA (by omega) t0))
    have hk3 : Kept W A2 := Below.trans (kept_trans hkA hk1) (hA2.toBelow (n := W.heap.size) (by rintro b rfl; omega) (by have := hkA.size; have := hk1.size; omega))
    have hcall := hso.call A2 _ hk3 hmem
    simp only [encT, List.map_cons, List.map_nil, List.append_toArray, List.cons_append, List.nil_append, Choir.k0, Choir.k2, Choir.m] at hcall
    have heg := hso.enter
    clear hA2 hr hk1 h1 h2 h3 h4 h5
    gi_wp2_with fail
    refine ⟨trivial, rfl, (CallsIn.inRound _ (callsIn_wide.2 hcall)).mono ?_⟩
    rintro e A3 ⟨rfl, hk4⟩
    have p0 := kcell hk4 p0
    have p1 := kcell hk4 p1
    have p2 := kcell hk4 p2
    have pf : ∀ i, A3.frozen? ⟨sp, i, none⟩ = false := fun i => ((kturns hk4 (fun _ => False)).frozen (by omega) (fun h => h)).trans (pf i)
    have pg : A3.frozen? ⟨fo, 0, none⟩ = false := ((kturns hk4 (fun _ => False)).frozen (by omega) (fun h => h)).trans pg
    have pf0 := pf 0
    have pf1 := pf 1
    clear e0 e1 e2 e3 e4 e5 e6 e7 e8 e9 f0 hcall heg
    have hacc : spanAcc f (lo, hi, fd) [n0, n1, n2, n3, n4] = if (f [n0, n1, n2, n3, n4]).2 then spanStep (lo, hi, fd) (f [n0, n1, n2, n3, n4]).1 else (lo, hi, fd) := rfl
    generalize f [n0, n1, n2, n3, n4] = fv at *
    obtain ⟨fn, fb⟩ := fv
    simp only at hacc ⊢
    have HEND : Hid (∀ (V : World) (lo' hi' : Int) (fd' : Bool), Turns (fun b => b = sp ∨ b = fo) A2 V → V.cell? ⟨sp, 0, none⟩ = some (.int .i64 lo') → V.cell? ⟨sp, 1, none⟩ = some (.int .i64 hi') → V.cell? ⟨fo, 0, none⟩ = some (.bool fd') → (∀ i, V.frozen? ⟨sp, i, none⟩ = false) → V.frozen? ⟨fo, 0, none⟩ = false → (if fb then spanStep (lo, hi, fd) fn else (lo, hi, fd)) = (lo', hi', fd') →
        ∃ T2 : Nat → Prop, Ext A2.heap.size (fun b => b = sp ∨ b = fo) T2 ∧ (∀ b, T2 b → b < V.heap.size) ∧ Turns T2 A2 V ∧ T2 = (fun b => b = sp ∨ b = fo) ∧ V.cell? ⟨sp, 0, none⟩ = some (.int .i64 (spanOf f ((c.B.truths boy x).take (k + 1))).1) ∧ V.cell? ⟨sp, 1, none⟩ = some (.int .i64 (spanOf f ((c.B.truths boy x).take (k + 1))).2.1) ∧ V.cell? ⟨fo, 0, none⟩ = some (.bool (spanOf f ((c.B.truths boy x).take (k + 1))).2.2) ∧ (∀ i, V.frozen? ⟨sp, i, none⟩ = false) ∧ V.frozen? ⟨fo, 0, none⟩ = false) := Lib.hid (by
      intro V lo' hi' fd' hT v0 v1 v2 v3 v4 he
      have e1 : spanOf f ((c.B.truths boy x).take (k + 1)) = (lo', hi', fd') := HTK.out.trans (hacc.trans he)
      have hz := hT.size
      refine ⟨_, Ext.refl _ _, by rintro b (rfl | rfl) <;> omega, hT, rfl, by rw [e1]; exact v0, by rw [e1]; exact v1, by rw [e1]; exact v2, v3, v4⟩)
    clear hacc
    cases fb with
    | false =>
      have HE := Lib.hid (HEND.out A3 lo hi fd (kturns hk4 _) p0 p1 p2 pf pg rfl)
      gi_wp2_with fail
      exact HE.out
    | true =>
      cases fd with
      | false =>
        gi_wp2_with fail
        refine ⟨trivial, rfl, (CallsIn.inRound _ (callsIn_wide.2 (just_any fn A3))).mono ?_⟩
        rintro e A4 ⟨rfl, hk5⟩
        have p0 := kcell hk5 p0
        have p1 := kcell hk5 p1
        have p2 := kcell hk5 p2
        have pf0 : A4.frozen? ⟨sp, 0, none⟩ = false := ((kturns hk5 (fun _ => False)).frozen (by have := hk4.size; omega) (fun h => h)).trans pf0
        have pf1 : A4.frozen? ⟨sp, 1, none⟩ = false := ((kturns hk5 (fun _ => False)).frozen (by have := hk4.size; omega) (fun h => h)).trans pf1
        have pg : A4.frozen? ⟨fo, 0, none⟩ = false := ((kturns hk5 (fun _ => False)).frozen (by have := hk4.size; omega) (fun h => h)).trans pg
        have pfa : ∀ i, A4.frozen? ⟨sp, i, none⟩ = false := fun i => ((kturns hk5 (fun _ => False)).frozen (by have := hk4.size; omega) (fun h => h)).trans (pf i)
        gi_wp2_with fail
        have hz4 := hk4.size
        have hT5 : Turns (fun b => b = sp ∨ b = fo) A4 (((A4.setCell ⟨sp, 0, none⟩ (.int .i64 fn)).setCell ⟨sp, 1, none⟩ (.int .i64 fn)).setCell ⟨fo, 0, none⟩ (.bool true)) := Turns.setCell (T := fun b => b = sp ∨ b = fo) (Turns.setCell (T := fun b => b = sp ∨ b = fo) (Turns.setCell (T := fun b => b = sp ∨ b = fo) (Turns.refl _ _) (.inl rfl) _ _) (.inl rfl) _ _) (.inr rfl) _ _
        have hTf : Turns (fun b => b = fo) ((A4.setCell ⟨sp, 0, none⟩ (.int .i64 fn)).setCell ⟨sp, 1, none⟩ (.int .i64 fn)) (((A4.setCell ⟨sp, 0, none⟩ (.int .i64 fn)).setCell ⟨sp, 1, none⟩ (.int .i64 fn)).setCell ⟨fo, 0, none⟩ (.bool true)) := Turns.setCell (T := fun b => b = fo) (Turns.refl _ _) rfl _ _
        have hTs : Turns (fun b => b = sp) A4 ((A4.setCell ⟨sp, 0, none⟩ (.int .i64 fn)).setCell ⟨sp, 1, none⟩ (.int .i64 fn)) := Turns.setCell (T := fun b => b = sp) (Turns.setCell (T := fun b => b = sp) (Turns.refl _ _) rfl _ _) rfl _ _
        have b0 : (((A4.setCell ⟨sp, 0, none⟩ (.int .i64 fn)).setCell ⟨sp, 1, none⟩ (.int .i64 fn)).setCell ⟨fo, 0, none⟩ (.bool true)).cell? ⟨sp, 0, none⟩ = some (.int .i64 fn) := tcell hTf (by omega) ((cell_set_ne (by omega)).trans (cell_set_eq p0))
        have b1 : (((A4.setCell ⟨sp, 0, none⟩ (.int .i64 fn)).setCell ⟨sp, 1, none⟩ (.int .i64 fn)).setCell ⟨fo, 0, none⟩ (.bool true)).cell? ⟨sp, 1, none⟩ = some (.int .i64 fn) := tcell hTf (by omega) (cell_set_eq ((cell_set_ne (by omega)).trans p1))
        have b2 : (((A4.setCell ⟨sp, 0, none⟩ (.int .i64 fn)).setCell ⟨sp, 1, none⟩ (.int .i64 fn)).setCell ⟨fo, 0, none⟩ (.bool true)).cell? ⟨fo, 0, none⟩ = some (.bool true) := cell_set_eq (tcell hTs (by omega) p2)
        have bf : ∀ i, (((A4.setCell ⟨sp, 0, none⟩ (.int .i64 fn)).setCell ⟨sp, 1, none⟩ (.int .i64 fn)).setCell ⟨fo, 0, none⟩ (.bool true)).frozen? ⟨sp, i, none⟩ = false := fun i => by rw [World.frozen?_setCell, World.frozen?_setCell, World.frozen?_setCell]; exact pfa i
        have bg : (((A4.setCell ⟨sp, 0, none⟩ (.int .i64 fn)).setCell ⟨sp, 1, none⟩ (.int .i64 fn)).setCell ⟨fo, 0, none⟩ (.bool true)).frozen? ⟨fo, 0, none⟩ = false := by rw [World.frozen?_setCell, World.frozen?_setCell, World.frozen?_setCell]; exact pg
        generalize (((A4.setCell ⟨sp, 0, none⟩ (.int .i64 fn)).setCell ⟨sp, 1, none⟩ (.int .i64 fn)).setCell ⟨fo, 0, none⟩ (.bool true)) = A5 at *
        refine span_region _ _ A5 sp fn fn fn _ rfl rfl rfl b0 b1 (bf 0) (bf 1) fun a => ?_
        obtain ⟨v0, v1, hT, hF⟩ := spanW_facts (m := min fn fn) (M := max fn fn) (fn := fn) b0 b1
        have v2 := tcell hT (by omega) b2
        exact HEND.out _ _ _ true (((kturns (kept_trans hk4 hk5) _).trans (Ext.refl _ _) hT5).trans (Ext.refl _ _) (hT.mono fun _ _ h => .inl h)) v0 v1 v2 (fun i => (hF i).trans (bf i)) ((hT.frozen (Go.Ai.lt_of_cell b2) (by omega)).trans bg) (by simp [spanStep])
      | true =>
        gi_wp2_with fail
        refine span_region _ _ A3 sp lo hi fn _ rfl rfl rfl p0 p1 pf0 pf1 fun a => ?_
        obtain ⟨v0, v1, hT, hF⟩ := spanW_facts (m := min lo fn) (M := max hi fn) (fn := fn) p0 p1
        have v2 := tcell hT (by omega) p2
        exact HEND.out _ _ _ true ((kturns hk4 _).trans (Ext.refl _ _) (hT.mono fun _ _ h => .inl h)) v0 v1 v2 (fun i => (hF i).trans (pf i)) ((hT.frozen (Go.Ai.lt_of_cell p2) (by omega)).trans pg) rfl
  case done =>
    rintro Db T' B hDb hnD hE hTB ⟨rfl, h1, h2, h3, h4, h5⟩ hK
    have hkB : Below W.heap.size W B := Below.trans HKW.out (hTB.toBelow (n := W.heap.size) (by rintro b (rfl | rfl) <;> omega) (by omega))
    rw [List.take_length, hall] at h1 h2 h3
    have hzS := Go.Ai.lt_of_cell h1
    have hzF := Go.Ai.lt_of_cell h3
    obtain ⟨lo, hi, fd⟩ := RR
    simp only at h1 h2 h3 ⊢
    have hnD1 : ¬ Db = sp := fun e => hnD (.inl e)
    have hnD2 : ¬ Db = fo := fun e => hnD (.inr e)
    gi_wp2_with fail
    refine wpIn_region_states (fun i => match i with
      | 0 => .agg #[.int .i64 lo, .int .i64 hi]
      | 1 => .bool fd
      | _ => undef) (fun _ w => DoneCW B sp fo lo hi fd w)
      (by kernel_rfl) (by kernel_rfl) ⟨(Turns.refl _ _).drew, h1, h2, h3, h4, h5⟩ ?hop ?hend
    case hop =>
      intro i o listed a w hl ho g1 g2 ha hw
      have hi4 : i < 4 := (List.getElem?_eq_some_iff.1 ho).1
      have hne : fo ≠ sp := by omega
      have HW := Lib.hid hw
      obtain ⟨w0, w1, w2, w3, w4, w5⟩ := hw
      have w40 := w4 0
      have w41 := w4 1
      clear h1 h2 h3 h4 h5 w4 hall
      match i, ho with
      | 0, ho =>
        cases ho
        have t6 := ha.old 6 (by kernel_rfl)
        simp at t6
        go_simp
        first | exact HW.out | exact ⟨rfl, HW.out⟩
      | 1, ho =>
        cases ho
        have t7 := ha.old 7 (by kernel_rfl)
        simp at t7
        go_simp
        first | exact HW.out | exact ⟨rfl, HW.out⟩
      | 2, ho =>
        cases ho
        have t6 := ha.old 6 (by kernel_rfl)
        simp at t6
        have t38 := ha.new 0 (g2 ⟨0, .data⟩ (by simp) rfl) (d := 38) rfl rfl (by simp)
        simp at t38
        have HX := Lib.hid (HW.out.store1 hne)
        go_simp
        first | exact HX.out | exact ⟨rfl, HX.out⟩
      | 3, ho =>
        cases ho
        have t7 := ha.old 7 (by kernel_rfl)
        simp at t7
        have t39 := ha.new 1 (g2 ⟨1, .data⟩ (by simp) rfl) (d := 39) rfl rfl (by simp)
        simp at t39
        have HX := Lib.hid (HW.out.store2 hne)
        go_simp
        first | exact HX.out | exact ⟨rfl, HX.out⟩
    case hend =>
      intro listed a w hall2 ha hw
      obtain ⟨w0, w1, w2, w3, w4, w5⟩ := hw
      have t6 := ha.old 6 (by kernel_rfl)
      simp at t6
      have t7 := ha.old 7 (by kernel_rfl)
      simp at t7
      have hdf := ha.defers
      simp only at hdf
      have hKw := (w0.block Db (Array.getElem?_eq_some_iff.1 hK).1 hnD).trans hK
      obtain ⟨atm, adf⟩ := a
      simp only at hdf t6 t7
      subst hdf
      refine (by assumption : ∀ a w, Code.wpIn _ _ _ Code.ret _ a w → _) _ w ?_
      refine wpIn_ret ?_
      refine leave_mark (v := .tuple #[.agg #[.int .i64 lo, .int .i64 hi], .bool fd]) hKw fun C hC hCT => ?_
      have q0 := tcell hCT (fun h => hnD1 h.symm) w1
      have q1 := tcell hCT (fun h => hnD1 h.symm) w2
      have q2 := tcell hCT (fun h => hnD2 h.symm) w3
      refine ⟨by simp [results, Tryd.results45, go_sem, q0, q1, q2, t6, t7], rfl, ?_⟩
      exact Below.trans (Below.trans hkB (w0.toBelow (n := W.heap.size) (by rintro b (rfl | rfl) <;> omega) (by have := hkB.size; omega))) (hCT.toBelow (by rintro b rfl; omega) (by have := hkB.size; have := w0.size; omega))
end Go.Proofs.YtchgkfnodcbpiaaDoor
