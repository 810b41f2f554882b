import Derived.Test.YtbhgicggpkibeaaDoorVXc
import Derived.Laws.EntriesVeiled
set_option linter.all false
set_option linter.all false
namespace Go.Proofs.YtbhgicggpkibeaaDoor
open Go.RowKit Go.Sort Go.Rg
set_option maxRecDepth 100000
attribute [local go_sem] Oper.semAt_some

/-- a function value that asks something of the truths of a boy -/
structure Asks (c : Choir) (boy : Nat) (x : Boy) (W : World) (g : Nat) (caps : Array Value) (sb : List Int → Bool) : Prop where
  enter : ∀ args w, (callFunc g args).run Tryd.prog w = .ok (.enter g args) w
  call : ∀ A n, Kept W A → n ∈ c.B.truths boy x → Calls Tryd.prog g (#[encT c boy n] ++ caps) A fun e B => e = .returned (.bool (sb n)) ∧ Kept A B

set_option maxHeartbeats 4000000 in
theorem inEach_any (S : Nat → Prop) (c : Choir) (boy : Nat) (x : Boy) (hx : c.B.boys[boy]? = some x) (W : World) (h : ChoirAt S W c) (hS : ∀ b, S b → b < W.heap.size)
    (g : Nat) (caps : Array Value) (sb : List Int → Bool) (hso : Asks c boy x W g caps sb) :
    Calls Tryd.prog 122 #[c.val, .int .i64 (boy : Int), .func (.func g) #[] caps] W fun e B => e = .returned (.bool ((c.B.truths boy x).all sb)) ∧ Kept W B := by
  refine callsIn_wide.1 (callsIn_of_wp_marks (n := 0) Tryd.func122 rfl trivial ?_ rfl)
  simp only [Tryd.ntmps122, List.size_toArray, List.length_cons, List.length_nil, Nat.reduceAdd, Nat.reduceSub, Array.replicate_succ, Array.replicate_zero, List.push_toArray, List.append_toArray, List.nil_append, List.cons_append]
  generalize hall : (c.B.truths boy x).all sb = RR
  unfold Choir.val
  gi_wp2_with fail
  have hk0 : Kept W (((W.alloc (Obj.cells #[.slice (some ⟨c.bb, c.ob, none⟩) c.B.boys.length c.capb, .int .i64 c.B.weeks, .slice c.q c.B.trials.length c.capt, .map (some c.bm)] 84)).alloc (Obj.cells #[.func (.func g) #[] caps] 94)).alloc (Obj.cells #[.bool false] 4)) := kept_alloc (kept_alloc (kept_alloc (kept_refl _) _) _) _
  have hz0 : (((W.alloc (Obj.cells #[.slice (some ⟨c.bb, c.ob, none⟩) c.B.boys.length c.capb, .int .i64 c.B.weeks, .slice c.q c.B.trials.length c.capt, .map (some c.bm)] 84)).alloc (Obj.cells #[.func (.func g) #[] caps] 94)).alloc (Obj.cells #[.bool false] 4)).heap.size = W.heap.size + 1 + 1 + 1 := by simp
  have s0 : (((W.alloc (Obj.cells #[.slice (some ⟨c.bb, c.ob, none⟩) c.B.boys.length c.capb, .int .i64 c.B.weeks, .slice c.q c.B.trials.length c.capt, .map (some c.bm)] 84)).alloc (Obj.cells #[.func (.func g) #[] caps] 94)).alloc (Obj.cells #[.bool false] 4)).cell? ⟨W.heap.size + 1, 0, none⟩ = some (.func (.func g) #[] caps) := by go_simp
  have r0 : (((W.alloc (Obj.cells #[.slice (some ⟨c.bb, c.ob, none⟩) c.B.boys.length c.capb, .int .i64 c.B.weeks, .slice c.q c.B.trials.length c.capt, .map (some c.bm)] 84)).alloc (Obj.cells #[.func (.func g) #[] caps] 94)).alloc (Obj.cells #[.bool false] 4)).cell? ⟨W.heap.size + 1 + 1, 0, none⟩ = some (.bool false) := by go_simp
  have rf : (((W.alloc (Obj.cells #[.slice (some ⟨c.bb, c.ob, none⟩) c.B.boys.length c.capb, .int .i64 c.B.weeks, .slice c.q c.B.trials.length c.capt, .map (some c.bm)] 84)).alloc (Obj.cells #[.func (.func g) #[] caps] 94)).alloc (Obj.cells #[.bool false] 4)).frozen? ⟨W.heap.size + 1 + 1, 0, none⟩ = false := by go_simp
  generalize (((W.alloc (Obj.cells #[.slice (some ⟨c.bb, c.ob, none⟩) c.B.boys.length c.capb, .int .i64 c.B.weeks, .slice c.q c.B.trials.length c.capt, .map (some c.bm)] 84)).alloc (Obj.cells #[.func (.func g) #[] caps] 94)).alloc (Obj.cells #[.bool false] 4)) = W1 at *
  have hcall := truths_any c boy W1
  unfold Choir.val at hcall
  refine ⟨trivial, rfl, (callsIn_wide.2 hcall).mono ?_⟩
  rintro e W2 ⟨rfl, hk2, hz2, d0, d1, d2, d3, d4⟩
  rw [hz0] at d0 d1 d2 d3 d4 hz2
  have HKW := Lib.hid (kept_trans hk0 hk2)
  have hat := truthsAt_of (h.turns (kturns hk0 (fun _ => False)) (fun _ _ h => h)) hk2 rfl d0 d1 d2 d3 d4
  have HAT := Lib.hid hat; clear hat
  have q0 := kcell hk2 r0
  have qf : W2.frozen? ⟨W.heap.size + 1 + 1, 0, none⟩ = false := ((kturns hk2 (fun _ => False)).frozen (by omega) (fun h => h)).trans rf
  have t0 := kcell hk2 s0
  clear hcall d0 d1 d2 d3 d4 r0 rf s0
  generalize hrb : W.heap.size + 1 + 1 = rb at *
  generalize hsb : W.heap.size + 1 = sbx at *
  gi_wp2_with fail
  refine wpIn_range (gf := 144) (lb := #[.pointer (some ⟨rb + 1, 0, none⟩), .pointer (some ⟨rb + 1 + 1, 0, none⟩)]) rfl (enters_of Tryd.func144 (by kernel_rfl) rfl)
    (truths1_gives S c boy x hx (rb + 1) (rb + 1 + 1)) rfl (fun b => b = rb) (by rintro b rfl; omega) ?hS (fun B hB => HAT.out.kept hB)
    (fun k T' A => T' = (fun b => b = rb) ∧ A.cell? ⟨rb, 0, none⟩ = some (.bool false) ∧ A.frozen? ⟨rb, 0, none⟩ = false ∧ ∀ i n, i < k → (c.B.truths boy x)[i]? = some n → sb n = true)
    (fun e k T' A => e = .ret ∧ T' = (fun b => b = rb) ∧ A.cell? ⟨rb, 0, none⟩ = some (.bool false) ∧ ∃ n, n ∈ c.B.truths boy x ∧ sb n = false)
    ?hI ?hIx ⟨rfl, q0, qf, fun i n hi => by omega⟩ ?round ?done ?stop
  case hS =>
    rintro b (hb | rfl | rfl)
    · have := hS b hb
      exact ⟨by omega, by omega⟩
    · exact ⟨by omega, by omega⟩
    · exact ⟨by omega, by omega⟩
  case hI =>
    rintro k T' A B ⟨rfl, h1, h2, h3⟩ hq
    have hb := Go.Ai.lt_of_cell h1
    exact ⟨rfl, (hq.cell hb (.inr rfl)).trans h1, (hq.frozen hb (.inr rfl)).trans h2, h3⟩
  case hIx =>
    rintro e k T' A B ⟨rfl, rfl, h1, h2⟩ hq
    exact ⟨rfl, rfl, (hq.cell (Go.Ai.lt_of_cell h1) (.inr rfl)).trans h1, h2⟩
  case round =>
    rintro l k n T' A hn hE hz hTA hl hlA hnl ⟨rfl, h1, h2, h3⟩
    have hmem := List.mem_of_getElem? hn
    obtain ⟨n0, n1, n2, n3, n4, rfl⟩ := truths_len hmem
    have hkA : Kept W A := Below.trans HKW.out (hTA.toBelow (n := W.heap.size) (by rintro b rfl; omega) (by omega))
    have H3 := Lib.hid h3; clear h3
    have HN := Lib.hid hn; clear hn
    simp only [encT, List.map_cons, List.map_nil, List.append_toArray, List.cons_append, List.nil_append, Choir.k0, Choir.k2, Choir.m]
    gi_wp2_with fail
    refine ⟨_, Ext.refl _ _, (Turns.refl _ _).alloc _, ?_⟩
    intro A2 hA2 hs2 r hr
    have z1 : rb < A.heap.size := Go.Ai.lt_of_cell h1
    have hk1 : Kept A (A.alloc (Obj.cells #[.slice (some ⟨c.bb, c.ob, none⟩) c.B.boys.length c.capb, .int .i64 c.B.weeks, .slice c.q c.B.trials.length c.capt, .map (some c.bm), .int .i64 (boy : Int), .int .i64 n0, .int .i64 n1, .int .i64 n2, .int .i64 n3, .int .i64 n4] 92)) := kept_alloc (kept_refl _) _
    have e0 := tcell hA2 (by omega) (show (A.alloc (Obj.cells #[.slice (some ⟨c.bb, c.ob, none⟩) c.B.boys.length c.capb, .int .i64 c.B.weeks, .slice c.q c.B.trials.length c.capt, .map (some c.bm), .int .i64 (boy : Int), .int .i64 n0, .int .i64 n1, .int .i64 n2, .int .i64 n3, .int .i64 n4] 92)).cell? ⟨A.heap.size, 0, none⟩ = some (.slice (some ⟨c.bb, c.ob, none⟩) c.B.boys.length c.capb) by go_simp)
    have e1 := tcell hA2 (by omega) (show (A.alloc (Obj.cells #[.slice (some ⟨c.bb, c.ob, none⟩) c.B.boys.length c.capb, .int .i64 c.B.weeks, .slice c.q c.B.trials.length c.capt, .map (some c.bm), .int .i64 (boy : Int), .int .i64 n0, .int .i64 n1, .int .i64 n2, .int .i64 n3, .int .i64 n4] 92)).cell? ⟨A.heap.size, 1, none⟩ = some (.int .i64 c.B.weeks) by go_simp)
    have e2 := tcell hA2 (by omega) (show (A.alloc (Obj.cells #[.slice (some ⟨c.bb, c.ob, none⟩) c.B.boys.length c.capb, .int .i64 c.B.weeks, .slice c.q c.B.trials.length c.capt, .map (some c.bm), .int .i64 (boy : Int), .int .i64 n0, .int .i64 n1, .int .i64 n2, .int .i64 n3, .int .i64 n4] 92)).cell? ⟨A.heap.size, 2, none⟩ = some (.slice c.q c.B.trials.length c.capt) by go_simp)
    have e3 := tcell hA2 (by omega) (show (A.alloc (Obj.cells #[.slice (some ⟨c.bb, c.ob, none⟩) c.B.boys.length c.capb, .int .i64 c.B.weeks, .slice c.q c.B.trials.length c.capt, .map (some c.bm), .int .i64 (boy : Int), .int .i64 n0, .int .i64 n1, .int .i64 n2, .int .i64 n3, .int .i64 n4] 92)).cell? ⟨A.heap.size, 3, none⟩ = some (.map (some c.bm)) by go_simp)
    have e4 := tcell hA2 (by omega) (show (A.alloc (Obj.cells #[.slice (some ⟨c.bb, c.ob, none⟩) c.B.boys.length c.capb, .int .i64 c.B.weeks, .slice c.q c.B.trials.length c.capt, .map (some c.bm), .int .i64 (boy : Int), .int .i64 n0, .int .i64 n1, .int .i64 n2, .int .i64 n3, .int .i64 n4] 92)).cell? ⟨A.heap.size, 4, none⟩ = some (.int .i64 (boy : Int)) by go_simp)
    have e5 := tcell hA2 (by omega) (show (A.alloc (Obj.cells #[.slice (some ⟨c.bb, c.ob, none⟩) c.B.boys.length c.capb, .int .i64 c.B.weeks, .slice c.q c.B.trials.length c.capt, .map (some c.bm), .int .i64 (boy : Int), .int .i64 n0, .int .i64 n1, .int .i64 n2, .int .i64 n3, .int .i64 n4] 92)).cell? ⟨A.heap.size, 5, none⟩ = some (.int .i64 n0) by go_simp)
    have e6 := tcell hA2 (by omega) (show (A.alloc (Obj.cells #[.slice (some ⟨c.bb, c.ob, none⟩) c.B.boys.length c.capb, .int .i64 c.B.weeks, .slice c.q c.B.trials.length c.capt, .map (some c.bm), .int .i64 (boy : Int), .int .i64 n0, .int .i64 n1, .int .i64 n2, .int .i64 n3, .int .i64 n4] 92)).cell? ⟨A.heap.size, 6, none⟩ = some (.int .i64 n1) by go_simp)
    have e7 := tcell hA2 (by omega) (show (A.alloc (Obj.cells #[.slice (some ⟨c.bb, c.ob, none⟩) c.B.boys.length c.capb, .int .i64 c.B.weeks, .slice c.q c.B.trials.length c.capt, .map (some c.bm), .int .i64 (boy : Int), .int .i64 n0, .int .i64 n1, .int .i64 n2, .int .i64 n3, .int .i64 n4] 92)).cell? ⟨A.heap.size, 7, none⟩ = some (.int .i64 n2) by go_simp)
    have e8 := tcell hA2 (by omega) (show (A.alloc (Obj.cells #[.slice (some ⟨c.bb, c.ob, none⟩) c.B.boys.length c.capb, .int .i64 c.B.weeks, .slice c.q c.B.trials.length c.capt, .map (some c.bm), .int .i64 (boy : Int), .int .i64 n0, .int .i64 n1, .int .i64 n2, .int .i64 n3, .int .i64 n4] 92)).cell? ⟨A.heap.size, 8, none⟩ = some (.int .i64 n3) by go_simp)
    have e9 := tcell hA2 (by omega) (show (A.alloc (Obj.cells #[.slice (some ⟨c.bb, c.ob, none⟩) c.B.boys.length c.capb, .int .i64 c.B.weeks, .slice c.q c.B.trials.length c.capt, .map (some c.bm), .int .i64 (boy : Int), .int .i64 n0, .int .i64 n1, .int .i64 n2, .int .i64 n3, .int .i64 n4] 92)).cell? ⟨A.heap.size, 9, none⟩ = some (.int .i64 n4) by go_simp)
    have p0 := tcell hA2 (by omega) (kcell hk1 h1)
    have pf : A2.frozen? ⟨rb, 0, none⟩ = false := (hA2.frozen (by simp; omega) (by omega)).trans (((kturns hk1 (fun _ => False)).frozen z1 (fun h => h)).trans h2)
    have f0 := tcell hA2 (by omega) (kcell hk1 (tcell hTA (by omega) t0))
    have hk3 : Kept W A2 := Below.trans (kept_trans hkA hk1) (hA2.toBelow (n := W.heap.size) (by rintro b rfl; omega) (by have := hkA.size; have := hk1.size; omega))
    have hcall := hso.call A2 _ hk3 hmem
    simp only [encT, List.map_cons, List.map_nil, List.append_toArray, List.cons_append, List.nil_append, Choir.k0, Choir.k2, Choir.m] at hcall
    have heg := hso.enter
    clear hA2 hr hk1 h1 h2
    gi_wp2_with fail
    refine ⟨trivial, rfl, (CallsIn.inRound _ (callsIn_wide.2 hcall)).mono ?_⟩
    rintro e A3 ⟨rfl, hk4⟩
    have p0 := kcell hk4 p0
    have pf : A3.frozen? ⟨rb, 0, none⟩ = false := ((kturns hk4 (fun _ => False)).frozen (by omega) (fun h => h)).trans pf
    clear e0 e1 e2 e3 e4 e5 e6 e7 e8 e9 f0 hcall heg
    rcases hv : sb [n0, n1, n2, n3, n4] with _ | _
    · have HV := Lib.hid hv; clear hv
      gi_wp2_with fail
      refine ⟨fun b => b = rb, Ext.refl _ _, ?_, Turns.setCell (T := fun b => b = rb) (kturns hk4 _) rfl _ _, rfl, rfl, ?_, _, hmem, HV.out⟩
      · rintro b rfl
        have := hk4.size
        simp; omega
      · exact cell_set_eq p0
    · have HV := Lib.hid hv; clear hv
      gi_wp2_with fail
      refine ⟨fun b => b = rb, Ext.refl _ _, ?_, kturns hk4 _, rfl, p0, pf, ?_⟩
      · rintro b rfl
        have := hk4.size
        omega
      · intro i m hi hm
        by_cases e : i = k
        · subst e; rw [HN.out] at hm; cases hm; exact HV.out
        · exact H3.out i m (by omega) hm
  case done =>
    rintro Db T' B hDb hnD hE hTB ⟨rfl, h1, h2, h3⟩ hK
    have hkB : Below W.heap.size W B := Below.trans HKW.out (hTB.toBelow (n := W.heap.size) (by rintro b rfl; omega) (by omega))
    have hRR : RR = true := by
      rw [← hall, List.all_eq_true]
      intro n hn
      obtain ⟨i, hi, rfl⟩ := List.getElem_of_mem hn
      exact h3 i _ hi (List.getElem?_eq_getElem hi)
    have hzR := Go.Ai.lt_of_cell h1
    clear h3
    gi_wp2_with fail
    have hT5 : Turns (fun b => b = rb) B (B.setCell ⟨rb, 0, none⟩ (.bool true)) := (Turns.refl (fun b => b = rb) B).setCell rfl _ _
    have hc5 : (B.setCell ⟨rb, 0, none⟩ (.bool true)).cell? ⟨rb, 0, none⟩ = some (.bool true) := cell_set_eq h1
    generalize B.setCell ⟨rb, 0, none⟩ (.bool true) = B5 at *
    have hK5 := (hT5.block Db (Array.getElem?_eq_some_iff.1 hK).1 hnD).trans hK
    refine leave_mark (v := .bool true) hK5 fun C hC hCT => ?_
    have q0 := tcell hCT (Ne.symm hnD) hc5
    refine ⟨by simp [results, Tryd.results122, go_sem, q0], rfl, ?_⟩
    exact Below.trans (Below.trans hkB (hT5.toBelow (by rintro b rfl; omega) (by have := hkB.size; omega))) (hCT.toBelow (by rintro b rfl; omega) (by have := hkB.size; have := hT5.size; omega))
  case stop =>
    rintro Db e k T' B hDb hnD hE hTB hk ⟨rfl, rfl, h1, n, hn, hno⟩ hK
    have hkB : Below W.heap.size W B := Below.trans HKW.out (hTB.toBelow (n := W.heap.size) (by rintro b rfl; omega) (by omega))
    have hRR : RR = false := by
      rw [← hall, List.all_eq_false]
      exact ⟨n, hn, by simp [hno]⟩
    gi_wp2_with fail
    refine leave_mark (v := .bool false) hK fun C hC hCT => ?_
    have q0 := tcell hCT (Ne.symm hnD) h1
    refine ⟨by simp [results, Tryd.results122, go_sem, q0], rfl, ?_⟩
    exact Below.trans hkB (hCT.toBelow (by rintro b rfl; omega) (by have := hkB.size; omega))
end Go.Proofs.YtbhgicggpkibeaaDoor
set_option linter.all false
namespace Go.Proofs.YtbhgicggpkibeaaDoor
open Go.RowKit Go.Sort Go.Rg
set_option maxRecDepth 100000
attribute [local go_sem] Oper.semAt_some

set_option maxHeartbeats 4000000 in
theorem inSome_any (S : Nat → Prop) (c : Choir) (boy : Nat) (x : Boy) (hx : c.B.boys[boy]? = some x) (W : World) (h : ChoirAt S W c) (hS : ∀ b, S b → b < W.heap.size)
    (g : Nat) (caps : Array Value) (sb : List Int → Bool) (hso : Asks c boy x W g caps sb) :
    Calls Tryd.prog 123 #[c.val, .int .i64 (boy : Int), .func (.func g) #[] caps] W fun e B => e = .returned (.bool ((c.B.truths boy x).any sb)) ∧ Kept W B := by
  refine callsIn_wide.1 (callsIn_of_wp_marks (n := 0) Tryd.func123 rfl trivial ?_ rfl)
  simp only [Tryd.ntmps123, List.size_toArray, List.length_cons, List.length_nil, Nat.reduceAdd, Nat.reduceSub, Array.replicate_succ, Array.replicate_zero, List.push_toArray, List.append_toArray, List.nil_append, List.cons_append]
  generalize hany : (c.B.truths boy x).any sb = RR
  unfold Choir.val
  gi_wp2_with fail
  have hk0 : Kept W (((W.alloc (Obj.cells #[.slice (some ⟨c.bb, c.ob, none⟩) c.B.boys.length c.capb, .int .i64 c.B.weeks, .slice c.q c.B.trials.length c.capt, .map (some c.bm)] 84)).alloc (Obj.cells #[.func (.func g) #[] caps] 94)).alloc (Obj.cells #[.bool false] 4)) := kept_alloc (kept_alloc (kept_alloc (kept_refl _) _) _) _
  have hz0 : (((W.alloc (Obj.cells #[.slice (some ⟨c.bb, c.ob, none⟩) c.B.boys.length c.capb, .int .i64 c.B.weeks, .slice c.q c.B.trials.length c.capt, .map (some c.bm)] 84)).alloc (Obj.cells #[.func (.func g) #[] caps] 94)).alloc (Obj.cells #[.bool false] 4)).heap.size = W.heap.size + 1 + 1 + 1 := by simp
  have s0 : (((W.alloc (Obj.cells #[.slice (some ⟨c.bb, c.ob, none⟩) c.B.boys.length c.capb, .int .i64 c.B.weeks, .slice c.q c.B.trials.length c.capt, .map (some c.bm)] 84)).alloc (Obj.cells #[.func (.func g) #[] caps] 94)).alloc (Obj.cells #[.bool false] 4)).cell? ⟨W.heap.size + 1, 0, none⟩ = some (.func (.func g) #[] caps) := by go_simp
  have r0 : (((W.alloc (Obj.cells #[.slice (some ⟨c.bb, c.ob, none⟩) c.B.boys.length c.capb, .int .i64 c.B.weeks, .slice c.q c.B.trials.length c.capt, .map (some c.bm)] 84)).alloc (Obj.cells #[.func (.func g) #[] caps] 94)).alloc (Obj.cells #[.bool false] 4)).cell? ⟨W.heap.size + 1 + 1, 0, none⟩ = some (.bool false) := by go_simp
  have rf : (((W.alloc (Obj.cells #[.slice (some ⟨c.bb, c.ob, none⟩) c.B.boys.length c.capb, .int .i64 c.B.weeks, .slice c.q c.B.trials.length c.capt, .map (some c.bm)] 84)).alloc (Obj.cells #[.func (.func g) #[] caps] 94)).alloc (Obj.cells #[.bool false] 4)).frozen? ⟨W.heap.size + 1 + 1, 0, none⟩ = false := by go_simp
  generalize (((W.alloc (Obj.cells #[.slice (some ⟨c.bb, c.ob, none⟩) c.B.boys.length c.capb, .int .i64 c.B.weeks, .slice c.q c.B.trials.length c.capt, .map (some c.bm)] 84)).alloc (Obj.cells #[.func (.func g) #[] caps] 94)).alloc (Obj.cells #[.bool false] 4)) = W1 at *
  have hcall := truths_any c boy W1
  unfold Choir.val at hcall
  refine ⟨trivial, rfl, (callsIn_wide.2 hcall).mono ?_⟩
  rintro e W2 ⟨rfl, hk2, hz2, d0, d1, d2, d3, d4⟩
  rw [hz0] at d0 d1 d2 d3 d4 hz2
  have HKW := Lib.hid (kept_trans hk0 hk2)
  have hat := truthsAt_of (h.turns (kturns hk0 (fun _ => False)) (fun _ _ h => h)) hk2 rfl d0 d1 d2 d3 d4
  have HAT := Lib.hid hat; clear hat
  have q0 := kcell hk2 r0
  have qf : W2.frozen? ⟨W.heap.size + 1 + 1, 0, none⟩ = false := ((kturns hk2 (fun _ => False)).frozen (by omega) (fun h => h)).trans rf
  have t0 := kcell hk2 s0
  clear hcall d0 d1 d2 d3 d4 r0 rf s0
  generalize hrb : W.heap.size + 1 + 1 = rb at *
  generalize hsb : W.heap.size + 1 = sbx at *
  gi_wp2_with fail
  refine wpIn_range (gf := 144) (lb := #[.pointer (some ⟨rb + 1, 0, none⟩), .pointer (some ⟨rb + 1 + 1, 0, none⟩)]) rfl (enters_of Tryd.func144 (by kernel_rfl) rfl)
    (truths1_gives S c boy x hx (rb + 1) (rb + 1 + 1)) rfl (fun b => b = rb) (by rintro b rfl; omega) ?hS (fun B hB => HAT.out.kept hB)
    (fun k T' A => T' = (fun b => b = rb) ∧ A.cell? ⟨rb, 0, none⟩ = some (.bool false) ∧ A.frozen? ⟨rb, 0, none⟩ = false ∧ ∀ i n, i < k → (c.B.truths boy x)[i]? = some n → sb n = false)
    (fun e k T' A => e = .ret ∧ T' = (fun b => b = rb) ∧ A.cell? ⟨rb, 0, none⟩ = some (.bool true) ∧ ∃ n, n ∈ c.B.truths boy x ∧ sb n = true)
    ?hI ?hIx ⟨rfl, q0, qf, fun i n hi => by omega⟩ ?round ?done ?stop
  case hS =>
    rintro b (hb | rfl | rfl)
    · have := hS b hb
      exact ⟨by omega, by omega⟩
    · exact ⟨by omega, by omega⟩
    · exact ⟨by omega, by omega⟩
  case hI =>
    rintro k T' A B ⟨rfl, h1, h2, h3⟩ hq
    have hb := Go.Ai.lt_of_cell h1
    exact ⟨rfl, (hq.cell hb (.inr rfl)).trans h1, (hq.frozen hb (.inr rfl)).trans h2, h3⟩
  case hIx =>
    rintro e k T' A B ⟨rfl, rfl, h1, h2⟩ hq
    exact ⟨rfl, rfl, (hq.cell (Go.Ai.lt_of_cell h1) (.inr rfl)).trans h1, h2⟩
  case round =>
    rintro l k n T' A hn hE hz hTA hl hlA hnl ⟨rfl, h1, h2, h3⟩
    have hmem := List.mem_of_getElem? hn
    obtain ⟨n0, n1, n2, n3, n4, rfl⟩ := truths_len hmem
    have hkA : Kept W A := Below.trans HKW.out (hTA.toBelow (n := W.heap.size) (by rintro b rfl; omega) (by omega))
    have H3 := Lib.hid h3; clear h3
    have HN := Lib.hid hn; clear hn
    simp only [encT, List.map_cons, List.map_nil, List.append_toArray, List.cons_append, List.nil_append, Choir.k0, Choir.k2, Choir.m]
    gi_wp2_with fail
    refine ⟨_, Ext.refl _ _, (Turns.refl _ _).alloc _, ?_⟩
    intro A2 hA2 hs2 r hr
    have z1 : rb < A.heap.size := Go.Ai.lt_of_cell h1
    have hk1 : Kept A (A.alloc (Obj.cells #[.slice (some ⟨c.bb, c.ob, none⟩) c.B.boys.length c.capb, .int .i64 c.B.weeks, .slice c.q c.B.trials.length c.capt, .map (some c.bm), .int .i64 (boy : Int), .int .i64 n0, .int .i64 n1, .int .i64 n2, .int .i64 n3, .int .i64 n4] 92)) := kept_alloc (kept_refl _) _
    have e0 := tcell hA2 (by omega) (show (A.alloc (Obj.cells #[.slice (some ⟨c.bb, c.ob, none⟩) c.B.boys.length c.capb, .int .i64 c.B.weeks, .slice c.q c.B.trials.length c.capt, .map (some c.bm), .int .i64 (boy : Int), .int .i64 n0, .int .i64 n1, .int .i64 n2, .int .i64 n3, .int .i64 n4] 92)).cell? ⟨A.heap.size, 0, none⟩ = some (.slice (some ⟨c.bb, c.ob, none⟩) c.B.boys.length c.capb) by go_simp)
    have e1 := tcell hA2 (by omega) (show (A.alloc (Obj.cells #[.slice (some ⟨c.bb, c.ob, none⟩) c.B.boys.length c.capb, .int .i64 c.B.weeks, .slice c.q c.B.trials.length c.capt, .map (some c.bm), .int .i64 (boy : Int), .int .i64 n0, .int .i64 n1, .int .i64 n2, .int .i64 n3, .int .i64 n4] 92)).cell? ⟨A.heap.size, 1, none⟩ = some (.int .i64 c.B.weeks) by go_simp)
    have e2 := tcell hA2 (by omega) (show (A.alloc (Obj.cells #[.slice (some ⟨c.bb, c.ob, none⟩) c.B.boys.length c.capb, .int .i64 c.B.weeks, .slice c.q c.B.trials.length c.capt, .map (some c.bm), .int .i64 (boy : Int), .int .i64 n0, .int .i64 n1, .int .i64 n2, .int .i64 n3, .int .i64 n4] 92)).cell? ⟨A.heap.size, 2, none⟩ = some (.slice c.q c.B.trials.length c.capt) by go_simp)
    have e3 := tcell hA2 (by omega) (show (A.alloc (Obj.cells #[.slice (some ⟨c.bb, c.ob, none⟩) c.B.boys.length c.capb, .int .i64 c.B.weeks, .slice c.q c.B.trials.length c.capt, .map (some c.bm), .int .i64 (boy : Int), .int .i64 n0, .int .i64 n1, .int .i64 n2, .int .i64 n3, .int .i64 n4] 92)).cell? ⟨A.heap.size, 3, none⟩ = some (.map (some c.bm)) by go_simp)
    have e4 := tcell hA2 (by omega) (show (A.alloc (Obj.cells #[.slice (some ⟨c.bb, c.ob, none⟩) c.B.boys.length c.capb, .int .i64 c.B.weeks, .slice c.q c.B.trials.length c.capt, .map (some c.bm), .int .i64 (boy : Int), .int .i64 n0, .int .i64 n1, .int .i64 n2, .int .i64 n3, .int .i64 n4] 92)).cell? ⟨A.heap.size, 4, none⟩ = some (.int .i64 (boy : Int)) by go_simp)
    have e5 := tcell hA2 (by omega) (show (A.alloc (Obj.cells #[.slice (some ⟨c.bb, c.ob, none⟩) c.B.boys.length c.capb, .int .i64 c.B.weeks, .slice c.q c.B.trials.length c.capt, .map (some c.bm), .int .i64 (boy : Int), .int .i64 n0, .int .i64 n1, .int .i64 n2, .int .i64 n3, .int .i64 n4] 92)).cell? ⟨A.heap.size, 5, none⟩ = some (.int .i64 n0) by go_simp)
    have e6 := tcell hA2 (by omega) (show (A.alloc (Obj.cells #[.slice (some ⟨c.bb, c.ob, none⟩) c.B.boys.length c.capb, .int .i64 c.B.weeks, .slice c.q c.B.trials.length c.capt, .map (some c.bm), .int .i64 (boy : Int), .int .i64 n0, .int .i64 n1, .int .i64 n2, .int .i64 n3, .int .i64 n4] 92)).cell? ⟨A.heap.size, 6, none⟩ = some (.int .i64 n1) by go_simp)
    have e7 := tcell hA2 (by omega) (show (A.alloc (Obj.cells #[.slice (some ⟨c.bb, c.ob, none⟩) c.B.boys.length c.capb, .int .i64 c.B.weeks, .slice c.q c.B.trials.length c.capt, .map (some c.bm), .int .i64 (boy : Int), .int .i64 n0, .int .i64 n1, .int .i64 n2, .int .i64 n3, .int .i64 n4] 92)).cell? ⟨A.heap.size, 7, none⟩ = some (.int .i64 n2) by go_simp)
    have e8 := tcell hA2 (by omega) (show (A.alloc (Obj.cells #[.slice (some ⟨c.bb, c.ob, none⟩) c.B.boys.length c.capb, .int .i64 c.B.weeks, .slice c.q c.B.trials.length c.capt, .map (some c.bm), .int .i64 (boy : Int), .int .i64 n0, .int .i64 n1, .int .i64 n2, .int .i64 n3, .int .i64 n4] 92)).cell? ⟨A.heap.size, 8, none⟩ = some (.int .i64 n3) by go_simp)
    have e9 := tcell hA2 (by omega) (show (A.alloc (Obj.cells #[.slice (some ⟨c.bb, c.ob, none⟩) c.B.boys.length c.capb, .int .i64 c.B.weeks, .slice c.q c.B.trials.length c.capt, .map (some c.bm), .int .i64 (boy : Int), .int .i64 n0, .int .i64 n1, .int .i64 n2, .int .i64 n3, .int .i64 n4] 92)).cell? ⟨A.heap.size, 9, none⟩ = some (.int .i64 n4) by go_simp)
    have p0 := tcell hA2 (by omega) (kcell hk1 h1)
    have pf : A2.frozen? ⟨rb, 0, none⟩ = false := (hA2.frozen (by simp; omega) (by omega)).trans (((kturns hk1 (fun _ => False)).frozen z1 (fun h => h)).trans h2)
    have f0 := tcell hA2 (by omega) (kcell hk1 (tcell hTA (by omega) t0))
    have hk3 : Kept W A2 := Below.trans (kept_trans hkA hk1) (hA2.toBelow (n := W.heap.size) (by rintro b rfl; omega) (by have := hkA.size; have := hk1.size; omega))
    have hcall := hso.call A2 _ hk3 hmem
    simp only [encT, List.map_cons, List.map_nil, List.append_toArray, List.cons_append, List.nil_append, Choir.k0, Choir.k2, Choir.m] at hcall
    have heg := hso.enter
    clear hA2 hr hk1 h1 h2
    gi_wp2_with fail
    refine ⟨trivial, rfl, (CallsIn.inRound _ (callsIn_wide.2 hcall)).mono ?_⟩
    rintro e A3 ⟨rfl, hk4⟩
    have p0 := kcell hk4 p0
    have pf : A3.frozen? ⟨rb, 0, none⟩ = false := ((kturns hk4 (fun _ => False)).frozen (by omega) (fun h => h)).trans pf
    clear e0 e1 e2 e3 e4 e5 e6 e7 e8 e9 f0 hcall heg
    rcases hv : sb [n0, n1, n2, n3, n4] with _ | _
    · have HV := Lib.hid hv; clear hv
      gi_wp2_with fail
      refine ⟨fun b => b = rb, Ext.refl _ _, ?_, kturns hk4 _, rfl, p0, pf, ?_⟩
      · rintro b rfl
        have := hk4.size
        omega
      · intro i m hi hm
        by_cases e : i = k
        · subst e; rw [HN.out] at hm; cases hm; exact HV.out
        · exact H3.out i m (by omega) hm
    · have HV := Lib.hid hv; clear hv
      gi_wp2_with fail
      refine ⟨fun b => b = rb, Ext.refl _ _, ?_, Turns.setCell (T := fun b => b = rb) (kturns hk4 _) rfl _ _, rfl, rfl, ?_, _, hmem, HV.out⟩
      · rintro b rfl
        have := hk4.size
        simp; omega
      · exact cell_set_eq p0
  case done =>
    rintro Db T' B hDb hnD hE hTB ⟨rfl, h1, h2, h3⟩ hK
    have hkB : Below W.heap.size W B := Below.trans HKW.out (hTB.toBelow (n := W.heap.size) (by rintro b rfl; omega) (by omega))
    have hRR : RR = false := by
      rw [← hany, List.any_eq_false]
      intro n hn
      obtain ⟨i, hi, rfl⟩ := List.getElem_of_mem hn
      simp [h3 i _ hi (List.getElem?_eq_getElem hi)]
    have hzR := Go.Ai.lt_of_cell h1
    clear h3
    gi_wp2_with fail
    have hT5 : Turns (fun b => b = rb) B (B.setCell ⟨rb, 0, none⟩ (.bool false)) := (Turns.refl (fun b => b = rb) B).setCell rfl _ _
    have hc5 : (B.setCell ⟨rb, 0, none⟩ (.bool false)).cell? ⟨rb, 0, none⟩ = some (.bool false) := cell_set_eq h1
    generalize B.setCell ⟨rb, 0, none⟩ (.bool false) = B5 at *
    have hK5 := (hT5.block Db (Array.getElem?_eq_some_iff.1 hK).1 hnD).trans hK
    refine leave_mark (v := .bool false) hK5 fun C hC hCT => ?_
    have q0 := tcell hCT (Ne.symm hnD) hc5
    refine ⟨by simp [results, Tryd.results123, go_sem, q0], rfl, ?_⟩
    exact Below.trans (Below.trans hkB (hT5.toBelow (by rintro b rfl; omega) (by have := hkB.size; omega))) (hCT.toBelow (by rintro b rfl; omega) (by have := hkB.size; have := hT5.size; omega))
  case stop =>
    rintro Db e k T' B hDb hnD hE hTB hk ⟨rfl, rfl, h1, n, hn, hno⟩ hK
    have hkB : Below W.heap.size W B := Below.trans HKW.out (hTB.toBelow (n := W.heap.size) (by rintro b rfl; omega) (by omega))
    have hRR : RR = true := by
      rw [← hany, List.any_eq_true]
      exact ⟨n, hn, hno⟩
    gi_wp2_with fail
    refine leave_mark (v := .bool true) hK fun C hC hCT => ?_
    have q0 := tcell hCT (Ne.symm hnD) h1
    refine ⟨by simp [results, Tryd.results123, go_sem, q0], rfl, ?_⟩
    exact Below.trans hkB (hCT.toBelow (by rintro b rfl; omega) (by have := hkB.size; omega))
end Go.Proofs.YtbhgicggpkibeaaDoor
set_option linter.all false
namespace Go.Proofs.YtbhgicggpkibeaaDoor
open Go.RowKit Go.Sort Go.Rg
set_option maxRecDepth 100000

theorem Asks.kept {c : Choir} {boy : Nat} {x : Boy} {W V : World} {g : Nat} {caps : Array Value} {sb : List Int → Bool} (h : Asks c boy x W g caps sb) (k : Kept W V) : Asks c boy x V g caps sb :=
  ⟨h.enter, fun A n hA hn => h.call A n (kept_trans k hA) hn⟩
theorem oidx0 (w : World) : (Instr.index 165 (.agg #[.int .i64 2, .func (.func 122) #[] #[], .int .i64 1, .func (.func 123) #[] #[]]) (.int .i64 0)).run Tryd.prog w = .ok (.agg #[.int .i64 2, .func (.func 122) #[] #[]]) w := by kernel_rfl
theorem oidx1 (w : World) : (Instr.index 165 (.agg #[.int .i64 2, .func (.func 122) #[] #[], .int .i64 1, .func (.func 123) #[] #[]]) (.int .i64 1)).run Tryd.prog w = .ok (.agg #[.int .i64 1, .func (.func 123) #[] #[]]) w := by kernel_rfl
attribute [local go_sem] oidx0 oidx1
def oftenOf (l : List (List Int)) (sb : List Int → Bool) : Int := if l.all sb then 2 else if l.any sb then 1 else 0

set_option maxHeartbeats 4000000 in
theorem often_any (S : Nat → Prop) (c : Choir) (boy : Nat) (x : Boy) (hx : c.B.boys[boy]? = some x) (W : World) (h : ChoirAt S W c) (hS : ∀ b, S b → b < W.heap.size)
    (g : Nat) (caps : Array Value) (sb : List Int → Bool) (hso : Asks c boy x W g caps sb) :
    Calls Tryd.prog 88 #[c.val, .int .i64 (boy : Int), .func (.func g) #[] caps] W fun e B => e = .returned (.int .i64 (oftenOf (c.B.truths boy x) sb)) ∧ Kept W B := by
  have hE := fun V (k : Kept W V) => inEach_any S c boy x hx V (h.turns (kturns k (fun _ => False)) (fun _ _ h => h)) (fun b hb => Nat.lt_of_lt_of_le (hS b hb) k.size) g caps sb (hso.kept k)
  have hI := fun V (k : Kept W V) => inSome_any S c boy x hx V (h.turns (kturns k (fun _ => False)) (fun _ _ h => h)) (fun b hb => Nat.lt_of_lt_of_le (hS b hb) k.size) g caps sb (hso.kept k)
  generalize hRR : oftenOf (c.B.truths boy x) sb = RR
  generalize hall : (c.B.truths boy x).all sb = al at *
  generalize hany : (c.B.truths boy x).any sb = an at *
  have HRR : Hid (RR = if al then 2 else if an then 1 else 0) := Lib.hid (by rw [← hRR, ← hall, ← hany]; rfl)
  clear hRR hall hany
  unfold Choir.val at *
  go_enter Tryd.func88, Tryd.ntmps88
  go_wp2_with fail
  have hk0 : Kept W ((W.alloc (Obj.cells #[.slice (some ⟨c.bb, c.ob, none⟩) c.B.boys.length c.capb, .int .i64 c.B.weeks, .slice c.q c.B.trials.length c.capt, .map (some c.bm)] 84)).alloc (Obj.cells #[.int .i64 2, .func (.func 122) #[] #[], .int .i64 1, .func (.func 123) #[] #[]] 165)) := kept_alloc (kept_alloc (kept_refl _) _) _
  have c0 : ((W.alloc (Obj.cells #[.slice (some ⟨c.bb, c.ob, none⟩) c.B.boys.length c.capb, .int .i64 c.B.weeks, .slice c.q c.B.trials.length c.capt, .map (some c.bm)] 84)).alloc (Obj.cells #[.int .i64 2, .func (.func 122) #[] #[], .int .i64 1, .func (.func 123) #[] #[]] 165)).cell? ⟨W.heap.size, 0, none⟩ = some (.slice (some ⟨c.bb, c.ob, none⟩) c.B.boys.length c.capb) := by go_simp
  have c1 : ((W.alloc (Obj.cells #[.slice (some ⟨c.bb, c.ob, none⟩) c.B.boys.length c.capb, .int .i64 c.B.weeks, .slice c.q c.B.trials.length c.capt, .map (some c.bm)] 84)).alloc (Obj.cells #[.int .i64 2, .func (.func 122) #[] #[], .int .i64 1, .func (.func 123) #[] #[]] 165)).cell? ⟨W.heap.size, 1, none⟩ = some (.int .i64 c.B.weeks) := by go_simp
  have c2 : ((W.alloc (Obj.cells #[.slice (some ⟨c.bb, c.ob, none⟩) c.B.boys.length c.capb, .int .i64 c.B.weeks, .slice c.q c.B.trials.length c.capt, .map (some c.bm)] 84)).alloc (Obj.cells #[.int .i64 2, .func (.func 122) #[] #[], .int .i64 1, .func (.func 123) #[] #[]] 165)).cell? ⟨W.heap.size, 2, none⟩ = some (.slice c.q c.B.trials.length c.capt) := by go_simp
  have c3 : ((W.alloc (Obj.cells #[.slice (some ⟨c.bb, c.ob, none⟩) c.B.boys.length c.capb, .int .i64 c.B.weeks, .slice c.q c.B.trials.length c.capt, .map (some c.bm)] 84)).alloc (Obj.cells #[.int .i64 2, .func (.func 122) #[] #[], .int .i64 1, .func (.func 123) #[] #[]] 165)).cell? ⟨W.heap.size, 3, none⟩ = some (.map (some c.bm)) := by go_simp
  generalize ((W.alloc (Obj.cells #[.slice (some ⟨c.bb, c.ob, none⟩) c.B.boys.length c.capb, .int .i64 c.B.weeks, .slice c.q c.B.trials.length c.capt, .map (some c.bm)] 84)).alloc (Obj.cells #[.int .i64 2, .func (.func 122) #[] #[], .int .i64 1, .func (.func 123) #[] #[]] 165)) = V0 at *
  have HEI := Lib.hid (And.intro hE hI); clear hE hI
  clear hso
  go_loopw [14] (fun i V => ∃ j : Nat, j ≤ 2 ∧ i = .int .i64 j ∧ (1 ≤ j → al = false) ∧ (2 ≤ j → an = false) ∧ Kept V0 V) (fun i V => 2 - (intOf i).toNat)
  case atStart => exact ⟨0, by omega, rfl, (fun h => by omega), (fun h => by omega), kept_refl _⟩
  case round =>
    obtain ⟨j, hj, rfl, hal, han, hV⟩ := hrel
    have HAL := Lib.hid (And.intro hal han); clear hal han
    have hkV := kept_trans hk0 hV
    rcases (show j = 0 ∨ j = 1 ∨ j = 2 by omega) with rfl | rfl | rfl
    · have hltI : ((0 : Nat) : Int) < 2 := by omega
      have a0 := kcell hV c0
      have a1 := kcell hV c1
      have a2 := kcell hV c2
      have a3 := kcell hV c3
      have hzz := Go.Ai.lt_of_cell a0
      simp only [Int.natCast_zero] at hltI ⊢
      go_wp2_with fail
      refine (HEI.out.1 _ (kept_trans hkV (kept_alloc (kept_refl _) _))).mono ?_
      rintro e V2 ⟨rfl, hk2⟩
      have hk3 := kept_trans (kept_alloc (kept_refl _) _) hk2
      have hb0 := kcell hk2 (show (wr.alloc (Obj.cells #[.int .i64 2, .func (.func 122) #[] #[]] 164)).cell? ⟨wr.heap.size, 0, none⟩ = some (.int .i64 2) by go_simp)
      clear a0 a1 a2 a3
      cases al with
      | true =>
        go_wp2_with fail
        go_ret
        exact ⟨by rw [HRR.out]; rfl, kept_trans hkV hk3⟩
      | false =>
        go_wp2_with fail
        go_roundw
        case rel => exact ⟨1, by omega, by go_num, (fun _ => by simp), (fun h => by omega), kept_trans hV hk3⟩
        case measure => simp [intOf]
    · have hltI : ((1 : Nat) : Int) < 2 := by omega
      have a0 := kcell hV c0
      have a1 := kcell hV c1
      have a2 := kcell hV c2
      have a3 := kcell hV c3
      have hzz := Go.Ai.lt_of_cell a0
      go_wp2_with fail
      refine (HEI.out.2 _ (kept_trans hkV (kept_alloc (kept_refl _) _))).mono ?_
      rintro e V2 ⟨rfl, hk2⟩
      have hk3 := kept_trans (kept_alloc (kept_refl _) _) hk2
      have hb0 := kcell hk2 (show (wr.alloc (Obj.cells #[.int .i64 1, .func (.func 123) #[] #[]] 164)).cell? ⟨wr.heap.size, 0, none⟩ = some (.int .i64 1) by go_simp)
      have hal := HAL.out.1 (by omega)
      clear a0 a1 a2 a3
      cases an with
      | true =>
        go_wp2_with fail
        go_ret
        exact ⟨by rw [HRR.out, hal]; rfl, kept_trans hkV hk3⟩
      | false =>
        go_wp2_with fail
        go_roundw
        case rel => exact ⟨2, by omega, by go_num, (fun _ => by simpa using hal), (fun _ => by simp), kept_trans hV hk3⟩
        case measure => simp [intOf]
    · have hltI : ¬ ((2 : Nat) : Int) < 2 := by omega
      go_wp2_with fail
      go_ret
      exact ⟨by rw [HRR.out, HAL.out.1 (by omega), HAL.out.2 (by omega)]; rfl, hkV⟩
end Go.Proofs.YtbhgicggpkibeaaDoor
