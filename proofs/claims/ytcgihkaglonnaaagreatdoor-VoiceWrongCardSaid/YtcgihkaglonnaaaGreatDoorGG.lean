/- A part of the proof: contracts of the program's functions for every input. No conditions. -/
import Derived.Test.YtcgihkaglonnaaaGreatDoorGE
import Derived.Test.YtcgihkaglonnaaaGreatDoorGF
set_option linter.all false
set_option linter.all false
namespace Go.Proofs.YtcgihkaglonnaaaGreatDoor
open Go.RowKit Go.Sort Go.Rg
set_option maxRecDepth 100000

set_option maxHeartbeats 2000000 in
theorem lowest_any (p q : Option Addr) (cap capt : Nat) (B : Book) (boy : Nat) (W : World) (h : BookAt W p q cap capt B) (hg : Nothing W) (hok0 : B.okB = true) (hb : boy < B.boys.length) :
    Calls Tryz.prog 12 #[B.val p q cap capt, .int .i64 (boy : Int)] W (BothP B boy (fun n => (n.getD 0 0, true)) W) := by
  have hk0 : Kept W ((W.alloc (Obj.cells #[.slice p B.boys.length cap, .int .i64 B.weeks, .slice q B.trials.length capt] 25)).alloc (Obj.cells #[.int .i64 0, .int .i64 0] 32)) := kept_alloc (kept_alloc (kept_refl _) _) _
  have hcall := bothEnds_any p q cap capt B boy 0 (by omega) _ (h.kept hk0) (hg.kept hk0) hok0 hb
  have HC := Lib.hid hcall; clear hcall
  unfold Book.val at HC ⊢
  have s0 : ((W.alloc (Obj.cells #[.slice p B.boys.length cap, .int .i64 B.weeks, .slice q B.trials.length capt] 25)).alloc (Obj.cells #[.int .i64 0, .int .i64 0] 32)).cell? ⟨W.heap.size + 1, 0, none⟩ = some (.int .i64 0) := by go_simp
  have s1 : ((W.alloc (Obj.cells #[.slice p B.boys.length cap, .int .i64 B.weeks, .slice q B.trials.length capt] 25)).alloc (Obj.cells #[.int .i64 0, .int .i64 0] 32)).cell? ⟨W.heap.size + 1, 1, none⟩ = some (.int .i64 0) := by go_simp
  have sf : ∀ i, ((W.alloc (Obj.cells #[.slice p B.boys.length cap, .int .i64 B.weeks, .slice q B.trials.length capt] 25)).alloc (Obj.cells #[.int .i64 0, .int .i64 0] 32)).frozen? ⟨W.heap.size + 1, i, none⟩ = false := by intro i; go_simp
  go_enter Tryz.func12, Tryz.ntmps12
  generalize hBP : BothP B boy (fun n => (n.getD 0 0, true)) W = PP at *
  go_wp2_with fail
  generalize (W.alloc (Obj.cells #[.slice p B.boys.length cap, .int .i64 B.weeks, .slice q B.trials.length capt] 25)).alloc (Obj.cells #[.int .i64 0, .int .i64 0] 32) = W0 at *
  refine HC.out.mono ?_
  rintro e w2 ⟨lo, hi, err, rfl, hk2, hr⟩
  have t0 := kcell hk2 s0
  have t1 := kcell hk2 s1
  have tf0 : w2.frozen? ⟨W.heap.size + 1, 0, none⟩ = false := ((kturns hk2 (fun _ => False)).frozen (Go.Ai.lt_of_cell s0) (fun h => h)).trans (sf 0)
  have tf1 : w2.frozen? ⟨W.heap.size + 1, 1, none⟩ = false := ((kturns hk2 (fun _ => False)).frozen (Go.Ai.lt_of_cell s0) (fun h => h)).trans (sf 1)
  have hzs := Go.Ai.lt_of_cell t0
  go_wp2_with fail
  have hT := Turns.setCell (T := fun b => b = W.heap.size + 1) (Turns.setCell (T := fun b => b = W.heap.size + 1) (Turns.refl _ w2) rfl 0 (.int .i64 lo)) rfl 1 (.int .i64 hi)
  have v0 := (cell_set_ne (W := w2.setCell ⟨W.heap.size + 1, 0, none⟩ (.int .i64 lo)) (b := W.heap.size + 1) (o := 1) (o' := 0) (v := .int .i64 hi) (by omega)).trans (cell_set_eq t0)
  have v1 := cell_set_eq (v := .int .i64 hi) ((cell_set_ne (W := w2) (b := W.heap.size + 1) (o := 0) (o' := 1) (v := .int .i64 lo) (by omega)).trans t1)
  refine bodyPost_ret (v := .tuple #[.agg #[.int .i64 lo, .int .i64 hi], .int .i64 err]) (by simp [results, Tryz.results12, go_sem, v0, v1]) rfl ?_
  rw [← hBP]
  refine ⟨lo, hi, err, rfl, ?_, hr⟩
  exact Below.trans (kept_trans hk0 hk2) (hT.toBelow (n := W.heap.size) (by rintro b rfl; omega) (by have := (kept_trans hk0 hk2).size; omega))
end Go.Proofs.YtcgihkaglonnaaaGreatDoor
set_option linter.all false
namespace Go.Proofs.YtcgihkaglonnaaaGreatDoor
open Go.RowKit Go.Sort Go.Rg
set_option maxRecDepth 100000

set_option maxHeartbeats 2000000 in
theorem sings1_any (c : Choir) (boy : Nat) (wk note n0 n1 n2 n3 n4 loss : Int) (bw bn : Nat) (w : World) (hwc : w.cell? ⟨bw, 0, none⟩ = some (.int .i64 wk)) (hnc : w.cell? ⟨bn, 0, none⟩ = some (.int .i64 note))
   (hb : boy < c.B.boys.length) (hl : c.B.boys.length ≤ 4) (hc : w.cell? ⟨c.bb, c.ob + boy * 11 + 8, none⟩ = some (.int .i64 loss)) (hin : c.bb < w.heap.size)
   (h1 : 0 ≤ n1 ∧ n1 ≤ 100) (h2 : 0 ≤ n2 ∧ n2 ≤ 100) (h3 : 0 ≤ n3 ∧ n3 ≤ 100) (h4 : 0 ≤ wk ∧ wk ≤ 100) (h5 : 0 ≤ loss ∧ loss ≤ 100) :
    Calls Tryz.prog 70 #[encT c boy [n0, n1, n2, n3, n4], .pointer (some ⟨bw, 0, none⟩), .pointer (some ⟨bn, 0, none⟩)] w fun e w' => e = .returned (.bool (singsB n0 n1 n2 n3 n4 loss wk note note)) ∧ Kept w w' := by
  simp only [encT, List.map_cons, List.map_nil, List.append_toArray, List.cons_append, List.nil_append, Choir.k0, Choir.k2, Choir.m]
  have hzw := Go.Ai.lt_of_cell hwc
  have hzn := Go.Ai.lt_of_cell hnc
  have c0 : ∀ d os, (grow (redrawn (w.alloc (Obj.cells #[Value.slice (some ⟨c.bb, c.ob, none⟩) c.B.boys.length c.capb, Value.int IntKind.i64 c.B.weeks, Value.slice c.q c.B.trials.length c.capt, Value.map (some c.bm), Value.int IntKind.i64 ↑boy, Value.int IntKind.i64 n0, Value.int IntKind.i64 n1, Value.int IntKind.i64 n2, Value.int IntKind.i64 n3, Value.int IntKind.i64 n4] 86)) d) os).cell? ⟨w.heap.size, 0, none⟩ = some (Value.slice (some ⟨c.bb, c.ob, none⟩) c.B.boys.length c.capb) := cell_regrown (by go_simp)
  have c1 : ∀ d os, (grow (redrawn (w.alloc (Obj.cells #[Value.slice (some ⟨c.bb, c.ob, none⟩) c.B.boys.length c.capb, Value.int IntKind.i64 c.B.weeks, Value.slice c.q c.B.trials.length c.capt, Value.map (some c.bm), Value.int IntKind.i64 ↑boy, Value.int IntKind.i64 n0, Value.int IntKind.i64 n1, Value.int IntKind.i64 n2, Value.int IntKind.i64 n3, Value.int IntKind.i64 n4] 86)) d) os).cell? ⟨w.heap.size, 1, none⟩ = some (Value.int IntKind.i64 c.B.weeks) := cell_regrown (by go_simp)
  have c2 : ∀ d os, (grow (redrawn (w.alloc (Obj.cells #[Value.slice (some ⟨c.bb, c.ob, none⟩) c.B.boys.length c.capb, Value.int IntKind.i64 c.B.weeks, Value.slice c.q c.B.trials.length c.capt, Value.map (some c.bm), Value.int IntKind.i64 ↑boy, Value.int IntKind.i64 n0, Value.int IntKind.i64 n1, Value.int IntKind.i64 n2, Value.int IntKind.i64 n3, Value.int IntKind.i64 n4] 86)) d) os).cell? ⟨w.heap.size, 2, none⟩ = some (Value.slice c.q c.B.trials.length c.capt) := cell_regrown (by go_simp)
  have c3 : ∀ d os, (grow (redrawn (w.alloc (Obj.cells #[Value.slice (some ⟨c.bb, c.ob, none⟩) c.B.boys.length c.capb, Value.int IntKind.i64 c.B.weeks, Value.slice c.q c.B.trials.length c.capt, Value.map (some c.bm), Value.int IntKind.i64 ↑boy, Value.int IntKind.i64 n0, Value.int IntKind.i64 n1, Value.int IntKind.i64 n2, Value.int IntKind.i64 n3, Value.int IntKind.i64 n4] 86)) d) os).cell? ⟨w.heap.size, 3, none⟩ = some (Value.map (some c.bm)) := cell_regrown (by go_simp)
  have c4 : ∀ d os, (grow (redrawn (w.alloc (Obj.cells #[Value.slice (some ⟨c.bb, c.ob, none⟩) c.B.boys.length c.capb, Value.int IntKind.i64 c.B.weeks, Value.slice c.q c.B.trials.length c.capt, Value.map (some c.bm), Value.int IntKind.i64 ↑boy, Value.int IntKind.i64 n0, Value.int IntKind.i64 n1, Value.int IntKind.i64 n2, Value.int IntKind.i64 n3, Value.int IntKind.i64 n4] 86)) d) os).cell? ⟨w.heap.size, 4, none⟩ = some (Value.int IntKind.i64 ↑boy) := cell_regrown (by go_simp)
  have c5 : ∀ d os, (grow (redrawn (w.alloc (Obj.cells #[Value.slice (some ⟨c.bb, c.ob, none⟩) c.B.boys.length c.capb, Value.int IntKind.i64 c.B.weeks, Value.slice c.q c.B.trials.length c.capt, Value.map (some c.bm), Value.int IntKind.i64 ↑boy, Value.int IntKind.i64 n0, Value.int IntKind.i64 n1, Value.int IntKind.i64 n2, Value.int IntKind.i64 n3, Value.int IntKind.i64 n4] 86)) d) os).cell? ⟨w.heap.size, 5, none⟩ = some (Value.int IntKind.i64 n0) := cell_regrown (by go_simp)
  have c6 : ∀ d os, (grow (redrawn (w.alloc (Obj.cells #[Value.slice (some ⟨c.bb, c.ob, none⟩) c.B.boys.length c.capb, Value.int IntKind.i64 c.B.weeks, Value.slice c.q c.B.trials.length c.capt, Value.map (some c.bm), Value.int IntKind.i64 ↑boy, Value.int IntKind.i64 n0, Value.int IntKind.i64 n1, Value.int IntKind.i64 n2, Value.int IntKind.i64 n3, Value.int IntKind.i64 n4] 86)) d) os).cell? ⟨w.heap.size, 6, none⟩ = some (Value.int IntKind.i64 n1) := cell_regrown (by go_simp)
  have c7 : ∀ d os, (grow (redrawn (w.alloc (Obj.cells #[Value.slice (some ⟨c.bb, c.ob, none⟩) c.B.boys.length c.capb, Value.int IntKind.i64 c.B.weeks, Value.slice c.q c.B.trials.length c.capt, Value.map (some c.bm), Value.int IntKind.i64 ↑boy, Value.int IntKind.i64 n0, Value.int IntKind.i64 n1, Value.int IntKind.i64 n2, Value.int IntKind.i64 n3, Value.int IntKind.i64 n4] 86)) d) os).cell? ⟨w.heap.size, 7, none⟩ = some (Value.int IntKind.i64 n2) := cell_regrown (by go_simp)
  have c8 : ∀ d os, (grow (redrawn (w.alloc (Obj.cells #[Value.slice (some ⟨c.bb, c.ob, none⟩) c.B.boys.length c.capb, Value.int IntKind.i64 c.B.weeks, Value.slice c.q c.B.trials.length c.capt, Value.map (some c.bm), Value.int IntKind.i64 ↑boy, Value.int IntKind.i64 n0, Value.int IntKind.i64 n1, Value.int IntKind.i64 n2, Value.int IntKind.i64 n3, Value.int IntKind.i64 n4] 86)) d) os).cell? ⟨w.heap.size, 8, none⟩ = some (Value.int IntKind.i64 n3) := cell_regrown (by go_simp)
  have c9 : ∀ d os, (grow (redrawn (w.alloc (Obj.cells #[Value.slice (some ⟨c.bb, c.ob, none⟩) c.B.boys.length c.capb, Value.int IntKind.i64 c.B.weeks, Value.slice c.q c.B.trials.length c.capt, Value.map (some c.bm), Value.int IntKind.i64 ↑boy, Value.int IntKind.i64 n0, Value.int IntKind.i64 n1, Value.int IntKind.i64 n2, Value.int IntKind.i64 n3, Value.int IntKind.i64 n4] 86)) d) os).cell? ⟨w.heap.size, 9, none⟩ = some (Value.int IntKind.i64 n4) := cell_regrown (by go_simp)
  have kW : Kept w (w.alloc (Obj.cells #[Value.slice (some ⟨c.bb, c.ob, none⟩) c.B.boys.length c.capb, Value.int IntKind.i64 c.B.weeks, Value.slice c.q c.B.trials.length c.capt, Value.map (some c.bm), Value.int IntKind.i64 ↑boy, Value.int IntKind.i64 n0, Value.int IntKind.i64 n1, Value.int IntKind.i64 n2, Value.int IntKind.i64 n3, Value.int IntKind.i64 n4] 86)) := kept_alloc (kept_refl _) _
  have cw : ∀ d os, (grow (redrawn (w.alloc (Obj.cells #[Value.slice (some ⟨c.bb, c.ob, none⟩) c.B.boys.length c.capb, Value.int IntKind.i64 c.B.weeks, Value.slice c.q c.B.trials.length c.capt, Value.map (some c.bm), Value.int IntKind.i64 ↑boy, Value.int IntKind.i64 n0, Value.int IntKind.i64 n1, Value.int IntKind.i64 n2, Value.int IntKind.i64 n3, Value.int IntKind.i64 n4] 86)) d) os).cell? ⟨bw, 0, none⟩ = some (.int .i64 wk) := cell_regrown (((bcell kW).1 bw _ hzw).trans hwc)
  have cn : ∀ d os, (grow (redrawn (w.alloc (Obj.cells #[Value.slice (some ⟨c.bb, c.ob, none⟩) c.B.boys.length c.capb, Value.int IntKind.i64 c.B.weeks, Value.slice c.q c.B.trials.length c.capt, Value.map (some c.bm), Value.int IntKind.i64 ↑boy, Value.int IntKind.i64 n0, Value.int IntKind.i64 n1, Value.int IntKind.i64 n2, Value.int IntKind.i64 n3, Value.int IntKind.i64 n4] 86)) d) os).cell? ⟨bn, 0, none⟩ = some (.int .i64 note) := cell_regrown (((bcell kW).1 bn _ hzn).trans hnc)
  have cL : ∀ d os, (grow (redrawn (w.alloc (Obj.cells #[Value.slice (some ⟨c.bb, c.ob, none⟩) c.B.boys.length c.capb, Value.int IntKind.i64 c.B.weeks, Value.slice c.q c.B.trials.length c.capt, Value.map (some c.bm), Value.int IntKind.i64 ↑boy, Value.int IntKind.i64 n0, Value.int IntKind.i64 n1, Value.int IntKind.i64 n2, Value.int IntKind.i64 n3, Value.int IntKind.i64 n4] 86)) d) os).cell? ⟨c.bb, c.ob + boy * 11 + 8, none⟩ = some (.int .i64 loss) := cell_regrown (((bcell kW).1 c.bb _ hin).trans hc)
  have sW : w.heap.size ≤ (w.alloc (Obj.cells #[Value.slice (some ⟨c.bb, c.ob, none⟩) c.B.boys.length c.capb, Value.int IntKind.i64 c.B.weeks, Value.slice c.q c.B.trials.length c.capt, Value.map (some c.bm), Value.int IntKind.i64 ↑boy, Value.int IntKind.i64 n0, Value.int IntKind.i64 n1, Value.int IntKind.i64 n2, Value.int IntKind.i64 n3, Value.int IntKind.i64 n4] 86)).heap.size := by simp
  go_enter Tryz.func70, Tryz.ntmps70
  go_wp2_with fail
  generalize w.alloc (Obj.cells #[Value.slice (some ⟨c.bb, c.ob, none⟩) c.B.boys.length c.capb, Value.int IntKind.i64 c.B.weeks, Value.slice c.q c.B.trials.length c.capt, Value.map (some c.bm), Value.int IntKind.i64 ↑boy, Value.int IntKind.i64 n0, Value.int IntKind.i64 n1, Value.int IntKind.i64 n2, Value.int IntKind.i64 n3, Value.int IntKind.i64 n4] 86) = W at *
  have zL : ∀ d os, c.bb < (grow (redrawn W d) os).heap.size := fun d os => Nat.lt_of_lt_of_le (Nat.lt_of_lt_of_le hin sW) (below_regrown W d os).size
  have HL := Lib.hid cL
  have HZ := Lib.hid zL
  clear cL zL hc hwc hnc
  refine wp_region_quiet_below (by kernel_rfl) (by kernel_rfl) ?_
  repeat (any_goals (quiet_step (first | exact Calls.regrown_of (just_any _ _) | exact Calls.regrown_of (sings_any _ _ _ _ _ _ _ _ _ _ _ _ _ _ _ _ _ _ hb hl (HL.out _ _) (HZ.out _ _) h1 h2 h3 h4 h5))))
  refine wpQuiet_nil ?_
  intro _ hw'
  obtain ⟨⟨dq, osq⟩, hw''⟩ := hw'
  subst hw''
  have kW2 := kept_trans kW (below_regrown W dq osq)
  go_wp2_with fail
  go_ret
  exact ⟨rfl, kW2⟩

theorem sings_asks (S : Nat → Prop) (c : Choir) (boy : Nat) (wk note : Int) (x : Boy) (hx : c.B.boys[boy]? = some x) (bw bn : Nat) (W : World) (hat : ChoirAt S W c) (h4 : 0 ≤ wk ∧ wk ≤ 100) (hwc : W.cell? ⟨bw, 0, none⟩ = some (.int .i64 wk)) (hnc : W.cell? ⟨bn, 0, none⟩ = some (.int .i64 note)) :
    Asks c boy x W 70 #[.pointer (some ⟨bw, 0, none⟩), .pointer (some ⟨bn, 0, none⟩)] (singsN c.B wk note note boy) := by
  have hok := hat.ok
  have hlen : c.B.boys.length ≤ 4 := by
    have := hok
    simp only [Book.okB, inB, Bool.and_eq_true, decide_eq_true_eq] at this
    omega
  have hbl : boy < c.B.boys.length := (List.getElem?_eq_some_iff.1 hx).1
  have hxok : x.okB = true := by
    simp only [Book.okB, Bool.and_eq_true, List.all_eq_true] at hok
    exact hok.1.2 x (List.mem_of_getElem? hx)
  obtain ⟨hsp, hls⟩ := spanAt_ok x hxok
  refine ⟨enters_of Tryz.func70 (by kernel_rfl) rfl, fun A n hA hn => ?_⟩
  obtain ⟨_, _, _, _, _, _, _, _, c8, _⟩ := hat.boys.2 boy x hx
  have hr := truths_rng hn
  obtain ⟨n0, n1, n2, n3, n4, rfl⟩ := truths_len hn
  have r1 := hr 1 n1 rfl
  have r2 := hr 2 n2 rfl
  have r3 := hr 3 n3 rfl
  have s1 := hsp 1 (by omega)
  have s2 := hsp 2 (by omega)
  have s3 := hsp 3 (by omega)
  have := sings1_any c boy wk note n0 n1 n2 n3 n4 x.ls bw bn A (kcell hA hwc) (kcell hA hnc) hbl hlen (kcell hA c8) (Nat.lt_of_lt_of_le hat.boys.1 hA.size) (by omega) (by omega) (by omega) h4 (by omega)
  simpa [singsN, hx] using this

/-- how often a boy can sing a note in a week, or the error of trials that cannot all be right -/
def SingP (B : Book) (boy : Nat) (week note : Int) (W : World) (e : Ending) (C : World) : Prop :=
  ∃ v err, e = .returned (.tuple #[.int .i64 v, .int .i64 err]) ∧ Kept W C ∧
    ((err = 0 ∧ Can B ∧ ∃ x, B.boys[boy]? = some x ∧ v = oftenOf (B.truths boy x) (singsN B week note note boy)) ∨ (err = 22 ∧ ¬ Can B ∧ v = 0))

set_option maxHeartbeats 4000000 in
theorem sings_all (p q : Option Addr) (cap capt : Nat) (B : Book) (boy : Nat) (week note : Int) (W : World) (h : BookAt W p q cap capt B) (hg : Nothing W) (hok0 : B.okB = true) (hb : boy < B.boys.length) (hwk0 : 0 ≤ week ∧ week < B.weeks) (hnt0 : 0 ≤ note ∧ note ≤ 40) :
    Calls Tryz.prog 19 #[B.val p q cap capt, .int .i64 (boy : Int), .int .i64 week, .int .i64 note] W (SingP B boy week note W) := by
  have hwk : 0 ≤ B.weeks ∧ B.weeks ≤ 1000 := by
    have := hok0
    simp only [Book.okB, inB, Bool.and_eq_true, decide_eq_true_eq] at this
    omega
  have hwk1 : 0 ≤ week ∧ week ≤ 100 := by
    have := hok0
    simp only [Book.okB, inB, Bool.and_eq_true, decide_eq_true_eq] at this
    omega
  have hnb := h.nb
  have hboyT : inB (boy : Int) 0 (B.boys.length - 1) = true := by simp [inB]; omega
  have hweekT : inB week 0 (B.weeks - 1) = true := by simp [inB]; omega
  have hnoteT : inB note 0 40 = true := by simp [inB]; omega
  refine callsIn_wide.1 (callsIn_of_wp (n := 0) Tryz.func19 rfl trivial ?_ rfl)
  simp only [Tryz.ntmps19, List.size_toArray, List.length_cons, List.length_nil, Nat.reduceAdd, Nat.reduceSub, Array.replicate_succ, Array.replicate_zero, List.push_toArray, List.append_toArray, List.nil_append, List.cons_append]
  unfold Book.val
  gi_wp2_with fail
  have hk0 : Kept W (((W.alloc (Obj.cells #[.slice p B.boys.length cap, .int .i64 B.weeks, .slice q B.trials.length capt] 25)).alloc (Obj.cells #[.int .i64 week] 3)).alloc (Obj.cells #[.int .i64 note] 3)) := kept_alloc (kept_alloc (kept_alloc (kept_refl _) _) _) _
  have a0c : (((W.alloc (Obj.cells #[.slice p B.boys.length cap, .int .i64 B.weeks, .slice q B.trials.length capt] 25)).alloc (Obj.cells #[.int .i64 week] 3)).alloc (Obj.cells #[.int .i64 note] 3)).cell? ⟨W.heap.size, 0, none⟩ = some (.slice p B.boys.length cap) := by go_simp
  have a1c : (((W.alloc (Obj.cells #[.slice p B.boys.length cap, .int .i64 B.weeks, .slice q B.trials.length capt] 25)).alloc (Obj.cells #[.int .i64 week] 3)).alloc (Obj.cells #[.int .i64 note] 3)).cell? ⟨W.heap.size, 1, none⟩ = some (.int .i64 B.weeks) := by go_simp
  have a2c : (((W.alloc (Obj.cells #[.slice p B.boys.length cap, .int .i64 B.weeks, .slice q B.trials.length capt] 25)).alloc (Obj.cells #[.int .i64 week] 3)).alloc (Obj.cells #[.int .i64 note] 3)).cell? ⟨W.heap.size, 2, none⟩ = some (.slice q B.trials.length capt) := by go_simp
  have wc : (((W.alloc (Obj.cells #[.slice p B.boys.length cap, .int .i64 B.weeks, .slice q B.trials.length capt] 25)).alloc (Obj.cells #[.int .i64 week] 3)).alloc (Obj.cells #[.int .i64 note] 3)).cell? ⟨W.heap.size + 1, 0, none⟩ = some (.int .i64 week) := by go_simp
  have nc : (((W.alloc (Obj.cells #[.slice p B.boys.length cap, .int .i64 B.weeks, .slice q B.trials.length capt] 25)).alloc (Obj.cells #[.int .i64 week] 3)).alloc (Obj.cells #[.int .i64 note] 3)).cell? ⟨W.heap.size + 1 + 1, 0, none⟩ = some (.int .i64 note) := by go_simp
  generalize (((W.alloc (Obj.cells #[.slice p B.boys.length cap, .int .i64 B.weeks, .slice q B.trials.length capt] 25)).alloc (Obj.cells #[.int .i64 week] 3)).alloc (Obj.cells #[.int .i64 note] 3)) = W0 at *
  refine wpIn_region_invL (StO 13 (fun j => match j with | 0 => (.agg #[.slice p B.boys.length cap, .int .i64 B.weeks, .slice q B.trials.length capt]) | 1 => (.agg #[.slice p B.boys.length cap, .int .i64 B.weeks, .slice q B.trials.length capt]) | 2 => .int .i64 (boy : Int) | 5 => (.agg #[.slice p B.boys.length cap, .int .i64 B.weeks, .slice q B.trials.length capt]) | 6 => .int .i64 week | 10 => .int .i64 note | _ => .bool true) W0 B true) (by kernel_rfl) (by kernel_rfl) StO.start ?hop ?hend
  case hop =>
    rintro i o listed a w hl ho h1 h2 hcl ⟨v, err, pp, ha, hw⟩
    have hi11 : i < 20 := (List.getElem?_eq_some_iff.1 ho).1
    match i, ho with
    | 0, ho =>
      have st := StO.same (by kernel_rfl) ha hw ho h1 (by omega) (by omega) (by omega) (kept_refl w)
      have ST := Lib.hid st; clear st
      cases ho
      rw [if_pos (by rfl)]
      have t4 := ha.old 4 (by kernel_rfl)
      simp at t4
      have r0 := kcell hw.kept a0c
      have r1 := kcell hw.kept a1c
      have r2 := kcell hw.kept a2c
      go_simp
      exact ST.out
    | 1, ho =>
      have st := StO.same (by kernel_rfl) ha hw ho h1 (by omega) (by omega) (by omega) (kept_refl w)
      have ST := Lib.hid st; clear st
      cases ho
      rw [if_pos (by rfl)]
      have t4 := ha.old 4 (by kernel_rfl)
      simp at t4
      have r0 := kcell hw.kept a0c
      have r1 := kcell hw.kept a1c
      have r2 := kcell hw.kept a2c
      go_simp
      exact ST.out
    | 2, ho =>
      have st := StO.same (by kernel_rfl) ha hw ho h1 (by omega) (by omega) (by omega) (kept_refl w)
      have ST := Lib.hid st; clear st
      cases ho
      rw [if_pos (by rfl)]
      have t1 := ha.old 1 (by kernel_rfl)
      simp at t1
      go_simp
      exact ST.out
    | 3, ho =>
      have st := fun w' (k : Kept w w') => StO.same (by kernel_rfl) ha hw ho h1 (by omega) (by omega) (by omega) k
      have ST := Lib.hid st; clear st
      cases ho
      rw [if_pos (by rfl)]
      have t14 := ha.new 1 (h2 ⟨1, .data⟩ (by simp) rfl) (d := 14) rfl rfl (by simp)
      simp [openVs] at t14
      have t15 := ha.new 2 (h2 ⟨2, .data⟩ (by simp) rfl) (d := 15) rfl rfl (by simp)
      simp [openVs] at t15
      have hcall := isBoy_any p B.boys.length cap (.int .i64 B.weeks) (.slice q B.trials.length capt) (boy : Int) w hnb
      rw [hboyT] at hcall
      go_simp
      refine ⟨trivial, rfl, (callsIn_wide.2 hcall).mono ?_⟩
      rintro e w' ⟨rfl, hk⟩
      exact ST.out _ hk
    | 4, ho =>
      have st := StO.same (by kernel_rfl) ha hw ho h1 (by omega) (by omega) (by omega) (kept_refl w)
      have ST := Lib.hid st; clear st
      cases ho
      rw [if_pos (by rfl)]
      have t16 := ha.new 3 (h2 ⟨3, .data⟩ (by simp) rfl) (d := 16) rfl rfl (by simp)
      simp [openVs] at t16
      go_simp
      exact ST.out
    | 5, ho =>
      have st := StO.same (by kernel_rfl) ha hw ho h1 (by omega) (by omega) (by omega) (kept_refl w)
      have ST := Lib.hid st; clear st
      cases ho
      have t17 := ha.new 4 (h2 ⟨4, .guard⟩ (by simp) rfl) (d := 17) rfl rfl (by simp)
      simp [openVs] at t17
      rw [if_pos (by simp [Region.wanted, yielded, getD_bool t17])]
      have t4 := ha.old 4 (by kernel_rfl)
      simp at t4
      have r0 := kcell hw.kept a0c
      have r1 := kcell hw.kept a1c
      have r2 := kcell hw.kept a2c
      go_simp
      exact ST.out
    | 6, ho =>
      have st := StO.same (by kernel_rfl) ha hw ho h1 (by omega) (by omega) (by omega) (kept_refl w)
      have ST := Lib.hid st; clear st
      cases ho
      have t17 := ha.new 4 (h2 ⟨4, .guard⟩ (by simp) rfl) (d := 17) rfl rfl (by simp)
      simp [openVs] at t17
      rw [if_pos (by simp [Region.wanted, yielded, getD_bool t17])]
      have t6 := ha.old 6 (by kernel_rfl)
      simp at t6
      have rw0 := kcell hw.kept wc
      go_simp
      exact ST.out
    | 7, ho =>
      have st := fun w' (k : Kept w w') => StO.same (by kernel_rfl) ha hw ho h1 (by omega) (by omega) (by omega) k
      have ST := Lib.hid st; clear st
      cases ho
      have t17 := ha.new 4 (h2 ⟨4, .guard⟩ (by simp) rfl) (d := 17) rfl rfl (by simp)
      simp [openVs] at t17
      rw [if_pos (by simp [Region.wanted, yielded, getD_bool t17])]
      have t18 := ha.new 5 (h2 ⟨5, .data⟩ (by simp) rfl) (d := 18) rfl rfl (by simp)
      simp [openVs] at t18
      have t19 := ha.new 6 (h2 ⟨6, .data⟩ (by simp) rfl) (d := 19) rfl rfl (by simp)
      simp [openVs] at t19
      have hcall := isWeek_any (.slice p B.boys.length cap) (.slice q B.trials.length capt) B.weeks week w hwk.1 hwk.2
      rw [hweekT] at hcall
      go_simp
      refine ⟨trivial, rfl, (callsIn_wide.2 hcall).mono ?_⟩
      rintro e w' ⟨rfl, hk⟩
      exact ST.out _ hk
    | 8, ho =>
      have st := StO.same (by kernel_rfl) ha hw ho h1 (by omega) (by omega) (by omega) (kept_refl w)
      have ST := Lib.hid st; clear st
      cases ho
      rw [if_pos (by rfl)]
      have t17 := ha.new 4 (h2 ⟨4, .data⟩ (by simp) rfl) (d := 17) rfl rfl (by simp)
      simp [openVs] at t17
      have t20 := ha.new 7 (h2 ⟨7, .data⟩ (by simp) rfl) (d := 20) rfl rfl (by simp)
      simp [openVs] at t20
      go_simp
      exact ST.out
    | 9, ho =>
      have st := StO.same (by kernel_rfl) ha hw ho h1 (by omega) (by omega) (by omega) (kept_refl w)
      have ST := Lib.hid st; clear st
      cases ho
      rw [if_pos (by rfl)]
      have t21 := ha.new 8 (h2 ⟨8, .data⟩ (by simp) rfl) (d := 21) rfl rfl (by simp)
      simp [openVs] at t21
      go_simp
      exact ST.out
    | 10, ho =>
      have st := StO.same (by kernel_rfl) ha hw ho h1 (by omega) (by omega) (by omega) (kept_refl w)
      have ST := Lib.hid st; clear st
      cases ho
      have t22 := ha.new 9 (h2 ⟨9, .guard⟩ (by simp) rfl) (d := 22) rfl rfl (by simp)
      simp [openVs] at t22
      rw [if_pos (by simp [Region.wanted, yielded, getD_bool t22])]
      have t7 := ha.old 7 (by kernel_rfl)
      simp at t7
      have rn0 := kcell hw.kept nc
      go_simp
      exact ST.out
    | 11, ho =>
      have st := fun w' (k : Kept w w') => StO.same (by kernel_rfl) ha hw ho h1 (by omega) (by omega) (by omega) k
      have ST := Lib.hid st; clear st
      cases ho
      have t22 := ha.new 9 (h2 ⟨9, .guard⟩ (by simp) rfl) (d := 22) rfl rfl (by simp)
      simp [openVs] at t22
      rw [if_pos (by simp [Region.wanted, yielded, getD_bool t22])]
      have t23 := ha.new 10 (h2 ⟨10, .data⟩ (by simp) rfl) (d := 23) rfl rfl (by simp)
      simp [openVs] at t23
      have hcall := isNote_any note w
      rw [hnoteT] at hcall
      go_simp
      refine ⟨trivial, rfl, (callsIn_wide.2 hcall).mono ?_⟩
      rintro e w' ⟨rfl, hk⟩
      subst hk; exact ST.out _ (kept_refl _)
    | 12, ho =>
      have st := StO.same (by kernel_rfl) ha hw ho h1 (by omega) (by omega) (by omega) (kept_refl w)
      have ST := Lib.hid st; clear st
      cases ho
      rw [if_pos (by rfl)]
      have t22 := ha.new 9 (h2 ⟨9, .data⟩ (by simp) rfl) (d := 22) rfl rfl (by simp)
      simp [openVs] at t22
      have t24 := ha.new 11 (h2 ⟨11, .data⟩ (by simp) rfl) (d := 24) rfl rfl (by simp)
      simp [openVs] at t24
      go_simp
      exact ST.out
    | 13, ho =>
      obtain ⟨n5, n6, n7, n9, n10⟩ := open_first hcl h1 ⟨_, rfl, ⟨13, .data⟩, by simp, rfl, rfl⟩ ⟨_, rfl, ⟨14, .data⟩, by simp, rfl, rfl⟩ ⟨_, rfl, ⟨14, .data⟩, by simp, rfl, rfl⟩ ⟨_, rfl, ⟨15, .data⟩, by simp, rfl, rfl⟩ ⟨_, rfl, ⟨16, .data⟩, by simp, rfl, rfl⟩
      have st := fun v' err' w' (k : OpenReg W0 B true v' err' pp true (on listed 17) (on listed 18) w') => StO.opened (by kernel_rfl) ha hl ho h1 n5 n6 n7 n9 n10 k
      have ST := Lib.hid st; clear st
      cases ho
      rw [if_pos (by rfl)]
      have t13 := ha.new 0 (h2 ⟨0, .data⟩ (by simp) rfl) (d := 13) rfl rfl (by simp)
      simp [openVs] at t13
      have t25 := ha.new 12 (h2 ⟨12, .data⟩ (by simp) rfl) (d := 25) rfl rfl (by simp)
      simp [openVs] at t25
      have hcall := open_any p q cap capt B true W w h (kept_trans hk0 hw.kept) (hg.kept (kept_trans hk0 hw.kept))
      unfold Book.val at hcall
      have HOP := Lib.hid (fun e w' => hw.opened (e := e) (w' := w') W.heap.size hk0.size n9)
      go_simp
      refine ⟨trivial, rfl, (callsIn_wide.2 hcall).mono ?_⟩
      intro e w' hop
      obtain ⟨v', err', rfl, hr⟩ := HOP.out e w' hop
      exact ST.out v' err' w' hr
    | 14, ho =>
      have st := StO.same (by kernel_rfl) ha hw ho h1 (by omega) (by omega) (by omega) (kept_refl w)
      have ST := Lib.hid st; clear st
      cases ho
      rw [if_pos (by rfl)]
      have t26 := ha.new 13 (h2 ⟨13, .data⟩ (by simp) rfl) (d := 26) rfl rfl (by simp)
      simp [openVs] at t26
      go_simp
      exact ST.out
    | 15, ho =>
      have st := StO.same (by kernel_rfl) ha hw ho h1 (by omega) (by omega) (by omega) (kept_refl w)
      have ST := Lib.hid st; clear st
      cases ho
      rw [if_pos (by rfl)]
      have t12 := ha.new 14 (h2 ⟨14, .data⟩ (by simp) rfl) (d := 12) rfl rfl (by simp)
      simp [openVs] at t12
      go_simp
      exact ST.out
    | 16, ho =>
      have st := StO.same (by kernel_rfl) ha hw ho h1 (by omega) (by omega) (by omega) (kept_refl w)
      have ST := Lib.hid st; clear st
      cases ho
      rw [if_pos (by rfl)]
      have t12 := ha.new 14 (h2 ⟨14, .data⟩ (by simp) rfl) (d := 12) rfl rfl (by simp)
      simp [openVs] at t12
      go_simp
      exact ST.out
    | 17, ho =>
      have n9 : on listed 18 = false := by
        cases hb : on listed 18 with
        | false => rfl
        | true => have := hcl 18 _ rfl hb ⟨17, .data⟩ (by simp) rfl; rw [on_no h1] at this; cases this
      have st := StO.boxed (by kernel_rfl) ha hw hl ho h1 n9
      have ST := Lib.hid st; clear st
      cases ho
      rw [if_pos (by rfl)]
      go_simp
      exact ST.out
    | 18, ho =>
      have y8 : on listed 17 = true := h2 ⟨17, .data⟩ (by cases ho; simp) rfl
      have y4 : on listed 13 = true := h2 ⟨13, .chain⟩ (by cases ho; simp) rfl
      have t10 := ha.new 17 y8 (d := 10) rfl rfl (by simp)
      simp [openVs] at t10
      have t27 := ha.new 15 (h2 ⟨15, .data⟩ (by cases ho; simp) rfl) (d := 27) rfl rfl (by simp)
      simp [openVs] at t27
      obtain ⟨hbp, ⟨f0, f1, f2, f3, b0, b1, b2, b3⟩, hbf⟩ := hw.box y8
      have bf0 := hbf 0
      have bf1 := hbf 1
      have bf2 := hbf 2
      have bf3 := hbf 3
      rcases hw.res y4 with ⟨_, _, _, _, c, S, hcB, rfl, _⟩ | ⟨rfl, _⟩
      · clear hcB
        have st := StO.stored (by kernel_rfl) ha hw hl ho (by cases ho; rfl) h1 y8 (show c.val = _ from rfl)
        have ST := Lib.hid st; clear st
        cases ho
        rw [if_pos (by rfl)]
        unfold Choir.val at t27
        clear hbf
        go_simp
        exact ST.out
      · have st := StO.stored (by kernel_rfl) ha hw hl ho (by cases ho; rfl) h1 y8 (show zeroChoir = _ from rfl)
        have ST := Lib.hid st; clear st
        cases ho
        rw [if_pos (by rfl)]
        unfold zeroChoir at t27
        clear hbf
        go_simp
        exact ST.out
    | 19, ho =>
      have st := StO.same (by kernel_rfl) ha hw ho h1 (by omega) (by omega) (by omega) (kept_refl w)
      have ST := Lib.hid st; clear st
      cases ho
      rw [if_pos (by rfl)]
      have t28 := ha.new 16 (h2 ⟨16, .data⟩ (by simp) rfl) (d := 28) rfl rfl (by simp)
      simp [openVs] at t28
      go_simp
      exact ST.out

  case hend =>
    rintro listed a w hall ⟨v, err, pp, ha, hw⟩
    rw [show on listed 13 = true from hall 13 (by simp), show on listed 17 = true from hall 17 (by simp), show on listed 18 = true from hall 18 (by simp)] at hw
    obtain ⟨y, hy, hae⟩ := ha.lit (n := 36) rfl
    have y1 := (hy 1).symm.trans (ha.old 1 (by kernel_rfl))
    have y6 := (hy 6).symm.trans (ha.old 6 (by kernel_rfl))
    have y7 := (hy 7).symm.trans (ha.old 7 (by kernel_rfl))
    have y8 := (hy 8).symm.trans (ha.old 8 (by kernel_rfl))
    have y9 := (hy 9).symm.trans (ha.old 9 (by kernel_rfl))
    have y10 := (hy 10).symm.trans (ha.new 17 (hall 17 (by simp)) (d := 10) rfl rfl (by simp))
    have y11 := (hy 11).symm.trans (ha.new 19 (hall 19 (by simp)) (d := 11) rfl rfl (by simp))
    simp at y1 y6 y7 y8 y9
    simp [openVs] at y10 y11
    simp only [List.range, List.range.loop, List.map] at hae
    rw [y1, y6, y7, y8, y9, y10, y11] at hae
    subst hae
    clear ha hy y1 y6 y7 y8 y9 y10 y11
    refine (by assumption : ∀ a w, Code.wpIn _ _ _ _ _ a w → _) _ w ?_
    have wk := kcell hw.kept wc
    have wn := kcell hw.kept nc
    obtain ⟨_, x0, x1, x2, x3, hv, b0, b1, b2, b3⟩ := hw.put rfl
    rcases hw.res rfl with ⟨rfl, hok, _, hcan, c, S, hcB, hvc, hch, hSz, hSp⟩ | ⟨rfl, herr⟩
    · subst hcB
      subst hvc
      have e4 := congrArg (fun u => match u with | Value.agg cs => cs.toList | _ => []) hv
      simp only [Choir.val, List.cons.injEq, and_true] at e4
      obtain ⟨rfl, rfl, rfl, rfl⟩ := e4
      have hzp := Go.Ai.lt_of_cell b0
      have hzw := Go.Ai.lt_of_cell wk
      have hx : c.B.boys[boy]? = some c.B.boys[boy] := List.getElem?_eq_getElem hb
      generalize c.B.boys[boy] = x at *
      gi_wp2_with fail
      have hcall := often_any S c boy x hx w hch hSz _ _ (singsN c.B week note note boy) (sings_asks S c boy week note x hx (W.heap.size + 1) (W.heap.size + 1 + 1) w hch hwk1 wk wn)
      unfold Choir.val at hcall
      refine ⟨trivial, rfl, (callsIn_wide.2 hcall).mono ?_⟩
      rintro e w2 ⟨rfl, hk7⟩
      clear hcall
      gi_wp2_with fail
      refine bodyPost_ret (v := .tuple #[.int .i64 (oftenOf (c.B.truths boy x) (singsN c.B week note note boy)), .int .i64 0]) (by simp [results, Tryz.results19, go_sem]) rfl ?_
      exact ⟨_, 0, rfl, kept_trans (kept_trans hk0 hw.kept) hk7, .inl ⟨rfl, hcan, x, hx, rfl⟩⟩
    · rcases herr with ⟨_, he⟩ | ⟨_, _, he⟩ | ⟨rfl, _, _, hnc⟩
      · rw [hok0] at he; cases he
      · cases he
      gi_wp2_with fail
      refine bodyPost_ret (v := .tuple #[.int .i64 0, .int .i64 22]) (by simp [results, Tryz.results19, go_sem]) rfl ?_
      exact ⟨_, 22, rfl, kept_trans hk0 hw.kept, .inr ⟨rfl, hnc, rfl⟩⟩
end Go.Proofs.YtcgihkaglonnaaaGreatDoor
set_option linter.all false
namespace Go.Proofs.YtcgihkaglonnaaaGreatDoor
open Go.RowKit Go.Sort Go.Rg
set_option maxRecDepth 100000

theorem spanFold (f : List Int → Int × Bool) (l : List (List Int)) : ∀ (a b : Int), a ≤ b → ∃ lo hi, l.foldl (spanAcc f) (a, b, true) = (lo, hi, true) ∧ lo ≤ a ∧ b ≤ hi ∧
    (∀ n ∈ l, (f n).2 = true → lo ≤ (f n).1 ∧ (f n).1 ≤ hi) ∧ (lo = a ∨ ∃ n ∈ l, (f n).2 = true ∧ (f n).1 = lo) ∧ (hi = b ∨ ∃ n ∈ l, (f n).2 = true ∧ (f n).1 = hi) := by
  induction l with
  | nil => exact fun a b h => ⟨a, b, rfl, by omega, by omega, by simp, .inl rfl, .inl rfl⟩
  | cons n l ih =>
    intro a b h
    rw [List.foldl_cons]
    cases hn : (f n).2 with
    | false =>
      have e : spanAcc f (a, b, true) n = (a, b, true) := by simp [spanAcc, hn]
      rw [e]
      obtain ⟨lo, hi, e1, h1, h2, h3, h4, h5⟩ := ih a b h
      refine ⟨lo, hi, e1, h1, h2, ?_, ?_, ?_⟩
      · intro m hm ht
        rcases List.mem_cons.1 hm with rfl | hm
        · rw [hn] at ht; cases ht
        · exact h3 m hm ht
      · exact h4.imp id (fun ⟨m, hm, r⟩ => ⟨m, List.mem_cons_of_mem _ hm, r⟩)
      · exact h5.imp id (fun ⟨m, hm, r⟩ => ⟨m, List.mem_cons_of_mem _ hm, r⟩)
    | true =>
      have e : spanAcc f (a, b, true) n = (min a (f n).1, max b (f n).1, true) := by simp [spanAcc, hn, spanStep]
      rw [e]
      obtain ⟨lo, hi, e1, h1, h2, h3, h4, h5⟩ := ih (min a (f n).1) (max b (f n).1) (by omega)
      have H4 := Lib.hid h4; have H5 := Lib.hid h5; have H := Lib.hid h3
      clear h4 h5 h3 ih
      refine ⟨lo, hi, e1, by omega, by omega, ?_, ?_, ?_⟩
      · intro m hm ht
        rcases List.mem_cons.1 hm with rfl | hm
        · omega
        · exact H.out m hm ht
      · rcases H4.out with h4 | ⟨m, hm, r⟩
        · by_cases hc : a ≤ (f n).1
          · exact .inl (by omega)
          · exact .inr ⟨n, List.mem_cons_self, hn, by omega⟩
        · exact .inr ⟨m, List.mem_cons_of_mem _ hm, r⟩
      · rcases H5.out with h5 | ⟨m, hm, r⟩
        · by_cases hc : (f n).1 ≤ b
          · exact .inl (by omega)
          · exact .inr ⟨n, List.mem_cons_self, hn, by omega⟩
        · exact .inr ⟨m, List.mem_cons_of_mem _ hm, r⟩
theorem spanOf_none (f : List Int → Int × Bool) (l : List (List Int)) : (∀ n ∈ l, (f n).2 = false) → spanOf f l = (0, 0, false) := by
  induction l with
  | nil => exact fun _ => rfl
  | cons n l ih =>
    intro h
    have e : spanAcc f (0, 0, false) n = (0, 0, false) := by simp [spanAcc, h n List.mem_cons_self]
    unfold spanOf
    rw [List.foldl_cons, e]
    exact ih (fun m hm => h m (List.mem_cons_of_mem _ hm))
theorem spanOf_some (f : List Int → Int × Bool) (l : List (List Int)) : (∃ n ∈ l, (f n).2 = true) → ∃ lo hi, spanOf f l = (lo, hi, true) ∧ lo ≤ hi ∧
    (∀ n ∈ l, (f n).2 = true → lo ≤ (f n).1 ∧ (f n).1 ≤ hi) ∧ (∃ n ∈ l, (f n).2 = true ∧ (f n).1 = lo) ∧ (∃ n ∈ l, (f n).2 = true ∧ (f n).1 = hi) := by
  induction l with
  | nil => rintro ⟨_, h, _⟩; cases h
  | cons n l ih =>
    intro h
    unfold spanOf
    rw [List.foldl_cons]
    cases hn : (f n).2 with
    | false =>
      have e : spanAcc f (0, 0, false) n = (0, 0, false) := by simp [spanAcc, hn]
      rw [e]
      obtain ⟨lo, hi, e1, h1, h3, ⟨m4, h4, h4'⟩, ⟨m5, h5, h5'⟩⟩ := ih (by
        obtain ⟨m, hm, ht⟩ := h
        rcases List.mem_cons.1 hm with rfl | hm
        · rw [hn] at ht; cases ht
        · exact ⟨m, hm, ht⟩)
      refine ⟨lo, hi, e1, h1, ?_, ⟨m4, List.mem_cons_of_mem _ h4, h4'⟩, ⟨m5, List.mem_cons_of_mem _ h5, h5'⟩⟩
      intro m hm ht
      rcases List.mem_cons.1 hm with rfl | hm
      · rw [hn] at ht; cases ht
      · exact h3 m hm ht
    | true =>
      have e : spanAcc f (0, 0, false) n = ((f n).1, (f n).1, true) := by simp [spanAcc, hn, spanStep]
      rw [e]
      obtain ⟨lo, hi, e1, h1, h2, h3, h4, h5⟩ := spanFold f l (f n).1 (f n).1 (by omega)
      have H4 := Lib.hid h4; have H5 := Lib.hid h5; have H := Lib.hid h3; have Hh := Lib.hid h
      clear h4 h5 h3 ih h
      refine ⟨lo, hi, e1, by omega, ?_, ?_, ?_⟩
      · intro m hm ht
        rcases List.mem_cons.1 hm with rfl | hm
        · omega
        · exact H.out m hm ht
      · rcases H4.out with h4 | ⟨m, hm, r⟩
        · exact ⟨n, List.mem_cons_self, hn, by omega⟩
        · exact ⟨m, List.mem_cons_of_mem _ hm, r⟩
      · rcases H5.out with h5 | ⟨m, hm, r⟩
        · exact ⟨n, List.mem_cons_self, hn, by omega⟩
        · exact ⟨m, List.mem_cons_of_mem _ hm, r⟩

/-- the highest note in a week, and is the voice not broken? -/
def lossOf (B : Book) (boy : Nat) : Int := (B.boys[boy]?.map Boy.ls).getD 0
def hiF (B : Book) (boy : Nat) (wk : Int) (n : List Int) : Int × Bool := (top (n.getD 1 0) (n.getD 2 0) (n.getD 3 0) (lossOf B boy) wk, decide (wk < n.getD 4 0))
theorem singsN_iff (B : Book) (wk lo hi : Int) (boy : Nat) (n : List Int) : singsN B wk lo hi boy n = true ↔ (hiF B boy wk n).2 = true ∧ n.getD 0 0 ≤ lo ∧ hi ≤ (hiF B boy wk n).1 := by
  simp [singsN, singsB, hiF, lossOf, and_assoc]

theorem often_zero {l : List (List Int)} {sb : List Int → Bool} (hl : l ≠ []) (h : ∀ n ∈ l, sb n = false) : oftenOf l sb = 0 := by
  cases l with
  | nil => exact absurd rfl hl
  | cons n l =>
    have h1 : (n :: l).all sb = false := by simp [h n List.mem_cons_self]
    have h2 : (n :: l).any sb = false := by rw [List.any_eq_false]; exact fun m hm => by rw [h m hm]; simp
    simp only [oftenOf, h1, h2]; rfl
theorem often_pos {l : List (List Int)} {sb : List Int → Bool} {n : List Int} (hn : n ∈ l) (h : sb n = true) : oftenOf l sb ≠ 0 := by
  have h2 : l.any sb = true := List.any_eq_true.2 ⟨n, hn, h⟩
  simp only [oftenOf, h2]
  split <;> simp
theorem often_two {l : List (List Int)} {sb : List Int → Bool} (h : ∀ n ∈ l, sb n = true) : oftenOf l sb = 2 := by
  have h2 : l.all sb = true := List.all_eq_true.2 h
  simp only [oftenOf, h2]; rfl
theorem often_rng (l : List (List Int)) (sb : List Int → Bool) : 0 ≤ oftenOf l sb ∧ oftenOf l sb ≤ 2 := by
  unfold oftenOf
  split
  · omega
  · split <;> omega

/-- what the law says of both ends, the highest note and how often a note can be sung -/
structure TopsAt (x : Boy) (week note lo0 lo1 br0 br1 tp0 tp1 : Int) (fd : Bool) (kind : Int) : Prop where
  a1 : x.l0 ≤ lo0
  a2 : lo0 ≤ lo1
  a3 : lo1 ≤ x.l1
  b1 : x.b0 ≤ br0
  b2 : br0 ≤ br1
  b3 : br1 ≤ x.b1
  k1 : 0 ≤ kind
  k2 : kind ≤ 2
  t1 : fd = false ↔ br1 ≤ week
  t2 : fd = false → kind = 0 ∧ tp0 = 0 ∧ tp1 = 0
  t3 : fd = true → tp0 ≤ tp1
  t4 : fd = true → tp1 < note → kind = 0
  t5 : note < lo0 → kind = 0
  t6 : fd = true → note = tp1 → lo1 ≤ note → kind ≠ 0
  t7 : fd = true → week < br0 → lo1 ≤ note → note ≤ tp0 → kind = 2
theorem tops_at (B : Book) (boy : Nat) (x : Boy) (hne : B.truths boy x ≠ []) (week note : Int) {lo0 lo1 br0 br1 tp0 tp1 : Int} {fd a b : Bool} {kind : Int}
    (e1 : spanOf (fun n => (n.getD 0 0, true)) (B.truths boy x) = (lo0, lo1, a)) (e2 : spanOf (fun n => (n.getD 4 0, true)) (B.truths boy x) = (br0, br1, b))
    (e3 : spanOf (hiF B boy week) (B.truths boy x) = (tp0, tp1, fd)) (e4 : oftenOf (B.truths boy x) (singsN B week note note boy) = kind) :
    TopsAt x week note lo0 lo1 br0 br1 tp0 tp1 fd kind := by
  obtain ⟨m0, hm0⟩ := List.exists_mem_of_ne_nil _ hne
  obtain ⟨p0, p1, f1, p2, p3, ⟨pm, pm1, -, pm2⟩, ⟨pM, pM1, -, pM2⟩⟩ := spanOf_some (fun n => (n.getD 0 0, true)) _ ⟨m0, hm0, rfl⟩
  obtain ⟨r0, r1, f2, r2, r3, ⟨rm, rm1, -, rm2⟩, ⟨rM, rM1, -, rM2⟩⟩ := spanOf_some (fun n => (n.getD 4 0, true)) _ ⟨m0, hm0, rfl⟩
  rw [e1] at f1; cases f1
  rw [e2] at f2; cases f2
  simp only at p3 pm2 pM2 r3 rm2 rM2
  have hr : ∀ n ∈ B.truths boy x, x.l0 ≤ n.getD 0 0 ∧ n.getD 0 0 ≤ x.l1 ∧ x.b0 ≤ n.getD 4 0 ∧ n.getD 4 0 ≤ x.b1 := by
    intro n hn
    have h := truths_rng hn
    obtain ⟨n0, n1, n2, n3, n4, rfl⟩ := truths_len hn
    have h0 := h 0 n0 rfl
    have h4 := h 4 n4 rfl
    exact ⟨h0.1, h0.2, h4.1, h4.2⟩
  obtain ⟨k1, k2⟩ := often_rng (B.truths boy x) (singsN B week note note boy)
  rw [e4] at k1 k2
  have a1 := hr pm pm1
  have a2 := hr pM pM1
  have a3 := hr rm rm1
  have a4 := hr rM rM1
  cases fd with
  | false =>
    have hno : ∀ n ∈ B.truths boy x, (hiF B boy week n).2 = false := by
      intro n hn
      cases hh : (hiF B boy week n).2 with
      | false => rfl
      | true =>
        obtain ⟨_, _, f3, _⟩ := spanOf_some (hiF B boy week) _ ⟨n, hn, hh⟩
        rw [e3] at f3; cases f3
    have f3 := spanOf_none _ _ hno
    rw [e3] at f3; cases f3
    have hz : kind = 0 := by
      rw [← e4]
      refine often_zero hne fun n hn => ?_
      cases hh : singsN B week note note boy n with
      | false => rfl
      | true => rw [singsN_iff, hno n hn] at hh; cases hh.1
    have hbr : br1 ≤ week := by
      have h := hno rM rM1
      simp only [hiF, decide_eq_false_iff_not] at h
      omega
    exact ⟨by omega, by omega, by omega, by omega, by omega, by omega, k1, k2, ⟨fun _ => hbr, fun _ => rfl⟩, fun _ => ⟨hz, rfl, rfl⟩, (fun h => nomatch h), (fun h => nomatch h), fun _ => hz, (fun h => nomatch h), (fun h => nomatch h)⟩
  | true =>
    have hyes : ∃ n ∈ B.truths boy x, (hiF B boy week n).2 = true := by
      refine Classical.byContradiction fun hc => ?_
      have f3 := spanOf_none (hiF B boy week) (B.truths boy x) (fun n hn => by
        cases hh : (hiF B boy week n).2 with
        | false => rfl
        | true => exact absurd ⟨n, hn, hh⟩ hc)
      rw [e3] at f3; cases f3
    obtain ⟨t0, t1, f3, t2, t3, ⟨tm, tm1, tm0, tm2⟩, ⟨tM, tM1, tM0, tM2⟩⟩ := spanOf_some _ _ hyes
    rw [e3] at f3; cases f3
    have hbr : ¬ br1 ≤ week := by
      have h := r3 tM tM1 trivial
      simp only [hiF, decide_eq_true_eq] at tM0
      omega
    refine ⟨by omega, by omega, by omega, by omega, by omega, by omega, k1, k2, ⟨(fun h => nomatch h), fun h => absurd h hbr⟩, (fun h => nomatch h), fun _ => t2, fun _ h => ?_, fun h => ?_, fun _ h1 h2 => ?_, fun _ h1 h2 h3 => ?_⟩
    · rw [← e4]
      refine often_zero hne fun n hn => ?_
      cases hh : singsN B week note note boy n with
      | false => rfl
      | true =>
        rw [singsN_iff] at hh
        have := t3 n hn hh.1
        omega
    · rw [← e4]
      refine often_zero hne fun n hn => ?_
      cases hh : singsN B week note note boy n with
      | false => rfl
      | true =>
        rw [singsN_iff] at hh
        have := p3 n hn trivial
        omega
    · rw [← e4]
      refine often_pos tM1 ?_
      rw [singsN_iff]
      have := p3 tM tM1 trivial
      exact ⟨tM0, by omega, by omega⟩
    · rw [← e4]
      refine often_two fun n hn => ?_
      rw [singsN_iff]
      have q1 := r3 n hn trivial
      have q2 := p3 n hn trivial
      have q0 : (hiF B boy week n).2 = true := by simp only [hiF, decide_eq_true_eq]; omega
      have q3 := t3 n hn q0
      exact ⟨q0, by omega, by omega⟩
end Go.Proofs.YtcgihkaglonnaaaGreatDoor
set_option linter.all false
namespace Go.Proofs.YtcgihkaglonnaaaGreatDoor
open Go.RowKit Go.Sort Go.Rg
set_option maxRecDepth 100000

/-- all boys who surely can sing each of the first so many notes -/
def ableL (B : Book) (week lo : Int) (k : Nat) : List Nat := (List.range B.boys.length).filter fun b => (List.range k).all fun i => surelyB B (singsN B week (lo + (i : Nat)) (lo + (i : Nat))) b
theorem mem_ableL {B : Book} {week lo : Int} {k b : Nat} : b ∈ ableL B week lo k ↔ b < B.boys.length ∧ ∀ i, i < k → surelyB B (singsN B week (lo + (i : Nat)) (lo + (i : Nat))) b = true := by
  simp [ableL, List.all_eq_true]
theorem able_zero (B : Book) (week lo : Int) : ableL B week lo 0 = List.range B.boys.length := by
  unfold ableL
  rw [List.filter_eq_self]
  intro b _; rfl
theorem able_lt {B : Book} {week lo : Int} {k : Nat} (hl : B.boys.length ≤ 4) : ∀ x ∈ ableL B week lo k, x < 4 := fun x hx => by have := (mem_ableL.1 hx).1; omega
theorem able_step (B : Book) (week lo : Int) (k : Nat) : gath (ableL B week lo k) &&& gath (surelyL B (singsN B week (lo + (k : Nat)) (lo + (k : Nat))) B.boys.length) = gath (ableL B week lo (k + 1)) := by
  refine Nat.eq_of_testBit_eq fun b => ?_
  rw [Nat.testBit_and, gath_testBit, gath_testBit, gath_testBit, ← Bool.decide_and]
  refine decide_eq_decide.2 ?_
  rw [mem_ableL, mem_ableL, mem_surelyL]
  constructor
  · rintro ⟨⟨h1, h2⟩, _, h3⟩
    refine ⟨h1, fun i hi => ?_⟩
    by_cases e : i = k
    · subst e; exact h3
    · exact h2 i (by omega)
  · rintro ⟨h1, h2⟩
    exact ⟨⟨h1, fun i hi => h2 i (by omega)⟩, h1, h2 k (by omega)⟩
theorem able_all {B : Book} {week lo hi : Int} {k : Nat} (hk : hi = lo + (k : Nat) - 1) (hk1 : 1 ≤ k) : ableL B week lo k = surelyL B (singsN B week lo hi) B.boys.length := by
  unfold ableL surelyL
  refine List.filter_congr fun b hb => ?_
  rw [Bool.eq_iff_iff, List.all_eq_true]
  have hb := List.mem_range.1 hb
  have hx : B.boys[b]? = some B.boys[b] := List.getElem?_eq_getElem hb
  simp only [List.mem_range, surelyB, hx, List.all_eq_true, singsN_iff]
  constructor
  · intro h n hn
    have h0 := h 0 (by omega) n hn
    have h1 := h (k - 1) (by omega) n hn
    have e : ((k - 1 : Nat) : Int) = k - 1 := by omega
    rw [e] at h1
    simp only [Int.natCast_zero, Int.add_zero] at h0
    have f : (hiF B b week n).1 = (hiF B b week n).1 := rfl
    exact ⟨h0.1, h0.2.1, by omega⟩
  · intro h i hi n hn
    have h0 := h n hn
    exact ⟨h0.1, by omega, by omega⟩
theorem surelyL_len4 {B : Book} {sb : Nat → List Int → Bool} (h : B.boys.length ≤ 4) : (surelyL B sb B.boys.length).length ≤ 4 := Nat.le_trans (surelyL_len _ _ _) h

/-- the bits of a small set -/
def bitsL (s n : Nat) : List Nat := (List.range n).filter fun i => s.testBit i
theorem bitsL_succ (s n : Nat) : bitsL s (n + 1) = bitsL s n ++ (if s.testBit n then [n] else []) := by
  unfold bitsL
  rw [List.range_succ, List.filter_append]
  congr 1
  simp only [List.filter_cons, List.filter_nil]
theorem bitsL_len (s n : Nat) : (bitsL s n).length ≤ n := by
  have := List.length_filter_le (fun i => s.testBit i) (List.range n)
  simpa [bitsL] using this
/-- the first one that is another boy -/
def heirOf (l : List Nat) (boy : Nat) : Option Nat := l.find? (fun b => decide (b ≠ boy))
theorem heir_bits {l : List Nat} {n boy s : Nat} (hl : ∃ p, l = (List.range n).filter p) (hs : ∀ i, i < n → s.testBit i = (decide (i ∈ l) && decide (i ≠ boy))) : (bitsL s n).head? = heirOf l boy := by
  obtain ⟨p, rfl⟩ := hl
  have : bitsL s n = ((List.range n).filter p).filter (fun b => decide (b ≠ boy)) := by
    unfold bitsL
    rw [List.filter_filter]
    refine List.filter_congr fun i hi => ?_
    rw [hs i (List.mem_range.1 hi)]
    simp [List.mem_range.1 hi, Bool.and_comm]
  rw [this, heirOf, List.head?_filter]
theorem shl_one : ∀ n : Nat, n ≤ 4 → IntKind.i64.wrap (bits .shl .i64 1 (n : Int)) = ((2 ^ n : Nat) : Int) ∨ True := by intros; exact .inr trivial
theorem andNot_test : ∀ s : Nat, s < 16 → ∀ b : Nat, b < 4 → ∃ t : Nat, t < 16 ∧ bits .andNot .i64 (s : Int) ((2 ^ b : Nat) : Int) = (t : Int) ∧ ∀ i, i < 4 → t.testBit i = (s.testBit i && decide (i ≠ b)) := by
  intro s hs b hb
  refine ⟨s - (s &&& 2 ^ b), by have := Nat.sub_le s (s &&& 2 ^ b); omega, ?_, ?_⟩
  · revert b; revert s; decide +kernel
  · revert b; revert s; decide +kernel
theorem and_val : ∀ s : Nat, s < 16 → ∀ t : Nat, t < 16 → bits .and .i64 (s : Int) (t : Int) = ((s &&& t : Nat) : Int) := by decide +kernel
end Go.Proofs.YtcgihkaglonnaaaGreatDoor
set_option linter.all false
namespace Go.Proofs.YtcgihkaglonnaaaGreatDoor
open Go.RowKit Go.Sort Go.Rg
set_option maxRecDepth 100000
attribute [local go_sem] Oper.semAt_some

set_option maxHeartbeats 2000000 in
theorem highest1_any (c : Choir) (boy : Nat) (wk n0 n1 n2 n3 n4 loss : Int) (bw : Nat) (w : World) (hwc : w.cell? ⟨bw, 0, none⟩ = some (.int .i64 wk))
   (hb : boy < c.B.boys.length) (hl : c.B.boys.length ≤ 4) (hc : w.cell? ⟨c.bb, c.ob + boy * 11 + 8, none⟩ = some (.int .i64 loss)) (hin : c.bb < w.heap.size)
   (h1 : 0 ≤ n1 ∧ n1 ≤ 100) (h2 : 0 ≤ n2 ∧ n2 ≤ 100) (h3 : 0 ≤ n3 ∧ n3 ≤ 100) (h4 : 0 ≤ wk ∧ wk ≤ 100) (h5 : 0 ≤ loss ∧ loss ≤ 100) :
    Calls Tryz.prog 57 #[encT c boy [n0, n1, n2, n3, n4], .pointer (some ⟨bw, 0, none⟩)] w fun e w' => e = .returned (.tuple #[.int .i64 (top n1 n2 n3 loss wk), .bool (!decide (n4 ≤ wk))]) ∧ Kept w w' := by
  simp only [encT, List.map_cons, List.map_nil, List.append_toArray, List.cons_append, List.nil_append, Choir.k0, Choir.k2, Choir.m]
  have hzw := Go.Ai.lt_of_cell hwc
  have c0 : ∀ d os, (grow (redrawn (w.alloc (Obj.cells #[Value.slice (some ⟨c.bb, c.ob, none⟩) c.B.boys.length c.capb, Value.int IntKind.i64 c.B.weeks, Value.slice c.q c.B.trials.length c.capt, Value.map (some c.bm), Value.int IntKind.i64 ↑boy, Value.int IntKind.i64 n0, Value.int IntKind.i64 n1, Value.int IntKind.i64 n2, Value.int IntKind.i64 n3, Value.int IntKind.i64 n4] 86)) d) os).cell? ⟨w.heap.size, 0, none⟩ = some (Value.slice (some ⟨c.bb, c.ob, none⟩) c.B.boys.length c.capb) := cell_regrown (by go_simp)
  have c1 : ∀ d os, (grow (redrawn (w.alloc (Obj.cells #[Value.slice (some ⟨c.bb, c.ob, none⟩) c.B.boys.length c.capb, Value.int IntKind.i64 c.B.weeks, Value.slice c.q c.B.trials.length c.capt, Value.map (some c.bm), Value.int IntKind.i64 ↑boy, Value.int IntKind.i64 n0, Value.int IntKind.i64 n1, Value.int IntKind.i64 n2, Value.int IntKind.i64 n3, Value.int IntKind.i64 n4] 86)) d) os).cell? ⟨w.heap.size, 1, none⟩ = some (Value.int IntKind.i64 c.B.weeks) := cell_regrown (by go_simp)
  have c2 : ∀ d os, (grow (redrawn (w.alloc (Obj.cells #[Value.slice (some ⟨c.bb, c.ob, none⟩) c.B.boys.length c.capb, Value.int IntKind.i64 c.B.weeks, Value.slice c.q c.B.trials.length c.capt, Value.map (some c.bm), Value.int IntKind.i64 ↑boy, Value.int IntKind.i64 n0, Value.int IntKind.i64 n1, Value.int IntKind.i64 n2, Value.int IntKind.i64 n3, Value.int IntKind.i64 n4] 86)) d) os).cell? ⟨w.heap.size, 2, none⟩ = some (Value.slice c.q c.B.trials.length c.capt) := cell_regrown (by go_simp)
  have c3 : ∀ d os, (grow (redrawn (w.alloc (Obj.cells #[Value.slice (some ⟨c.bb, c.ob, none⟩) c.B.boys.length c.capb, Value.int IntKind.i64 c.B.weeks, Value.slice c.q c.B.trials.length c.capt, Value.map (some c.bm), Value.int IntKind.i64 ↑boy, Value.int IntKind.i64 n0, Value.int IntKind.i64 n1, Value.int IntKind.i64 n2, Value.int IntKind.i64 n3, Value.int IntKind.i64 n4] 86)) d) os).cell? ⟨w.heap.size, 3, none⟩ = some (Value.map (some c.bm)) := cell_regrown (by go_simp)
  have c4 : ∀ d os, (grow (redrawn (w.alloc (Obj.cells #[Value.slice (some ⟨c.bb, c.ob, none⟩) c.B.boys.length c.capb, Value.int IntKind.i64 c.B.weeks, Value.slice c.q c.B.trials.length c.capt, Value.map (some c.bm), Value.int IntKind.i64 ↑boy, Value.int IntKind.i64 n0, Value.int IntKind.i64 n1, Value.int IntKind.i64 n2, Value.int IntKind.i64 n3, Value.int IntKind.i64 n4] 86)) d) os).cell? ⟨w.heap.size, 4, none⟩ = some (Value.int IntKind.i64 ↑boy) := cell_regrown (by go_simp)
  have c5 : ∀ d os, (grow (redrawn (w.alloc (Obj.cells #[Value.slice (some ⟨c.bb, c.ob, none⟩) c.B.boys.length c.capb, Value.int IntKind.i64 c.B.weeks, Value.slice c.q c.B.trials.length c.capt, Value.map (some c.bm), Value.int IntKind.i64 ↑boy, Value.int IntKind.i64 n0, Value.int IntKind.i64 n1, Value.int IntKind.i64 n2, Value.int IntKind.i64 n3, Value.int IntKind.i64 n4] 86)) d) os).cell? ⟨w.heap.size, 5, none⟩ = some (Value.int IntKind.i64 n0) := cell_regrown (by go_simp)
  have c6 : ∀ d os, (grow (redrawn (w.alloc (Obj.cells #[Value.slice (some ⟨c.bb, c.ob, none⟩) c.B.boys.length c.capb, Value.int IntKind.i64 c.B.weeks, Value.slice c.q c.B.trials.length c.capt, Value.map (some c.bm), Value.int IntKind.i64 ↑boy, Value.int IntKind.i64 n0, Value.int IntKind.i64 n1, Value.int IntKind.i64 n2, Value.int IntKind.i64 n3, Value.int IntKind.i64 n4] 86)) d) os).cell? ⟨w.heap.size, 6, none⟩ = some (Value.int IntKind.i64 n1) := cell_regrown (by go_simp)
  have c7 : ∀ d os, (grow (redrawn (w.alloc (Obj.cells #[Value.slice (some ⟨c.bb, c.ob, none⟩) c.B.boys.length c.capb, Value.int IntKind.i64 c.B.weeks, Value.slice c.q c.B.trials.length c.capt, Value.map (some c.bm), Value.int IntKind.i64 ↑boy, Value.int IntKind.i64 n0, Value.int IntKind.i64 n1, Value.int IntKind.i64 n2, Value.int IntKind.i64 n3, Value.int IntKind.i64 n4] 86)) d) os).cell? ⟨w.heap.size, 7, none⟩ = some (Value.int IntKind.i64 n2) := cell_regrown (by go_simp)
  have c8 : ∀ d os, (grow (redrawn (w.alloc (Obj.cells #[Value.slice (some ⟨c.bb, c.ob, none⟩) c.B.boys.length c.capb, Value.int IntKind.i64 c.B.weeks, Value.slice c.q c.B.trials.length c.capt, Value.map (some c.bm), Value.int IntKind.i64 ↑boy, Value.int IntKind.i64 n0, Value.int IntKind.i64 n1, Value.int IntKind.i64 n2, Value.int IntKind.i64 n3, Value.int IntKind.i64 n4] 86)) d) os).cell? ⟨w.heap.size, 8, none⟩ = some (Value.int IntKind.i64 n3) := cell_regrown (by go_simp)
  have c9 : ∀ d os, (grow (redrawn (w.alloc (Obj.cells #[Value.slice (some ⟨c.bb, c.ob, none⟩) c.B.boys.length c.capb, Value.int IntKind.i64 c.B.weeks, Value.slice c.q c.B.trials.length c.capt, Value.map (some c.bm), Value.int IntKind.i64 ↑boy, Value.int IntKind.i64 n0, Value.int IntKind.i64 n1, Value.int IntKind.i64 n2, Value.int IntKind.i64 n3, Value.int IntKind.i64 n4] 86)) d) os).cell? ⟨w.heap.size, 9, none⟩ = some (Value.int IntKind.i64 n4) := cell_regrown (by go_simp)
  have kW : Kept w (w.alloc (Obj.cells #[Value.slice (some ⟨c.bb, c.ob, none⟩) c.B.boys.length c.capb, Value.int IntKind.i64 c.B.weeks, Value.slice c.q c.B.trials.length c.capt, Value.map (some c.bm), Value.int IntKind.i64 ↑boy, Value.int IntKind.i64 n0, Value.int IntKind.i64 n1, Value.int IntKind.i64 n2, Value.int IntKind.i64 n3, Value.int IntKind.i64 n4] 86)) := kept_alloc (kept_refl _) _
  have cw : ∀ d os, (grow (redrawn (w.alloc (Obj.cells #[Value.slice (some ⟨c.bb, c.ob, none⟩) c.B.boys.length c.capb, Value.int IntKind.i64 c.B.weeks, Value.slice c.q c.B.trials.length c.capt, Value.map (some c.bm), Value.int IntKind.i64 ↑boy, Value.int IntKind.i64 n0, Value.int IntKind.i64 n1, Value.int IntKind.i64 n2, Value.int IntKind.i64 n3, Value.int IntKind.i64 n4] 86)) d) os).cell? ⟨bw, 0, none⟩ = some (.int .i64 wk) := cell_regrown (((bcell kW).1 bw _ hzw).trans hwc)
  have cL : ∀ d os, (grow (redrawn (w.alloc (Obj.cells #[Value.slice (some ⟨c.bb, c.ob, none⟩) c.B.boys.length c.capb, Value.int IntKind.i64 c.B.weeks, Value.slice c.q c.B.trials.length c.capt, Value.map (some c.bm), Value.int IntKind.i64 ↑boy, Value.int IntKind.i64 n0, Value.int IntKind.i64 n1, Value.int IntKind.i64 n2, Value.int IntKind.i64 n3, Value.int IntKind.i64 n4] 86)) d) os).cell? ⟨c.bb, c.ob + boy * 11 + 8, none⟩ = some (.int .i64 loss) := cell_regrown (((bcell kW).1 c.bb _ hin).trans hc)
  have sW : w.heap.size ≤ (w.alloc (Obj.cells #[Value.slice (some ⟨c.bb, c.ob, none⟩) c.B.boys.length c.capb, Value.int IntKind.i64 c.B.weeks, Value.slice c.q c.B.trials.length c.capt, Value.map (some c.bm), Value.int IntKind.i64 ↑boy, Value.int IntKind.i64 n0, Value.int IntKind.i64 n1, Value.int IntKind.i64 n2, Value.int IntKind.i64 n3, Value.int IntKind.i64 n4] 86)).heap.size := by simp
  go_enter Tryz.func57, Tryz.ntmps57
  go_wp2_with fail
  generalize w.alloc (Obj.cells #[Value.slice (some ⟨c.bb, c.ob, none⟩) c.B.boys.length c.capb, Value.int IntKind.i64 c.B.weeks, Value.slice c.q c.B.trials.length c.capt, Value.map (some c.bm), Value.int IntKind.i64 ↑boy, Value.int IntKind.i64 n0, Value.int IntKind.i64 n1, Value.int IntKind.i64 n2, Value.int IntKind.i64 n3, Value.int IntKind.i64 n4] 86) = W at *
  have zL : ∀ d os, c.bb < (grow (redrawn W d) os).heap.size := fun d os => Nat.lt_of_lt_of_le (Nat.lt_of_lt_of_le hin sW) (below_regrown W d os).size
  have HL := Lib.hid cL
  have HZ := Lib.hid zL
  clear cL zL hc hwc
  refine wp_region_quiet_below (by kernel_rfl) (by kernel_rfl) ?_
  repeat (any_goals (quiet_step (first | exact Calls.regrown_of (isBroken_any _ _ _ _ _ _ _ _ _ _ _ _) | exact Calls.regrown_of (highest_any _ _ _ _ _ _ _ _ _ _ _ _ _ _ _ _ hb hl (HL.out _ _) (HZ.out _ _) h1 h2 h3 h4 h5))))
  refine wpQuiet_nil ?_
  intro _ hw'
  obtain ⟨⟨dq, osq⟩, hw''⟩ := hw'
  subst hw''
  have kW2 := kept_trans kW (below_regrown W dq osq)
  go_wp2_with fail
  refine bodyPost_ret (v := .tuple #[.int .i64 (top n1 n2 n3 loss wk), .bool (!decide (n4 ≤ wk))]) (by simp [results, Tryz.results57, go_sem]) rfl ?_
  exact ⟨rfl, kW2⟩

theorem highest_tells (S : Nat → Prop) (c : Choir) (boy : Nat) (wk : Int) (x : Boy) (hx : c.B.boys[boy]? = some x) (bw : Nat) (W : World) (hat : ChoirAt S W c) (h4 : 0 ≤ wk ∧ wk ≤ 100) (hwc : W.cell? ⟨bw, 0, none⟩ = some (.int .i64 wk)) :
    Tells c boy x W 57 #[.pointer (some ⟨bw, 0, none⟩)] (hiF c.B boy wk) := by
  have hok := hat.ok
  have hlen : c.B.boys.length ≤ 4 := by
    have := hok
    simp only [Book.okB, inB, Bool.and_eq_true, decide_eq_true_eq] at this
    omega
  have hbl : boy < c.B.boys.length := (List.getElem?_eq_some_iff.1 hx).1
  have hxok : x.okB = true := by
    simp only [Book.okB, Bool.and_eq_true, List.all_eq_true] at hok
    exact hok.1.2 x (List.mem_of_getElem? hx)
  obtain ⟨hsp, hls⟩ := spanAt_ok x hxok
  refine ⟨enters_of Tryz.func57 (by kernel_rfl) rfl, fun A n hA hn => ?_⟩
  obtain ⟨_, _, _, _, _, _, _, _, c8, _⟩ := hat.boys.2 boy x hx
  have hr := truths_rng hn
  obtain ⟨n0, n1, n2, n3, n4, rfl⟩ := truths_len hn
  have r1 := hr 1 n1 rfl
  have r2 := hr 2 n2 rfl
  have r3 := hr 3 n3 rfl
  have s1 := hsp 1 (by omega)
  have s2 := hsp 2 (by omega)
  have s3 := hsp 3 (by omega)
  have := highest1_any c boy wk n0 n1 n2 n3 n4 x.ls bw A (kcell hA hwc) hbl hlen (kcell hA c8) (Nat.lt_of_lt_of_le hat.boys.1 hA.size) (by omega) (by omega) (by omega) h4 (by omega)
  have e : (!decide (n4 ≤ wk)) = decide (wk < n4) := by rw [← decide_not]; simp
  rw [e] at this
  simpa [hiF, lossOf, hx] using this

/-- the highest note in a week, at least and at most, or that there is none, or the error of trials that cannot all be right -/
def HighP (B : Book) (boy : Nat) (week : Int) (W : World) (e : Ending) (C : World) : Prop :=
  ∃ lo hi err, e = .returned (.tuple #[.agg #[.int .i64 lo, .int .i64 hi], .int .i64 err]) ∧ Kept W C ∧
    ((Can B ∧ ∃ x fd, B.boys[boy]? = some x ∧ spanOf (hiF B boy week) (B.truths boy x) = (lo, hi, fd) ∧ err = if fd then 0 else 4) ∨ (err = 22 ∧ ¬ Can B ∧ lo = 0 ∧ hi = 0))

set_option maxHeartbeats 4000000 in
theorem highest_all (p q : Option Addr) (cap capt : Nat) (B : Book) (boy : Nat) (week : Int) (W : World) (h : BookAt W p q cap capt B) (hg : Nothing W) (hok0 : B.okB = true) (hb : boy < B.boys.length) (hwk0 : 0 ≤ week ∧ week < B.weeks) :
    Calls Tryz.prog 16 #[B.val p q cap capt, .int .i64 (boy : Int), .int .i64 week] W (HighP B boy week W) := by
  have hwk : 0 ≤ B.weeks ∧ B.weeks ≤ 1000 := by
    have := hok0
    simp only [Book.okB, inB, Bool.and_eq_true, decide_eq_true_eq] at this
    omega
  have hwk1 : 0 ≤ week ∧ week ≤ 100 := by
    have := hok0
    simp only [Book.okB, inB, Bool.and_eq_true, decide_eq_true_eq] at this
    omega
  have hnb := h.nb
  have hboyT : inB (boy : Int) 0 (B.boys.length - 1) = true := by simp [inB]; omega
  have hweekT : inB week 0 (B.weeks - 1) = true := by simp [inB]; omega
  refine callsIn_wide.1 (callsIn_of_wp (n := 0) Tryz.func16 rfl trivial ?_ rfl)
  simp only [Tryz.ntmps16, List.size_toArray, List.length_cons, List.length_nil, Nat.reduceAdd, Nat.reduceSub, Array.replicate_succ, Array.replicate_zero, List.push_toArray, List.append_toArray, List.nil_append, List.cons_append]
  unfold Book.val
  gi_wp2_with fail
  have hk0 : Kept W (((W.alloc (Obj.cells #[.slice p B.boys.length cap, .int .i64 B.weeks, .slice q B.trials.length capt] 25)).alloc (Obj.cells #[.int .i64 week] 3)).alloc (Obj.cells #[.int .i64 0, .int .i64 0] 32)) := kept_alloc (kept_alloc (kept_alloc (kept_refl _) _) _) _
  have a0c : (((W.alloc (Obj.cells #[.slice p B.boys.length cap, .int .i64 B.weeks, .slice q B.trials.length capt] 25)).alloc (Obj.cells #[.int .i64 week] 3)).alloc (Obj.cells #[.int .i64 0, .int .i64 0] 32)).cell? ⟨W.heap.size, 0, none⟩ = some (.slice p B.boys.length cap) := by go_simp
  have a1c : (((W.alloc (Obj.cells #[.slice p B.boys.length cap, .int .i64 B.weeks, .slice q B.trials.length capt] 25)).alloc (Obj.cells #[.int .i64 week] 3)).alloc (Obj.cells #[.int .i64 0, .int .i64 0] 32)).cell? ⟨W.heap.size, 1, none⟩ = some (.int .i64 B.weeks) := by go_simp
  have a2c : (((W.alloc (Obj.cells #[.slice p B.boys.length cap, .int .i64 B.weeks, .slice q B.trials.length capt] 25)).alloc (Obj.cells #[.int .i64 week] 3)).alloc (Obj.cells #[.int .i64 0, .int .i64 0] 32)).cell? ⟨W.heap.size, 2, none⟩ = some (.slice q B.trials.length capt) := by go_simp
  have wc : (((W.alloc (Obj.cells #[.slice p B.boys.length cap, .int .i64 B.weeks, .slice q B.trials.length capt] 25)).alloc (Obj.cells #[.int .i64 week] 3)).alloc (Obj.cells #[.int .i64 0, .int .i64 0] 32)).cell? ⟨W.heap.size + 1, 0, none⟩ = some (.int .i64 week) := by go_simp
  have s0c : (((W.alloc (Obj.cells #[.slice p B.boys.length cap, .int .i64 B.weeks, .slice q B.trials.length capt] 25)).alloc (Obj.cells #[.int .i64 week] 3)).alloc (Obj.cells #[.int .i64 0, .int .i64 0] 32)).cell? ⟨W.heap.size + 1 + 1, 0, none⟩ = some (.int .i64 0) := by go_simp
  have s1c : (((W.alloc (Obj.cells #[.slice p B.boys.length cap, .int .i64 B.weeks, .slice q B.trials.length capt] 25)).alloc (Obj.cells #[.int .i64 week] 3)).alloc (Obj.cells #[.int .i64 0, .int .i64 0] 32)).cell? ⟨W.heap.size + 1 + 1, 1, none⟩ = some (.int .i64 0) := by go_simp
  have sf : ∀ i, (((W.alloc (Obj.cells #[.slice p B.boys.length cap, .int .i64 B.weeks, .slice q B.trials.length capt] 25)).alloc (Obj.cells #[.int .i64 week] 3)).alloc (Obj.cells #[.int .i64 0, .int .i64 0] 32)).frozen? ⟨W.heap.size + 1 + 1, i, none⟩ = false := by intro i; go_simp
  generalize (((W.alloc (Obj.cells #[.slice p B.boys.length cap, .int .i64 B.weeks, .slice q B.trials.length capt] 25)).alloc (Obj.cells #[.int .i64 week] 3)).alloc (Obj.cells #[.int .i64 0, .int .i64 0] 32)) = W0 at *
  refine wpIn_region_invL (StO 9 (fun j => match j with | 0 => (.agg #[.slice p B.boys.length cap, .int .i64 B.weeks, .slice q B.trials.length capt]) | 1 => (.agg #[.slice p B.boys.length cap, .int .i64 B.weeks, .slice q B.trials.length capt]) | 2 => .int .i64 (boy : Int) | 5 => (.agg #[.slice p B.boys.length cap, .int .i64 B.weeks, .slice q B.trials.length capt]) | 6 => .int .i64 week | _ => .bool true) W0 B true) (by kernel_rfl) (by kernel_rfl) StO.start ?hop ?hend
  case hop =>
    rintro i o listed a w hl ho h1 h2 hcl ⟨v, err, pp, ha, hw⟩
    have hi11 : i < 16 := (List.getElem?_eq_some_iff.1 ho).1
    match i, ho with
    | 0, ho =>
      have st := StO.same (by kernel_rfl) ha hw ho h1 (by omega) (by omega) (by omega) (kept_refl w)
      have ST := Lib.hid st; clear st
      cases ho
      rw [if_pos (by rfl)]
      have t3 := ha.old 3 (by kernel_rfl)
      simp at t3
      have r0 := kcell hw.kept a0c
      have r1 := kcell hw.kept a1c
      have r2 := kcell hw.kept a2c
      go_simp
      exact ST.out
    | 1, ho =>
      have st := StO.same (by kernel_rfl) ha hw ho h1 (by omega) (by omega) (by omega) (kept_refl w)
      have ST := Lib.hid st; clear st
      cases ho
      rw [if_pos (by rfl)]
      have t3 := ha.old 3 (by kernel_rfl)
      simp at t3
      have r0 := kcell hw.kept a0c
      have r1 := kcell hw.kept a1c
      have r2 := kcell hw.kept a2c
      go_simp
      exact ST.out
    | 2, ho =>
      have st := StO.same (by kernel_rfl) ha hw ho h1 (by omega) (by omega) (by omega) (kept_refl w)
      have ST := Lib.hid st; clear st
      cases ho
      rw [if_pos (by rfl)]
      have t1 := ha.old 1 (by kernel_rfl)
      simp at t1
      go_simp
      exact ST.out
    | 3, ho =>
      have st := fun w' (k : Kept w w') => StO.same (by kernel_rfl) ha hw ho h1 (by omega) (by omega) (by omega) k
      have ST := Lib.hid st; clear st
      cases ho
      rw [if_pos (by rfl)]
      have t15 := ha.new 1 (h2 ⟨1, .data⟩ (by simp) rfl) (d := 15) rfl rfl (by simp)
      simp [openVs] at t15
      have t16 := ha.new 2 (h2 ⟨2, .data⟩ (by simp) rfl) (d := 16) rfl rfl (by simp)
      simp [openVs] at t16
      have hcall := isBoy_any p B.boys.length cap (.int .i64 B.weeks) (.slice q B.trials.length capt) (boy : Int) w hnb
      rw [hboyT] at hcall
      go_simp
      refine ⟨trivial, rfl, (callsIn_wide.2 hcall).mono ?_⟩
      rintro e w' ⟨rfl, hk⟩
      exact ST.out _ hk
    | 4, ho =>
      have st := StO.same (by kernel_rfl) ha hw ho h1 (by omega) (by omega) (by omega) (kept_refl w)
      have ST := Lib.hid st; clear st
      cases ho
      rw [if_pos (by rfl)]
      have t17 := ha.new 3 (h2 ⟨3, .data⟩ (by simp) rfl) (d := 17) rfl rfl (by simp)
      simp [openVs] at t17
      go_simp
      exact ST.out
    | 5, ho =>
      have st := StO.same (by kernel_rfl) ha hw ho h1 (by omega) (by omega) (by omega) (kept_refl w)
      have ST := Lib.hid st; clear st
      cases ho
      have t18 := ha.new 4 (h2 ⟨4, .guard⟩ (by simp) rfl) (d := 18) rfl rfl (by simp)
      simp [openVs] at t18
      rw [if_pos (by simp [Region.wanted, yielded, getD_bool t18])]
      have t3 := ha.old 3 (by kernel_rfl)
      simp at t3
      have r0 := kcell hw.kept a0c
      have r1 := kcell hw.kept a1c
      have r2 := kcell hw.kept a2c
      go_simp
      exact ST.out
    | 6, ho =>
      have st := StO.same (by kernel_rfl) ha hw ho h1 (by omega) (by omega) (by omega) (kept_refl w)
      have ST := Lib.hid st; clear st
      cases ho
      have t18 := ha.new 4 (h2 ⟨4, .guard⟩ (by simp) rfl) (d := 18) rfl rfl (by simp)
      simp [openVs] at t18
      rw [if_pos (by simp [Region.wanted, yielded, getD_bool t18])]
      have t5 := ha.old 5 (by kernel_rfl)
      simp at t5
      have rw0 := kcell hw.kept wc
      go_simp
      exact ST.out
    | 7, ho =>
      have st := fun w' (k : Kept w w') => StO.same (by kernel_rfl) ha hw ho h1 (by omega) (by omega) (by omega) k
      have ST := Lib.hid st; clear st
      cases ho
      have t18 := ha.new 4 (h2 ⟨4, .guard⟩ (by simp) rfl) (d := 18) rfl rfl (by simp)
      simp [openVs] at t18
      rw [if_pos (by simp [Region.wanted, yielded, getD_bool t18])]
      have t19 := ha.new 5 (h2 ⟨5, .data⟩ (by simp) rfl) (d := 19) rfl rfl (by simp)
      simp [openVs] at t19
      have t20 := ha.new 6 (h2 ⟨6, .data⟩ (by simp) rfl) (d := 20) rfl rfl (by simp)
      simp [openVs] at t20
      have hcall := isWeek_any (.slice p B.boys.length cap) (.slice q B.trials.length capt) B.weeks week w hwk.1 hwk.2
      rw [hweekT] at hcall
      go_simp
      refine ⟨trivial, rfl, (callsIn_wide.2 hcall).mono ?_⟩
      rintro e w' ⟨rfl, hk⟩
      exact ST.out _ hk
    | 8, ho =>
      have st := StO.same (by kernel_rfl) ha hw ho h1 (by omega) (by omega) (by omega) (kept_refl w)
      have ST := Lib.hid st; clear st
      cases ho
      rw [if_pos (by rfl)]
      have t18 := ha.new 4 (h2 ⟨4, .data⟩ (by simp) rfl) (d := 18) rfl rfl (by simp)
      simp [openVs] at t18
      have t21 := ha.new 7 (h2 ⟨7, .data⟩ (by simp) rfl) (d := 21) rfl rfl (by simp)
      simp [openVs] at t21
      go_simp
      exact ST.out
    | 9, ho =>
      obtain ⟨n5, n6, n7, n9, n10⟩ := open_first hcl h1 ⟨_, rfl, ⟨9, .data⟩, by simp, rfl, rfl⟩ ⟨_, rfl, ⟨10, .data⟩, by simp, rfl, rfl⟩ ⟨_, rfl, ⟨10, .data⟩, by simp, rfl, rfl⟩ ⟨_, rfl, ⟨11, .data⟩, by simp, rfl, rfl⟩ ⟨_, rfl, ⟨12, .data⟩, by simp, rfl, rfl⟩
      have st := fun v' err' w' (k : OpenReg W0 B true v' err' pp true (on listed 13) (on listed 14) w') => StO.opened (by kernel_rfl) ha hl ho h1 n5 n6 n7 n9 n10 k
      have ST := Lib.hid st; clear st
      cases ho
      rw [if_pos (by rfl)]
      have t14 := ha.new 0 (h2 ⟨0, .data⟩ (by simp) rfl) (d := 14) rfl rfl (by simp)
      simp [openVs] at t14
      have t22 := ha.new 8 (h2 ⟨8, .data⟩ (by simp) rfl) (d := 22) rfl rfl (by simp)
      simp [openVs] at t22
      have hcall := open_any p q cap capt B true W w h (kept_trans hk0 hw.kept) (hg.kept (kept_trans hk0 hw.kept))
      unfold Book.val at hcall
      have HOP := Lib.hid (fun e w' => hw.opened (e := e) (w' := w') W.heap.size hk0.size n9)
      go_simp
      refine ⟨trivial, rfl, (callsIn_wide.2 hcall).mono ?_⟩
      intro e w' hop
      obtain ⟨v', err', rfl, hr⟩ := HOP.out e w' hop
      exact ST.out v' err' w' hr
    | 10, ho =>
      have st := StO.same (by kernel_rfl) ha hw ho h1 (by omega) (by omega) (by omega) (kept_refl w)
      have ST := Lib.hid st; clear st
      cases ho
      rw [if_pos (by rfl)]
      have t23 := ha.new 9 (h2 ⟨9, .data⟩ (by simp) rfl) (d := 23) rfl rfl (by simp)
      simp [openVs] at t23
      go_simp
      exact ST.out
    | 11, ho =>
      have st := StO.same (by kernel_rfl) ha hw ho h1 (by omega) (by omega) (by omega) (kept_refl w)
      have ST := Lib.hid st; clear st
      cases ho
      rw [if_pos (by rfl)]
      have t13 := ha.new 10 (h2 ⟨10, .data⟩ (by simp) rfl) (d := 13) rfl rfl (by simp)
      simp [openVs] at t13
      go_simp
      exact ST.out
    | 12, ho =>
      have st := StO.same (by kernel_rfl) ha hw ho h1 (by omega) (by omega) (by omega) (kept_refl w)
      have ST := Lib.hid st; clear st
      cases ho
      rw [if_pos (by rfl)]
      have t13 := ha.new 10 (h2 ⟨10, .data⟩ (by simp) rfl) (d := 13) rfl rfl (by simp)
      simp [openVs] at t13
      go_simp
      exact ST.out
    | 13, ho =>
      have n9 : on listed 14 = false := by
        cases hb : on listed 14 with
        | false => rfl
        | true => have := hcl 14 _ rfl hb ⟨13, .data⟩ (by simp) rfl; rw [on_no h1] at this; cases this
      have st := StO.boxed (by kernel_rfl) ha hw hl ho h1 n9
      have ST := Lib.hid st; clear st
      cases ho
      rw [if_pos (by rfl)]
      go_simp
      exact ST.out
    | 14, ho =>
      have y8 : on listed 13 = true := h2 ⟨13, .data⟩ (by cases ho; simp) rfl
      have y4 : on listed 9 = true := h2 ⟨9, .chain⟩ (by cases ho; simp) rfl
      have t8 := ha.new 13 y8 (d := 8) rfl rfl (by simp)
      simp [openVs] at t8
      have t24 := ha.new 11 (h2 ⟨11, .data⟩ (by cases ho; simp) rfl) (d := 24) rfl rfl (by simp)
      simp [openVs] at t24
      obtain ⟨hbp, ⟨f0, f1, f2, f3, b0, b1, b2, b3⟩, hbf⟩ := hw.box y8
      have bf0 := hbf 0
      have bf1 := hbf 1
      have bf2 := hbf 2
      have bf3 := hbf 3
      rcases hw.res y4 with ⟨_, _, _, _, c, S, hcB, rfl, _⟩ | ⟨rfl, _⟩
      · clear hcB
        have st := StO.stored (by kernel_rfl) ha hw hl ho (by cases ho; rfl) h1 y8 (show c.val = _ from rfl)
        have ST := Lib.hid st; clear st
        cases ho
        rw [if_pos (by rfl)]
        unfold Choir.val at t24
        clear hbf
        go_simp
        exact ST.out
      · have st := StO.stored (by kernel_rfl) ha hw hl ho (by cases ho; rfl) h1 y8 (show zeroChoir = _ from rfl)
        have ST := Lib.hid st; clear st
        cases ho
        rw [if_pos (by rfl)]
        unfold zeroChoir at t24
        clear hbf
        go_simp
        exact ST.out
    | 15, ho =>
      have st := StO.same (by kernel_rfl) ha hw ho h1 (by omega) (by omega) (by omega) (kept_refl w)
      have ST := Lib.hid st; clear st
      cases ho
      rw [if_pos (by rfl)]
      have t25 := ha.new 12 (h2 ⟨12, .data⟩ (by simp) rfl) (d := 25) rfl rfl (by simp)
      simp [openVs] at t25
      go_simp
      exact ST.out

  case hend =>
    rintro listed a w hall ⟨v, err, pp, ha, hw⟩
    rw [show on listed 9 = true from hall 9 (by simp), show on listed 13 = true from hall 13 (by simp), show on listed 14 = true from hall 14 (by simp)] at hw
    obtain ⟨y, hy, hae⟩ := ha.lit (n := 43) rfl
    have y1 := (hy 1).symm.trans (ha.old 1 (by kernel_rfl))
    have y5 := (hy 5).symm.trans (ha.old 5 (by kernel_rfl))
    have y6 := (hy 6).symm.trans (ha.old 6 (by kernel_rfl))
    have y7 := (hy 7).symm.trans (ha.old 7 (by kernel_rfl))
    have y8 := (hy 8).symm.trans (ha.new 13 (hall 13 (by simp)) (d := 8) rfl rfl (by simp))
    have y9 := (hy 9).symm.trans (ha.new 15 (hall 15 (by simp)) (d := 9) rfl rfl (by simp))
    simp at y1 y5 y6 y7
    simp [openVs] at y8 y9
    simp only [List.range, List.range.loop, List.map] at hae
    rw [y1, y5, y6, y7, y8, y9] at hae
    subst hae
    clear ha hy y1 y5 y6 y7 y8 y9
    refine (by assumption : ∀ a w, Code.wpIn _ _ _ _ _ a w → _) _ w ?_
    have wk := kcell hw.kept wc
    have s0 := kcell hw.kept s0c
    have s1 := kcell hw.kept s1c
    have sf0 : w.frozen? ⟨W.heap.size + 1 + 1, 0, none⟩ = false := ((kturns hw.kept (fun _ => False)).frozen (Go.Ai.lt_of_cell s0c) (fun h => h)).trans (sf 0)
    have sf1 : w.frozen? ⟨W.heap.size + 1 + 1, 1, none⟩ = false := ((kturns hw.kept (fun _ => False)).frozen (Go.Ai.lt_of_cell s0c) (fun h => h)).trans (sf 1)
    obtain ⟨_, x0, x1, x2, x3, hv, b0, b1, b2, b3⟩ := hw.put rfl
    rcases hw.res rfl with ⟨rfl, hok, _, hcan, c, S, hcB, hvc, hch, hSz, hSp⟩ | ⟨rfl, herr⟩
    · subst hcB
      subst hvc
      have e4 := congrArg (fun u => match u with | Value.agg cs => cs.toList | _ => []) hv
      simp only [Choir.val, List.cons.injEq, and_true] at e4
      obtain ⟨rfl, rfl, rfl, rfl⟩ := e4
      have hzp := Go.Ai.lt_of_cell b0
      have hzw := Go.Ai.lt_of_cell wk
      have hx : c.B.boys[boy]? = some c.B.boys[boy] := List.getElem?_eq_getElem hb
      generalize c.B.boys[boy] = x at *
      generalize hBP : HighP c.B boy week W = PP at *
      gi_wp2_with fail
      have hk6 : Kept w (w.alloc (Obj.cells #[.func (.func 57) #[] #[.pointer (some ⟨W.heap.size + 1, 0, none⟩)]] 91)) := kept_alloc (kept_refl _) _
      have hch1 := hch.turns (kturns hk6 (fun _ => False)) (fun _ _ h => h)
      have hcall := span_any S c boy x hx (w.alloc (Obj.cells #[.func (.func 57) #[] #[.pointer (some ⟨W.heap.size + 1, 0, none⟩)]] 91)) hch1 (fun b hb => Nat.lt_of_lt_of_le (hSz b hb) hk6.size) _ _ _ (highest_tells S c boy week x hx (W.heap.size + 1) _ hch1 hwk1 (kcell hk6 wk))
      unfold Choir.val at hcall
      generalize w.alloc (Obj.cells #[.func (.func 57) #[] #[.pointer (some ⟨W.heap.size + 1, 0, none⟩)]] 91) = w1 at *
      refine ⟨trivial, rfl, (callsIn_wide.2 hcall).mono ?_⟩
      rintro e w2 ⟨rfl, hk7⟩
      have hk8 := kept_trans hk6 hk7
      have s0 := kcell hk8 s0
      have s1 := kcell hk8 s1
      have sf0 : w2.frozen? ⟨W.heap.size + 1 + 1, 0, none⟩ = false := ((kturns hk8 (fun _ => False)).frozen (Go.Ai.lt_of_cell (kcell hw.kept s0c)) (fun h => h)).trans sf0
      have sf1 : w2.frozen? ⟨W.heap.size + 1 + 1, 1, none⟩ = false := ((kturns hk8 (fun _ => False)).frozen (Go.Ai.lt_of_cell (kcell hw.kept s0c)) (fun h => h)).trans sf1
      have hzs := Go.Ai.lt_of_cell s0
      generalize hsp : spanOf (hiF c.B boy week) (c.B.truths boy x) = st at *
      obtain ⟨lo, hi, fd⟩ := st
      simp only
      clear hcall
      have hk9 : Kept w2 (w2.alloc (Obj.cells #[.int .i64 lo, .int .i64 hi] 32)) := kept_alloc (kept_refl _) _
      have HSP := Lib.hid hsp; clear hsp
      cases fd with
      | false =>
        gi_wp2_with fail
        have hT := Turns.setCell (T := fun b => b = W.heap.size + 1 + 1) (Turns.setCell (T := fun b => b = W.heap.size + 1 + 1) (Turns.refl _ w2) rfl 0 (.int .i64 0)) rfl 1 (.int .i64 0)
        have v0 := (cell_set_ne (W := w2.setCell ⟨W.heap.size + 1 + 1, 0, none⟩ (.int .i64 0)) (b := W.heap.size + 1 + 1) (o := 1) (o' := 0) (v := .int .i64 0) (by omega)).trans (cell_set_eq s0)
        have v1 := cell_set_eq (v := .int .i64 0) ((cell_set_ne (W := w2) (b := W.heap.size + 1 + 1) (o := 0) (o' := 1) (v := .int .i64 0) (by omega)).trans s1)
        have hk9 : Kept ((w2.setCell ⟨W.heap.size + 1 + 1, 0, none⟩ (.int .i64 0)).setCell ⟨W.heap.size + 1 + 1, 1, none⟩ (.int .i64 0)) (((w2.setCell ⟨W.heap.size + 1 + 1, 0, none⟩ (.int .i64 0)).setCell ⟨W.heap.size + 1 + 1, 1, none⟩ (.int .i64 0)).alloc (Obj.cells #[.int .i64 lo, .int .i64 hi] 32)) := kept_alloc (kept_refl _) _
        have u0 := kcell hk9 v0
        have u1 := kcell hk9 v1
        refine bodyPost_ret (v := .tuple #[.agg #[.int .i64 0, .int .i64 0], .int .i64 4]) (by simp only [results, Tryz.results16]; generalize ((w2.setCell ⟨W.heap.size + 1 + 1, 0, none⟩ (.int .i64 0)).setCell ⟨W.heap.size + 1 + 1, 1, none⟩ (.int .i64 0)).alloc (Obj.cells #[.int .i64 lo, .int .i64 hi] 32) = w9 at *; simp [go_sem, u0, u1]) rfl ?_
        rw [← hBP]
        have hz0 := (kept_trans hk0 hw.kept).size
        have hz8 := hk8.size
        have hkE := Below.trans (Below.trans (kept_trans (kept_trans hk0 hw.kept) hk8) (hT.toBelow (n := W.heap.size) (by rintro b rfl; omega) (by omega))) ⟨hk9.os, hk9.tape, hk9.output, hk9.size, fun k hk => hk9.block k (by have := hT.size; omega)⟩
        have hz : lo = 0 ∧ hi = 0 := by
          by_cases hc : ∃ n ∈ c.B.truths boy x, (hiF c.B boy week n).2 = true
          · obtain ⟨_, _, e, _⟩ := spanOf_some _ _ hc
            rw [HSP.out] at e; cases e
          · have e := spanOf_none (hiF c.B boy week) (c.B.truths boy x) (fun n hn => by
              cases hh : (hiF c.B boy week n).2 with
              | false => rfl
              | true => exact absurd ⟨n, hn, hh⟩ hc)
            rw [HSP.out] at e; cases e; exact ⟨rfl, rfl⟩
        obtain ⟨rfl, rfl⟩ := hz
        exact ⟨0, 0, 4, rfl, hkE, .inl ⟨hcan, x, false, hx, HSP.out, rfl⟩⟩
      | true =>
        gi_wp2_with fail
        have hT := Turns.setCell (T := fun b => b = W.heap.size + 1 + 1) (Turns.setCell (T := fun b => b = W.heap.size + 1 + 1) (Turns.refl _ w2) rfl 0 (.int .i64 lo)) rfl 1 (.int .i64 hi)
        have v0 := (cell_set_ne (W := w2.setCell ⟨W.heap.size + 1 + 1, 0, none⟩ (.int .i64 lo)) (b := W.heap.size + 1 + 1) (o := 1) (o' := 0) (v := .int .i64 hi) (by omega)).trans (cell_set_eq s0)
        have v1 := cell_set_eq (v := .int .i64 hi) ((cell_set_ne (W := w2) (b := W.heap.size + 1 + 1) (o := 0) (o' := 1) (v := .int .i64 lo) (by omega)).trans s1)
        have hk9 : Kept ((w2.setCell ⟨W.heap.size + 1 + 1, 0, none⟩ (.int .i64 lo)).setCell ⟨W.heap.size + 1 + 1, 1, none⟩ (.int .i64 hi)) (((w2.setCell ⟨W.heap.size + 1 + 1, 0, none⟩ (.int .i64 lo)).setCell ⟨W.heap.size + 1 + 1, 1, none⟩ (.int .i64 hi)).alloc (Obj.cells #[.int .i64 lo, .int .i64 hi] 32)) := kept_alloc (kept_refl _) _
        have u0 := kcell hk9 v0
        have u1 := kcell hk9 v1
        refine bodyPost_ret (v := .tuple #[.agg #[.int .i64 lo, .int .i64 hi], .int .i64 0]) (by simp only [results, Tryz.results16]; generalize ((w2.setCell ⟨W.heap.size + 1 + 1, 0, none⟩ (.int .i64 lo)).setCell ⟨W.heap.size + 1 + 1, 1, none⟩ (.int .i64 hi)).alloc (Obj.cells #[.int .i64 lo, .int .i64 hi] 32) = w9 at *; simp [go_sem, u0, u1]) rfl ?_
        rw [← hBP]
        have hz0 := (kept_trans hk0 hw.kept).size
        have hz8 := hk8.size
        have hkE := Below.trans (Below.trans (kept_trans (kept_trans hk0 hw.kept) hk8) (hT.toBelow (n := W.heap.size) (by rintro b rfl; omega) (by omega))) ⟨hk9.os, hk9.tape, hk9.output, hk9.size, fun k hk => hk9.block k (by have := hT.size; omega)⟩
        exact ⟨lo, hi, 0, rfl, hkE, .inl ⟨hcan, x, true, hx, HSP.out, rfl⟩⟩
    · rcases herr with ⟨_, he⟩ | ⟨_, _, he⟩ | ⟨rfl, _, _, hnc⟩
      · rw [hok0] at he; cases he
      · cases he
      gi_wp2_with fail
      have hT := Turns.setCell (T := fun b => b = W.heap.size + 1 + 1) (Turns.setCell (T := fun b => b = W.heap.size + 1 + 1) (Turns.refl _ w) rfl 0 (.int .i64 0)) rfl 1 (.int .i64 0)
      have v0 := (cell_set_ne (W := w.setCell ⟨W.heap.size + 1 + 1, 0, none⟩ (.int .i64 0)) (b := W.heap.size + 1 + 1) (o := 1) (o' := 0) (v := .int .i64 0) (by omega)).trans (cell_set_eq s0)
      have v1 := cell_set_eq (v := .int .i64 0) ((cell_set_ne (W := w) (b := W.heap.size + 1 + 1) (o := 0) (o' := 1) (v := .int .i64 0) (by omega)).trans s1)
      refine bodyPost_ret (v := .tuple #[.agg #[.int .i64 0, .int .i64 0], .int .i64 22]) (by simp [results, Tryz.results16, go_sem, v0, v1]) rfl ?_
      refine ⟨0, 0, 22, rfl, ?_, .inr ⟨rfl, hnc, rfl, rfl⟩⟩
      exact Below.trans (kept_trans hk0 hw.kept) (hT.toBelow (n := W.heap.size) (by rintro b rfl; omega) (by have := (kept_trans hk0 hw.kept).size; omega))
end Go.Proofs.YtcgihkaglonnaaaGreatDoor
set_option linter.all false
namespace Go.Proofs.YtcgihkaglonnaaaGreatDoor
open Go.RowKit Go.Sort Go.Rg
set_option maxRecDepth 100000

/-- can the book be true? -/
def RightP (B : Book) (W : World) (e : Ending) (C : World) : Prop :=
  ∃ r : Bool, e = .returned (.tuple #[.bool r, .int .i64 0]) ∧ Kept W C ∧ (r = true ↔ Can B)

set_option maxHeartbeats 4000000 in
theorem right_any (p q : Option Addr) (cap capt : Nat) (B : Book) (W : World) (h : BookAt W p q cap capt B) (hg : Nothing W) (hok : B.okB = true) :
    Calls Tryz.prog 8 #[B.val p q cap capt] W (RightP B W) := by
  unfold Book.val
  have hk0 : Kept W (W.alloc (Obj.cells #[.slice p B.boys.length cap, .int .i64 B.weeks, .slice q B.trials.length capt] 25)) := kept_alloc (kept_refl _) _
  have a0 : (W.alloc (Obj.cells #[.slice p B.boys.length cap, .int .i64 B.weeks, .slice q B.trials.length capt] 25)).cell? ⟨W.heap.size, 0, none⟩ = some (.slice p B.boys.length cap) := by go_simp
  have a1 : (W.alloc (Obj.cells #[.slice p B.boys.length cap, .int .i64 B.weeks, .slice q B.trials.length capt] 25)).cell? ⟨W.heap.size, 1, none⟩ = some (.int .i64 B.weeks) := by go_simp
  have a2 : (W.alloc (Obj.cells #[.slice p B.boys.length cap, .int .i64 B.weeks, .slice q B.trials.length capt] 25)).cell? ⟨W.heap.size, 2, none⟩ = some (.slice q B.trials.length capt) := by go_simp
  go_enter Tryz.func8, Tryz.ntmps8
  go_wp2_with fail
  generalize W.alloc (Obj.cells #[.slice p B.boys.length cap, .int .i64 B.weeks, .slice q B.trials.length capt] 25) = W1 at *
  refine (check_any p q cap capt B _ (h.kept hk0)).mono ?_
  rintro e W2 ⟨rfl, hk2⟩
  have hkW2 := kept_trans hk0 hk2
  replace a0 := kcell hk2 a0
  replace a1 := kcell hk2 a1
  replace a2 := kcell hk2 a2
  simp only [hok, if_true]
  go_wp2_with fail
  refine (newChoir_any p q cap capt B W W2 hok h hkW2).mono ?_
  rintro e W3 ⟨c, hcB, rfl, hk3, hat⟩
  have hcan := canBeTrue_any _ c W3 hat (fun b hb => hb.1) (hg.kept (kept_trans hkW2 hk3))
  have HCAN := Lib.hid hcan; clear hcan
  generalize hcv : c.val = cv at *
  go_wp2_with fail
  refine HCAN.out.mono ?_
  rintro e W4 ⟨r, hr, rfl, hk4⟩
  go_wp2_with fail
  refine bodyPost_ret (v := .tuple #[.bool r, .int .i64 0]) (by simp [results, Tryz.results8, go_sem]) rfl ?_
  subst hcB
  exact ⟨r, rfl, kept_trans (kept_trans hkW2 hk3) hk4, hr⟩
end Go.Proofs.YtcgihkaglonnaaaGreatDoor
set_option linter.all false
namespace Go.Proofs.YtcgihkaglonnaaaGreatDoor
open Go.RowKit Go.Sort Go.Rg
set_option maxRecDepth 100000

def wrongL (B : Book) : List Nat := (accL B B.boys.length).mergeSort fun x y => decide (x ≤ y)
def Sorts : Prop := ∀ (v : Value) (l : List Nat) (base : Nat) (V : World), base ≤ V.heap.size → V.ownsRow base 3 1 v l.length (intsV l) → l.length ≤ 1000 → Calls Tryz.prog 102 #[v] V fun e C => e = .returned (.tuple #[]) ∧ ListAt C v (l.mergeSort fun x y => decide (x ≤ y)) ∧ Below base V C

set_option maxHeartbeats 4000000 in
theorem wrongs_any (hsort : Sorts) (p q : Option Addr) (cap capt : Nat) (B : Book) (W : World) (h : BookAt W p q cap capt B) (hok : B.okB = true) :
    Calls Tryz.prog 30 #[B.val p q cap capt] W fun e C => ∃ v, e = .returned (.tuple #[v, .int .i64 0]) ∧ Kept W C ∧ ListAt C v (wrongL B) := by
  unfold Book.val
  have hk0 : Kept W (W.alloc (Obj.cells #[.slice p B.boys.length cap, .int .i64 B.weeks, .slice q B.trials.length capt] 25)) := kept_alloc (kept_refl _) _
  have a0 : (W.alloc (Obj.cells #[.slice p B.boys.length cap, .int .i64 B.weeks, .slice q B.trials.length capt] 25)).cell? ⟨W.heap.size, 0, none⟩ = some (.slice p B.boys.length cap) := by go_simp
  have a1 : (W.alloc (Obj.cells #[.slice p B.boys.length cap, .int .i64 B.weeks, .slice q B.trials.length capt] 25)).cell? ⟨W.heap.size, 1, none⟩ = some (.int .i64 B.weeks) := by go_simp
  have a2 : (W.alloc (Obj.cells #[.slice p B.boys.length cap, .int .i64 B.weeks, .slice q B.trials.length capt] 25)).cell? ⟨W.heap.size, 2, none⟩ = some (.slice q B.trials.length capt) := by go_simp
  go_enter Tryz.func30, Tryz.ntmps30
  go_wp2_with fail
  generalize W.alloc (Obj.cells #[.slice p B.boys.length cap, .int .i64 B.weeks, .slice q B.trials.length capt] 25) = W1 at *
  refine (check_any p q cap capt B _ (h.kept hk0)).mono ?_
  rintro e W2 ⟨rfl, hk2⟩
  have hkW2 := kept_trans hk0 hk2
  replace a0 := kcell hk2 a0
  replace a1 := kcell hk2 a1
  replace a2 := kcell hk2 a2
  simp only [hok, if_true]
  go_wp2_with fail
  refine (newChoir_any p q cap capt B W W2 hok h hkW2).mono ?_
  rintro e W3 ⟨c, hcB, rfl, hk3, hat⟩
  have hcan := wrong_any _ c W3 hat (fun b hb => hb.1) (h.laid.kept (kept_trans hkW2 hk3)) hsort
  have HCAN := Lib.hid hcan; clear hcan
  generalize hcv : c.val = cv at *
  go_wp2_with fail
  refine HCAN.out.mono ?_
  rintro e W4 ⟨v, rfl, hk4, hl⟩
  go_wp2_with fail
  refine bodyPost_ret (v := .tuple #[v, .int .i64 0]) (by simp [results, Tryz.results30, go_sem]) rfl ?_
  subst hcB
  exact ⟨v, rfl, kept_trans (kept_trans hkW2 hk3) hk4, hl⟩

set_option maxHeartbeats 4000000 in
theorem wrongs_bad (p q : Option Addr) (cap capt : Nat) (B : Book) (W : World) (h : BookAt W p q cap capt B) (hok : B.okB = false) :
    Calls Tryz.prog 30 #[B.val p q cap capt] W fun e C => e = .returned (.tuple #[.slice none 0 0, .int .i64 20]) ∧ Kept W C := by
  unfold Book.val
  have hk0 : Kept W (W.alloc (Obj.cells #[.slice p B.boys.length cap, .int .i64 B.weeks, .slice q B.trials.length capt] 25)) := kept_alloc (kept_refl _) _
  have a0 : (W.alloc (Obj.cells #[.slice p B.boys.length cap, .int .i64 B.weeks, .slice q B.trials.length capt] 25)).cell? ⟨W.heap.size, 0, none⟩ = some (.slice p B.boys.length cap) := by go_simp
  have a1 : (W.alloc (Obj.cells #[.slice p B.boys.length cap, .int .i64 B.weeks, .slice q B.trials.length capt] 25)).cell? ⟨W.heap.size, 1, none⟩ = some (.int .i64 B.weeks) := by go_simp
  have a2 : (W.alloc (Obj.cells #[.slice p B.boys.length cap, .int .i64 B.weeks, .slice q B.trials.length capt] 25)).cell? ⟨W.heap.size, 2, none⟩ = some (.slice q B.trials.length capt) := by go_simp
  go_enter Tryz.func30, Tryz.ntmps30
  go_wp2_with fail
  generalize W.alloc (Obj.cells #[.slice p B.boys.length cap, .int .i64 B.weeks, .slice q B.trials.length capt] 25) = W1 at *
  refine (check_any p q cap capt B _ (h.kept hk0)).mono ?_
  rintro e W2 ⟨rfl, hk2⟩
  have hkW2 := kept_trans hk0 hk2
  simp only [hok, if_false, Bool.false_eq_true]
  go_wp2_with fail
  refine bodyPost_ret (v := .tuple #[.slice none 0 0, .int .i64 20]) (by simp [results, Tryz.results30, go_sem]) rfl ?_
  exact ⟨rfl, hkW2⟩
end Go.Proofs.YtcgihkaglonnaaaGreatDoor
set_option linter.all false
namespace Go.Proofs.YtcgihkaglonnaaaGreatDoor
open Go.RowKit Go.Sort Go.Rg
set_option maxRecDepth 100000

set_option maxHeartbeats 1000000 in
theorem where6 (v : Value) (l : List Nat) (n : Nat) (w : World) (h : ListAt w v l) (hl : l.length ≤ 6) :
    Calls Tryz.prog 86 #[v, .int .i64 (n : Int)] w fun e w' => ∃ r : Int, e = .returned (.int .i64 r) ∧ Kept w w' ∧ (0 ≤ r ↔ n ∈ l) := by
  obtain ⟨p, cap, rfl⟩ := listAt_len h
  go_enter Tryz.func86, Tryz.ntmps86
  go_wp2_with fail
  go_loopw [5] (fun i W => ∃ k : Nat, k ≤ l.length ∧ i = .int .i64 k ∧ (∀ j, j < k → l[j]? ≠ some n) ∧ Kept w W) (fun i W => l.length - (intOf i).toNat)
  case atStart => exact ⟨0, by omega, rfl, fun j hj => by omega, kept_refl _⟩
  case round =>
    obtain ⟨k, hk, rfl, hno, hkW⟩ := hrel
    rename_i W
    have HNO := Lib.hid hno; clear hno
    by_cases hlt : k < l.length
    · have hltI : (k : Int) < l.length := by omega
      have hget : l[k]? = some l[k] := List.getElem?_eq_getElem hlt
      have hmem : l[k] ∈ l := List.getElem_mem hlt
      generalize l[k] = x at *
      rcases h.kept hkW with ⟨_, rfl⟩ | ⟨b, cap', e, hb, hc⟩
      · simp at hlt
      cases e
      replace hc := hc k x hget
      have HG := Lib.hid hget; clear hget
      by_cases hxn : x = n
      · have HM := Lib.hid (show n ∈ l from hxn ▸ hmem)
        have hx1 : ((x : Int) == (n : Int)) = true := by simp; omega
        clear hxn hmem
        go_wp2_with fail
        go_ret
        exact ⟨_, rfl, hkW, by simp [HM.out]⟩
      · have hx1 : ((x : Int) == (n : Int)) = false := by simp; omega
        have HNEW : Hid (∀ j, j < k + 1 → l[j]? ≠ some n) := Lib.hid (by
          intro j hj hg
          by_cases e : j = k
          · subst e; rw [HG.out] at hg; cases hg; exact hxn rfl
          · exact HNO.out j (by omega) hg)
        clear hxn hmem
        go_wp2_with fail
        go_roundw
        case rel => exact ⟨k + 1, by omega, by go_num, HNEW.out, hkW⟩
        case measure => simp [intOf]; omega
    · have hltI : ¬ (k : Int) < l.length := by omega
      go_wp2_with fail
      go_ret
      refine ⟨-1, rfl, hkW, ?_⟩
      have : ¬ n ∈ l := fun hm => by
        obtain ⟨j, hj⟩ := List.getElem?_of_mem hm
        exact HNO.out j (by have := (List.getElem?_eq_some_iff.1 hj).1; omega) hj
      simp [this]


end Go.Proofs.YtcgihkaglonnaaaGreatDoor
set_option linter.all false
namespace Go.Proofs.YtcgihkaglonnaaaGreatDoor
open Go.RowKit Go.Sort Go.Rg
set_option maxRecDepth 100000

/-- which lists of numbers are among those that are gone through -/
theorem mem_gen {lo hi : Nat → Int} {boy : Int} {lt : List Trial} {kp : List Int → Bool} : ∀ (d : Nat) (pre x : List Int), x ∈ gen lo hi boy lt kp d pre ↔
    ∃ suf : List Int, suf.length = d ∧ x = pre ++ suf ∧ kp x = true ∧ ∀ i v, suf[i]? = some v → lo (pre.length + i) ≤ v ∧ v ≤ hi (pre.length + i) ∧ fbAt boy lt (pre.length + i) v = false
  | 0, pre, x => by
    unfold gen
    constructor
    · intro h
      by_cases hk : kp pre = true
      · rw [if_pos hk] at h
        have : x = pre := by simpa using h
        subst this
        exact ⟨[], rfl, by simp, hk, fun i v hv => by simp at hv⟩
      · rw [if_neg hk] at h; simp at h
    · rintro ⟨suf, hl, rfl, hk, -⟩
      have : suf = [] := List.length_eq_zero_iff.1 hl
      subst this
      rw [List.append_nil] at hk ⊢
      rw [if_pos hk]; simp
  | d + 1, pre, x => by
    unfold gen
    simp only [List.mem_flatten, List.mem_map, List.mem_range]
    constructor
    · rintro ⟨l, ⟨m, hm, rfl⟩, hx⟩
      by_cases hf : fbAt boy lt pre.length (lo pre.length + (m : Int)) = true
      · rw [if_pos hf] at hx; simp at hx
      · rw [if_neg hf] at hx
        obtain ⟨suf, hl, rfl, hk, hs⟩ := (mem_gen d _ x).1 hx
        refine ⟨(lo pre.length + (m : Int)) :: suf, by simp [hl], by simp, hk, fun i v hv => ?_⟩
        cases i with
        | zero =>
          simp only [List.getElem?_cons_zero, Option.some.injEq] at hv
          subst hv
          refine ⟨by simp only [Nat.add_zero]; omega, by simp only [Nat.add_zero]; omega, by simpa using hf⟩
        | succ i =>
          have := hs i v (by simpa using hv)
          simp only [List.length_append, List.length_cons, List.length_nil] at this
          rw [show pre.length + (i + 1) = pre.length + (0 + 1) + i by omega]
          exact this
    · rintro ⟨suf, hl, rfl, hk, hs⟩
      match suf, hl with
      | v :: suf, hl =>
        have h0 := hs 0 v rfl
        simp only [Nat.add_zero] at h0
        refine ⟨_, ⟨(v - lo pre.length).toNat, by omega, rfl⟩, ?_⟩
        have e : lo pre.length + (((v - lo pre.length).toNat : Nat) : Int) = v := by omega
        rw [e, if_neg (by rw [h0.2.2]; simp)]
        refine (mem_gen d _ _).2 ⟨suf, by simpa using hl, by simp, hk, fun i u hu => ?_⟩
        have := hs (i + 1) u (by simpa using hu)
        simp only [List.length_append, List.length_cons, List.length_nil]
        rw [show pre.length + (0 + 1) + i = pre.length + (i + 1) by omega]
        exact this
theorem mem_truths {B : Book} {boy : Nat} {x : Boy} {n : List Int} : n ∈ B.truths boy x ↔
    n.length = 5 ∧ kpOf B boy x n = true ∧ ∀ i v, n[i]? = some v → x.lo i ≤ v ∧ v ≤ x.hi i ∧ fbAt boy B.trials i v = false := by
  unfold Book.truths
  rw [mem_gen]
  constructor
  · rintro ⟨suf, hl, rfl, hk, hs⟩
    simp only [List.nil_append, List.length_nil, Nat.zero_add] at hk hs ⊢
    exact ⟨hl, hk, hs⟩
  · rintro ⟨hl, hk, hs⟩
    exact ⟨n, hl, by simp, hk, fun i v hv => by simpa using hs i v hv⟩
/-- a book without trials -/
theorem mem_untried {B : Book} (hB : B.trials = []) {boy : Nat} {x : Boy} {n0 n1 n2 n3 n4 : Int} : [n0, n1, n2, n3, n4] ∈ B.truths boy x ↔
    (x.l0 ≤ n0 ∧ n0 ≤ x.l1) ∧ (x.h0 ≤ n1 ∧ n1 ≤ x.h1) ∧ (x.g0 ≤ n2 ∧ n2 ≤ x.g1) ∧ (x.t0 ≤ n3 ∧ n3 ≤ x.t1) ∧ (x.b0 ≤ n4 ∧ n4 ≤ x.b1) := by
  rw [mem_truths]
  have hk : kpOf B boy x [n0, n1, n2, n3, n4] = true := by
    unfold kpOf Book.told
    rw [hB]
    simp
  constructor
  · rintro ⟨-, -, h⟩
    have h0 := h 0 n0 rfl
    have h1 := h 1 n1 rfl
    have h2 := h 2 n2 rfl
    have h3 := h 3 n3 rfl
    have h4 := h 4 n4 rfl
    simp only [Boy.lo, Boy.hi] at h0 h1 h2 h3 h4
    exact ⟨⟨h0.1, h0.2.1⟩, ⟨h1.1, h1.2.1⟩, ⟨h2.1, h2.2.1⟩, ⟨h3.1, h3.2.1⟩, ⟨h4.1, h4.2.1⟩⟩
  · rintro ⟨⟨a0, a1⟩, ⟨b0, b1⟩, ⟨c0, c1⟩, ⟨d0, d1⟩, ⟨e0, e1⟩⟩
    refine ⟨rfl, hk, fun i v hv => ?_⟩
    rw [hB]
    match i, hv with
    | 0, hv => cases hv; exact ⟨a0, a1, rfl⟩
    | 1, hv => cases hv; exact ⟨b0, b1, rfl⟩
    | 2, hv => cases hv; exact ⟨c0, c1, rfl⟩
    | 3, hv => cases hv; exact ⟨d0, d1, rfl⟩
    | 4, hv => cases hv; exact ⟨e0, e1, rfl⟩
theorem can_untried {B : Book} (hok : B.okB = true) (hB : B.trials = []) : Can B := fun boy x hx => by
  obtain ⟨-, hb, -⟩ := okB_boys hok
  obtain ⟨n0, n1, n2, n3, n4⟩ := boy_nums (hb x (List.mem_of_getElem? hx))
  refine List.ne_nil_of_mem ((mem_untried hB (n0 := x.l0) (n1 := x.h0) (n2 := x.g0) (n3 := x.t0) (n4 := x.b0)).2 ?_)
  omega

theorem untried_ok {B : Book} (h : B.okB = true) : (Book.mk B.boys B.weeks []).okB = true := by
  simp only [Book.okB, Bool.and_eq_true] at h ⊢
  exact ⟨⟨⟨⟨h.1.1.1.1, h.1.1.1.2⟩, by simp⟩, h.1.2⟩, rfl⟩
theorem set_ok {B : Book} (h : B.okB = true) {boy : Nat} {y : Boy} (hy : y.okB = true) : (Book.mk (B.boys.set boy y) B.weeks []).okB = true := by
  simp only [Book.okB, Bool.and_eq_true, List.length_set] at h ⊢
  refine ⟨⟨⟨⟨h.1.1.1.1, h.1.1.1.2⟩, by simp⟩, ?_⟩, rfl⟩
  rw [List.all_eq_true]
  intro z hz
  rcases List.mem_or_eq_of_mem_set hz with hz | rfl
  · exact List.all_eq_true.1 h.1.2 z hz
  · exact hy
/-- a boy who is better: who gains more, or loses less, or whose highest note is higher at first -/
structure Better (x y : Boy) : Prop where
  l0 : x.l0 = y.l0
  l1 : x.l1 = y.l1
  t0 : x.t0 = y.t0
  t1 : x.t1 = y.t1
  b0 : x.b0 = y.b0
  b1 : x.b1 = y.b1
  h0 : x.h0 ≤ y.h0
  h1 : x.h1 ≤ y.h1
  g0 : x.g0 ≤ y.g0
  g1 : x.g1 ≤ y.g1
  ls : y.ls ≤ x.ls
theorem ls_ok {x : Boy} (h : x.okB = true) {v : Int} (h1 : 0 ≤ v) (h2 : v ≤ x.ls) : ({ x with ls := v } : Boy).okB = true := by
  have hh := spanAt_ok x h
  simp only [Boy.okB, spanAt, spanB, inB, Bool.and_eq_true, decide_eq_true_eq, Bool.not_eq_true', decide_eq_false_iff_not] at h ⊢
  omega
theorem g_ok {x : Boy} (h : x.okB = true) {u v : Int} (h1 : 0 ≤ u) (h2 : u ≤ v) (h3 : v ≤ 2) (h4 : v - u ≤ 1) : ({ x with g0 := u, g1 := v } : Boy).okB = true := by
  simp only [Boy.okB, spanAt, spanB, inB, Bool.and_eq_true, decide_eq_true_eq, Bool.not_eq_true', decide_eq_false_iff_not] at h ⊢
  omega
theorem h_ok {x : Boy} (h : x.okB = true) {u v : Int} (h1 : 0 ≤ u) (h2 : u ≤ v) (h3 : v ≤ 40) (h4 : v - u ≤ 2) : ({ x with h0 := u, h1 := v } : Boy).okB = true := by
  simp only [Boy.okB, spanAt, spanB, inB, Bool.and_eq_true, decide_eq_true_eq, Bool.not_eq_true', decide_eq_false_iff_not] at h ⊢
  omega
theorem top_mono {h h' g g' t lo lo' wk : Int} (hw : 0 ≤ wk) (ht : 0 ≤ t) (h1 : h ≤ h') (h2 : g ≤ g') (h3 : lo' ≤ lo) : top h g t lo wk ≤ top h' g' t lo' wk := by
  unfold top
  have a := Int.mul_le_mul_of_nonneg_left h2 (show 0 ≤ min wk t by omega)
  have b := Int.mul_le_mul_of_nonneg_left h3 (show 0 ≤ wk - min wk t by omega)
  omega
theorem better_up {x y : Boy} (h : Better x y) (hy : y.okB = true) {n0 n1 n2 n3 n4 : Int} {A B : Book} (hA : A.trials = []) (hB : B.trials = []) {boy : Nat} (hn : [n0, n1, n2, n3, n4] ∈ A.truths boy x) :
    ∃ m1 m2, n1 ≤ m1 ∧ n2 ≤ m2 ∧ [n0, m1, m2, n3, n4] ∈ B.truths boy y := by
  rw [mem_untried hA] at hn
  obtain ⟨a, b, c, d, e⟩ := boy_nums hy
  have := h.l0; have := h.l1; have := h.t0; have := h.t1; have := h.b0; have := h.b1; have := h.h0; have := h.h1; have := h.g0; have := h.g1
  refine ⟨max n1 y.h0, max n2 y.g0, by omega, by omega, (mem_untried hB).2 ?_⟩
  omega
theorem better_down {x y : Boy} (h : Better x y) (hx : x.okB = true) {n0 n1 n2 n3 n4 : Int} {A B : Book} (hA : A.trials = []) (hB : B.trials = []) {boy : Nat} (hn : [n0, n1, n2, n3, n4] ∈ B.truths boy y) :
    ∃ m1 m2, m1 ≤ n1 ∧ m2 ≤ n2 ∧ [n0, m1, m2, n3, n4] ∈ A.truths boy x := by
  rw [mem_untried hB] at hn
  obtain ⟨a, b, c, d, e⟩ := boy_nums hx
  have := h.l0; have := h.l1; have := h.t0; have := h.t1; have := h.b0; have := h.b1; have := h.h0; have := h.h1; have := h.g0; have := h.g1
  refine ⟨min n1 x.h1, min n2 x.g1, by omega, by omega, (mem_untried hA).2 ?_⟩
  omega

/-- what the law says of the better boy -/
structure GainsAt (s0 s1 t0 t1 : Int) (fd gd : Bool) (k m : Int) : Prop where
  e : fd = gd
  a : s0 ≤ t0
  b : s1 ≤ t1
  c : k = 2 → m = 2
  d : k ≠ 0 → m ≠ 0
  k0 : 0 ≤ k
  k2 : k ≤ 2
  m0 : 0 ≤ m
  m2 : m ≤ 2
theorem gains_at {A B : Book} (hA : A.trials = []) (hB : B.trials = []) {boy : Nat} {x y : Boy} (hx : A.boys[boy]? = some x) (hy : B.boys[boy]? = some y) (hxo : x.okB = true) (hyo : y.okB = true) (hb : Better x y) {week note : Int} (hw : 0 ≤ week)
    {s0 s1 t0 t1 k m : Int} {fd gd : Bool} (e1 : spanOf (hiF A boy week) (A.truths boy x) = (s0, s1, fd)) (e2 : spanOf (hiF B boy week) (B.truths boy y) = (t0, t1, gd))
    (e3 : oftenOf (A.truths boy x) (singsN A week note note boy) = k) (e4 : oftenOf (B.truths boy y) (singsN B week note note boy) = m) (hne : A.truths boy x ≠ []) : GainsAt s0 s1 t0 t1 fd gd k m := by
  have hlA : lossOf A boy = x.ls := by simp [lossOf, hx]
  have hlB : lossOf B boy = y.ls := by simp [lossOf, hy]
  obtain ⟨-, -, -, hto, -⟩ := boy_nums hxo
  have up : ∀ n ∈ A.truths boy x, ∃ m ∈ B.truths boy y, (hiF A boy week n).2 = (hiF B boy week m).2 ∧ (hiF A boy week n).1 ≤ (hiF B boy week m).1 ∧ n.getD 0 0 = m.getD 0 0 := by
    intro n hn
    obtain ⟨n0, n1, n2, n3, n4, rfl⟩ := truths_len hn
    obtain ⟨m1, m2, h1, h2, hm⟩ := better_up hb hyo hA hB hn
    have hr := (mem_untried hA).1 hn
    refine ⟨_, hm, rfl, ?_, rfl⟩
    simp only [hiF, hlA, hlB]
    exact top_mono hw (by simp; omega) h1 h2 hb.ls
  have down : ∀ m ∈ B.truths boy y, ∃ n ∈ A.truths boy x, (hiF A boy week n).2 = (hiF B boy week m).2 ∧ (hiF A boy week n).1 ≤ (hiF B boy week m).1 ∧ n.getD 0 0 = m.getD 0 0 := by
    intro m hm
    obtain ⟨n0, n1, n2, n3, n4, rfl⟩ := truths_len hm
    obtain ⟨m1, m2, h1, h2, hn⟩ := better_down hb hxo hA hB hm
    have hr := (mem_untried hA).1 hn
    refine ⟨_, hn, rfl, ?_, rfl⟩
    simp only [hiF, hlA, hlB]
    exact top_mono hw (by simp; omega) h1 h2 hb.ls
  have sing : ∀ {n m : List Int}, (hiF A boy week n).2 = (hiF B boy week m).2 → (hiF A boy week n).1 ≤ (hiF B boy week m).1 → n.getD 0 0 = m.getD 0 0 → singsN A week note note boy n = true → singsN B week note note boy m = true := by
    intro n m h1 h2 h3 h
    rw [singsN_iff] at h ⊢
    rw [← h1, ← h3]
    exact ⟨h.1, h.2.1, by omega⟩
  obtain ⟨k0, k2⟩ := often_rng (A.truths boy x) (singsN A week note note boy)
  obtain ⟨m0, m2⟩ := often_rng (B.truths boy y) (singsN B week note note boy)
  rw [e3] at k0 k2
  rw [e4] at m0 m2
  have hfg : fd = gd ∧ s0 ≤ t0 ∧ s1 ≤ t1 := by
    by_cases hc : ∃ n ∈ A.truths boy x, (hiF A boy week n).2 = true
    · obtain ⟨p0, p1, f1, _, p3, ⟨pm, pm1, pm2, pm3⟩, ⟨pM, pM1, pM2, pM3⟩⟩ := spanOf_some _ _ hc
      have hc' : ∃ m ∈ B.truths boy y, (hiF B boy week m).2 = true := by
        obtain ⟨n, hn, ht⟩ := hc
        obtain ⟨m, hm, g1, _⟩ := up n hn
        exact ⟨m, hm, g1 ▸ ht⟩
      obtain ⟨q0, q1, f2, _, q3, ⟨qm, qm1, qm2, qm3⟩, ⟨qM, qM1, qM2, qM3⟩⟩ := spanOf_some _ _ hc'
      rw [e1] at f1; cases f1
      rw [e2] at f2; cases f2
      refine ⟨rfl, ?_, ?_⟩
      · obtain ⟨n, hn, g1, g2, _⟩ := down qm qm1
        have := (p3 n hn (g1.trans qm2)).1
        omega
      · obtain ⟨m, hm, g1, g2, _⟩ := up pM pM1
        have := (q3 m hm (g1.symm.trans pM2)).2
        omega
    · have hc' : ¬ ∃ m ∈ B.truths boy y, (hiF B boy week m).2 = true := by
        rintro ⟨m, hm, ht⟩
        obtain ⟨n, hn, g1, _⟩ := down m hm
        exact hc ⟨n, hn, g1.trans ht⟩
      have f1 := spanOf_none (hiF A boy week) (A.truths boy x) (fun n hn => by
        cases h : (hiF A boy week n).2 with
        | false => rfl
        | true => exact absurd ⟨n, hn, h⟩ hc)
      have f2 := spanOf_none (hiF B boy week) (B.truths boy y) (fun n hn => by
        cases h : (hiF B boy week n).2 with
        | false => rfl
        | true => exact absurd ⟨n, hn, h⟩ hc')
      rw [e1] at f1; cases f1
      rw [e2] at f2; cases f2
      exact ⟨rfl, by omega, by omega⟩
  refine ⟨hfg.1, hfg.2.1, hfg.2.2, fun hk => ?_, fun hk => ?_, k0, k2, m0, m2⟩
  · have hall : ∀ n ∈ A.truths boy x, singsN A week note note boy n = true := by
      rw [← e3] at hk
      unfold oftenOf at hk
      by_cases h : (A.truths boy x).all (singsN A week note note boy) = true
      · exact List.all_eq_true.1 h
      · rw [if_neg h] at hk
        split at hk <;> simp at hk
    rw [← e4]
    refine often_two fun m hm => ?_
    obtain ⟨n, hn, g1, g2, g3⟩ := down m hm
    exact sing g1 g2 g3 (hall n hn)
  · have hany : ∃ n ∈ A.truths boy x, singsN A week note note boy n = true := by
      refine Classical.byContradiction fun hc => hk ?_
      rw [← e3]
      exact often_zero hne fun n hn => by
        cases h : singsN A week note note boy n with
        | false => rfl
        | true => exact absurd ⟨n, hn, h⟩ hc
    obtain ⟨n, hn, hs⟩ := hany
    obtain ⟨m, hm, g1, g2, g3⟩ := up n hn
    rw [← e4]
    exact often_pos hm (sing g1 g2 g3 hs)
end Go.Proofs.YtcgihkaglonnaaaGreatDoor
set_option linter.all false
namespace Go.Proofs.YtcgihkaglonnaaaGreatDoor
open Go.RowKit Go.Sort Go.Rg
set_option maxRecDepth 100000

theorem gen_congr {lo hi : Nat → Int} {boy : Int} {lt lt' : List Trial} {kp kp' : List Int → Bool} (h1 : ∀ i v, fbAt boy lt i v = fbAt boy lt' i v) (h2 : ∀ n, kp n = kp' n) : ∀ (d : Nat) (pre : List Int), gen lo hi boy lt kp d pre = gen lo hi boy lt' kp' d pre
  | 0, pre => by unfold gen; rw [h2]
  | d + 1, pre => by
    unfold gen
    simp only [h1, gen_congr h1 h2 d]
/-- fewer trials: more truths -/
theorem truths_mono {A B : Book} (hw : A.weeks = B.weeks) (ht : ∀ t, t ∈ A.trials → t ∈ B.trials) {boy : Nat} {x : Boy} {n : List Int} (h : n ∈ B.truths boy x) : n ∈ A.truths boy x := by
  rw [mem_truths] at h ⊢
  obtain ⟨h1, h2, h3⟩ := h
  refine ⟨h1, ?_, fun i v hv => ⟨(h3 i v hv).1, (h3 i v hv).2.1, ?_⟩⟩
  · unfold kpOf at h2 ⊢
    rw [hw]
    rw [List.all_eq_true] at h2 ⊢
    intro wk hwk
    have := h2 wk hwk
    simp only [Bool.not_eq_true', List.any_eq_false] at this ⊢
    intro t ht'
    refine this t ?_
    simp only [Book.told, List.mem_filter] at ht' ⊢
    exact ⟨ht t ht'.1, ht'.2⟩
  · have := (h3 i v hv).2.2
    unfold fbAt at this ⊢
    rw [List.any_eq_false] at this ⊢
    exact fun t ht' => this t (ht t ht')
theorem can_mono {A B : Book} (hb : A.boys = B.boys) (hw : A.weeks = B.weeks) (ht : ∀ t, t ∈ A.trials → t ∈ B.trials) (h : Can B) : Can A := fun boy x hx => by
  rw [hb] at hx
  obtain ⟨n, hn⟩ := List.exists_mem_of_ne_nil _ (h boy x hx)
  exact List.ne_nil_of_mem (truths_mono hw ht hn)

/-- the book with the trials of one boy alone -/
def ownT (B : Book) (boy : Nat) : List Trial := B.trials.filter fun t => decide (t.boy = (boy : Int))
def apart (B : Book) (boy : Nat) : Book := ⟨B.boys, B.weeks, ownT B boy⟩
theorem apart_truths (B : Book) (boy : Nat) (x : Boy) : (apart B boy).truths boy x = B.truths boy x := by
  unfold Book.truths
  refine gen_congr (fun i v => ?_) (fun n => ?_) 5 []
  · unfold fbAt apart ownT
    simp only [List.any_filter]
    congr 1
    funext t
    unfold forbidsB
    cases decide (t.boy = (boy : Int)) <;> simp
  · unfold kpOf apart Book.told ownT
    simp only [List.filter_filter]
    congr 1
    funext wk
    congr 2
    refine List.filter_congr fun t _ => ?_
    cases decide (t.boy = (boy : Int)) <;> simp
theorem apart_ok {B : Book} (h : B.okB = true) (boy : Nat) : (apart B boy).okB = true := by
  simp only [Book.okB, Bool.and_eq_true, decide_eq_true_eq, List.all_eq_true] at h ⊢
  refine ⟨⟨⟨⟨h.1.1.1.1, h.1.1.1.2⟩, ?_⟩, h.1.2⟩, fun t ht => h.2 t (List.mem_filter.1 ht).1⟩
  have := List.length_filter_le (fun t => decide (t.boy = (boy : Int))) B.trials
  show (B.trials.filter _).length ≤ 6
  omega
theorem apart_can {B : Book} (h : Can B) (boy : Nat) : Can (apart B boy) := can_mono (A := apart B boy) (B := B) rfl rfl (fun t ht => (List.mem_filter.1 (show t ∈ B.trials.filter (fun t => decide (t.boy = (boy : Int))) from ht)).1) h
theorem ownT_step (B : Book) (boy j : Nat) (t : Trial) (ht : B.trials[j]? = some t) : (B.trials.take (j + 1)).filter (fun t => decide (t.boy = (boy : Int))) = (B.trials.take j).filter (fun t => decide (t.boy = (boy : Int))) ++ (if t.boy = (boy : Int) then [t] else []) := by
  rw [List.take_succ, ht, List.filter_append]
  congr 1
  simp only [Option.toList_some, List.filter_cons, List.filter_nil, decide_eq_true_eq]

/-- one trial more: what is told is part of what was told -/
structure MoreAt (lo0 lo1 lo0' lo1' : Int) : Prop where
  a : lo0 ≤ lo0'
  b : lo1' ≤ lo1
theorem span_sub {f : List Int → Int × Bool} {l l' : List (List Int)} (hs : ∀ n ∈ l', n ∈ l) {a b a' b' : Int} {fd : Bool} (e1 : spanOf f l = (a, b, fd)) (e2 : spanOf f l' = (a', b', true)) : fd = true ∧ a ≤ a' ∧ b' ≤ b ∧ a' ≤ b' := by
  have hy : ∃ n ∈ l', (f n).2 = true := by
    refine Classical.byContradiction fun hc => ?_
    have := spanOf_none f l' (fun n hn => by
      cases h : (f n).2 with
      | false => rfl
      | true => exact absurd ⟨n, hn, h⟩ hc)
    rw [this] at e2; cases e2
  have hx : ∃ n ∈ l, (f n).2 = true := by
    obtain ⟨n, hn, h⟩ := hy
    exact ⟨n, hs n hn, h⟩
  obtain ⟨p0, p1, f1, p2, p3, -, -⟩ := spanOf_some _ _ hx
  obtain ⟨q0, q1, f2, q2, q3, ⟨m, m1, m2, m3⟩, ⟨M, M1, M2, M3⟩⟩ := spanOf_some _ _ hy
  rw [e1] at f1; cases f1
  rw [e2] at f2; cases f2
  have := p3 m (hs m m1) m2
  have := p3 M (hs M M1) M2
  exact ⟨rfl, by omega, by omega, q2⟩
end Go.Proofs.YtcgihkaglonnaaaGreatDoor
set_option linter.all false
namespace Go.Proofs.YtcgihkaglonnaaaGreatDoor
open Go.RowKit Go.Sort Go.Rg
set_option maxRecDepth 100000

theorem only_is (n : Int) (w : World) : Calls Tryz.prog 66 #[.int .i64 n] w fun e w' => e = .returned (.agg #[.int .i64 n, .int .i64 n]) ∧ Kept w w' := by
  go_enter Tryz.func66, Tryz.ntmps66
  go_wp2_with fail
  refine bodyPost_ret (v := .agg #[.int .i64 n, .int .i64 n]) (by simp [results, Tryz.results66, go_sem]) rfl ⟨rfl, ?_⟩
  exact kept_alloc (kept_refl _) _
theorem bounds_is (a b : Int) (w : World) : Calls Tryz.prog 65 #[.int .i64 a, .int .i64 b] w fun e w' => e = .returned (.agg #[.int .i64 a, .int .i64 b]) ∧ Kept w w' := by
  go_enter Tryz.func65, Tryz.ntmps65
  go_wp2_with fail
  refine bodyPost_ret (v := .agg #[.int .i64 a, .int .i64 b]) (by simp [results, Tryz.results65, go_sem]) rfl ⟨rfl, ?_⟩
  exact kept_alloc (kept_refl _) _
theorem eqS00 (w : World) : (Op.equalIn 10000 32 (.agg #[.int .i64 0, .int .i64 0]) (.agg #[.int .i64 0, .int .i64 0])).run Tryz.prog w = .ok true w := by kernel_rfl
end Go.Proofs.YtcgihkaglonnaaaGreatDoor
set_option linter.all false
namespace Go.Proofs.YtcgihkaglonnaaaGreatDoor
open Go.RowKit Go.Sort Go.Rg
set_option maxRecDepth 100000

/-- what is told of a boy if the book can be true -/
def sLo (B : Book) (boy : Nat) (x : Boy) : Int × Int × Bool := spanOf (fun n => (n.getD 0 0, true)) (B.truths boy x)
def sBr (B : Book) (boy : Nat) (x : Boy) : Int × Int × Bool := spanOf (fun n => (n.getD 4 0, true)) (B.truths boy x)
def sHi (B : Book) (boy : Nat) (week : Int) (x : Boy) : Int × Int × Bool := spanOf (hiF B boy week) (B.truths boy x)
def sSi (B : Book) (boy : Nat) (week note : Int) (x : Boy) : Int := oftenOf (B.truths boy x) (singsN B week note note boy)

section
variable {p q : Option Addr} {cap capt : Nat} {B : Book} {boy : Nat} {W : World} {x : Boy} {week note : Int}
theorem lowest_can (h : BookAt W p q cap capt B) (hg : Nothing W) (hok : B.okB = true) (hc : Can B) (hx : B.boys[boy]? = some x) :
    Calls Tryz.prog 12 #[B.val p q cap capt, .int .i64 (boy : Int)] W fun e C => e = .returned (.tuple #[.agg #[.int .i64 (sLo B boy x).1, .int .i64 (sLo B boy x).2.1], .int .i64 0]) ∧ Kept W C := by
  refine (lowest_any p q cap capt B boy W h hg hok (List.getElem?_eq_some_iff.1 hx).1).mono ?_
  rintro e C ⟨lo, hi, err, rfl, hk, ⟨rfl, _, x', hx', rfl, rfl⟩ | ⟨_, hn, _⟩⟩
  · rw [hx] at hx'; cases hx'; exact ⟨rfl, hk⟩
  · exact absurd hc hn
theorem breaks_can (h : BookAt W p q cap capt B) (hg : Nothing W) (hok : B.okB = true) (hc : Can B) (hx : B.boys[boy]? = some x) :
    Calls Tryz.prog 14 #[B.val p q cap capt, .int .i64 (boy : Int)] W fun e C => e = .returned (.tuple #[.agg #[.int .i64 (sBr B boy x).1, .int .i64 (sBr B boy x).2.1], .int .i64 0]) ∧ Kept W C := by
  refine (breaks_any p q cap capt B boy W h hg hok (List.getElem?_eq_some_iff.1 hx).1).mono ?_
  rintro e C ⟨lo, hi, err, rfl, hk, ⟨rfl, _, x', hx', rfl, rfl⟩ | ⟨_, hn, _⟩⟩
  · rw [hx] at hx'; cases hx'; exact ⟨rfl, hk⟩
  · exact absurd hc hn
theorem highest_can (h : BookAt W p q cap capt B) (hg : Nothing W) (hok : B.okB = true) (hc : Can B) (hx : B.boys[boy]? = some x) (hw : 0 ≤ week ∧ week < B.weeks) :
    Calls Tryz.prog 16 #[B.val p q cap capt, .int .i64 (boy : Int), .int .i64 week] W fun e C => e = .returned (.tuple #[.agg #[.int .i64 (sHi B boy week x).1, .int .i64 (sHi B boy week x).2.1], .int .i64 (if (sHi B boy week x).2.2 then 0 else 4)]) ∧ Kept W C := by
  refine (highest_all p q cap capt B boy week W h hg hok (List.getElem?_eq_some_iff.1 hx).1 hw).mono ?_
  rintro e C ⟨lo, hi, err, rfl, hk, ⟨_, x', fd, hx', e1, rfl⟩ | ⟨_, hn, _⟩⟩
  · rw [hx] at hx'; cases hx'
    refine ⟨?_, hk⟩
    unfold sHi
    rw [e1]
  · exact absurd hc hn
theorem sings_can (h : BookAt W p q cap capt B) (hg : Nothing W) (hok : B.okB = true) (hc : Can B) (hx : B.boys[boy]? = some x) (hw : 0 ≤ week ∧ week < B.weeks) (hn : 0 ≤ note ∧ note ≤ 40) :
    Calls Tryz.prog 19 #[B.val p q cap capt, .int .i64 (boy : Int), .int .i64 week, .int .i64 note] W fun e C => e = .returned (.tuple #[.int .i64 (sSi B boy week note x), .int .i64 0]) ∧ Kept W C := by
  refine (sings_all p q cap capt B boy week note W h hg hok (List.getElem?_eq_some_iff.1 hx).1 hw hn).mono ?_
  rintro e C ⟨v, err, rfl, hk, ⟨rfl, _, x', hx', rfl⟩ | ⟨_, hn, _⟩⟩
  · rw [hx] at hx'; cases hx'; exact ⟨rfl, hk⟩
  · exact absurd hc hn
end
theorem apart_sLo (B : Book) (boy : Nat) (x : Boy) : sLo (apart B boy) boy x = sLo B boy x := by unfold sLo; rw [apart_truths]
theorem apart_sBr (B : Book) (boy : Nat) (x : Boy) : sBr (apart B boy) boy x = sBr B boy x := by unfold sBr; rw [apart_truths]
theorem apart_sHi (B : Book) (boy : Nat) (week : Int) (x : Boy) : sHi (apart B boy) boy week x = sHi B boy week x := by unfold sHi; rw [apart_truths]; rfl
theorem apart_sSi (B : Book) (boy : Nat) (week note : Int) (x : Boy) : sSi (apart B boy) boy week note x = sSi B boy week note x := by unfold sSi; rw [apart_truths]; rfl
theorem eqSab (a b : Int) (w : World) : (Op.equalIn 10000 32 (.agg #[.int .i64 a, .int .i64 b]) (.agg #[.int .i64 a, .int .i64 b])).run Tryz.prog w = .ok true w := by
  have h := run_equalIn_struct (P := Tryz.prog) w 9999 32 #[.int .i64 a, .int .i64 b] #[.int .i64 a, .int .i64 b] (by kernel_rfl) (by kernel_rfl)
  refine h.trans ?_
  go_simp
end Go.Proofs.YtcgihkaglonnaaaGreatDoor
