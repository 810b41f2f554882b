/- How the row's arguments read as a book, and what the laid variables hold. No conditions. -/
import Derived.Test.YtcgihkaglonnaaaGreatDoorGD
import Derived.Test.YtcgihkaglonnaaaGreatDoorST
import Derived.Test.YtcgihkaglonnaaaGreatDoorCards
import Derived.Test.YtcgihkaglonnaaaGreatDoorTie
import Derived.WalkKit
import Derived.ProofKit
import Derived.OpenShut
import Derived.LaidMore
import Derived.Lib.LaidTab
import Derived.Stop.Joined
import Derived.Carry
import Derived.SizedLaws
import Derived.Deep.Slices
import Derived.Deep.Strs
set_option linter.all false
set_option linter.all false
namespace Go.Proofs.YtcgihkaglonnaaaGreatDoor
open Go.RowKit Go.Sort Go.Rg
set_option maxRecDepth 100000

theorem getD_bool {x : Option Value} {b : Bool} (h : x.getD undef = .bool b) : x = some (.bool b) := by
  cases x with
  | none => exact absurd h (by simp [undef])
  | some v => exact congrArg some h

set_option maxHeartbeats 2000000 in
theorem surely1_any (c : Choir) (boy : Nat) (wk note n0 n1 n2 n3 n4 loss : Int) (bw bn : Nat) (w : World) (hwc : w.cell? ⟨bw, 0, none⟩ = some (.int .i64 wk)) (hnc : w.cell? ⟨bn, 0, none⟩ = some (.int .i64 note))
   (hb : boy < c.B.boys.length) (hl : c.B.boys.length ≤ 4) (hc : w.cell? ⟨c.bb, c.ob + boy * 11 + 8, none⟩ = some (.int .i64 loss)) (hin : c.bb < w.heap.size)
   (h1 : 0 ≤ n1 ∧ n1 ≤ 100) (h2 : 0 ≤ n2 ∧ n2 ≤ 100) (h3 : 0 ≤ n3 ∧ n3 ≤ 100) (h4 : 0 ≤ wk ∧ wk ≤ 100) (h5 : 0 ≤ loss ∧ loss ≤ 100) :
    Calls Tryz.prog 76 #[encT c boy [n0, n1, n2, n3, n4], .pointer (some ⟨bw, 0, none⟩), .pointer (some ⟨bn, 0, none⟩)] w fun e w' => e = .returned (.bool (singsB n0 n1 n2 n3 n4 loss wk note note)) ∧ Kept w w' := by
  simp only [encT, List.map_cons, List.map_nil, List.append_toArray, List.cons_append, List.nil_append, Choir.k0, Choir.k2, Choir.m]
  have hzw := Go.Ai.lt_of_cell hwc
  have hzn := Go.Ai.lt_of_cell hnc
  have c0 : ∀ d os, (grow (redrawn (w.alloc (Obj.cells #[Value.slice (some ⟨c.bb, c.ob, none⟩) c.B.boys.length c.capb, Value.int IntKind.i64 c.B.weeks, Value.slice c.q c.B.trials.length c.capt, Value.map (some c.bm), Value.int IntKind.i64 ↑boy, Value.int IntKind.i64 n0, Value.int IntKind.i64 n1, Value.int IntKind.i64 n2, Value.int IntKind.i64 n3, Value.int IntKind.i64 n4] 86)) d) os).cell? ⟨w.heap.size, 0, none⟩ = some (Value.slice (some ⟨c.bb, c.ob, none⟩) c.B.boys.length c.capb) := cell_regrown (by go_simp)
  have c1 : ∀ d os, (grow (redrawn (w.alloc (Obj.cells #[Value.slice (some ⟨c.bb, c.ob, none⟩) c.B.boys.length c.capb, Value.int IntKind.i64 c.B.weeks, Value.slice c.q c.B.trials.length c.capt, Value.map (some c.bm), Value.int IntKind.i64 ↑boy, Value.int IntKind.i64 n0, Value.int IntKind.i64 n1, Value.int IntKind.i64 n2, Value.int IntKind.i64 n3, Value.int IntKind.i64 n4] 86)) d) os).cell? ⟨w.heap.size, 1, none⟩ = some (Value.int IntKind.i64 c.B.weeks) := cell_regrown (by go_simp)
  have c2 : ∀ d os, (grow (redrawn (w.alloc (Obj.cells #[Value.slice (some ⟨c.bb, c.ob, none⟩) c.B.boys.length c.capb, Value.int IntKind.i64 c.B.weeks, Value.slice c.q c.B.trials.length c.capt, Value.map (some c.bm), Value.int IntKind.i64 ↑boy, Value.int IntKind.i64 n0, Value.int IntKind.i64 n1, Value.int IntKind.i64 n2, Value.int IntKind.i64 n3, Value.int IntKind.i64 n4] 86)) d) os).cell? ⟨w.heap.size, 2, none⟩ = some (Value.slice c.q c.B.trials.length c.capt) := cell_regrown (by go_simp)
  have c3 : ∀ d os, (grow (redrawn (w.alloc (Obj.cells #[Value.slice (some ⟨c.bb, c.ob, none⟩) c.B.boys.length c.capb, Value.int IntKind.i64 c.B.weeks, Value.slice c.q c.B.trials.length c.capt, Value.map (some c.bm), Value.int IntKind.i64 ↑boy, Value.int IntKind.i64 n0, Value.int IntKind.i64 n1, Value.int IntKind.i64 n2, Value.int IntKind.i64 n3, Value.int IntKind.i64 n4] 86)) d) os).cell? ⟨w.heap.size, 3, none⟩ = some (Value.map (some c.bm)) := cell_regrown (by go_simp)
  have c4 : ∀ d os, (grow (redrawn (w.alloc (Obj.cells #[Value.slice (some ⟨c.bb, c.ob, none⟩) c.B.boys.length c.capb, Value.int IntKind.i64 c.B.weeks, Value.slice c.q c.B.trials.length c.capt, Value.map (some c.bm), Value.int IntKind.i64 ↑boy, Value.int IntKind.i64 n0, Value.int IntKind.i64 n1, Value.int IntKind.i64 n2, Value.int IntKind.i64 n3, Value.int IntKind.i64 n4] 86)) d) os).cell? ⟨w.heap.size, 4, none⟩ = some (Value.int IntKind.i64 ↑boy) := cell_regrown (by go_simp)
  have c5 : ∀ d os, (grow (redrawn (w.alloc (Obj.cells #[Value.slice (some ⟨c.bb, c.ob, none⟩) c.B.boys.length c.capb, Value.int IntKind.i64 c.B.weeks, Value.slice c.q c.B.trials.length c.capt, Value.map (some c.bm), Value.int IntKind.i64 ↑boy, Value.int IntKind.i64 n0, Value.int IntKind.i64 n1, Value.int IntKind.i64 n2, Value.int IntKind.i64 n3, Value.int IntKind.i64 n4] 86)) d) os).cell? ⟨w.heap.size, 5, none⟩ = some (Value.int IntKind.i64 n0) := cell_regrown (by go_simp)
  have c6 : ∀ d os, (grow (redrawn (w.alloc (Obj.cells #[Value.slice (some ⟨c.bb, c.ob, none⟩) c.B.boys.length c.capb, Value.int IntKind.i64 c.B.weeks, Value.slice c.q c.B.trials.length c.capt, Value.map (some c.bm), Value.int IntKind.i64 ↑boy, Value.int IntKind.i64 n0, Value.int IntKind.i64 n1, Value.int IntKind.i64 n2, Value.int IntKind.i64 n3, Value.int IntKind.i64 n4] 86)) d) os).cell? ⟨w.heap.size, 6, none⟩ = some (Value.int IntKind.i64 n1) := cell_regrown (by go_simp)
  have c7 : ∀ d os, (grow (redrawn (w.alloc (Obj.cells #[Value.slice (some ⟨c.bb, c.ob, none⟩) c.B.boys.length c.capb, Value.int IntKind.i64 c.B.weeks, Value.slice c.q c.B.trials.length c.capt, Value.map (some c.bm), Value.int IntKind.i64 ↑boy, Value.int IntKind.i64 n0, Value.int IntKind.i64 n1, Value.int IntKind.i64 n2, Value.int IntKind.i64 n3, Value.int IntKind.i64 n4] 86)) d) os).cell? ⟨w.heap.size, 7, none⟩ = some (Value.int IntKind.i64 n2) := cell_regrown (by go_simp)
  have c8 : ∀ d os, (grow (redrawn (w.alloc (Obj.cells #[Value.slice (some ⟨c.bb, c.ob, none⟩) c.B.boys.length c.capb, Value.int IntKind.i64 c.B.weeks, Value.slice c.q c.B.trials.length c.capt, Value.map (some c.bm), Value.int IntKind.i64 ↑boy, Value.int IntKind.i64 n0, Value.int IntKind.i64 n1, Value.int IntKind.i64 n2, Value.int IntKind.i64 n3, Value.int IntKind.i64 n4] 86)) d) os).cell? ⟨w.heap.size, 8, none⟩ = some (Value.int IntKind.i64 n3) := cell_regrown (by go_simp)
  have c9 : ∀ d os, (grow (redrawn (w.alloc (Obj.cells #[Value.slice (some ⟨c.bb, c.ob, none⟩) c.B.boys.length c.capb, Value.int IntKind.i64 c.B.weeks, Value.slice c.q c.B.trials.length c.capt, Value.map (some c.bm), Value.int IntKind.i64 ↑boy, Value.int IntKind.i64 n0, Value.int IntKind.i64 n1, Value.int IntKind.i64 n2, Value.int IntKind.i64 n3, Value.int IntKind.i64 n4] 86)) d) os).cell? ⟨w.heap.size, 9, none⟩ = some (Value.int IntKind.i64 n4) := cell_regrown (by go_simp)
  have kW : Kept w (w.alloc (Obj.cells #[Value.slice (some ⟨c.bb, c.ob, none⟩) c.B.boys.length c.capb, Value.int IntKind.i64 c.B.weeks, Value.slice c.q c.B.trials.length c.capt, Value.map (some c.bm), Value.int IntKind.i64 ↑boy, Value.int IntKind.i64 n0, Value.int IntKind.i64 n1, Value.int IntKind.i64 n2, Value.int IntKind.i64 n3, Value.int IntKind.i64 n4] 86)) := kept_alloc (kept_refl _) _
  have cw : ∀ d os, (grow (redrawn (w.alloc (Obj.cells #[Value.slice (some ⟨c.bb, c.ob, none⟩) c.B.boys.length c.capb, Value.int IntKind.i64 c.B.weeks, Value.slice c.q c.B.trials.length c.capt, Value.map (some c.bm), Value.int IntKind.i64 ↑boy, Value.int IntKind.i64 n0, Value.int IntKind.i64 n1, Value.int IntKind.i64 n2, Value.int IntKind.i64 n3, Value.int IntKind.i64 n4] 86)) d) os).cell? ⟨bw, 0, none⟩ = some (.int .i64 wk) := cell_regrown (((bcell kW).1 bw _ hzw).trans hwc)
  have cn : ∀ d os, (grow (redrawn (w.alloc (Obj.cells #[Value.slice (some ⟨c.bb, c.ob, none⟩) c.B.boys.length c.capb, Value.int IntKind.i64 c.B.weeks, Value.slice c.q c.B.trials.length c.capt, Value.map (some c.bm), Value.int IntKind.i64 ↑boy, Value.int IntKind.i64 n0, Value.int IntKind.i64 n1, Value.int IntKind.i64 n2, Value.int IntKind.i64 n3, Value.int IntKind.i64 n4] 86)) d) os).cell? ⟨bn, 0, none⟩ = some (.int .i64 note) := cell_regrown (((bcell kW).1 bn _ hzn).trans hnc)
  have cL : ∀ d os, (grow (redrawn (w.alloc (Obj.cells #[Value.slice (some ⟨c.bb, c.ob, none⟩) c.B.boys.length c.capb, Value.int IntKind.i64 c.B.weeks, Value.slice c.q c.B.trials.length c.capt, Value.map (some c.bm), Value.int IntKind.i64 ↑boy, Value.int IntKind.i64 n0, Value.int IntKind.i64 n1, Value.int IntKind.i64 n2, Value.int IntKind.i64 n3, Value.int IntKind.i64 n4] 86)) d) os).cell? ⟨c.bb, c.ob + boy * 11 + 8, none⟩ = some (.int .i64 loss) := cell_regrown (((bcell kW).1 c.bb _ hin).trans hc)
  have sW : w.heap.size ≤ (w.alloc (Obj.cells #[Value.slice (some ⟨c.bb, c.ob, none⟩) c.B.boys.length c.capb, Value.int IntKind.i64 c.B.weeks, Value.slice c.q c.B.trials.length c.capt, Value.map (some c.bm), Value.int IntKind.i64 ↑boy, Value.int IntKind.i64 n0, Value.int IntKind.i64 n1, Value.int IntKind.i64 n2, Value.int IntKind.i64 n3, Value.int IntKind.i64 n4] 86)).heap.size := by simp
  go_enter Tryz.func76, Tryz.ntmps76
  go_wp2_with fail
  generalize w.alloc (Obj.cells #[Value.slice (some ⟨c.bb, c.ob, none⟩) c.B.boys.length c.capb, Value.int IntKind.i64 c.B.weeks, Value.slice c.q c.B.trials.length c.capt, Value.map (some c.bm), Value.int IntKind.i64 ↑boy, Value.int IntKind.i64 n0, Value.int IntKind.i64 n1, Value.int IntKind.i64 n2, Value.int IntKind.i64 n3, Value.int IntKind.i64 n4] 86) = W at *
  have zL : ∀ d os, c.bb < (grow (redrawn W d) os).heap.size := fun d os => Nat.lt_of_lt_of_le (Nat.lt_of_lt_of_le hin sW) (below_regrown W d os).size
  have HL := Lib.hid cL
  have HZ := Lib.hid zL
  clear cL zL hc hwc hnc
  refine wp_region_quiet_below (by kernel_rfl) (by kernel_rfl) ?_
  repeat (any_goals (quiet_step (first | exact Calls.regrown_of (just_any _ _) | exact Calls.regrown_of (sings_any _ _ _ _ _ _ _ _ _ _ _ _ _ _ _ _ _ _ hb hl (HL.out _ _) (HZ.out _ _) h1 h2 h3 h4 h5))))
  refine wpQuiet_nil ?_
  intro _ hw'
  obtain ⟨⟨dq, osq⟩, hw''⟩ := hw'
  subst hw''
  have kW2 := kept_trans kW (below_regrown W dq osq)
  go_wp2_with fail
  go_ret
  exact ⟨rfl, kW2⟩

/-- can the boy sing the note, with these numbers? -/
def singsN (B : Book) (wk lo hi : Int) (boy : Nat) (n : List Int) : Bool := singsB (n.getD 0 0) (n.getD 1 0) (n.getD 2 0) (n.getD 3 0) (n.getD 4 0) ((B.boys[boy]?.map Boy.ls).getD 0) wk lo hi
theorem surely_asks (S : Nat → Prop) (c : Choir) (boy : Nat) (wk note : Int) (x : Boy) (hx : c.B.boys[boy]? = some x) (bw bn : Nat) (W : World) (hat : ChoirAt S W c) (h4 : 0 ≤ wk ∧ wk ≤ 100) (hwc : W.cell? ⟨bw, 0, none⟩ = some (.int .i64 wk)) (hnc : W.cell? ⟨bn, 0, none⟩ = some (.int .i64 note)) :
    Asks c boy x W 76 #[.pointer (some ⟨bw, 0, none⟩), .pointer (some ⟨bn, 0, none⟩)] (singsN c.B wk note note boy) := by
  have hok := hat.ok
  have hlen : c.B.boys.length ≤ 4 := by
    have := hok
    simp only [Book.okB, inB, Bool.and_eq_true, decide_eq_true_eq] at this
    omega
  have hbl : boy < c.B.boys.length := (List.getElem?_eq_some_iff.1 hx).1
  have hxok : x.okB = true := by
    simp only [Book.okB, Bool.and_eq_true, List.all_eq_true] at hok
    exact hok.1.2 x (List.mem_of_getElem? hx)
  obtain ⟨hsp, hls⟩ := spanAt_ok x hxok
  refine ⟨enters_of Tryz.func76 (by kernel_rfl) rfl, fun A n hA hn => ?_⟩
  obtain ⟨_, _, _, _, _, _, _, _, c8, _⟩ := hat.boys.2 boy x hx
  have hr := truths_rng hn
  obtain ⟨n0, n1, n2, n3, n4, rfl⟩ := truths_len hn
  have r1 := hr 1 n1 rfl
  have r2 := hr 2 n2 rfl
  have r3 := hr 3 n3 rfl
  have s1 := hsp 1 (by omega)
  have s2 := hsp 2 (by omega)
  have s3 := hsp 3 (by omega)
  have := surely1_any c boy wk note n0 n1 n2 n3 n4 x.ls bw bn A (kcell hA hwc) (kcell hA hnc) hbl hlen (kcell hA c8) (Nat.lt_of_lt_of_le hat.boys.1 hA.size) (by omega) (by omega) (by omega) h4 (by omega)
  simpa [singsN, hx] using this

set_option maxHeartbeats 4000000 in
theorem surely_all (p q : Option Addr) (cap capt : Nat) (B : Book) (week note : Int) (W : World) (h : BookAt W p q cap capt B) (hg : Nothing W) (hok0 : B.okB = true) (hwk0 : 0 ≤ week ∧ week < B.weeks) (hnt0 : 0 ≤ note ∧ note ≤ 40) :
    Calls Tryz.prog 21 #[B.val p q cap capt, .int .i64 week, .int .i64 note] W (SureP B (singsN B week note note) W) := by
  have hwk : 0 ≤ B.weeks ∧ B.weeks ≤ 1000 := by
    have := hok0
    simp only [Book.okB, inB, Bool.and_eq_true, decide_eq_true_eq] at this
    omega
  have hwk1 : 0 ≤ week ∧ week ≤ 100 := by
    have := hok0
    simp only [Book.okB, inB, Bool.and_eq_true, decide_eq_true_eq] at this
    omega
  have hweekT : inB week 0 (B.weeks - 1) = true := by simp [inB]; omega
  have hnoteT : inB note 0 40 = true := by simp [inB]; omega
  refine callsIn_wide.1 (callsIn_of_wp (n := 0) Tryz.func21 rfl trivial ?_ rfl)
  simp only [Tryz.ntmps21, List.size_toArray, List.length_cons, List.length_nil, Nat.reduceAdd, Nat.reduceSub, Array.replicate_succ, Array.replicate_zero, List.push_toArray, List.append_toArray, List.nil_append, List.cons_append]
  unfold Book.val
  gi_wp2_with fail
  have hk0 : Kept W (((W.alloc (Obj.cells #[.slice p B.boys.length cap, .int .i64 B.weeks, .slice q B.trials.length capt] 25)).alloc (Obj.cells #[.int .i64 week] 3)).alloc (Obj.cells #[.int .i64 note] 3)) := kept_alloc (kept_alloc (kept_alloc (kept_refl _) _) _) _
  have a0c : (((W.alloc (Obj.cells #[.slice p B.boys.length cap, .int .i64 B.weeks, .slice q B.trials.length capt] 25)).alloc (Obj.cells #[.int .i64 week] 3)).alloc (Obj.cells #[.int .i64 note] 3)).cell? ⟨W.heap.size, 0, none⟩ = some (.slice p B.boys.length cap) := by go_simp
  have a1c : (((W.alloc (Obj.cells #[.slice p B.boys.length cap, .int .i64 B.weeks, .slice q B.trials.length capt] 25)).alloc (Obj.cells #[.int .i64 week] 3)).alloc (Obj.cells #[.int .i64 note] 3)).cell? ⟨W.heap.size, 1, none⟩ = some (.int .i64 B.weeks) := by go_simp
  have a2c : (((W.alloc (Obj.cells #[.slice p B.boys.length cap, .int .i64 B.weeks, .slice q B.trials.length capt] 25)).alloc (Obj.cells #[.int .i64 week] 3)).alloc (Obj.cells #[.int .i64 note] 3)).cell? ⟨W.heap.size, 2, none⟩ = some (.slice q B.trials.length capt) := by go_simp
  have wc : (((W.alloc (Obj.cells #[.slice p B.boys.length cap, .int .i64 B.weeks, .slice q B.trials.length capt] 25)).alloc (Obj.cells #[.int .i64 week] 3)).alloc (Obj.cells #[.int .i64 note] 3)).cell? ⟨W.heap.size + 1, 0, none⟩ = some (.int .i64 week) := by go_simp
  have nc : (((W.alloc (Obj.cells #[.slice p B.boys.length cap, .int .i64 B.weeks, .slice q B.trials.length capt] 25)).alloc (Obj.cells #[.int .i64 week] 3)).alloc (Obj.cells #[.int .i64 note] 3)).cell? ⟨W.heap.size + 1 + 1, 0, none⟩ = some (.int .i64 note) := by go_simp
  generalize (((W.alloc (Obj.cells #[.slice p B.boys.length cap, .int .i64 B.weeks, .slice q B.trials.length capt] 25)).alloc (Obj.cells #[.int .i64 week] 3)).alloc (Obj.cells #[.int .i64 note] 3)) = W0 at *
  refine wpIn_region_invL (StO 8 (fun j => match j with | 0 => (.agg #[.slice p B.boys.length cap, .int .i64 B.weeks, .slice q B.trials.length capt]) | 1 => (.agg #[.slice p B.boys.length cap, .int .i64 B.weeks, .slice q B.trials.length capt]) | 2 => .int .i64 week | 5 => .int .i64 note | _ => .bool true) W0 B true) (by kernel_rfl) (by kernel_rfl) StO.start ?hop ?hend
  case hop =>
    rintro i o listed a w hl ho h1 h2 hcl ⟨v, err, pp, ha, hw⟩
    have hi11 : i < 15 := (List.getElem?_eq_some_iff.1 ho).1
    match i, ho with
    | 0, ho =>
      have st := StO.same (by kernel_rfl) ha hw ho h1 (by omega) (by omega) (by omega) (kept_refl w)
      have ST := Lib.hid st; clear st
      cases ho
      rw [if_pos (by rfl)]
      have t3 := ha.old 3 (by kernel_rfl)
      simp at t3
      have r0 := kcell hw.kept a0c
      have r1 := kcell hw.kept a1c
      have r2 := kcell hw.kept a2c
      go_simp
      exact ST.out
    | 1, ho =>
      have st := StO.same (by kernel_rfl) ha hw ho h1 (by omega) (by omega) (by omega) (kept_refl w)
      have ST := Lib.hid st; clear st
      cases ho
      rw [if_pos (by rfl)]
      have t3 := ha.old 3 (by kernel_rfl)
      simp at t3
      have r0 := kcell hw.kept a0c
      have r1 := kcell hw.kept a1c
      have r2 := kcell hw.kept a2c
      go_simp
      exact ST.out
    | 2, ho =>
      have st := StO.same (by kernel_rfl) ha hw ho h1 (by omega) (by omega) (by omega) (kept_refl w)
      have ST := Lib.hid st; clear st
      cases ho
      rw [if_pos (by rfl)]
      have t4 := ha.old 4 (by kernel_rfl)
      simp at t4
      have rw0 := kcell hw.kept wc
      go_simp
      exact ST.out
    | 3, ho =>
      have st := fun w' (k : Kept w w') => StO.same (by kernel_rfl) ha hw ho h1 (by omega) (by omega) (by omega) k
      have ST := Lib.hid st; clear st
      cases ho
      rw [if_pos (by rfl)]
      have t12 := ha.new 1 (h2 ⟨1, .data⟩ (by simp) rfl) (d := 12) rfl rfl (by simp)
      simp [openVs] at t12
      have t13 := ha.new 2 (h2 ⟨2, .data⟩ (by simp) rfl) (d := 13) rfl rfl (by simp)
      simp [openVs] at t13
      have hcall := isWeek_any (.slice p B.boys.length cap) (.slice q B.trials.length capt) B.weeks week w hwk.1 hwk.2
      rw [hweekT] at hcall
      go_simp
      refine ⟨trivial, rfl, (callsIn_wide.2 hcall).mono ?_⟩
      rintro e w' ⟨rfl, hk⟩
      exact ST.out _ hk
    | 4, ho =>
      have st := StO.same (by kernel_rfl) ha hw ho h1 (by omega) (by omega) (by omega) (kept_refl w)
      have ST := Lib.hid st; clear st
      cases ho
      rw [if_pos (by rfl)]
      have t14 := ha.new 3 (h2 ⟨3, .data⟩ (by simp) rfl) (d := 14) rfl rfl (by simp)
      simp [openVs] at t14
      go_simp
      exact ST.out
    | 5, ho =>
      have st := StO.same (by kernel_rfl) ha hw ho h1 (by omega) (by omega) (by omega) (kept_refl w)
      have ST := Lib.hid st; clear st
      cases ho
      have t15 := ha.new 4 (h2 ⟨4, .guard⟩ (by simp) rfl) (d := 15) rfl rfl (by simp)
      simp [openVs] at t15
      rw [if_pos (by simp [Region.wanted, yielded, getD_bool t15])]
      have t5 := ha.old 5 (by kernel_rfl)
      simp at t5
      have rn0 := kcell hw.kept nc
      go_simp
      exact ST.out
    | 6, ho =>
      have st := fun w' (k : Kept w w') => StO.same (by kernel_rfl) ha hw ho h1 (by omega) (by omega) (by omega) k
      have ST := Lib.hid st; clear st
      cases ho
      have t15 := ha.new 4 (h2 ⟨4, .guard⟩ (by simp) rfl) (d := 15) rfl rfl (by simp)
      simp [openVs] at t15
      rw [if_pos (by simp [Region.wanted, yielded, getD_bool t15])]
      have t16 := ha.new 5 (h2 ⟨5, .data⟩ (by simp) rfl) (d := 16) rfl rfl (by simp)
      simp [openVs] at t16
      have hcall := isNote_any note w
      rw [hnoteT] at hcall
      go_simp
      refine ⟨trivial, rfl, (callsIn_wide.2 hcall).mono ?_⟩
      rintro e w' ⟨rfl, hk⟩
      subst hk; exact ST.out _ (kept_refl _)
    | 7, ho =>
      have st := StO.same (by kernel_rfl) ha hw ho h1 (by omega) (by omega) (by omega) (kept_refl w)
      have ST := Lib.hid st; clear st
      cases ho
      rw [if_pos (by rfl)]
      have t15 := ha.new 4 (h2 ⟨4, .data⟩ (by simp) rfl) (d := 15) rfl rfl (by simp)
      simp [openVs] at t15
      have t17 := ha.new 6 (h2 ⟨6, .data⟩ (by simp) rfl) (d := 17) rfl rfl (by simp)
      simp [openVs] at t17
      go_simp
      exact ST.out
    | 8, ho =>
      obtain ⟨n5, n6, n7, n9, n10⟩ := open_first hcl h1 ⟨_, rfl, ⟨8, .data⟩, by simp, rfl, rfl⟩ ⟨_, rfl, ⟨9, .data⟩, by simp, rfl, rfl⟩ ⟨_, rfl, ⟨9, .data⟩, by simp, rfl, rfl⟩ ⟨_, rfl, ⟨10, .data⟩, by simp, rfl, rfl⟩ ⟨_, rfl, ⟨11, .data⟩, by simp, rfl, rfl⟩
      have st := fun v' err' w' (k : OpenReg W0 B true v' err' pp true (on listed 12) (on listed 13) w') => StO.opened (by kernel_rfl) ha hl ho h1 n5 n6 n7 n9 n10 k
      have ST := Lib.hid st; clear st
      cases ho
      rw [if_pos (by rfl)]
      have t11 := ha.new 0 (h2 ⟨0, .data⟩ (by simp) rfl) (d := 11) rfl rfl (by simp)
      simp [openVs] at t11
      have t18 := ha.new 7 (h2 ⟨7, .data⟩ (by simp) rfl) (d := 18) rfl rfl (by simp)
      simp [openVs] at t18
      have hcall := open_any p q cap capt B true W w h (kept_trans hk0 hw.kept) (hg.kept (kept_trans hk0 hw.kept))
      unfold Book.val at hcall
      have HOP := Lib.hid (fun e w' => hw.opened (e := e) (w' := w') W.heap.size hk0.size n9)
      go_simp
      refine ⟨trivial, rfl, (callsIn_wide.2 hcall).mono ?_⟩
      intro e w' hop
      obtain ⟨v', err', rfl, hr⟩ := HOP.out e w' hop
      exact ST.out v' err' w' hr
    | 9, ho =>
      have st := StO.same (by kernel_rfl) ha hw ho h1 (by omega) (by omega) (by omega) (kept_refl w)
      have ST := Lib.hid st; clear st
      cases ho
      rw [if_pos (by rfl)]
      have t19 := ha.new 8 (h2 ⟨8, .data⟩ (by simp) rfl) (d := 19) rfl rfl (by simp)
      simp [openVs] at t19
      go_simp
      exact ST.out
    | 10, ho =>
      have st := StO.same (by kernel_rfl) ha hw ho h1 (by omega) (by omega) (by omega) (kept_refl w)
      have ST := Lib.hid st; clear st
      cases ho
      rw [if_pos (by rfl)]
      have t10 := ha.new 9 (h2 ⟨9, .data⟩ (by simp) rfl) (d := 10) rfl rfl (by simp)
      simp [openVs] at t10
      go_simp
      exact ST.out
    | 11, ho =>
      have st := StO.same (by kernel_rfl) ha hw ho h1 (by omega) (by omega) (by omega) (kept_refl w)
      have ST := Lib.hid st; clear st
      cases ho
      rw [if_pos (by rfl)]
      have t10 := ha.new 9 (h2 ⟨9, .data⟩ (by simp) rfl) (d := 10) rfl rfl (by simp)
      simp [openVs] at t10
      go_simp
      exact ST.out
    | 12, ho =>
      have n9 : on listed 13 = false := by
        cases hb : on listed 13 with
        | false => rfl
        | true => have := hcl 13 _ rfl hb ⟨12, .data⟩ (by simp) rfl; rw [on_no h1] at this; cases this
      have st := StO.boxed (by kernel_rfl) ha hw hl ho h1 n9
      have ST := Lib.hid st; clear st
      cases ho
      rw [if_pos (by rfl)]
      go_simp
      exact ST.out
    | 13, ho =>
      have y8 : on listed 12 = true := h2 ⟨12, .data⟩ (by cases ho; simp) rfl
      have y4 : on listed 8 = true := h2 ⟨8, .chain⟩ (by cases ho; simp) rfl
      have t8 := ha.new 12 y8 (d := 8) rfl rfl (by simp)
      simp [openVs] at t8
      have t20 := ha.new 10 (h2 ⟨10, .data⟩ (by cases ho; simp) rfl) (d := 20) rfl rfl (by simp)
      simp [openVs] at t20
      obtain ⟨hbp, ⟨f0, f1, f2, f3, b0, b1, b2, b3⟩, hbf⟩ := hw.box y8
      have bf0 := hbf 0
      have bf1 := hbf 1
      have bf2 := hbf 2
      have bf3 := hbf 3
      rcases hw.res y4 with ⟨_, _, _, _, c, S, hcB, rfl, _⟩ | ⟨rfl, _⟩
      · clear hcB
        have st := StO.stored (by kernel_rfl) ha hw hl ho (by cases ho; rfl) h1 y8 (show c.val = _ from rfl)
        have ST := Lib.hid st; clear st
        cases ho
        rw [if_pos (by rfl)]
        unfold Choir.val at t20
        clear hbf
        go_simp
        exact ST.out
      · have st := StO.stored (by kernel_rfl) ha hw hl ho (by cases ho; rfl) h1 y8 (show zeroChoir = _ from rfl)
        have ST := Lib.hid st; clear st
        cases ho
        rw [if_pos (by rfl)]
        unfold zeroChoir at t20
        clear hbf
        go_simp
        exact ST.out
    | 14, ho =>
      have st := StO.same (by kernel_rfl) ha hw ho h1 (by omega) (by omega) (by omega) (kept_refl w)
      have ST := Lib.hid st; clear st
      cases ho
      rw [if_pos (by rfl)]
      have t21 := ha.new 11 (h2 ⟨11, .data⟩ (by simp) rfl) (d := 21) rfl rfl (by simp)
      simp [openVs] at t21
      go_simp
      exact ST.out

  case hend =>
    rintro listed a w hall ⟨v, err, pp, ha, hw⟩
    rw [show on listed 8 = true from hall 8 (by simp), show on listed 12 = true from hall 12 (by simp), show on listed 13 = true from hall 13 (by simp)] at hw
    obtain ⟨y, hy, hae⟩ := ha.lit (n := 28) rfl
    have y4 := (hy 4).symm.trans (ha.old 4 (by kernel_rfl))
    have y5 := (hy 5).symm.trans (ha.old 5 (by kernel_rfl))
    have y6 := (hy 6).symm.trans (ha.old 6 (by kernel_rfl))
    have y7 := (hy 7).symm.trans (ha.old 7 (by kernel_rfl))
    have y8 := (hy 8).symm.trans (ha.new 12 (hall 12 (by simp)) (d := 8) rfl rfl (by simp))
    have y9 := (hy 9).symm.trans (ha.new 14 (hall 14 (by simp)) (d := 9) rfl rfl (by simp))
    simp at y4 y5 y6 y7
    simp [openVs] at y8 y9
    simp only [List.range, List.range.loop, List.map] at hae
    rw [y4, y5, y6, y7, y8, y9] at hae
    subst hae
    clear ha hy y4 y5 y6 y7 y8 y9
    refine (by assumption : ∀ a w, Code.wpIn _ _ _ _ _ a w → _) _ w ?_
    have wk := kcell hw.kept wc
    have wn := kcell hw.kept nc
    obtain ⟨_, x0, x1, x2, x3, hv, b0, b1, b2, b3⟩ := hw.put rfl
    rcases hw.res rfl with ⟨rfl, hok, _, hcan, c, S, hcB, hvc, hch, hSz, hSp⟩ | ⟨rfl, herr⟩
    · subst hcB
      subst hvc
      have e4 := congrArg (fun u => match u with | Value.agg cs => cs.toList | _ => []) hv
      simp only [Choir.val, List.cons.injEq, and_true] at e4
      obtain ⟨rfl, rfl, rfl, rfl⟩ := e4
      have hzp := Go.Ai.lt_of_cell b0
      have hzw := Go.Ai.lt_of_cell wk
      gi_wp2_with fail
      have hcall := surely_any S c w hch hSz _ _ (singsN c.B week note note) (fun boy x hx => surely_asks S c boy week note x hx (W.heap.size + 1) (W.heap.size + 1 + 1) w hch hwk1 wk wn)
      unfold Choir.val at hcall
      refine ⟨trivial, rfl, (callsIn_wide.2 hcall).mono ?_⟩
      rintro e w2 ⟨v, rfl, hk7, hrow⟩
      clear hcall
      gi_wp2_with fail
      refine bodyPost_ret (v := .tuple #[v, .int .i64 0]) (by simp [results, Tryz.results21, go_sem]) rfl ?_
      exact ⟨_, 0, rfl, kept_trans (kept_trans hk0 hw.kept) hk7, .inl ⟨rfl, hcan, row_le hrow (kept_trans hk0 hw.kept).size⟩⟩
    · rcases herr with ⟨_, he⟩ | ⟨_, _, he⟩ | ⟨rfl, _, _, hnc⟩
      · rw [hok0] at he; cases he
      · cases he
      gi_wp2_with fail
      refine bodyPost_ret (v := .tuple #[.slice none 0 0, .int .i64 22]) (by simp [results, Tryz.results21, go_sem]) rfl ?_
      exact ⟨_, 22, rfl, kept_trans hk0 hw.kept, .inr ⟨rfl, hnc, rfl⟩⟩
end Go.Proofs.YtcgihkaglonnaaaGreatDoor
set_option linter.all false
namespace Go.Proofs.YtcgihkaglonnaaaGreatDoor
open Go.RowKit Go.Sort Go.Rg
set_option maxRecDepth 100000

set_option maxHeartbeats 2000000 in
theorem breaks_any (p q : Option Addr) (cap capt : Nat) (B : Book) (boy : Nat) (W : World) (h : BookAt W p q cap capt B) (hg : Nothing W) (hok0 : B.okB = true) (hb : boy < B.boys.length) :
    Calls Tryz.prog 14 #[B.val p q cap capt, .int .i64 (boy : Int)] W (BothP B boy (fun n => (n.getD 4 0, true)) W) := by
  have hk0 : Kept W ((W.alloc (Obj.cells #[.slice p B.boys.length cap, .int .i64 B.weeks, .slice q B.trials.length capt] 25)).alloc (Obj.cells #[.int .i64 0, .int .i64 0] 32)) := kept_alloc (kept_alloc (kept_refl _) _) _
  have hcall := bothEnds_any p q cap capt B boy 4 (by omega) _ (h.kept hk0) (hg.kept hk0) hok0 hb
  have HC := Lib.hid hcall; clear hcall
  unfold Book.val at HC ⊢
  have s0 : ((W.alloc (Obj.cells #[.slice p B.boys.length cap, .int .i64 B.weeks, .slice q B.trials.length capt] 25)).alloc (Obj.cells #[.int .i64 0, .int .i64 0] 32)).cell? ⟨W.heap.size + 1, 0, none⟩ = some (.int .i64 0) := by go_simp
  have s1 : ((W.alloc (Obj.cells #[.slice p B.boys.length cap, .int .i64 B.weeks, .slice q B.trials.length capt] 25)).alloc (Obj.cells #[.int .i64 0, .int .i64 0] 32)).cell? ⟨W.heap.size + 1, 1, none⟩ = some (.int .i64 0) := by go_simp
  have sf : ∀ i, ((W.alloc (Obj.cells #[.slice p B.boys.length cap, .int .i64 B.weeks, .slice q B.trials.length capt] 25)).alloc (Obj.cells #[.int .i64 0, .int .i64 0] 32)).frozen? ⟨W.heap.size + 1, i, none⟩ = false := by intro i; go_simp
  go_enter Tryz.func14, Tryz.ntmps14
  generalize hBP : BothP B boy (fun n => (n.getD 4 0, true)) W = PP at *
  go_wp2_with fail
  generalize (W.alloc (Obj.cells #[.slice p B.boys.length cap, .int .i64 B.weeks, .slice q B.trials.length capt] 25)).alloc (Obj.cells #[.int .i64 0, .int .i64 0] 32) = W0 at *
  refine HC.out.mono ?_
  rintro e w2 ⟨lo, hi, err, rfl, hk2, hr⟩
  have t0 := kcell hk2 s0
  have t1 := kcell hk2 s1
  have tf0 : w2.frozen? ⟨W.heap.size + 1, 0, none⟩ = false := ((kturns hk2 (fun _ => False)).frozen (Go.Ai.lt_of_cell s0) (fun h => h)).trans (sf 0)
  have tf1 : w2.frozen? ⟨W.heap.size + 1, 1, none⟩ = false := ((kturns hk2 (fun _ => False)).frozen (Go.Ai.lt_of_cell s0) (fun h => h)).trans (sf 1)
  have hzs := Go.Ai.lt_of_cell t0
  go_wp2_with fail
  have hT := Turns.setCell (T := fun b => b = W.heap.size + 1) (Turns.setCell (T := fun b => b = W.heap.size + 1) (Turns.refl _ w2) rfl 0 (.int .i64 lo)) rfl 1 (.int .i64 hi)
  have v0 := (cell_set_ne (W := w2.setCell ⟨W.heap.size + 1, 0, none⟩ (.int .i64 lo)) (b := W.heap.size + 1) (o := 1) (o' := 0) (v := .int .i64 hi) (by omega)).trans (cell_set_eq t0)
  have v1 := cell_set_eq (v := .int .i64 hi) ((cell_set_ne (W := w2) (b := W.heap.size + 1) (o := 0) (o' := 1) (v := .int .i64 lo) (by omega)).trans t1)
  refine bodyPost_ret (v := .tuple #[.agg #[.int .i64 lo, .int .i64 hi], .int .i64 err]) (by simp [results, Tryz.results14, go_sem, v0, v1]) rfl ?_
  rw [← hBP]
  refine ⟨lo, hi, err, rfl, ?_, hr⟩
  exact Below.trans (kept_trans hk0 hk2) (hT.toBelow (n := W.heap.size) (by rintro b rfl; omega) (by have := (kept_trans hk0 hk2).size; omega))
end Go.Proofs.YtcgihkaglonnaaaGreatDoor
set_option linter.all false
namespace Go.Proofs.YtcgihkaglonnaaaGreatDoor
open Go.RowKit Go.Sort Go.Rg
set_option maxRecDepth 100000

theorem lies_any (n l h : Int) (w : World) : Calls Tryz.prog 37 #[.int .i64 n, .int .i64 l, .int .i64 h] w fun e w' => e = .returned (.bool (inB n l h)) ∧ w = w' := by
  by_cases h1 : l ≤ n
  · have h2 : decide (l ≤ n) = true := by simpa using h1
    have H : inB n l h = decide (n ≤ h) := by simp [inB, h1]
    rw [H]; clear H h1
    go_enter Tryz.func37, Tryz.ntmps37
    go_wp2
    go_ret
    exact ⟨rfl, rfl⟩
  · have h2 : decide (l ≤ n) = false := by simpa using h1
    have H : inB n l h = false := by simp [inB, h1]
    rw [H]; clear H h1
    go_enter Tryz.func37, Tryz.ntmps37
    go_wp2
    go_ret
    exact ⟨rfl, rfl⟩
theorem tmod_small (n : Int) (b : Int) (hb : 1 ≤ b) : -b < Int.tmod n b ∧ Int.tmod n b < b := by
  have h1 := Int.tmod_lt_of_pos n (show 0 < b by omega)
  have h2 := Int.tmod_lt_of_pos (-n) (show 0 < b by omega)
  rw [Int.neg_tmod] at h2
  omega
theorem turn_any (n b : Int) (hb : 1 ≤ b) (hb2 : b ≤ 1000) (w : World) : Calls Tryz.prog 35 #[.int .i64 n, .int .i64 b] w fun e w' => ∃ r, e = .returned (.int .i64 r) ∧ 0 ≤ r ∧ r < b ∧ w = w' := by
  have hb0 : decide (b < 1) = false := by simp; omega
  have hbz : (b == 0) = false := by simp; omega
  obtain ⟨m1, m2⟩ := tmod_small n b hb
  go_enter Tryz.func35, Tryz.ntmps35
  go_wp2_with fail
  all_goals go_ret
  · exact ⟨_, rfl, by omega, by omega, rfl⟩
  · exact ⟨_, rfl, by omega, by omega, rfl⟩
theorem fair_true (a b lo hi wide : Int) (w : World) (h1 : lo ≤ a) (h2 : a ≤ b) (h3 : b ≤ hi) (h4 : b - a ≤ wide) (ha : 0 ≤ a) (hb : b ≤ 100) :
    Calls Tryz.prog 47 #[.agg #[.int .i64 a, .int .i64 b], .int .i64 lo, .int .i64 hi, .int .i64 wide] w fun e w' => e = .returned (.bool true) ∧ Kept w w' := by
  have p1 : decide (lo ≤ a) = true := by simpa using h1
  have p2 : decide (a ≤ b) = true := by simpa using h2
  have p3 : decide (b ≤ hi) = true := by simpa using h3
  have p4 : decide (b - a ≤ wide) = true := by simpa using h4
  go_enter Tryz.func47, Tryz.ntmps47
  go_wp2_with fail
  go_ret
  exact ⟨rfl, kept_alloc (kept_refl _) _⟩

/-- a list of small numbers that can be read -/
def ListAt (w : World) (v : Value) (l : List Nat) : Prop :=
  (v = .slice none 0 0 ∧ l = []) ∨ ∃ b cap, v = .slice (some ⟨b, 0, none⟩) l.length cap ∧ b < w.heap.size ∧ ∀ i x, l[i]? = some x → w.cell? ⟨b, i, none⟩ = some (.int .i64 ((x : Nat) : Int))
theorem ListAt.kept {w w' : World} {v : Value} {l : List Nat} (h : ListAt w v l) (k : Kept w w') : ListAt w' v l :=
  h.imp id fun ⟨b, cap, e, hb, hc⟩ => ⟨b, cap, e, Nat.lt_of_lt_of_le hb k.size, fun i x hx => kcell k (hc i x hx)⟩
theorem ListAt.of_row {w : World} {n : Nat} {v : Value} {l : List Nat} {e : TypeId} (h : w.ownsRow n e 1 v l.length (intsV l)) : ListAt w v l := by
  have hc := h
  rcases h.2 with ⟨rfl, h0⟩ | ⟨g, cap, cur, rfl, _, hg, _⟩
  · exact .inl ⟨rfl, List.length_eq_zero_iff.1 h0⟩
  · refine .inr ⟨g, cap, rfl, (Array.getElem?_eq_some_iff.1 hg).1, fun i x hx => ?_⟩
    have hi : i < l.length := (List.getElem?_eq_some_iff.1 hx).1
    rw [hc.cellAt i (by omega)]
    simp [intsV, hx]
theorem listAt_len {w : World} {v : Value} {l : List Nat} (h : ListAt w v l) : ∃ p cap, v = .slice p l.length cap := by
  rcases h with ⟨rfl, rfl⟩ | ⟨b, cap, rfl, _⟩
  · exact ⟨none, 0, rfl⟩
  · exact ⟨_, cap, rfl⟩

def gath (l : List Nat) : Nat := l.foldl (fun s x => s ||| 2 ^ x) 0
theorem orNat : ∀ s : Nat, s < 16 → ∀ x : Nat, x < 4 → bits .or .i64 (s : Int) (wrap64 (2 ^ x)) = ((s ||| 2 ^ x : Nat) : Int) ∧ s ||| 2 ^ x < 16 := by decide +kernel

end Go.Proofs.YtcgihkaglonnaaaGreatDoor
set_option linter.all false
namespace Go.Proofs.YtcgihkaglonnaaaGreatDoor
open Go.RowKit Go.Sort Go.Rg
set_option maxRecDepth 100000

def incr (l : List Nat) : Prop := ∀ i x y, l[i]? = some x → l[i + 1]? = some y → x < y
set_option maxHeartbeats 1000000 in
theorem ordered_any (v : Value) (l : List Nat) (n : Nat) (w : World) (h : ListAt w v l) (hl : l.length ≤ 4) (hx : ∀ x ∈ l, x < n) (hn : n ≤ 4) (hi : incr l) :
    Calls Tryz.prog 39 #[v, .int .i64 (n : Int)] w fun e w' => e = .returned (.bool true) ∧ Kept w w' := by
  obtain ⟨p, cap, rfl⟩ := listAt_len h
  go_enter Tryz.func39, Tryz.ntmps39
  go_wp2_with fail
  go_loopw [5] (fun i W => ∃ k : Nat, k ≤ l.length ∧ i = .int .i64 k ∧ Kept w W) (fun i W => l.length - (intOf i).toNat)
  case atStart => exact ⟨0, by omega, rfl, kept_refl _⟩
  case round =>
    obtain ⟨k, hk, rfl, hkW⟩ := hrel
    by_cases hlt : k < l.length
    · have hltI : (k : Int) < l.length := by omega
      have hget : l[k]? = some l[k] := List.getElem?_eq_getElem hlt
      have hxn := hx _ (List.getElem_mem hlt)
      generalize l[k] = x at *
      rcases h.kept hkW with ⟨_, rfl⟩ | ⟨b, cap', e, hb, hc⟩
      · simp at hlt
      cases e
      have hinc := fun y (j : Nat) (e : j + 1 = k) (hy : l[j]? = some y) => hi j y x hy (by rw [e]; exact hget)
      have hcx : ∀ d os, (grow (redrawn wr d) os).cell? ⟨b, k, none⟩ = some (.int .i64 x) := cell_regrown (hc k x hget)
      have hin : inB (x : Int) 0 ((n : Int) - 1) = true := by simp [inB]; omega
      have hwr : IntKind.i64.wrap ((n : Int) - 1) = (n : Int) - 1 := IntWalk.i64_in _ (by omega)
      have hlies : ∀ d os, Calls Tryz.prog 37 #[.int .i64 x, .int .i64 0, .int .i64 ((n : Int) - 1)] (grow (redrawn wr d) os) fun e w'' => e = .returned (.bool true) ∧ ∃ p : Regrown, w'' = grow (redrawn wr p.d) p.os := fun d os => Calls.regrown_of ((lies_any _ _ _ _).mono (by rintro e w' ⟨rfl, rfl⟩; exact ⟨by rw [hin], kept_refl _⟩))
      have HL := Lib.hid hlies
      clear hlies hget hi hx
      go_wp2_with fail
      by_cases hk0 : k = 0
      · subst hk0
        clear hc hinc
        refine wp_region_quiet_below (by kernel_rfl) (by kernel_rfl) ?_
        repeat (any_goals (first | go_big_quiet_skip | quiet_step (first | exact HL.out _ _)))
        refine wpQuiet_nil ?_
        intro _ hw'
        obtain ⟨⟨dq, osq⟩, hw''⟩ := hw'
        subst hw''
        have kW2 := kept_trans hkW (below_regrown wr dq osq)
        go_wp2_with fail
        go_roundw
        case rel => exact ⟨1, by omega, by go_num, kW2⟩
        case measure => simp [intOf]; omega
      · obtain ⟨y, hgy⟩ : ∃ y, l[k - 1]? = some y := ⟨_, List.getElem?_eq_getElem (by omega)⟩
        have hyx := hinc y (k - 1) (by omega) hgy
        have hcy : ∀ d os, (grow (redrawn wr d) os).cell? ⟨b, k - 1, none⟩ = some (.int .i64 y) := cell_regrown (hc (k - 1) y hgy)
        have hle : decide ((x : Int) ≤ (y : Int)) = false := by simp; omega
        have w0 : IntKind.i64.wrap 0 = 0 := IntWalk.i64_in _ (by omega)
        have w1 : IntKind.i64.wrap 1 = 1 := IntWalk.i64_in _ (by omega)
        have w2 : IntKind.i64.wrap 2 = 2 := IntWalk.i64_in _ (by omega)
        clear hc hinc hgy
        have hk2 : k + 1 ≤ l.length := hlt
        have HI : Hid (k + 1 ≤ l.length) := Lib.hid hk2
        rcases (show k = 1 ∨ k = 2 ∨ k = 3 by omega) with rfl | rfl | rfl
        all_goals
          simp only [Nat.reduceSub] at hcy
          have b0 : (0 : Int) < l.length := by omega
          have b0n : 0 < l.length := by omega
          have b1 : (1 : Int) < l.length := by omega
          try have b2 : (2 : Int) < l.length := by omega
          try have b3 : (3 : Int) < l.length := by omega
          refine wp_region_quiet_below (by kernel_rfl) (by kernel_rfl) ?_
          repeat (any_goals (first | go_big_quiet_skip | quiet_step (first | exact HL.out _ _)))
          refine wpQuiet_nil ?_
          intro _ hw'
          obtain ⟨⟨dq, osq⟩, hw''⟩ := hw'
          subst hw''
          have kW2 := kept_trans hkW (below_regrown wr dq osq)
          go_wp2_with fail
          go_roundw
          case rel => exact ⟨_, HI.out, by go_num, kW2⟩
          case measure => simp [intOf]; omega
    · have hltI : ¬ (k : Int) < l.length := by omega
      go_wp2_with fail
      go_ret
      exact ⟨rfl, hkW⟩
end Go.Proofs.YtcgihkaglonnaaaGreatDoor
set_option linter.all false
namespace Go.Proofs.YtcgihkaglonnaaaGreatDoor
open Go.RowKit Go.Sort Go.Rg
set_option maxRecDepth 100000

set_option maxHeartbeats 2000000 in
theorem small_false (p q : Option Addr) (cap capt : Nat) (B : Book) (W : World) (h : BookAt W p q cap capt B) (hok : B.okB = false) :
    Calls Tryz.prog 32 #[B.val p q cap capt] W fun e C => e = .returned (.bool false) ∧ Kept W C := by
  unfold Book.val
  have hk0 : Kept W (W.alloc (Obj.cells #[.slice p B.boys.length cap, .int .i64 B.weeks, .slice q B.trials.length capt] 25)) := kept_alloc (kept_refl _) _
  have hcall := check_any p q cap capt B _ (h.kept hk0)
  rw [hok] at hcall
  simp only [Bool.false_eq_true, if_false] at hcall
  have HC := Lib.hid hcall; clear hcall
  go_enter Tryz.func32, Tryz.ntmps32
  go_wp2_with fail
  generalize W.alloc (Obj.cells #[.slice p B.boys.length cap, .int .i64 B.weeks, .slice q B.trials.length capt] 25) = W0 at *
  refine HC.out.mono ?_
  rintro e w2 ⟨rfl, hk2⟩
  go_wp2_with fail
  go_loopw [3, 4] (fun ok i V => ok = .bool false ∧ i = .int .i64 0 ∧ V = w2) (fun ok i V => 0)
  case atStart => exact ⟨rfl, rfl, rfl⟩
  case round =>
    obtain ⟨rfl, rfl, rfl⟩ := hrel
    go_wp2_with fail
    go_loopw [3, 6] (fun ok i V => ok = .bool false ∧ i = .int .i64 0 ∧ V = wr) (fun ok i V => 0)
    case atStart => exact ⟨rfl, rfl, rfl⟩
    case round =>
      obtain ⟨rfl, rfl, rfl⟩ := hrel
      go_wp2_with fail
      go_ret
      exact ⟨rfl, kept_trans hk0 hk2⟩

theorem okB_boys {B : Book} (h : B.okB = true) : (1 ≤ B.boys.length ∧ B.boys.length ≤ 4 ∧ 1 ≤ B.weeks ∧ B.weeks ≤ 6 ∧ B.trials.length ≤ 6) ∧ (∀ x ∈ B.boys, x.okB = true) ∧ ∀ t ∈ B.trials, validTrialB B.boys.length B.weeks.toNat t = true := by
  simp only [Book.okB, inB, Bool.and_eq_true, decide_eq_true_eq, List.all_eq_true] at h
  obtain ⟨⟨⟨⟨h1, h2⟩, h3⟩, h4⟩, h5⟩ := h
  exact ⟨by omega, h4, h5⟩
theorem boy_nums {x : Boy} (h : x.okB = true) : (0 ≤ x.l0 ∧ x.l0 ≤ x.l1 ∧ x.l1 ≤ 40 ∧ x.l1 - x.l0 ≤ 2) ∧ (0 ≤ x.h0 ∧ x.h0 ≤ x.h1 ∧ x.h1 ≤ 40 ∧ x.h1 - x.h0 ≤ 2) ∧ (0 ≤ x.g0 ∧ x.g0 ≤ x.g1 ∧ x.g1 ≤ 2 ∧ x.g1 - x.g0 ≤ 1) ∧ (0 ≤ x.t0 ∧ x.t0 ≤ x.t1 ∧ x.t1 ≤ 6 ∧ x.t1 - x.t0 ≤ 2) ∧ (0 ≤ x.b0 ∧ x.b0 ≤ x.b1 ∧ x.b1 ≤ 9 ∧ x.b1 - x.b0 ≤ 3) ∧ 0 ≤ x.ls ∧ x.ls ≤ 2 := by
  simp only [Boy.okB, spanAt, spanB, inB, Bool.and_eq_true, decide_eq_true_eq, Bool.not_eq_true', decide_eq_false_iff_not] at h
  omega

set_option maxHeartbeats 4000000 in
theorem small_true (p q : Option Addr) (cap capt : Nat) (B : Book) (W : World) (h : BookAt W p q cap capt B) (hok : B.okB = true) :
    Calls Tryz.prog 32 #[B.val p q cap capt] W fun e C => e = .returned (.bool true) ∧ Kept W C := by
  unfold Book.val
  have hk0 : Kept W (W.alloc (Obj.cells #[.slice p B.boys.length cap, .int .i64 B.weeks, .slice q B.trials.length capt] 25)) := kept_alloc (kept_refl _) _
  have hcall := check_any p q cap capt B _ (h.kept hk0)
  rw [hok] at hcall
  simp only [if_true] at hcall
  have HC := Lib.hid hcall; clear hcall
  obtain ⟨⟨q1, q2, q3, q4, q5⟩, hbs, hts⟩ := okB_boys hok
  have i1 : inB (B.boys.length : Int) 1 4 = true := by simp [inB]; omega
  have i2 : inB B.weeks 1 6 = true := by simp [inB]; omega
  have i3 : decide ((B.trials.length : Int) ≤ 6) = true := by simp; omega
  have a0c : (W.alloc (Obj.cells #[.slice p B.boys.length cap, .int .i64 B.weeks, .slice q B.trials.length capt] 25)).cell? ⟨W.heap.size, 0, none⟩ = some (.slice p B.boys.length cap) := by go_simp
  have a1c : (W.alloc (Obj.cells #[.slice p B.boys.length cap, .int .i64 B.weeks, .slice q B.trials.length capt] 25)).cell? ⟨W.heap.size, 1, none⟩ = some (.int .i64 B.weeks) := by go_simp
  have a2c : (W.alloc (Obj.cells #[.slice p B.boys.length cap, .int .i64 B.weeks, .slice q B.trials.length capt] 25)).cell? ⟨W.heap.size, 2, none⟩ = some (.slice q B.trials.length capt) := by go_simp
  go_enter Tryz.func32, Tryz.ntmps32
  go_wp2_with fail
  generalize W.alloc (Obj.cells #[.slice p B.boys.length cap, .int .i64 B.weeks, .slice q B.trials.length capt] 25) = W0 at *
  refine HC.out.mono ?_
  rintro e w2 ⟨rfl, hk2⟩
  have e0 := kcell hk2 a0c
  have e1 := kcell hk2 a1c
  have e2 := kcell hk2 a2c
  go_wp2_with (first
    | (go_at_call 37; refine (lies_any _ _ _ _).mono ?_; rintro e w' ⟨rfl, rfl⟩; first | rw [i1] | rw [i2]))
  have hk02 := kept_trans hk0 hk2
  go_loopw [3, 4] (fun ok i V => ok = .bool true ∧ ∃ k : Nat, k ≤ B.boys.length ∧ i = .int .i64 k ∧ Kept w2 V) (fun ok i V => B.boys.length - (intOf i).toNat)
  case atStart => exact ⟨rfl, 0, by omega, rfl, kept_refl _⟩
  case round =>
    obtain ⟨rfl, k, hk, rfl, hkV⟩ := hrel
    have f0 := kcell hkV e0
    have f1 := kcell hkV e1
    have f2 := kcell hkV e2
    by_cases hlt : k < B.boys.length
    · have hltI : (k : Int) < B.boys.length := by omega
      have hget : B.boys[k]? = some B.boys[k] := List.getElem?_eq_getElem hlt
      have hxo := boy_nums (hbs _ (List.getElem_mem hlt))
      generalize B.boys[k] = x at *
      obtain ⟨y0, y1, y2, y3, y4, y5, y6⟩ := hxo
      rcases h.boys with hb | ⟨b, o, rfl, hb⟩
      · rw [hb] at hlt; simp at hlt
      have hbV := hb.kept (kept_trans hk02 hkV)
      obtain ⟨c0, c1, c2, c3, c4, c5, c6, c7, c8, c9, c10⟩ := hbV.2 k x hget
      have hiz := hbV.1
      clear hget hb
      have HZ := Lib.hid hk02
      go_wp2_with fail
      have m0 : (wr.alloc (Obj.cells #[.int .i64 x.l0, .int .i64 x.l1, .int .i64 x.h0, .int .i64 x.h1, .int .i64 x.g0, .int .i64 x.g1, .int .i64 x.t0, .int .i64 x.t1, .int .i64 x.ls, .int .i64 x.b0, .int .i64 x.b1] 73)).cell? ⟨wr.heap.size, 0, none⟩ = some (.int .i64 x.l0) := by go_simp
      have m1 : (wr.alloc (Obj.cells #[.int .i64 x.l0, .int .i64 x.l1, .int .i64 x.h0, .int .i64 x.h1, .int .i64 x.g0, .int .i64 x.g1, .int .i64 x.t0, .int .i64 x.t1, .int .i64 x.ls, .int .i64 x.b0, .int .i64 x.b1] 73)).cell? ⟨wr.heap.size, 1, none⟩ = some (.int .i64 x.l1) := by go_simp
      have m2 : (wr.alloc (Obj.cells #[.int .i64 x.l0, .int .i64 x.l1, .int .i64 x.h0, .int .i64 x.h1, .int .i64 x.g0, .int .i64 x.g1, .int .i64 x.t0, .int .i64 x.t1, .int .i64 x.ls, .int .i64 x.b0, .int .i64 x.b1] 73)).cell? ⟨wr.heap.size, 2, none⟩ = some (.int .i64 x.h0) := by go_simp
      have m3 : (wr.alloc (Obj.cells #[.int .i64 x.l0, .int .i64 x.l1, .int .i64 x.h0, .int .i64 x.h1, .int .i64 x.g0, .int .i64 x.g1, .int .i64 x.t0, .int .i64 x.t1, .int .i64 x.ls, .int .i64 x.b0, .int .i64 x.b1] 73)).cell? ⟨wr.heap.size, 3, none⟩ = some (.int .i64 x.h1) := by go_simp
      have m4 : (wr.alloc (Obj.cells #[.int .i64 x.l0, .int .i64 x.l1, .int .i64 x.h0, .int .i64 x.h1, .int .i64 x.g0, .int .i64 x.g1, .int .i64 x.t0, .int .i64 x.t1, .int .i64 x.ls, .int .i64 x.b0, .int .i64 x.b1] 73)).cell? ⟨wr.heap.size, 4, none⟩ = some (.int .i64 x.g0) := by go_simp
      have m5 : (wr.alloc (Obj.cells #[.int .i64 x.l0, .int .i64 x.l1, .int .i64 x.h0, .int .i64 x.h1, .int .i64 x.g0, .int .i64 x.g1, .int .i64 x.t0, .int .i64 x.t1, .int .i64 x.ls, .int .i64 x.b0, .int .i64 x.b1] 73)).cell? ⟨wr.heap.size, 5, none⟩ = some (.int .i64 x.g1) := by go_simp
      have m6 : (wr.alloc (Obj.cells #[.int .i64 x.l0, .int .i64 x.l1, .int .i64 x.h0, .int .i64 x.h1, .int .i64 x.g0, .int .i64 x.g1, .int .i64 x.t0, .int .i64 x.t1, .int .i64 x.ls, .int .i64 x.b0, .int .i64 x.b1] 73)).cell? ⟨wr.heap.size, 6, none⟩ = some (.int .i64 x.t0) := by go_simp
      have m7 : (wr.alloc (Obj.cells #[.int .i64 x.l0, .int .i64 x.l1, .int .i64 x.h0, .int .i64 x.h1, .int .i64 x.g0, .int .i64 x.g1, .int .i64 x.t0, .int .i64 x.t1, .int .i64 x.ls, .int .i64 x.b0, .int .i64 x.b1] 73)).cell? ⟨wr.heap.size, 7, none⟩ = some (.int .i64 x.t1) := by go_simp
      have m8 : (wr.alloc (Obj.cells #[.int .i64 x.l0, .int .i64 x.l1, .int .i64 x.h0, .int .i64 x.h1, .int .i64 x.g0, .int .i64 x.g1, .int .i64 x.t0, .int .i64 x.t1, .int .i64 x.ls, .int .i64 x.b0, .int .i64 x.b1] 73)).cell? ⟨wr.heap.size, 8, none⟩ = some (.int .i64 x.ls) := by go_simp
      have m9 : (wr.alloc (Obj.cells #[.int .i64 x.l0, .int .i64 x.l1, .int .i64 x.h0, .int .i64 x.h1, .int .i64 x.g0, .int .i64 x.g1, .int .i64 x.t0, .int .i64 x.t1, .int .i64 x.ls, .int .i64 x.b0, .int .i64 x.b1] 73)).cell? ⟨wr.heap.size, 9, none⟩ = some (.int .i64 x.b0) := by go_simp
      have m10 : (wr.alloc (Obj.cells #[.int .i64 x.l0, .int .i64 x.l1, .int .i64 x.h0, .int .i64 x.h1, .int .i64 x.g0, .int .i64 x.g1, .int .i64 x.t0, .int .i64 x.t1, .int .i64 x.ls, .int .i64 x.b0, .int .i64 x.b1] 73)).cell? ⟨wr.heap.size, 10, none⟩ = some (.int .i64 x.b1) := by go_simp
      have kV : Kept wr (wr.alloc (Obj.cells #[.int .i64 x.l0, .int .i64 x.l1, .int .i64 x.h0, .int .i64 x.h1, .int .i64 x.g0, .int .i64 x.g1, .int .i64 x.t0, .int .i64 x.t1, .int .i64 x.ls, .int .i64 x.b0, .int .i64 x.b1] 73)) := kept_alloc (kept_refl _) _
      generalize wr.alloc (Obj.cells #[.int .i64 x.l0, .int .i64 x.l1, .int .i64 x.h0, .int .i64 x.h1, .int .i64 x.g0, .int .i64 x.g1, .int .i64 x.t0, .int .i64 x.t1, .int .i64 x.ls, .int .i64 x.b0, .int .i64 x.b1] 73) = V0 at *
      clear c0 c1 c2 c3 c4 c5 c6 c7 c8 c9 c10 f0 f1 f2
      have hzs := Go.Ai.lt_of_cell m0
      go_wp2_with (first
        | (go_at_call 37; refine (lies_any _ _ _ _).mono ?_; rintro e w' ⟨rfl, rfl⟩; rw [show inB x.ls 0 2 = true by simp [inB]; omega])
        | (go_at_call 47; refine (fair_true _ _ _ _ _ _ (by omega) (by omega) (by omega) (by omega) (by omega) (by omega)).mono ?_; rintro e w' ⟨rfl, hkk⟩; replace m0 := kcell hkk m0; replace m1 := kcell hkk m1; replace m2 := kcell hkk m2; replace m3 := kcell hkk m3; replace m4 := kcell hkk m4; replace m5 := kcell hkk m5; replace m6 := kcell hkk m6; replace m7 := kcell hkk m7; replace m8 := kcell hkk m8; replace m9 := kcell hkk m9; replace m10 := kcell hkk m10; replace kV := kept_trans kV hkk; clear hkk; replace hzs := Go.Ai.lt_of_cell m0))
      go_roundw
      case rel => exact ⟨rfl, k + 1, by omega, by go_num, kept_trans hkV kV⟩
      case measure => simp [intOf]; omega
    · have hltI : ¬ (k : Int) < B.boys.length := by omega
      go_wp2_with fail
      have hk03 := kept_trans hk02 hkV
      obtain ⟨V1, hV1⟩ : ∃ V1, V1 = wr := ⟨_, rfl⟩
      subst hV1
      go_loopw [3, 6] (fun ok i V => ok = .bool true ∧ ∃ k : Nat, k ≤ B.trials.length ∧ i = .int .i64 k ∧ Kept V1 V) (fun ok i V => B.trials.length - (intOf i).toNat)
      case atStart => exact ⟨rfl, 0, by omega, rfl, kept_refl _⟩
      case round =>
        obtain ⟨rfl, k2, hk2', rfl, hkV2⟩ := hrel
        have f0 := kcell hkV2 f0
        have f1 := kcell hkV2 f1
        have f2 := kcell hkV2 f2
        have hzB := Go.Ai.lt_of_cell f0
        by_cases hlt2 : k2 < B.trials.length
        · have hltI2 : (k2 : Int) < B.trials.length := by omega
          have hget : B.trials[k2]? = some B.trials[k2] := List.getElem?_eq_getElem hlt2
          have hto := hts _ (List.getElem_mem hlt2)
          generalize B.trials[k2] = t at *
          rcases h.trials with hb | ⟨b, o, rfl, hb⟩
          · rw [hb] at hlt2; simp at hlt2
          have hbV := hb.kept (kept_trans hk03 hkV2)
          obtain ⟨c0, c1, c2, c3⟩ := hbV.2 k2 t hget
          have hiz := hbV.1
          clear hget hb
          have HZ := Lib.hid hk03
          simp only [validTrialB, Bool.and_eq_true] at hto
          obtain ⟨⟨⟨u1, u2⟩, u3⟩, _⟩ := hto
          have v2 : inB t.week 0 (B.weeks - 1) = true := by
            simp only [inB, Bool.and_eq_true, decide_eq_true_eq] at u2 ⊢; omega
          have hwr1 : IntKind.i64.wrap ((B.boys.length : Int) - 1) = (B.boys.length : Int) - 1 := IntWalk.i64_in _ (by omega)
          have hwr2 : IntKind.i64.wrap (B.weeks - 1) = B.weeks - 1 := IntWalk.i64_in _ (by omega)
          go_wp2_with (go_at_call 37; refine (lies_any _ _ _ _).mono ?_; rintro e w' ⟨rfl, rfl⟩; first | rw [u1] | rw [v2] | rw [u3])
          go_roundw
          case rel => exact ⟨rfl, k2 + 1, by omega, by go_num, kept_trans hkV2 (kept_alloc (kept_refl _) _)⟩
          case measure => simp [intOf]; omega
        · have hltI2 : ¬ (k2 : Int) < B.trials.length := by omega
          go_wp2_with fail
          go_ret
          exact ⟨rfl, kept_trans hk03 hkV2⟩
theorem small_any (p q : Option Addr) (cap capt : Nat) (B : Book) (W : World) (h : BookAt W p q cap capt B) :
    Calls Tryz.prog 32 #[B.val p q cap capt] W fun e C => e = .returned (.bool B.okB) ∧ Kept W C := by
  cases hok : B.okB with
  | false => exact small_false p q cap capt B W h hok
  | true => exact small_true p q cap capt B W h hok
end Go.Proofs.YtcgihkaglonnaaaGreatDoor
set_option linter.all false
namespace Go.Proofs.YtcgihkaglonnaaaGreatDoor
open Go.RowKit Go.Sort Go.Rg
set_option maxRecDepth 100000

def turnI (n b : Int) : Int := if n.tmod b < 0 then n.tmod b + b else n.tmod b
theorem turnI_lt (n b : Int) (hb : 1 ≤ b) : 0 ≤ turnI n b ∧ turnI n b < b := by
  obtain ⟨m1, m2⟩ := tmod_small n b hb
  unfold turnI
  split <;> omega
theorem turn_is (n b : Int) (hb : 1 ≤ b) (hb2 : b ≤ 1000) (w : World) : Calls Tryz.prog 35 #[.int .i64 n, .int .i64 b] w fun e w' => e = .returned (.int .i64 (turnI n b)) ∧ w = w' := by
  have hb0 : decide (b < 1) = false := by simp; omega
  have hbz : (b == 0) = false := by simp; omega
  obtain ⟨m1, m2⟩ := tmod_small n b hb
  by_cases hs : n.tmod b < 0
  · rw [show turnI n b = n.tmod b + b by simp [turnI, hs]]
    go_enter Tryz.func35, Tryz.ntmps35
    go_wp2_with fail
    all_goals go_ret
    all_goals first | exact ⟨rfl, rfl⟩ | (exfalso; omega)
  · rw [show turnI n b = n.tmod b by simp [turnI, hs]]
    go_enter Tryz.func35, Tryz.ntmps35
    go_wp2_with fail
    all_goals go_ret
    all_goals first | exact ⟨rfl, rfl⟩ | (exfalso; omega)

def wI (n : Nat) : List Nat → Nat → Int
  | [], _ => -1
  | x :: xs, k => if x = n then (k : Int) else wI n xs (k + 1)
theorem wI_cons (n x : Nat) (xs : List Nat) (k : Nat) : wI n (x :: xs) k = if x = n then (k : Int) else wI n xs (k + 1) := rfl
theorem wI_mem (n : Nat) : ∀ (l : List Nat) (k : Nat), 0 ≤ wI n l k ↔ n ∈ l
  | [], k => by simp [wI]
  | x :: xs, k => by
    unfold wI
    by_cases h : x = n
    · simp [h]
    · rw [if_neg h, wI_mem n xs (k + 1)]
      simp [h, Ne.symm h]
end Go.Proofs.YtcgihkaglonnaaaGreatDoor
set_option linter.all false
namespace Go.Proofs.YtcgihkaglonnaaaGreatDoor
open Go.RowKit Go.Sort Go.Rg
set_option maxRecDepth 100000

theorem sung_is (w : World) (hL : Laid w) (hN : Nothing w) : Calls Tryz.prog 18 #[] w fun e w' => e = .returned (.bool true) ∧ Kept w w' := by
  obtain ⟨l0, l1⟩ := hL
  have I : Go.Ai.Inv 2 (fun b => ⟨b, 0, 0⟩) seTop.heap w := by
    refine Go.Ai.start_inv (G := 2) (by decide) (by decide) (by decide) fun b x hx => ?_
    simp only [seTop, List.mem_cons, List.not_mem_nil, or_false, Prod.mk.injEq] at hx
    rcases hx with ⟨rfl, rfl⟩ | ⟨rfl, rfl⟩
    · refine .inr ⟨_, rfl, by decide, fun i v hv => ?_, Go.Ai.lt_of_cell (hN 0 (by omega))⟩
      match i, hv with
      | 0, hv => cases hv; exact hN 0 (by omega)
      | 1, hv => cases hv; exact hN 1 (by omega)
      | 2, hv => cases hv; exact hN 2 (by omega)
      | 3, hv => cases hv; exact hN 3 (by omega)
      | 4, hv => cases hv; exact hN 4 (by omega)
    · obtain ⟨m0, m1, m2, m3, m4, m5, m6, m7, m8, m9⟩ := l1
      refine .inr ⟨_, rfl, by decide, fun i v hv => ?_, l0⟩
      match i, hv with
      | 0, hv => cases hv; exact m0
      | 1, hv => cases hv; exact m1
      | 2, hv => cases hv; exact m2
      | 3, hv => cases hv; exact m3
      | 4, hv => cases hv; exact m4
      | 5, hv => cases hv; exact m5
      | 6, hv => cases hv; exact m6
      | 7, hv => cases hv; exact m7
      | 8, hv => cases hv; exact m8
      | 9, hv => cases hv; exact m9
  refine (Go.Ai.calls_of_ent seTop_h rfl I rfl).mono fun e w' ⟨j2, he, A⟩ => ⟨?_, ⟨A.os, A.tape, A.output, A.size, A.heap⟩⟩
  rw [he]; rfl

section
variable {B : Book} {sb sb' : Nat → List Int → Bool} {n : Nat}
theorem mem_surelyL {boy : Nat} : boy ∈ surelyL B sb n ↔ boy < n ∧ surelyB B sb boy = true := by
  simp [surelyL]
theorem surelyL_lt {x : Nat} (h : x ∈ surelyL B sb n) : x < n := (mem_surelyL.1 h).1
theorem pairwise_incr {l : List Nat} (h : l.Pairwise (· < ·)) : incr l := fun i x y hx hy => by
  obtain ⟨hi, rfl⟩ := List.getElem?_eq_some_iff.1 hx
  obtain ⟨hj, rfl⟩ := List.getElem?_eq_some_iff.1 hy
  exact List.pairwise_iff_getElem.1 h i (i + 1) hi hj (by omega)
theorem surelyL_incr : incr (surelyL B sb n) := pairwise_incr (List.Pairwise.filter _ List.pairwise_lt_range)
end
theorem foldl_testBit (x : Nat) : ∀ (l : List Nat) (s : Nat), (l.foldl (fun s x => s ||| 2 ^ x) s).testBit x = (s.testBit x || decide (x ∈ l))
  | [], s => by simp
  | y :: l, s => by
    rw [List.foldl_cons, foldl_testBit x l, Nat.testBit_or, Nat.testBit_two_pow]
    by_cases h : y = x
    · subst h; simp
    · have h' : ¬ x = y := fun e => h e.symm
      simp [h, h']
theorem gath_testBit (x : Nat) (l : List Nat) : (gath l).testBit x = decide (x ∈ l) := by
  unfold gath
  rw [foldl_testBit]
  simp
theorem gath_lt {l : List Nat} (h : ∀ x ∈ l, x < 4) : gath l < 16 := by
  rw [show 16 = 2 ^ 4 from rfl]
  refine Nat.lt_pow_two_of_testBit _ fun i hi => ?_
  rw [gath_testBit, decide_eq_false_iff_not]
  intro hm
  have := h i hm
  omega
theorem gath_and {l m : List Nat} (h : ∀ x, x ∈ l → ¬ x ∈ m) : gath l &&& gath m = 0 := by
  refine Nat.eq_of_testBit_eq fun i => ?_
  rw [Nat.testBit_and, gath_testBit, gath_testBit, Nat.zero_testBit]
  by_cases hi : i ∈ l
  · simp [hi, h i hi]
  · simp [hi]
theorem gath_sub {l m : List Nat} (h : ∀ x, x ∈ l → x ∈ m) : gath l &&& gath m = gath l := by
  refine Nat.eq_of_testBit_eq fun i => ?_
  rw [Nat.testBit_and, gath_testBit, gath_testBit]
  by_cases hi : i ∈ l
  · simp [hi, h i hi]
  · simp [hi]
theorem and_bits : ∀ s : Nat, s < 16 → ∀ t : Nat, t < 16 → s &&& t = 0 → bits .and .i64 (s : Int) (t : Int) = 0 := by decide +kernel
theorem andNot_bits : ∀ s : Nat, s < 16 → ∀ t : Nat, t < 16 → s &&& t = s → bits .andNot .i64 (s : Int) (t : Int) = 0 := by decide +kernel

theorem span_hi (f : List Int → Int) (w : Int) : ∀ (l : List (List Int)) (a b : Int), (l.foldl (spanAcc fun n => (f n, true)) (a, b, true)).2.1 ≤ w ↔ b ≤ w ∧ ∀ n ∈ l, f n ≤ w
  | [], a, b => by simp
  | n :: l, a, b => by
    rw [List.foldl_cons]
    show (l.foldl _ (min a (f n), max b (f n), true)).2.1 ≤ w ↔ _
    rw [span_hi f w l]
    rw [List.forall_mem_cons]
    constructor
    · rintro ⟨h1, h2⟩; exact ⟨by omega, by omega, h2⟩
    · rintro ⟨h1, h2, h3⟩; exact ⟨by omega, h3⟩
theorem spanOf_hi (f : List Int → Int) (w : Int) (l : List (List Int)) (hl : l ≠ []) : (spanOf (fun n => (f n, true)) l).2.1 ≤ w ↔ ∀ n ∈ l, f n ≤ w := by
  cases l with
  | nil => exact absurd rfl hl
  | cons n l =>
    unfold spanOf
    rw [List.foldl_cons]
    show (l.foldl _ (f n, f n, true)).2.1 ≤ w ↔ _
    rw [span_hi f w l, List.forall_mem_cons]

theorem must_iff {B : Book} {boy : Nat} {x : Boy} (hx : B.boys[boy]? = some x) (week : Int) :
    boy ∈ surelyL B (fun _ => brokenB week) B.boys.length ↔ ∀ n ∈ B.truths boy x, n.getD 4 0 ≤ week := by
  rw [mem_surelyL]
  have hb : boy < B.boys.length := (List.getElem?_eq_some_iff.1 hx).1
  have e : surelyB B (fun _ => brokenB week) boy = (B.truths boy x).all (brokenB week) := by unfold surelyB; rw [hx]
  rw [e, List.all_eq_true]
  simp only [hb, true_and, brokenB, decide_eq_true_eq]
theorem must_more {B : Book} {week week' : Int} (h : week ≤ week') (boy : Nat) (hm : boy ∈ surelyL B (fun _ => brokenB week) B.boys.length) : boy ∈ surelyL B (fun _ => brokenB week') B.boys.length := by
  have hb := surelyL_lt hm
  have hx : B.boys[boy]? = some B.boys[boy] := List.getElem?_eq_getElem hb
  rw [must_iff hx] at hm ⊢
  exact fun n hn => Int.le_trans (hm n hn) h
theorem must_sings {B : Book} (hcan : Can B) {week note : Int} (boy : Nat) (hm : boy ∈ surelyL B (fun _ => brokenB week) B.boys.length) : ¬ boy ∈ surelyL B (singsN B week note note) B.boys.length := by
  have hb := surelyL_lt hm
  have hx : B.boys[boy]? = some B.boys[boy] := List.getElem?_eq_getElem hb
  rw [must_iff hx] at hm
  rw [mem_surelyL]
  rintro ⟨_, hs⟩
  simp only [surelyB, hx, List.all_eq_true] at hs
  obtain ⟨n, hn⟩ := List.exists_mem_of_ne_nil _ (hcan boy _ hx)
  have h1 := hm n hn
  have h2 := hs n hn
  simp only [singsN, singsB, Bool.and_eq_true, decide_eq_true_eq] at h2
  omega
end Go.Proofs.YtcgihkaglonnaaaGreatDoor
set_option linter.all false
namespace Go.Proofs.YtcgihkaglonnaaaGreatDoor
open Go.ChangeShapes Go.WideShapes Go.ChangeAt Go.WideMaps Go.WideElems Go.RowKit Go.Deep Go.Rg
set_option maxRecDepth 100000

theorem vown : ownKnob Tryz.prog.godebug = none := by kernel_rfl
theorem vlaidOut : laidOutB Tryz.prog = true := by kernel_rfl
theorem gNoth : Tryz.prog.globalNamed "decani/voice.nothing" = some 0 := by kernel_rfl
theorem tNoth : (Tryz.prog.globals[0]?).map (·.type) = some 84 := by kernel_rfl
theorem gBnds : Tryz.prog.globalNamed "decani/voice.bounds" = some 1 := by kernel_rfl
theorem tBnds : (Tryz.prog.globals[1]?).map (·.type) = some 130 := by kernel_rfl
theorem vcI : Tryz.prog.cellsOf 3 = 1 := by kernel_rfl
theorem vcN : Tryz.prog.cellsOf 84 = 5 := by kernel_rfl
theorem vcP : Tryz.prog.cellsOf 129 = 2 := by kernel_rfl
theorem vcS : Tryz.prog.cellsOf 32 = 2 := by kernel_rfl
theorem vcB : Tryz.prog.cellsOf 73 = 11 := by kernel_rfl
theorem vcT : Tryz.prog.cellsOf 49 = 4 := by kernel_rfl
theorem vcL : Tryz.prog.cellsOf 22 = 1 := by kernel_rfl
theorem vcM : Tryz.prog.cellsOf 23 = 1 := by kernel_rfl
theorem vcK : Tryz.prog.cellsOf 25 = 3 := by kernel_rfl
theorem vcA : Tryz.prog.cellsOf 38 = 3 := by kernel_rfl
section
variable {H : Type} {enc : TypeId × Value → H} {w : World} {base : Nat} {sp : Nat → Bool} {held : Bool} {fuel : Nat} {cs : List Value} {x : DataW H × List MemPlace}
theorem one_int {c : Value} (h : DataW.trod enc Tryz.prog w base sp held fuel 3 [c] = some x) : ∃ n, c = .int .i64 n := by
  obtain ⟨z, e, _⟩ := DataW.trod_int Tryz.underlying3 h
  simp at e
  exact ⟨z, e⟩
theorem span_ints {c d : Value} (h : DataW.trod enc Tryz.prog w base sp held fuel 32 [c, d] = some x) : ∃ a b, c = .int .i64 a ∧ d = .int .i64 b := by
  obtain ⟨xs, n, _, hx, hl, hn, hf⟩ := DataW.trod_struct Tryz.underlying32 h
  match xs, hn with
  | [y0, y1], _ =>
    have t0 : DataW.trod enc Tryz.prog w base sp held n 3 (([c, d].drop 0).take (Tryz.prog.cellsOf 3)) = some y0 := hf 0 _ rfl
    have t1 : DataW.trod enc Tryz.prog w base sp held n 3 (([c, d].drop 1).take (Tryz.prog.cellsOf 3)) = some y1 := hf 1 _ rfl
    rw [vcI] at t0 t1
    obtain ⟨a, rfl⟩ := one_int t0
    obtain ⟨b, rfl⟩ := one_int t1
    exact ⟨a, b, rfl, rfl⟩
def boyCells (x : Boy) : List Value := [.int .i64 x.l0, .int .i64 x.l1, .int .i64 x.h0, .int .i64 x.h1, .int .i64 x.g0, .int .i64 x.g1, .int .i64 x.t0, .int .i64 x.t1, .int .i64 x.ls, .int .i64 x.b0, .int .i64 x.b1]
theorem boy_ints (h : DataW.trod enc Tryz.prog w base sp held fuel 73 cs = some x) : ∃ b : Boy, cs = boyCells b := by
  obtain ⟨xs, n, _, hx, hl, hn, hf⟩ := DataW.trod_struct Tryz.underlying73 h
  rw [vcB] at hl
  match cs, hl, xs, hn with
  | [c0, c1, c2, c3, c4, c5, c6, c7, c8, c9, c10], _, [y0, y1, y2, y3, y4, y5], _ =>
    have t0 : DataW.trod enc Tryz.prog w base sp held n 32 (([c0, c1, c2, c3, c4, c5, c6, c7, c8, c9, c10].drop 0).take (Tryz.prog.cellsOf 32)) = some y0 := hf 0 _ rfl
    have t1 : DataW.trod enc Tryz.prog w base sp held n 32 (([c0, c1, c2, c3, c4, c5, c6, c7, c8, c9, c10].drop 2).take (Tryz.prog.cellsOf 32)) = some y1 := hf 1 _ rfl
    have t2 : DataW.trod enc Tryz.prog w base sp held n 32 (([c0, c1, c2, c3, c4, c5, c6, c7, c8, c9, c10].drop 4).take (Tryz.prog.cellsOf 32)) = some y2 := hf 2 _ rfl
    have t3 : DataW.trod enc Tryz.prog w base sp held n 32 (([c0, c1, c2, c3, c4, c5, c6, c7, c8, c9, c10].drop 6).take (Tryz.prog.cellsOf 32)) = some y3 := hf 3 _ rfl
    have t4 : DataW.trod enc Tryz.prog w base sp held n 3 (([c0, c1, c2, c3, c4, c5, c6, c7, c8, c9, c10].drop 8).take (Tryz.prog.cellsOf 3)) = some y4 := hf 4 _ rfl
    have t5 : DataW.trod enc Tryz.prog w base sp held n 32 (([c0, c1, c2, c3, c4, c5, c6, c7, c8, c9, c10].drop 9).take (Tryz.prog.cellsOf 32)) = some y5 := hf 5 _ rfl
    rw [vcS] at t0 t1 t2 t3 t5
    rw [vcI] at t4
    obtain ⟨a0, a1, rfl, rfl⟩ := span_ints t0
    obtain ⟨a2, a3, rfl, rfl⟩ := span_ints t1
    obtain ⟨a4, a5, rfl, rfl⟩ := span_ints t2
    obtain ⟨a6, a7, rfl, rfl⟩ := span_ints t3
    obtain ⟨a8, rfl⟩ := one_int t4
    obtain ⟨a9, a10, rfl, rfl⟩ := span_ints t5
    exact ⟨⟨a0, a1, a2, a3, a4, a5, a6, a7, a8, a9, a10⟩, rfl⟩
def trialCells (t : Trial) : List Value := [.int .i64 t.boy, .int .i64 t.week, .int .i64 t.note, .int .i64 t.sang]
theorem trial_ints (h : DataW.trod enc Tryz.prog w base sp held fuel 49 cs = some x) : ∃ t : Trial, cs = trialCells t := by
  obtain ⟨xs, n, _, hx, hl, hn, hf⟩ := DataW.trod_struct Tryz.underlying49 h
  rw [vcT] at hl
  match cs, hl, xs, hn with
  | [c0, c1, c2, c3], _, [y0, y1, y2, y3], _ =>
    have t0 : DataW.trod enc Tryz.prog w base sp held n 3 (([c0, c1, c2, c3].drop 0).take (Tryz.prog.cellsOf 3)) = some y0 := hf 0 _ rfl
    have t1 : DataW.trod enc Tryz.prog w base sp held n 3 (([c0, c1, c2, c3].drop 1).take (Tryz.prog.cellsOf 3)) = some y1 := hf 1 _ rfl
    have t2 : DataW.trod enc Tryz.prog w base sp held n 3 (([c0, c1, c2, c3].drop 2).take (Tryz.prog.cellsOf 3)) = some y2 := hf 2 _ rfl
    have t3 : DataW.trod enc Tryz.prog w base sp held n 3 (([c0, c1, c2, c3].drop 3).take (Tryz.prog.cellsOf 3)) = some y3 := hf 3 _ rfl
    rw [vcI] at t0 t1 t2 t3
    obtain ⟨a0, rfl⟩ := one_int t0
    obtain ⟨a1, rfl⟩ := one_int t1
    obtain ⟨a2, rfl⟩ := one_int t2
    obtain ⟨a3, rfl⟩ := one_int t3
    exact ⟨⟨a0, a1, a2, a3⟩, rfl⟩
/-- a slice of structs whose cells are numbers, opened -/
theorem rows_of {α : Type} [Inhabited α] {t e : TypeId} {k : Nat} (f : α → List Value) (hk : 0 < k) (hfl : ∀ y, (f y).length = k) (ht : Tryz.prog.underlying t = some (.slice e)) (hc : Tryz.prog.cellsOf e = k)
    (hel : ∀ (n : Nat) (cs : List Value) (x : DataW H × List MemPlace), DataW.trod enc Tryz.prog w base (fun _ => true) held n e cs = some x → ∃ y, cs = f y)
    {c : Value} (h : DataW.trod enc Tryz.prog w base (fun _ => true) held fuel t [c] = some x) :
    ∃ (p : Option Addr) (cap : Nat) (l : List α), c = .slice p l.length cap ∧ (l = [] ∨ ∃ es ss, x.1 = .slice es ss ∧ es.length = l.length) ∧ (l = [] ∨ ∃ b o, p = some ⟨b, o, none⟩ ∧ b < w.heap.size ∧ ∀ i y, l[i]? = some y → ∀ j, j < k → w.cell? ⟨b, o + i * k + j, none⟩ = (f y)[j]?) ∧ l.length ≤ cap := by
  rcases open_slice ht h with ⟨h0, _⟩ | ⟨a, len, cap, m, n, D, Pl, hcs, hb, hl, hm, hmm, hx, hi⟩
  · simp at h0
    exact ⟨none, 0, [], h0, .inl rfl, .inl rfl, Nat.le_refl _⟩
  · simp at hcs hmm
    rw [hc] at hi
    obtain ⟨g, hg⟩ := choose_lt (n := len) (p := fun i y => w.cells? base (a.add (i * k)) k = some (f y)) (fun i hil => by
      obtain ⟨cs', h1, h2⟩ := hi i (by omega)
      obtain ⟨y, rfl⟩ := hel _ _ _ h2
      exact ⟨y, h1⟩)
    refine ⟨some a, cap, (List.range len).map g, by simpa using hcs, .inr ⟨_, _, congrArg Prod.fst hx, by simp⟩, ?_, by simpa using hl⟩
    by_cases h0 : len = 0
    · exact .inl (by simp [h0])
    right
    have hcell : ∀ i, i < len → ∀ j, j < k → w.cell? ((a.add (i * k)).add j) = (f (g i))[j]? := fun i hil j hj => (World.cells?_some (hg i hil)).2.2 j hj
    have hz := hcell 0 (by omega) 0 hk
    rw [Nat.zero_mul] at hz
    have he : ((a.add 0).add 0) = a := by simp [Addr.add]
    rw [he, List.getElem?_eq_getElem (by rw [hfl]; exact hk)] at hz
    have hsp := World.cell?_spot hz
    obtain ⟨b, o, s⟩ := a
    simp only at hsp
    subst hsp
    refine ⟨b, o, rfl, Go.Ai.lt_of_cell hz, fun i y hy j hj => ?_⟩
    simp only [List.getElem?_map, Option.map_eq_some_iff] at hy
    obtain ⟨i', hi', rfl⟩ := hy
    obtain ⟨hil, rfl⟩ : i < len ∧ i' = i := by
      have := List.getElem?_eq_some_iff.1 hi'
      obtain ⟨h1, h2⟩ := this
      simp at h1 h2
      exact ⟨h1, h2.symm⟩
    have := hcell _ hil j hj
    rw [add_plain, add_plain] at this
    exact this
end
def vlaid : List (String × DataW Unit) := [("decani/voice.nothing", Rows.laid_decani_voice_nothing), ("decani/voice.bounds", Rows.laid_decani_voice_bounds)]
theorem vdoor_met (os : Os) (args : Array Value) : laidMetH Tryz.prog vlaid ((World.doorLaid Tryz.prog 400 os).forCall (fun _ _ => 0) ⟨#[], args, []⟩).memory :=
  laidMetH_of_parts3 (fuel := 8) (laidMet_of_run' 8 (by kernel_rfl) (by kernel_rfl)) (by kernel_rfl) (by kernel_rfl)

/-- An array of pairs of integers, cell for cell. -/
theorem pairs_of_trod {H : Type} {enc : TypeId × Value → H} {P : Program} {w : World} {base : Nat} {sp : Nat → Bool} {held : Bool} {fuel : Nat} {t e u : TypeId} {n : Nat} {k : IntKind} {f0 f1 : Field} {cs : List Value} {l : List (Int × Int)} {q : List MemPlace}
    (ht : P.underlying t = some (.array n e)) (he : P.underlying e = some (.struct #[f0, f1])) (hu : P.underlying u = some (.int k)) (h0 : f0.type = u) (h1 : f1.type = u) (o0 : f0.offset = 0) (o1 : f1.offset = 1) (ce : P.cellsOf e = 2) (cu : P.cellsOf u = 1)
    (h : DataW.trod enc P w base sp held fuel t cs = some (.agg (l.map fun p => .agg [.lit (.int k p.1), .lit (.int k p.2)]), q)) : ∀ (i : Nat) (p : Int × Int), l[i]? = some p → cs[2 * i]? = some (.int k p.1) ∧ cs[2 * i + 1]? = some (.int k p.2) := by
  intro i p hp
  obtain ⟨xs, m, _, hx, hl, hn, hel⟩ := DataW.trod_array ht h
  simp only [Prod.mk.injEq, DataW.agg.injEq] at hx
  have hi : i < l.length := by
    rcases Nat.lt_or_ge i l.length with h' | h'
    · exact h'
    · rw [List.getElem?_eq_none h'] at hp; cases hp
  have hxl : xs.length = l.length := by
    have := congrArg List.length hx.1
    simpa using this.symm
  obtain ⟨y, hy⟩ : ∃ y, xs[i]? = some y := ⟨xs[i], by simp [show i < xs.length by omega]⟩
  have hy1 : y.1 = .agg [.lit (.int k p.1), .lit (.int k p.2)] := by
    have := congrArg (fun z => z[i]?) hx.1
    simp only [List.getElem?_map, hp, hy, Option.map_some, Option.some.injEq] at this
    exact this.symm
  have hE := hel i (by omega)
  rw [hy, ce] at hE
  obtain ⟨y0, y1, m', hyy, _, t0, t1⟩ := trod_struct2 he hE
  rw [h0, o0, cu] at t0
  rw [h1, o1, cu] at t1
  obtain ⟨z0, c0, e0, _⟩ := DataW.trod_int hu t0
  obtain ⟨z1, c1, e1, _⟩ := DataW.trod_int hu t1
  rw [hyy, e0, e1] at hy1
  simp only [DataW.agg.injEq, List.cons.injEq, DataW.lit.injEq, Lit.int.injEq, true_and, and_true] at hy1
  obtain ⟨rfl, rfl⟩ := hy1
  refine ⟨?_, ?_⟩
  · have := congrArg (fun z => z[0]?) c0
    simp [List.getElem?_take, List.getElem?_drop] at this
    rw [Nat.mul_comm]
    exact this
  · have := congrArg (fun z => z[0]?) c1
    simp [List.getElem?_take, List.getElem?_drop] at this
    rw [Nat.mul_comm]
    exact this

def bndL : List (Int × Int) := [(40, 2), (40, 2), (2, 1), (6, 2), (9, 3)]
def bndF : List Int := [40, 2, 40, 2, 2, 1, 6, 2, 9, 3]
theorem of_vlaid {W : World} (h : laidMetH Tryz.prog vlaid W) : (∀ i, i < 5 → W.cell? ⟨0, i, none⟩ = some (.int .i64 (-1))) ∧ ∀ i, i < 10 → W.cell? ⟨1, i, none⟩ = some (.int .i64 (bndF.getD i 0)) := by
  rw [MakeChecks.laidMetH_plain _ _ _ (by kernel_rfl)] at h
  refine ⟨fun i hi => ?_, ?_⟩
  · have hT := Lib.tabIs_of_head (k := .i64) (zs := [-1, -1, -1, -1, -1]) gNoth tNoth Tryz.underlying84 Tryz.underlying3 vcI vcN h
    have := hT.cell gNoth i hi
    rw [this]
    match i, hi with
    | 0, _ => rfl
    | 1, _ => rfl
    | 2, _ => rfl
    | 3, _ => rfl
    | 4, _ => rfl
  · obtain ⟨ps, ⟨_, _, _, _, _, _, _, _, _, _, ⟨g, t, cs, fuel, p, q, hg, ht, hv, hd, _⟩, _⟩, _⟩ := h
    obtain rfl := Option.some.inj (gBnds.symm.trans hg)
    obtain rfl := Option.some.inj (tBnds.symm.trans ht)
    have hp := pairs_of_trod (l := bndL) Tryz.underlying130 Tryz.underlying129 Tryz.underlying3 rfl rfl rfl rfl vcP vcI hd
    have cell : ∀ i v, cs.toList[i]? = some v → W.cell? ⟨1, i, none⟩ = some v := fun i v hv' => by
      have := World.var?_cell hg hv i
      rw [this, ← Array.getElem?_toList]
      exact hv'
    intro i hi
    match i, hi with
    | 0, _ => exact cell 0 _ (hp 0 _ rfl).1
    | 1, _ => exact cell 1 _ (hp 0 _ rfl).2
    | 2, _ => exact cell 2 _ (hp 1 _ rfl).1
    | 3, _ => exact cell 3 _ (hp 1 _ rfl).2
    | 4, _ => exact cell 4 _ (hp 2 _ rfl).1
    | 5, _ => exact cell 5 _ (hp 2 _ rfl).2
    | 6, _ => exact cell 6 _ (hp 3 _ rfl).1
    | 7, _ => exact cell 7 _ (hp 3 _ rfl).2
    | 8, _ => exact cell 8 _ (hp 4 _ rfl).1
    | 9, _ => exact cell 9 _ (hp 4 _ rfl).2


theorem kept_but {W W' : World} (hb : Below W.heap.size W W') (may : MemPlace → Prop) : W.keptBut W' may := by
  refine ⟨hb.os, hb.output, fun i hi => ?_⟩
  rw [hb.block i hi]
  cases W.heap[i]? with
  | none => rfl
  | some o => cases o <;> first | exact ⟨rfl, rfl, rfl, fun _ _ => rfl⟩ | exact .inr ⟨rfl, rfl⟩ | rfl

theorem okWide_arr {P : Program} {w : World} {r : Reach} {base n : Nat} {t e : TypeId} {v : Value} (ht : P.underlying t = some (.array n e)) (h : Value.okWide P w r base t v) : ∃ cs, v = .agg cs ∧ cs.size = P.cellsOf t := by
  simp only [Value.okWide, ht] at h
  obtain ⟨cs, h1, h2, _⟩ := h
  exact ⟨cs, h1, h2⟩
theorem len3 {α : Type} {l : List α} (h : l.length = 3) : ∃ a b c, l = [a, b, c] := by
  match l, h with
  | [a, b, c], _ => exact ⟨a, b, c, rfl⟩
theorem vbB : Tryz.prog.bytesOf 73 = 88 := by kernel_rfl
theorem vbT : Tryz.prog.bytesOf 49 = 32 := by kernel_rfl
theorem few_boys {H : Type} {y : DataW H} {k : Nat} (hw : ∀ n ∈ y.weights Tryz.prog 22, n ≤ reachBytes) (h : ∃ es ss, y = .slice es ss ∧ es.length = k) : k ≤ 140737488355328 := by
  obtain ⟨es, ss, rfl, rfl⟩ := h
  have := hw ((es.length + ss.length) * Tryz.prog.bytesOf 73) (by simp [DataW.weights, Tryz.underlying22])
  rw [vbB] at this
  have := reachBytes_lt
  omega
theorem few_trials {H : Type} {y : DataW H} {k : Nat} (hw : ∀ n ∈ y.weights Tryz.prog 23, n ≤ reachBytes) (h : ∃ es ss, y = .slice es ss ∧ es.length = k) : k ≤ 140737488355328 := by
  obtain ⟨es, ss, rfl, rfl⟩ := h
  have := hw ((es.length + ss.length) * Tryz.prog.bytesOf 49) (by simp [DataW.weights, Tryz.underlying23])
  rw [vbT] at this
  have := reachBytes_lt
  omega
theorem book_weights {H : Type} {y0 y1 y2 : DataW H} {ts : List TypeId} {ds : List (DataW H)} (h : (DataW.weightsEach Tryz.prog (25 :: ts) (.agg [y0, y1, y2] :: ds)).all (· ≤ reachBytes) = true) :
    (∀ n ∈ y0.weights Tryz.prog 22, n ≤ reachBytes) ∧ ∀ n ∈ y2.weights Tryz.prog 23, n ≤ reachBytes := by
  have hall := fun n hn => of_decide_eq_true (List.all_eq_true.1 h n hn)
  have hin : ∀ n, n ∈ (DataW.agg [y0, y1, y2]).weights Tryz.prog 25 → n ≤ reachBytes := fun n hn => hall n (DataW.weights_mem_each (j := 0) rfl rfl n hn)
  refine ⟨fun n hn => hin n ?_, fun n hn => hin n ?_⟩
  · simp only [DataW.weights, Tryz.underlying25]
    exact DataW.weights_mem_each (j := 0) rfl rfl n hn
  · simp only [DataW.weights, Tryz.underlying25]
    exact DataW.weights_mem_each (j := 2) rfl rfl n hn
end Go.Proofs.YtcgihkaglonnaaaGreatDoor
set_option linter.all false
namespace Go.Proofs.YtcgihkaglonnaaaGreatDoor
open Go.RowKit Go.Sort Go.Rg
set_option maxRecDepth 100000

def cmpI (x y : Int) : Int := if x < y then -1 else if y < x then 1 else 0
def lexC : List Nat → List Nat → Int
  | [], [] => 0
  | [], _ :: _ => -1
  | _ :: _, [] => 1
  | x :: xs, y :: ys => if cmpI x y = 0 then lexC xs ys else cmpI x y
def ordC (l m : List Nat) : Int := if cmpI l.length m.length = 0 then lexC l m else cmpI l.length m.length

theorem cmp_any (x y : Int) (w : World) : Calls Tryz.prog 113 #[.int .i64 x, .int .i64 y] w fun e w' => e = .returned (.int .i64 (cmpI x y)) ∧ w = w' := by
  by_cases h1 : x < y
  · have h2 : decide (x < y) = true := by simpa using h1
    have H : cmpI x y = -1 := by simp [cmpI, h1]
    rw [H]; clear H h1
    go_enter Tryz.func113, Tryz.ntmps113
    go_wp2
    go_ret
    exact ⟨rfl, rfl⟩
  · have h2 : decide (x < y) = false := by simpa using h1
    by_cases h3 : y < x
    · have h4 : decide (y < x) = true := by simpa using h3
      have H : cmpI x y = 1 := by simp [cmpI, h1, h3]
      rw [H]; clear H h1 h3
      go_enter Tryz.func113, Tryz.ntmps113
      go_wp2
      go_ret
      exact ⟨rfl, rfl⟩
    · have h4 : decide (y < x) = false := by simpa using h3
      have H : cmpI x y = 0 := by simp [cmpI, h1, h3]
      rw [H]; clear H h1 h3
      go_enter Tryz.func113, Tryz.ntmps113
      go_wp2
      go_ret
      exact ⟨rfl, rfl⟩

set_option maxHeartbeats 2000000 in
theorem lex_any (v1 v2 : Value) (l m : List Nat) (w : World) (h1 : ListAt w v1 l) (h2 : ListAt w v2 m) (hl : l.length ≤ 100) (hm : m.length ≤ 100) :
    Calls Tryz.prog 114 #[v1, v2] w fun e w' => e = .returned (.int .i64 (lexC l m)) ∧ Kept w w' := by
  obtain ⟨p1, cap1, rfl⟩ := listAt_len h1
  obtain ⟨p2, cap2, rfl⟩ := listAt_len h2
  go_enter Tryz.func114, Tryz.ntmps114
  go_wp2_with fail
  go_loopw [11] (fun i W => ∃ k : Nat, k ≤ l.length ∧ k ≤ m.length ∧ i = .int .i64 k ∧ lexC l m = lexC (l.drop k) (m.drop k) ∧ Kept w W) (fun i W => l.length - (intOf i).toNat)
  case atStart => exact ⟨0, by omega, by omega, rfl, rfl, kept_refl _⟩
  case round =>
    obtain ⟨k, hk, hkm, rfl, hlex, hkW⟩ := hrel
    rename_i W
    by_cases hlt : k < l.length
    · have hltI : (k : Int) < l.length := by omega
      have hget : l[k]? = some l[k] := List.getElem?_eq_getElem hlt
      have hd1 : l.drop k = l[k] :: l.drop (k + 1) := List.drop_eq_getElem_cons hlt
      rw [hd1] at hlex
      generalize l[k] = x at *
      rcases h1.kept hkW with ⟨_, rfl⟩ | ⟨b, cap', e, hb, hc⟩
      · simp at hlt
      cases e
      replace hc := hc k x hget
      clear hd1 hget
      by_cases hlt2 : k < m.length
      · have hltJ : ¬ (k : Int) ≥ m.length := by omega
        have hltK : (k : Int) < m.length := by omega
        have hget2 : m[k]? = some m[k] := List.getElem?_eq_getElem hlt2
        have hd2 : m.drop k = m[k] :: m.drop (k + 1) := List.drop_eq_getElem_cons hlt2
        rw [hd2] at hlex
        generalize m[k] = y at *
        rcases h2.kept hkW with ⟨_, rfl⟩ | ⟨b2, cap2', e, hb2, hc2⟩
        · simp at hlt2
        cases e
        replace hc2 := hc2 k y hget2
        clear hd2 hget2
        simp only [lexC] at hlex
        by_cases hz : cmpI x y = 0
        · rw [if_pos hz] at hlex
          have HL := Lib.hid hlex; clear hlex
          have hz1 : (cmpI x y == 0) = true := by simpa using hz
          have HC := Lib.hid (cmp_any x y)
          generalize cmpI x y = c at *
          subst hz
          clear hz1
          go_wp2_with (go_at_call 113; refine (HC.out _).mono ?_; rintro e w' ⟨rfl, rfl⟩)
          go_roundw
          case rel => exact ⟨k + 1, by omega, by omega, by go_num, HL.out, hkW⟩
          case measure => simp [intOf]; omega
        · rw [if_neg hz] at hlex
          have HL := Lib.hid hlex; clear hlex
          have hz1 : (cmpI x y == 0) = false := by simpa using hz
          have HC := Lib.hid (cmp_any x y)
          generalize cmpI x y = c at *
          go_wp2_with (go_at_call 113; refine (HC.out _).mono ?_; rintro e w' ⟨rfl, rfl⟩)
          go_ret
          rw [HL.out]
          exact ⟨rfl, hkW⟩
      · have hltJ : (k : Int) ≥ m.length := by omega
        have hd2 : m.drop k = [] := List.drop_eq_nil_iff.2 (by omega)
        rw [hd2] at hlex
        simp only [lexC] at hlex
        have HL := Lib.hid hlex; clear hlex hd2
        go_wp2_with fail
        go_ret
        rw [HL.out]
        exact ⟨rfl, hkW⟩
    · have hltI : ¬ (k : Int) < l.length := by omega
      have hd1 : l.drop k = [] := List.drop_eq_nil_iff.2 (by omega)
      rw [hd1] at hlex
      by_cases hlt2 : (l.length : Int) < m.length
      · have hd2 : lexC [] (m.drop k) = -1 := by
          cases e : m.drop k with
          | nil => have := List.drop_eq_nil_iff.1 e; omega
          | cons a b => rfl
        rw [hd2] at hlex
        have HL := Lib.hid hlex; clear hlex hd2 hd1
        go_wp2_with fail
        go_ret
        rw [HL.out]
        exact ⟨rfl, hkW⟩
      · have hd2 : m.drop k = [] := List.drop_eq_nil_iff.2 (by omega)
        rw [hd2] at hlex
        simp only [lexC] at hlex
        have HL := Lib.hid hlex; clear hlex hd2 hd1
        go_wp2_with fail
        go_ret
        rw [HL.out]
        exact ⟨rfl, hkW⟩

set_option maxHeartbeats 1000000 in
theorem or2_any (x y : Int) (b cap : Nat) (w : World) (h0 : w.cell? ⟨b, 0, none⟩ = some (.int .i64 x)) (h1 : w.cell? ⟨b, 1, none⟩ = some (.int .i64 y)) :
    Calls Tryz.prog 112 #[.slice (some ⟨b, 0, none⟩) 2 cap] w fun e w' => e = .returned (.int .i64 (if x = 0 then y else x)) ∧ Kept w w' := by
  generalize hr : (if x = 0 then y else x) = r
  go_enter Tryz.func112, Tryz.ntmps112
  go_wp2_with fail
  go_loopw [8] (fun i W => (i = .int .i64 0 ∨ i = .int .i64 1 ∧ x = 0 ∨ i = .int .i64 2 ∧ x = 0 ∧ y = 0) ∧ Kept w W) (fun i W => 2 - (intOf i).toNat)
  case atStart => exact ⟨.inl rfl, kept_refl _⟩
  case round =>
    rename_i W
    obtain ⟨hi, hkW⟩ := hrel
    have c0 := kcell hkW h0
    have c1 := kcell hkW h1
    rcases hi with rfl | ⟨rfl, rfl⟩ | ⟨rfl, rfl, rfl⟩
    · by_cases hz : x = 0
      · rw [if_pos hz] at hr
        subst hz hr
        go_wp2_with fail
        go_roundw
        case rel => exact ⟨by simp, hkW⟩
        case measure => simp [intOf]
      · rw [if_neg hz] at hr
        subst hr
        have hz1 : (x == 0) = false := by simpa using hz
        go_wp2_with fail
        go_ret
        exact ⟨rfl, hkW⟩
    · rw [if_pos rfl] at hr
      subst hr
      by_cases hz : y = 0
      · subst hz
        go_wp2_with fail
        go_roundw
        case rel => exact ⟨by simp, hkW⟩
        case measure => simp [intOf]
      · have hz1 : (y == 0) = false := by simpa using hz
        go_wp2_with fail
        go_ret
        exact ⟨rfl, hkW⟩
    · rw [if_pos rfl] at hr
      subst hr
      go_wp2_with fail
      go_ret
      exact ⟨rfl, hkW⟩
end Go.Proofs.YtcgihkaglonnaaaGreatDoor
set_option linter.all false
namespace Go.Proofs.YtcgihkaglonnaaaGreatDoor

/-- the numbers below n of which something is so -/
def F (n : Nat) (p : Nat → Bool) : List Nat := (List.range n).filter p
theorem F_succ (n : Nat) (p : Nat → Bool) : F (n + 1) p = F n p ++ (if p n then [n] else []) := by
  unfold F
  rw [List.range_succ, List.filter_append]
  congr 1
  simp only [List.filter_cons, List.filter_nil]
theorem F_mem {n k : Nat} {p : Nat → Bool} : k ∈ F n p ↔ k < n ∧ p k = true := by simp [F]
theorem F_lt (n : Nat) (p : Nat → Bool) : (F n p).Pairwise (· < ·) := (List.pairwise_lt_range).filter _
theorem F_le {n : Nat} {p q : Nat → Bool} (h : ∀ k, k < n → p k = true → q k = true) : (F n p).length ≤ (F n q).length := by
  induction n with
  | zero => simp [F]
  | succ n ih =>
    have h1 := ih (fun k hk => h k (by omega))
    have h2 := h n (by omega)
    rw [F_succ, F_succ, List.length_append, List.length_append]
    cases hp : p n with
    | false => simp; omega
    | true => rw [h2 hp]; simp; omega
theorem F_eq {n : Nat} {p q : Nat → Bool} (h : ∀ k, k < n → p k = true → q k = true) (e : (F n p).length = (F n q).length) : ∀ k, k < n → q k = true → p k = true := by
  induction n with
  | zero => intro k hk; omega
  | succ n ih =>
    have h0 := F_le (n := n) (p := p) (q := q) (fun k hk => h k (by omega))
    have h2 := h n (by omega)
    rw [F_succ, F_succ, List.length_append, List.length_append] at e
    intro k hk hq
    cases hp : p n with
    | false =>
      cases hqn : q n with
      | false =>
        rw [hp, hqn] at e
        simp at e
        by_cases hkn : k = n
        · subst hkn; rw [hqn] at hq; cases hq
        · exact ih (fun k hk => h k (by omega)) e k (by omega) hq
      | true => rw [hp, hqn] at e; simp at e; omega
    | true =>
      rw [hp, h2 hp] at e
      simp at e
      by_cases hkn : k = n
      · subst hkn; exact hp
      · exact ih (fun k hk => h k (by omega)) e k (by omega) hq
theorem F_or {n : Nat} {p q : Nat → Bool} (h : ∀ k, k < n → p k = true → q k = false) : (F n fun k => p k || q k).length = (F n p).length + (F n q).length := by
  induction n with
  | zero => simp [F]
  | succ n ih =>
    have h1 := ih (fun k hk => h k (by omega))
    have h2 := h n (by omega)
    rw [F_succ, F_succ, F_succ, List.length_append, List.length_append, List.length_append, h1]
    cases hp : p n with
    | false => cases hq : q n <;> simp <;> omega
    | true => rw [h2 hp]; simp; omega
def anyB (M : Nat → Nat → Bool) (m k : Nat) : Bool := (List.range m).any fun i => M i k
theorem anyB_succ (M : Nat → Nat → Bool) (m k : Nat) : anyB M (m + 1) k = (anyB M m k || M m k) := by
  unfold anyB
  rw [List.range_succ, List.any_append]
  simp
theorem anyB_true {M : Nat → Nat → Bool} {m k : Nat} : anyB M m k = true ↔ ∃ i, i < m ∧ M i k = true := by simp [anyB]
theorem F_any {n : Nat} {own : Nat → Nat} {M : Nat → Nat → Bool} (hM : ∀ i k, k < n → M i k = true → own k = i) (m : Nat) :
    (F n (anyB M (m + 1))).length = (F n (anyB M m)).length + (F n (M m)).length := by
  rw [← F_or]
  · congr 2
    funext k
    exact anyB_succ M m k
  · intro k hk hp
    obtain ⟨i, hi, h1⟩ := anyB_true.1 hp
    cases h : M m k with
    | false => rfl
    | true =>
      have := hM i k hk h1
      have := hM m k hk h
      omega

theorem lex_iff : ∀ (a b : List Nat), a.Pairwise (· < ·) → b.Pairwise (· < ·) → a.length = b.length → (lexC a b < 0 ↔ ∃ k, k ∈ a ∧ ¬ k ∈ b ∧ ∀ j, j < k → (j ∈ a ↔ j ∈ b))
  | [], [], _, _, _ => by simp [lexC]
  | [], _ :: _, _, _, h => by simp at h
  | _ :: _, [], _, _, h => by simp at h
  | x :: a, y :: b, ha, hb, h => by
    rw [List.pairwise_cons] at ha hb
    have ih := lex_iff a b ha.2 hb.2 (by simpa using h)
    have hx := ha.1
    have hy := hb.1
    simp only [lexC]
    rcases Nat.lt_trichotomy x y with e | e | e
    · have h1 : cmpI (x : Int) y = -1 := by unfold cmpI; rw [if_pos (by omega)]
      rw [h1]
      refine ⟨fun _ => ⟨x, by simp, ?_, fun j hj => ?_⟩, fun _ => by simp⟩
      · intro hm
        rcases List.mem_cons.1 hm with e2 | e2
        · omega
        · have := hy x e2; omega
      · constructor
        · intro hm
          rcases List.mem_cons.1 hm with e2 | e2
          · omega
          · have := hx j e2; omega
        · intro hm
          rcases List.mem_cons.1 hm with e2 | e2
          · omega
          · have := hy j e2; omega
    · subst e
      have h1 : cmpI (x : Int) x = 0 := by simp [cmpI]
      rw [h1, if_pos rfl, ih]
      constructor
      · rintro ⟨k, k1, k2, k3⟩
        have hxk := hx k k1
        refine ⟨k, List.mem_cons_of_mem _ k1, fun hm => ?_, fun j hj => ?_⟩
        · rcases List.mem_cons.1 hm with e2 | e2
          · omega
          · exact k2 e2
        · rw [List.mem_cons, List.mem_cons, k3 j hj]
      · rintro ⟨k, k1, k2, k3⟩
        have k1' : k ∈ a := by
          rcases List.mem_cons.1 k1 with e2 | e2
          · subst e2; exact absurd List.mem_cons_self k2
          · exact e2
        refine ⟨k, k1', fun hm => k2 (List.mem_cons_of_mem _ hm), fun j hj => ?_⟩
        have h3 := k3 j hj
        rw [List.mem_cons, List.mem_cons] at h3
        constructor
        · intro hm
          have := hx j hm
          rcases h3.1 (.inr hm) with e2 | e2
          · omega
          · exact e2
        · intro hm
          have := hy j hm
          rcases h3.2 (.inr hm) with e2 | e2
          · omega
          · exact e2
    · have h1 : cmpI (x : Int) y = 1 := by unfold cmpI; rw [if_neg (by omega), if_pos (by omega)]
      rw [h1]
      refine ⟨fun h => by simp at h, ?_⟩
      rintro ⟨k, k1, k2, k3⟩
      exfalso
      have hk : x ≤ k := by
        rcases List.mem_cons.1 k1 with e2 | e2
        · omega
        · have := hx k e2; omega
      have h4 := (k3 y (by omega)).2 List.mem_cons_self
      rcases List.mem_cons.1 h4 with e2 | e2
      · omega
      · have := hx y e2; omega
theorem ord_cases {a b : List Nat} (h : ordC a b < 0) : a.length < b.length ∨ (a.length = b.length ∧ lexC a b < 0) := by
  unfold ordC at h
  by_cases e : cmpI (a.length : Int) b.length = 0
  · rw [if_pos e] at h
    refine .inr ⟨?_, h⟩
    unfold cmpI at e
    split at e
    · cases e
    · split at e
      · cases e
      · omega
  · rw [if_neg e] at h
    left
    unfold cmpI at h
    split at h
    · omega
    · split at h <;> simp at h
theorem ord_less {a b : List Nat} (h : a.length < b.length) : ordC a b < 0 := by
  have h1 : cmpI (a.length : Int) b.length = -1 := by unfold cmpI; rw [if_pos (by omega)]
  unfold ordC
  rw [h1]; simp
theorem ord_lex {a b : List Nat} (h : a.length = b.length) (h2 : lexC a b < 0) : ordC a b < 0 := by
  have h1 : cmpI (a.length : Int) b.length = 0 := by unfold cmpI; rw [if_neg (by omega), if_neg (by omega)]
  unfold ordC
  rw [h1, if_pos rfl]; exact h2

/-- the best for each is the best for all -/
theorem best_all {n nb : Nat} {own : Nat → Nat} {M V : Nat → Nat → Bool} (hM : ∀ i k, k < n → M i k = true → own k = i) (hV : ∀ i k, k < n → V i k = true → own k = i)
    (hmin : ∀ i, i < nb → ¬ ordC (F n (V i)) (F n (M i)) < 0) {o : Nat → Bool} (ho : ∀ i k, i < nb → k < n → V i k = true → o k = true) :
    ¬ ordC (F n o) (F n (anyB M nb)) < 0 := by
  have hle : ∀ i, i < nb → (F n (M i)).length ≤ (F n (V i)).length := fun i hi => by
    rcases Nat.lt_or_ge (F n (V i)).length (F n (M i)).length with h | h
    · exact absurd (ord_less h) (hmin i hi)
    · exact h
  have hA : ∀ m, m ≤ nb → (F n (anyB M m)).length ≤ (F n (anyB V m)).length := by
    intro m
    induction m with
    | zero => intro _; exact F_le (fun k _ h => by simp [anyB] at h)
    | succ m ih =>
      intro hm
      rw [F_any hM, F_any hV]
      have := ih (by omega)
      have := hle m (by omega)
      omega
  have hE : ∀ m, m ≤ nb → (F n (anyB M m)).length = (F n (anyB V m)).length → ∀ i, i < m → (F n (M i)).length = (F n (V i)).length := by
    intro m
    induction m with
    | zero => intro _ _ i hi; omega
    | succ m ih =>
      intro hm he i hi
      rw [F_any hM, F_any hV] at he
      have h1 := hA m (by omega)
      have h2 := hle m (by omega)
      by_cases e : i = m
      · subst e; omega
      · exact ih (by omega) (by omega) i (by omega)
  have hsub : ∀ k, k < n → anyB V nb k = true → o k = true := fun k hk h => by
    obtain ⟨i, hi, h1⟩ := anyB_true.1 h
    exact ho i k hi hk h1
  have hVo := F_le hsub
  have hMV := hA nb (Nat.le_refl _)
  intro hlt
  rcases ord_cases hlt with h | ⟨h, hlex⟩
  · omega
  · have hall := F_eq hsub (by omega)
    have hl := hE nb (Nat.le_refl _) (by omega)
    obtain ⟨k, k1, k2, k3⟩ := (lex_iff _ _ (F_lt _ _) (F_lt _ _) h).1 hlex
    obtain ⟨hkn, hko⟩ := F_mem.1 k1
    obtain ⟨i, hi, hvi⟩ := anyB_true.1 (hall k hkn hko)
    refine hmin i hi (ord_lex (hl i hi).symm ((lex_iff _ _ (F_lt _ _) (F_lt _ _) (hl i hi).symm).2 ⟨k, F_mem.2 ⟨hkn, hvi⟩, fun hm => k2 (F_mem.2 ⟨hkn, anyB_true.2 ⟨i, hi, (F_mem.1 hm).2⟩⟩), fun j hj => ?_⟩))
    have h3 := k3 j hj
    rw [F_mem, F_mem] at h3 ⊢
    constructor
    · rintro ⟨hjn, hvj⟩
      obtain ⟨i', hi', hm'⟩ := anyB_true.1 (h3.1 ⟨hjn, ho i j hi hjn hvj⟩).2
      have e1 := hV i j hjn hvj
      have e2 := hM i' j hjn hm'
      have : i' = i := by omega
      subst this
      exact ⟨hjn, hm'⟩
    · rintro ⟨hjn, hmj⟩
      have h4 := (h3.2 ⟨hjn, anyB_true.2 ⟨i, hi, hmj⟩⟩).2
      obtain ⟨i', hi', hv'⟩ := anyB_true.1 (hall j hjn h4)
      have e1 := hM i j hjn hmj
      have e2 := hV i' j hjn hv'
      have : i' = i := by omega
      subst this
      exact ⟨hjn, hv'⟩
theorem ordC_irrefl (a : List Nat) : ¬ ordC a a < 0 := by
  intro h
  rcases ord_cases h with h | ⟨_, h⟩
  · omega
  · have : ∀ l : List Nat, lexC l l = 0 := by
      intro l
      induction l with
      | nil => rfl
      | cons a l ih => simp [lexC, cmpI, ih]
    rw [this] at h; omega
end Go.Proofs.YtcgihkaglonnaaaGreatDoor
set_option linter.all false
namespace Go.Proofs.YtcgihkaglonnaaaGreatDoor
open Go.RowKit Go.Sort Go.Rg
set_option maxRecDepth 100000

set_option maxHeartbeats 2000000 in
theorem ord_any (v1 v2 : Value) (l m : List Nat) (w : World) (h1 : ListAt w v1 l) (h2 : ListAt w v2 m) (hl : l.length ≤ 100) (hm : m.length ≤ 100) :
    Calls Tryz.prog 111 #[v1, v2] w fun e w' => e = .returned (.int .i64 (ordC l m)) ∧ Kept w w' := by
  obtain ⟨p1, cap1, e1⟩ := listAt_len h1
  obtain ⟨p2, cap2, e2⟩ := listAt_len h2
  have HLx := Lib.hid (fun W (k : Kept w W) => lex_any v1 v2 l m W (h1.kept k) (h2.kept k) hl hm)
  rw [e1, e2] at HLx
  subst e1 e2
  have ho : (if cmpI l.length m.length = 0 then lexC l m else cmpI l.length m.length) = ordC l m := rfl
  have HC := Lib.hid (cmp_any (l.length : Int) (m.length : Int))
  generalize lexC l m = y at *
  generalize cmpI (l.length : Int) (m.length : Int) = x at *
  generalize ordC l m = r at *
  have HO := Lib.hid ho; clear ho
  go_enter Tryz.func111, Tryz.ntmps111
  go_wp2_with (first
    | (go_at_call 113; refine (HC.out _).mono ?_; rintro e w' ⟨rfl, rfl⟩)
    | (go_at_call 114; refine (HLx.out _ (kept_refl _)).mono ?_; rintro e W2 ⟨rfl, hk2⟩)
    | (go_at_call 112; refine (or2_any x y _ _ _ (by go_simp) (by go_simp)).mono ?_; rintro e W3 ⟨rfl, hk3⟩; rw [HO.out]))
  go_ret
  refine ⟨rfl, ?_⟩
  exact kept_trans (kept_alloc hk2 _) hk3
end Go.Proofs.YtcgihkaglonnaaaGreatDoor
set_option linter.all false
namespace Go.Proofs.YtcgihkaglonnaaaGreatDoor
open Go.RowKit Go.Sort Go.Rg
set_option maxRecDepth 100000

/-- a list of lists that can be read -/
def ListsAt (w : World) (v : Value) (L : List (List Nat)) : Prop :=
  ∃ b cap, v = .slice (some ⟨b, 0, none⟩) L.length cap ∧ ∀ i l, L[i]? = some l → ∃ x, w.cell? ⟨b, i, none⟩ = some x ∧ ListAt w x l
def minStep (m l : List Nat) : List Nat := if ordC l m < 0 then l else m
def minL : List (List Nat) → List Nat
  | [] => []
  | l :: L => L.foldl minStep l
theorem minL_succ (L : List (List Nat)) (k : Nat) (l : List Nat) (h : L[k]? = some l) (hk : 0 < k) : minL (L.take (k + 1)) = minStep (minL (L.take k)) l := by
  cases L with
  | nil => simp at h
  | cons a L =>
    obtain ⟨k, rfl⟩ : ∃ j, k = j + 1 := ⟨k - 1, by omega⟩
    simp only [List.getElem?_cons_succ] at h
    simp only [List.take_succ_cons, minL]
    rw [List.take_add_one, h]
    simp

set_option maxHeartbeats 2000000 in
theorem min_any (v : Value) (L : List (List Nat)) (w : World) (h : ListsAt w v L) (h0 : L ≠ []) (hl : ∀ l ∈ L, l.length ≤ 100) (hL : L.length ≤ 100000) :
    Calls Tryz.prog 110 #[v, .func (.func 111) #[] #[]] w fun e w' => ∃ x, e = .returned x ∧ Kept w w' ∧ ListAt w' x (minL L) := by
  obtain ⟨b, cap, rfl, hc⟩ := h
  have hlen : 0 < L.length := List.length_pos_iff.2 h0
  have hlt1 : ¬ (L.length : Int) < 1 := by omega
  have hltn : 0 < (L.length : Int) := by omega
  obtain ⟨x0, hx0, hx0l⟩ := hc 0 L[0] (List.getElem?_eq_getElem hlen)
  have hm0 : minL (L.take 1) = L[0] := by
    cases L with
    | nil => exact absurd rfl h0
    | cons a L => rfl
  rw [← hm0] at hx0l
  go_enter Tryz.func110, Tryz.ntmps110
  go_wp2_with fail
  go_loopw [5, 6] (fun m i W => ∃ k : Nat, 0 < k ∧ k ≤ L.length ∧ i = .int .i64 k ∧ ListAt W m (minL (L.take k)) ∧ Kept w W) (fun m i W => L.length - (intOf i).toNat)
  case atStart => exact ⟨1, by omega, by omega, rfl, hx0l, kept_refl _⟩
  case round =>
    obtain ⟨k, hk0, hk, rfl, hm, hkW⟩ := hrel
    by_cases hlt : k < L.length
    · have hltI : (k : Int) < L.length := by omega
      have hget : L[k]? = some L[k] := List.getElem?_eq_getElem hlt
      have hmin := minL_succ L k _ hget hk0
      have hml : ∀ j, j < k → (minL (L.take (j + 1))).length ≤ 100 := by
        intro j
        induction j with
        | zero => intro _; rw [hm0]; exact hl _ (List.getElem_mem _)
        | succ j ih =>
          intro hj
          rw [minL_succ L (j + 1) L[j + 1] (List.getElem?_eq_getElem (by omega)) (by omega)]
          unfold minStep
          split
          · exact hl _ (List.getElem_mem _)
          · exact ih (by omega)
      have hml2 := hml (k - 1) (by omega)
      rw [show k - 1 + 1 = k by omega] at hml2
      have hlk := hl _ (List.getElem_mem hlt)
      obtain ⟨x, hx, hxl⟩ := hc k L[k] hget
      generalize L[k] = l at *
      replace hx := kcell hkW hx
      replace hxl := hxl.kept hkW
      have HC := Lib.hid (ord_any x u5 l (minL (L.take k)) wr hxl hm hlk hml2)
      by_cases hneg : ordC l (minL (L.take k)) < 0
      · have hn : decide (ordC l (minL (L.take k)) < 0) = true := by simpa using hneg
        have HM := Lib.hid (show minL (L.take (k + 1)) = l by rw [hmin]; simp [minStep, hneg])
        have HX := Lib.hid hxl
        generalize ordC l (minL (L.take k)) = c at *
        clear hml hml2 hmin hm0 hm hx0l hxl hneg
        go_wp2_with (go_at_call 111; refine HC.out.mono ?_; rintro e W2 ⟨rfl, hk2⟩; have hx := kcell hk2 hx)
        go_roundw
        case rel => exact ⟨k + 1, by omega, by omega, by go_num, by rw [HM.out]; exact HX.out.kept hk2, kept_trans hkW hk2⟩
        case measure => simp [intOf]; omega
      · have hn : decide (ordC l (minL (L.take k)) < 0) = false := by simpa using hneg
        have HM := Lib.hid (show minL (L.take (k + 1)) = minL (L.take k) by rw [hmin]; simp [minStep, hneg])
        have HX := Lib.hid hm
        generalize ordC l (minL (L.take k)) = c at *
        clear hml hml2 hmin hm0 hm hx0l hxl hneg
        go_wp2_with (go_at_call 111; refine HC.out.mono ?_; rintro e W2 ⟨rfl, hk2⟩)
        go_roundw
        case rel => exact ⟨k + 1, by omega, by omega, by go_num, by rw [HM.out]; exact HX.out.kept hk2, kept_trans hkW hk2⟩
        case measure => simp [intOf]; omega
    · have hltI : ¬ (k : Int) < L.length := by omega
      have hke : L.take k = L := List.take_of_length_le (by omega)
      rw [hke] at hm
      have HX := Lib.hid hm; clear hm hx0l hm0
      go_wp2_with fail
      go_ret
      exact ⟨u5, rfl, hkW, HX.out⟩
end Go.Proofs.YtcgihkaglonnaaaGreatDoor
set_option linter.all false
namespace Go.Proofs.YtcgihkaglonnaaaGreatDoor
open Go.RowKit Go.Sort Go.Rg
set_option maxRecDepth 100000

def TBn (n : List Int) (loss : Int) (t : Trial) : Bool := TB (n.getD 0 0) (n.getD 1 0) (n.getD 2 0) (n.getD 3 0) (n.getD 4 0) loss t
def belB (B : Book) (boy : Nat) (x : Boy) (n : List Int) (i : Nat) : Bool := match B.trials[i]? with
  | some t => decide (t.boy = (boy : Int)) && TBn n x.ls t
  | none => false
/-- the trials of a boy that a truth belies, among the first k -/
def belL (B : Book) (boy : Nat) (x : Boy) (n : List Int) (k : Nat) : List Nat := (List.range k).filter (belB B boy x n)
theorem belL_succ (B : Book) (boy : Nat) (x : Boy) (n : List Int) (k : Nat) : belL B boy x n (k + 1) = belL B boy x n k ++ (if belB B boy x n k then [k] else []) := by
  unfold belL
  rw [List.range_succ, List.filter_append]
  congr 1
  simp only [List.filter_cons, List.filter_nil]
theorem belL_len (B : Book) (boy : Nat) (x : Boy) (n : List Int) (k : Nat) : (belL B boy x n k).length ≤ k := by
  have := List.length_filter_le (belB B boy x n) (List.range k)
  simpa [belL] using this

set_option maxHeartbeats 4000000 in
theorem belied_any (S : Nat → Prop) (c : Choir) (boy : Nat) (x : Boy) (hx : c.B.boys[boy]? = some x) (W : World) (h : ChoirAt S W c) (S2 : Nat → Prop) (cc : Choir) (hcc : ChoirAt S2 W cc) (hx2 : cc.B.boys[boy]? = some x) (n0 n1 n2 n3 n4 : Int) (hr : Rng x.lo x.hi [n0, n1, n2, n3, n4]) :
    Calls Tryz.prog 109 #[c.val, .agg #[.slice (some ⟨cc.bb, cc.ob, none⟩) cc.B.boys.length cc.capb, .int .i64 cc.B.weeks, .slice cc.q cc.B.trials.length cc.capt, .map (some cc.bm), .int .i64 (boy : Int), .int .i64 n0, .int .i64 n1, .int .i64 n2, .int .i64 n3, .int .i64 n4]] W fun e B => ∃ v, e = .returned v ∧ Kept W B ∧ B.ownsRow W.heap.size 3 1 v (belL c.B boy x [n0, n1, n2, n3, n4] c.B.trials.length).length (intsV (belL c.B boy x [n0, n1, n2, n3, n4] c.B.trials.length)) := by
  have hbl : boy < c.B.boys.length := (List.getElem?_eq_some_iff.1 hx).1
  have hok := h.ok
  simp only [Book.okB, inB, Bool.and_eq_true, decide_eq_true_eq, List.all_eq_true] at hok
  obtain ⟨⟨⟨⟨⟨hb1, hb4⟩, hw1, hw6⟩, ht6⟩, hbo⟩, hto⟩ := hok
  have hxo := hbo x (List.mem_of_getElem? hx)
  obtain ⟨hsp, hls⟩ := spanAt_ok x hxo
  have r1 := hr 1 n1 rfl
  have r2 := hr 2 n2 rfl
  have r3 := hr 3 n3 rfl
  have s1 := hsp 1 (by omega)
  have s2 := hsp 2 (by omega)
  have s3 := hsp 3 (by omega)
  have q1 : 0 ≤ n1 ∧ n1 ≤ 100 := by omega
  have q2 : 0 ≤ n2 ∧ n2 ≤ 100 := by omega
  have q3 : 0 ≤ n3 ∧ n3 ≤ 100 := by omega
  have q5 : 0 ≤ x.ls ∧ x.ls ≤ 100 := by omega
  have hTO : Hid (∀ t ∈ c.B.trials, 0 ≤ t.week ∧ t.week ≤ 100) := Lib.hid (fun t ht => by
    have := hto t ht
    simp only [validTrialB, inB, Bool.and_eq_true, decide_eq_true_eq] at this
    omega)
  clear hbo hto hxo hsp r1 r2 r3 s1 s2 s3 hr
  obtain ⟨i0, hi, hiz, his, hib⟩ := info_parts infoI
  unfold Choir.val
  have hls8 := (hcc.boys.2 boy x hx2).2.2.2.2.2.2.2.2.1
  have hbb := hcc.boys.1
  have hbl2 : boy < cc.B.boys.length := (List.getElem?_eq_some_iff.1 hx2).1
  have hb42 : cc.B.boys.length ≤ 4 := by
    have := hcc.ok
    simp only [Book.okB, inB, Bool.and_eq_true, decide_eq_true_eq] at this
    omega
  have htr := h.trials
  generalize c.q = q at *
  have HTR := Lib.hid htr; clear htr
  have hk0 : Kept W ((W.alloc (Obj.cells #[.slice (some ⟨c.bb, c.ob, none⟩) c.B.boys.length c.capb, .int .i64 c.B.weeks, .slice q c.B.trials.length c.capt, .map (some c.bm)] 70)).alloc (Obj.cells #[.slice (some ⟨cc.bb, cc.ob, none⟩) cc.B.boys.length cc.capb, .int .i64 cc.B.weeks, .slice cc.q cc.B.trials.length cc.capt, .map (some cc.bm), .int .i64 (boy : Int), .int .i64 n0, .int .i64 n1, .int .i64 n2, .int .i64 n3, .int .i64 n4] 86)) := kept_alloc (kept_alloc (kept_refl _) _) _
  have hz0 : ((W.alloc (Obj.cells #[.slice (some ⟨c.bb, c.ob, none⟩) c.B.boys.length c.capb, .int .i64 c.B.weeks, .slice q c.B.trials.length c.capt, .map (some c.bm)] 70)).alloc (Obj.cells #[.slice (some ⟨cc.bb, cc.ob, none⟩) cc.B.boys.length cc.capb, .int .i64 cc.B.weeks, .slice cc.q cc.B.trials.length cc.capt, .map (some cc.bm), .int .i64 (boy : Int), .int .i64 n0, .int .i64 n1, .int .i64 n2, .int .i64 n3, .int .i64 n4] 86)).heap.size = W.heap.size + 1 + 1 := by simp
  have c0 : ((W.alloc (Obj.cells #[.slice (some ⟨c.bb, c.ob, none⟩) c.B.boys.length c.capb, .int .i64 c.B.weeks, .slice q c.B.trials.length c.capt, .map (some c.bm)] 70)).alloc (Obj.cells #[.slice (some ⟨cc.bb, cc.ob, none⟩) cc.B.boys.length cc.capb, .int .i64 cc.B.weeks, .slice cc.q cc.B.trials.length cc.capt, .map (some cc.bm), .int .i64 (boy : Int), .int .i64 n0, .int .i64 n1, .int .i64 n2, .int .i64 n3, .int .i64 n4] 86)).cell? ⟨W.heap.size, 0, none⟩ = some (.slice (some ⟨c.bb, c.ob, none⟩) c.B.boys.length c.capb) := by go_simp
  have c1 : ((W.alloc (Obj.cells #[.slice (some ⟨c.bb, c.ob, none⟩) c.B.boys.length c.capb, .int .i64 c.B.weeks, .slice q c.B.trials.length c.capt, .map (some c.bm)] 70)).alloc (Obj.cells #[.slice (some ⟨cc.bb, cc.ob, none⟩) cc.B.boys.length cc.capb, .int .i64 cc.B.weeks, .slice cc.q cc.B.trials.length cc.capt, .map (some cc.bm), .int .i64 (boy : Int), .int .i64 n0, .int .i64 n1, .int .i64 n2, .int .i64 n3, .int .i64 n4] 86)).cell? ⟨W.heap.size, 1, none⟩ = some (.int .i64 c.B.weeks) := by go_simp
  have c2 : ((W.alloc (Obj.cells #[.slice (some ⟨c.bb, c.ob, none⟩) c.B.boys.length c.capb, .int .i64 c.B.weeks, .slice q c.B.trials.length c.capt, .map (some c.bm)] 70)).alloc (Obj.cells #[.slice (some ⟨cc.bb, cc.ob, none⟩) cc.B.boys.length cc.capb, .int .i64 cc.B.weeks, .slice cc.q cc.B.trials.length cc.capt, .map (some cc.bm), .int .i64 (boy : Int), .int .i64 n0, .int .i64 n1, .int .i64 n2, .int .i64 n3, .int .i64 n4] 86)).cell? ⟨W.heap.size, 2, none⟩ = some (.slice q c.B.trials.length c.capt) := by go_simp
  have c3 : ((W.alloc (Obj.cells #[.slice (some ⟨c.bb, c.ob, none⟩) c.B.boys.length c.capb, .int .i64 c.B.weeks, .slice q c.B.trials.length c.capt, .map (some c.bm)] 70)).alloc (Obj.cells #[.slice (some ⟨cc.bb, cc.ob, none⟩) cc.B.boys.length cc.capb, .int .i64 cc.B.weeks, .slice cc.q cc.B.trials.length cc.capt, .map (some cc.bm), .int .i64 (boy : Int), .int .i64 n0, .int .i64 n1, .int .i64 n2, .int .i64 n3, .int .i64 n4] 86)).cell? ⟨W.heap.size, 3, none⟩ = some (.map (some c.bm)) := by go_simp
  have d0 : ((W.alloc (Obj.cells #[.slice (some ⟨c.bb, c.ob, none⟩) c.B.boys.length c.capb, .int .i64 c.B.weeks, .slice q c.B.trials.length c.capt, .map (some c.bm)] 70)).alloc (Obj.cells #[.slice (some ⟨cc.bb, cc.ob, none⟩) cc.B.boys.length cc.capb, .int .i64 cc.B.weeks, .slice cc.q cc.B.trials.length cc.capt, .map (some cc.bm), .int .i64 (boy : Int), .int .i64 n0, .int .i64 n1, .int .i64 n2, .int .i64 n3, .int .i64 n4] 86)).cell? ⟨W.heap.size + 1, 0, none⟩ = some (.slice (some ⟨cc.bb, cc.ob, none⟩) cc.B.boys.length cc.capb) := by go_simp
  have d1 : ((W.alloc (Obj.cells #[.slice (some ⟨c.bb, c.ob, none⟩) c.B.boys.length c.capb, .int .i64 c.B.weeks, .slice q c.B.trials.length c.capt, .map (some c.bm)] 70)).alloc (Obj.cells #[.slice (some ⟨cc.bb, cc.ob, none⟩) cc.B.boys.length cc.capb, .int .i64 cc.B.weeks, .slice cc.q cc.B.trials.length cc.capt, .map (some cc.bm), .int .i64 (boy : Int), .int .i64 n0, .int .i64 n1, .int .i64 n2, .int .i64 n3, .int .i64 n4] 86)).cell? ⟨W.heap.size + 1, 1, none⟩ = some (.int .i64 cc.B.weeks) := by go_simp
  have d2 : ((W.alloc (Obj.cells #[.slice (some ⟨c.bb, c.ob, none⟩) c.B.boys.length c.capb, .int .i64 c.B.weeks, .slice q c.B.trials.length c.capt, .map (some c.bm)] 70)).alloc (Obj.cells #[.slice (some ⟨cc.bb, cc.ob, none⟩) cc.B.boys.length cc.capb, .int .i64 cc.B.weeks, .slice cc.q cc.B.trials.length cc.capt, .map (some cc.bm), .int .i64 (boy : Int), .int .i64 n0, .int .i64 n1, .int .i64 n2, .int .i64 n3, .int .i64 n4] 86)).cell? ⟨W.heap.size + 1, 2, none⟩ = some (.slice cc.q cc.B.trials.length cc.capt) := by go_simp
  have d3 : ((W.alloc (Obj.cells #[.slice (some ⟨c.bb, c.ob, none⟩) c.B.boys.length c.capb, .int .i64 c.B.weeks, .slice q c.B.trials.length c.capt, .map (some c.bm)] 70)).alloc (Obj.cells #[.slice (some ⟨cc.bb, cc.ob, none⟩) cc.B.boys.length cc.capb, .int .i64 cc.B.weeks, .slice cc.q cc.B.trials.length cc.capt, .map (some cc.bm), .int .i64 (boy : Int), .int .i64 n0, .int .i64 n1, .int .i64 n2, .int .i64 n3, .int .i64 n4] 86)).cell? ⟨W.heap.size + 1, 3, none⟩ = some (.map (some cc.bm)) := by go_simp
  have d4 : ((W.alloc (Obj.cells #[.slice (some ⟨c.bb, c.ob, none⟩) c.B.boys.length c.capb, .int .i64 c.B.weeks, .slice q c.B.trials.length c.capt, .map (some c.bm)] 70)).alloc (Obj.cells #[.slice (some ⟨cc.bb, cc.ob, none⟩) cc.B.boys.length cc.capb, .int .i64 cc.B.weeks, .slice cc.q cc.B.trials.length cc.capt, .map (some cc.bm), .int .i64 (boy : Int), .int .i64 n0, .int .i64 n1, .int .i64 n2, .int .i64 n3, .int .i64 n4] 86)).cell? ⟨W.heap.size + 1, 4, none⟩ = some (.int .i64 (boy : Int)) := by go_simp
  have d5 : ((W.alloc (Obj.cells #[.slice (some ⟨c.bb, c.ob, none⟩) c.B.boys.length c.capb, .int .i64 c.B.weeks, .slice q c.B.trials.length c.capt, .map (some c.bm)] 70)).alloc (Obj.cells #[.slice (some ⟨cc.bb, cc.ob, none⟩) cc.B.boys.length cc.capb, .int .i64 cc.B.weeks, .slice cc.q cc.B.trials.length cc.capt, .map (some cc.bm), .int .i64 (boy : Int), .int .i64 n0, .int .i64 n1, .int .i64 n2, .int .i64 n3, .int .i64 n4] 86)).cell? ⟨W.heap.size + 1, 5, none⟩ = some (.int .i64 n0) := by go_simp
  have d6 : ((W.alloc (Obj.cells #[.slice (some ⟨c.bb, c.ob, none⟩) c.B.boys.length c.capb, .int .i64 c.B.weeks, .slice q c.B.trials.length c.capt, .map (some c.bm)] 70)).alloc (Obj.cells #[.slice (some ⟨cc.bb, cc.ob, none⟩) cc.B.boys.length cc.capb, .int .i64 cc.B.weeks, .slice cc.q cc.B.trials.length cc.capt, .map (some cc.bm), .int .i64 (boy : Int), .int .i64 n0, .int .i64 n1, .int .i64 n2, .int .i64 n3, .int .i64 n4] 86)).cell? ⟨W.heap.size + 1, 6, none⟩ = some (.int .i64 n1) := by go_simp
  have d7 : ((W.alloc (Obj.cells #[.slice (some ⟨c.bb, c.ob, none⟩) c.B.boys.length c.capb, .int .i64 c.B.weeks, .slice q c.B.trials.length c.capt, .map (some c.bm)] 70)).alloc (Obj.cells #[.slice (some ⟨cc.bb, cc.ob, none⟩) cc.B.boys.length cc.capb, .int .i64 cc.B.weeks, .slice cc.q cc.B.trials.length cc.capt, .map (some cc.bm), .int .i64 (boy : Int), .int .i64 n0, .int .i64 n1, .int .i64 n2, .int .i64 n3, .int .i64 n4] 86)).cell? ⟨W.heap.size + 1, 7, none⟩ = some (.int .i64 n2) := by go_simp
  have d8 : ((W.alloc (Obj.cells #[.slice (some ⟨c.bb, c.ob, none⟩) c.B.boys.length c.capb, .int .i64 c.B.weeks, .slice q c.B.trials.length c.capt, .map (some c.bm)] 70)).alloc (Obj.cells #[.slice (some ⟨cc.bb, cc.ob, none⟩) cc.B.boys.length cc.capb, .int .i64 cc.B.weeks, .slice cc.q cc.B.trials.length cc.capt, .map (some cc.bm), .int .i64 (boy : Int), .int .i64 n0, .int .i64 n1, .int .i64 n2, .int .i64 n3, .int .i64 n4] 86)).cell? ⟨W.heap.size + 1, 8, none⟩ = some (.int .i64 n3) := by go_simp
  have d9 : ((W.alloc (Obj.cells #[.slice (some ⟨c.bb, c.ob, none⟩) c.B.boys.length c.capb, .int .i64 c.B.weeks, .slice q c.B.trials.length c.capt, .map (some c.bm)] 70)).alloc (Obj.cells #[.slice (some ⟨cc.bb, cc.ob, none⟩) cc.B.boys.length cc.capb, .int .i64 cc.B.weeks, .slice cc.q cc.B.trials.length cc.capt, .map (some cc.bm), .int .i64 (boy : Int), .int .i64 n0, .int .i64 n1, .int .i64 n2, .int .i64 n3, .int .i64 n4] 86)).cell? ⟨W.heap.size + 1, 9, none⟩ = some (.int .i64 n4) := by go_simp
  go_enter Tryz.func109, Tryz.ntmps109
  go_wp2_with fail
  generalize ((W.alloc (Obj.cells #[.slice (some ⟨c.bb, c.ob, none⟩) c.B.boys.length c.capb, .int .i64 c.B.weeks, .slice q c.B.trials.length c.capt, .map (some c.bm)] 70)).alloc (Obj.cells #[.slice (some ⟨cc.bb, cc.ob, none⟩) cc.B.boys.length cc.capb, .int .i64 cc.B.weeks, .slice cc.q cc.B.trials.length cc.capt, .map (some cc.bm), .int .i64 (boy : Int), .int .i64 n0, .int .i64 n1, .int .i64 n2, .int .i64 n3, .int .i64 n4] 86)) = V0 at *
  go_loopw [5, 12] (fun v i V => ∃ j : Nat, j ≤ c.B.trials.length ∧ i = .int .i64 j ∧ V.ownsRow V0.heap.size 3 1 v (belL c.B boy x [n0, n1, n2, n3, n4] j).length (intsV (belL c.B boy x [n0, n1, n2, n3, n4] j)) ∧ Kept V0 V) (fun v i V => c.B.trials.length - (intOf i).toNat)
  case atStart => exact ⟨0, by omega, rfl, World.ownsRow_nil _ _ _ _, kept_refl _⟩
  case round =>
    obtain ⟨j, hj, rfl, hrow, hV⟩ := hrel
    have hkV := kept_trans hk0 hV
    by_cases hlt : j < c.B.trials.length
    · have hltI : (j : Int) < c.B.trials.length := by omega
      have hget : c.B.trials[j]? = some c.B.trials[j] := List.getElem?_eq_getElem hlt
      have h4 := hTO.out _ (List.getElem_mem hlt)
      generalize c.B.trials[j] = t at *
      rcases HTR.out with e | ⟨tb, tof, eq, _, hT⟩
      · rw [e] at hlt; simp at hlt
      subst eq
      obtain ⟨t0, t1, t2, t3⟩ := (hT.kept hkV).2 j t hget
      have hbB : belB c.B boy x [n0, n1, n2, n3, n4] j = (decide (t.boy = (boy : Int)) && beliesB n0 n1 n2 n3 n4 x.ls t.week t.note t.sang) := by
        unfold belB; rw [hget]; rfl
      have hsucc := belL_succ c.B boy x [n0, n1, n2, n3, n4] j
      rw [hbB] at hsucc
      have hslen := belL_len c.B boy x [n0, n1, n2, n3, n4] j
      have hcL := kcell hkV hls8
      have hbW := Nat.lt_of_lt_of_le hbb hkV.size
      have hzV := hV.size
      have a0 := kcell hV d0
      have a1 := kcell hV d1
      have a2 := kcell hV d2
      have a3 := kcell hV d3
      have a4 := kcell hV d4
      have a5 := kcell hV d5
      have a6 := kcell hV d6
      have a7 := kcell hV d7
      have a8 := kcell hV d8
      have a9 := kcell hV d9
      have hb1 := Go.Ai.lt_of_cell a4
      have hb2 := Go.Ai.lt_of_cell t0
      clear c0 c1 c2 c3 d0 d1 d2 d3 d4 d5 d6 d7 d8 d9 hget hbB
      have hwr : Kept wr ((wr.alloc (Obj.cells #[.int .i64 t.boy, .int .i64 t.week, .int .i64 t.note, .int .i64 t.sang] 49))) := kept_alloc (kept_refl _) _
      by_cases hown : t.boy = (boy : Int)
      · have hob : (t.boy == (boy : Int)) = true := by simpa using hown
        have hcall := fun V (k : Kept wr V) => belies_any cc.bb cc.ob cc.B.boys.length cc.capb (.int .i64 cc.B.weeks) (.slice cc.q cc.B.trials.length cc.capt) (.map (some cc.bm)) boy n0 n1 n2 n3 n4 x.ls t.boy t.week t.note t.sang V hbl2 hb42 (kcell k hcL) (Nat.lt_of_lt_of_le hbW k.size) q1 q2 q3 h4 q5
        rw [show decide (t.boy = (boy : Int)) = true by simpa using hown, Bool.true_and] at hsucc
        have HCALL := Lib.hid hcall; clear hcall
        generalize beliesB n0 n1 n2 n3 n4 x.ls t.week t.note t.sang = bb at *
        cases bb with
        | true =>
          rw [if_pos rfl] at hsucc
          have HS := Lib.hid hsucc; clear hsucc hown
          have HROW := Lib.hid hrow; clear hrow
          go_wp2_with (first
            | (go_at_call 118; refine (HCALL.out _ (kept_alloc (kept_refl _) _)).mono ?_; rintro e V2 ⟨rfl, hk2⟩
               have hkw2 := kept_trans hwr hk2
               have hrow2 := HROW.out.kept (row := none) ⟨hkw2.os, hkw2.tape, hkw2.output, hkw2.size, fun i hi _ => hkw2.block i hi⟩ (by cases u5.ownBlock <;> simp)
               have hbase : V0.heap.size ≤ V2.heap.size := Nat.le_trans hzV hkw2.size)
            | (at_builtin; refine wpList_append_lies _ rfl _ _ 41 rfl V0.heap.size 3 i0 _ 1 8 Tryz.underlying41 hi hiz his hib rfl (by decide) u5 (belL c.B boy x [n0, n1, n2, n3, n4] j).length _ rfl (hrow2.alloc _) ⟨V2.heap.size, 0, none⟩ 1 1 [.int .i64 (j : Int)] rfl rfl (cell_one_new _ _ _) (by simp [Value.oneCell']) (by decide) (by unfold maxLen; omega) (by omega) (by simp; omega) _ rfl ?_; intro g2 cap2 V3 hown hgrow hat hlt3))
          have hkV3 : Kept V0 V3 := by
            refine Below.trans (kept_trans (kept_trans hV hkw2) (kept_alloc (kept_refl _) (Obj.cells #[.int .i64 (j : Int)] 3))) ⟨hgrow.os, hgrow.tape, hgrow.output, hgrow.size, fun k hk => hgrow.block k (by simp; omega) (fun e => ?_)⟩
            have := (hrow2.lt k e.symm).1
            omega
          go_roundw
          case rel =>
            refine ⟨j + 1, by omega, by go_num, ?_, hkV3⟩
            rw [HS.out]
            simpa [intsV] using hown
          case measure => simp [intOf]; omega
        | false =>
          rw [if_neg Bool.false_ne_true, List.append_nil] at hsucc
          have HS := Lib.hid hsucc; clear hsucc hown
          have HROW := Lib.hid hrow; clear hrow
          go_wp2_with (go_at_call 118; refine (HCALL.out _ (kept_alloc (kept_refl _) _)).mono ?_; rintro e V2 ⟨rfl, hk2⟩; have hkw2 := kept_trans hwr hk2)
          have hrow2 := HROW.out.kept (row := none) ⟨hkw2.os, hkw2.tape, hkw2.output, hkw2.size, fun i hi _ => hkw2.block i hi⟩ (by cases u5.ownBlock <;> simp)
          go_roundw
          case rel => exact ⟨j + 1, by omega, by go_num, by rw [HS.out]; exact hrow2, kept_trans hV hkw2⟩
          case measure => simp [intOf]; omega
      · have hob : (t.boy == (boy : Int)) = false := by simpa using hown
        rw [show decide (t.boy = (boy : Int)) = false by simpa using hown, Bool.false_and, if_neg Bool.false_ne_true, List.append_nil] at hsucc
        have HS := Lib.hid hsucc; clear hsucc hown
        have HROW := Lib.hid hrow; clear hrow
        go_wp2_with fail
        have hrow2 := HROW.out.kept (row := none) ⟨hwr.os, hwr.tape, hwr.output, hwr.size, fun i hi _ => hwr.block i hi⟩ (by cases u5.ownBlock <;> simp)
        go_roundw
        case rel => exact ⟨j + 1, by omega, by go_num, by rw [HS.out]; exact hrow2, kept_trans hV hwr⟩
        case measure => simp [intOf]; omega
    · have hltI : ¬ (j : Int) < c.B.trials.length := by omega
      have hje : j = c.B.trials.length := by omega
      have HROW := Lib.hid hrow; clear hrow
      go_wp2_with fail
      go_ret
      refine ⟨_, rfl, hkV, ?_⟩
      rw [← hje]
      exact row_le HROW.out (by omega)
end Go.Proofs.YtcgihkaglonnaaaGreatDoor
set_option linter.all false
namespace Go.Proofs.YtcgihkaglonnaaaGreatDoor
open Go.RowKit Go.Sort Go.Rg
set_option maxRecDepth 100000

/-- what is known while a region is carried out, in whatever order, of which one operation alone, number c, makes memory, and those behind it hand its answer on -/
def StC (c : Nat) (vs : Nat → Value) (R : Value → World → Prop) (V : World) (l : List Oper) (a0 : Act) (listed : Array Bool) (a : Act) (w : World) : Prop :=
  ∃ v, AtSt l.toArray (fun j => if j < c then vs j else v) a0 listed a ∧ Kept V w ∧ (on listed c = true → R v w)
section
variable {l : List Oper} {a0 a : Act} {c : Nat} {vs : Nat → Value} {R : Value → World → Prop} {V w w' : World} {listed : Array Bool} {v : Value} {i : Nat} {o : Oper}
theorem StC.start : StC c vs R V l a0 (Array.replicate l.length false) a0 V.drew := by
  have no : ∀ j, on (Array.replicate l.length false) j = false := fun j => by
    unfold on
    simp only [Array.getD_eq_getD_getElem?, Array.getElem?_replicate]
    split <;> simp
  refine ⟨undef, ⟨rfl, rfl, fun j o d hj => ?_, fun t _ => rfl⟩, kept_drew (kept_refl _), fun h => by rw [no] at h; cases h⟩
  have := no j
  unfold on at this
  rw [this] at hj; cases hj
theorem StC.pure (hd : distFrom l = true) (ha : AtSt l.toArray (fun j => if j < c then vs j else v) a0 listed a) (hk : Kept V w) (hR : on listed c = true → R v w) (ho : l[i]? = some o) (h1 : listed.getD i true = false) (ic : i ≠ c) :
    StC c vs R V l a0 (listed.setIfInBounds i true) (a.put o.dst (if i < c then vs i else v)) w :=
  ⟨v, ha.put (by simpa using ho) h1 (dist_arr hd), hk, by rw [on_set (Ne.symm ic)]; exact hR⟩
theorem StC.called (hd : distFrom l = true) (ha : AtSt l.toArray (fun j => if j < c then vs j else v) a0 listed a) (hl : listed.size = l.length) (ho : l[c]? = some o) (h1 : listed.getD c true = false) (hlater : ∀ j, c < j → on listed j = false) {v' : Value} (hk : Kept V w') (hr : R v' w') :
    StC c vs R V l a0 (listed.setIfInBounds c true) (a.put o.dst v') w' := by
  have hs : ∀ j, listed.getD j false = true → (fun j => if j < c then vs j else v) j = (fun j => if j < c then vs j else v') j := fun j hj => by
    by_cases hjc : j < c
    · simp [hjc]
    · by_cases e : j = c
      · subst e
        have h4 := on_no h1
        unfold on at h4
        rw [h4] at hj; cases hj
      · have h4 := hlater j (by omega)
        unfold on at h4
        rw [h4] at hj; cases hj
  have hz : c < listed.size := by rw [hl]; exact (List.getElem?_eq_some_iff.1 ho).1
  have := (ha.swap hs).put (i := c) (by simpa using ho) h1 (dist_arr hd)
  simp only [Nat.lt_irrefl, if_false] at this
  exact ⟨v', this, hk, fun _ => hr⟩
end
end Go.Proofs.YtcgihkaglonnaaaGreatDoor
