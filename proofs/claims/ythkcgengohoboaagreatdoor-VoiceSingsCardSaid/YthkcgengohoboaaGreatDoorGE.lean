/- How the row's arguments read as a book, and what the laid variables hold. No conditions. -/
import Derived.Test.YthkcgengohoboaaGreatDoorGD
import Derived.Test.YthkcgengohoboaaGreatDoorST
import Derived.Test.YthkcgengohoboaaGreatDoorCards
import Derived.Test.YthkcgengohoboaaGreatDoorTie
import Derived.WalkKit
import Derived.ProofKit
import Derived.OpenShut
import Derived.LaidMore
import Derived.Lib.LaidTab
import Derived.Stop.Joined
import Derived.Carry
import Derived.SizedLaws
import Derived.Deep.Slices
import Derived.Deep.Strs
set_option linter.all false
namespace Go.Proofs.YthkcgengohoboaaGreatDoor
open Go.RowKit Go.Sort Go.Rg
set_option maxRecDepth 100000
theorem getD_bool {x : Option Value} {b : Bool} (h : x.getD undef = .bool b) : x = some (.bool b) := by
  cases x with
  | none => exact absurd h (by simp [undef])
  | some v => exact congrArg some h
set_option maxHeartbeats 2000000 in
theorem surely1_any (c : Choir) (boy : Nat) (wk note n0 n1 n2 n3 n4 loss : Int) (bw bn : Nat) (w : World) (hwc : w.cell? ⟨bw, 0, none⟩ = some (.int .i64 wk)) (hnc : w.cell? ⟨bn, 0, none⟩ = some (.int .i64 note))
   (hb : boy < c.B.boys.length) (hl : c.B.boys.length ≤ 4) (hc : w.cell? ⟨c.bb, c.ob + boy * 11 + 8, none⟩ = some (.int .i64 loss)) (hin : c.bb < w.heap.size)
   (h1 : 0 ≤ n1 ∧ n1 ≤ 100) (h2 : 0 ≤ n2 ∧ n2 ≤ 100) (h3 : 0 ≤ n3 ∧ n3 ≤ 100) (h4 : 0 ≤ wk ∧ wk ≤ 100) (h5 : 0 ≤ loss ∧ loss ≤ 100) :
    Calls Tryz.prog 90 #[encT c boy [n0, n1, n2, n3, n4], .pointer (some ⟨bw, 0, none⟩), .pointer (some ⟨bn, 0, none⟩)] w fun e w' => e = .returned (.bool (singsB n0 n1 n2 n3 n4 loss wk note note)) ∧ Kept w w' := by
  simp only [encT, List.map_cons, List.map_nil, List.append_toArray, List.cons_append, List.nil_append, Choir.k0, Choir.k2, Choir.m]
  have hzw := Go.Ai.lt_of_cell hwc
  have hzn := Go.Ai.lt_of_cell hnc
  have c0 : ∀ d os, (grow (redrawn (w.alloc (Obj.cells #[Value.slice (some ⟨c.bb, c.ob, none⟩) c.B.boys.length c.capb, Value.int IntKind.i64 c.B.weeks, Value.slice c.q c.B.trials.length c.capt, Value.map (some c.bm), Value.int IntKind.i64 ↑boy, Value.int IntKind.i64 n0, Value.int IntKind.i64 n1, Value.int IntKind.i64 n2, Value.int IntKind.i64 n3, Value.int IntKind.i64 n4] 110)) d) os).cell? ⟨w.heap.size, 0, none⟩ = some (Value.slice (some ⟨c.bb, c.ob, none⟩) c.B.boys.length c.capb) := cell_regrown (by go_simp)
  have c1 : ∀ d os, (grow (redrawn (w.alloc (Obj.cells #[Value.slice (some ⟨c.bb, c.ob, none⟩) c.B.boys.length c.capb, Value.int IntKind.i64 c.B.weeks, Value.slice c.q c.B.trials.length c.capt, Value.map (some c.bm), Value.int IntKind.i64 ↑boy, Value.int IntKind.i64 n0, Value.int IntKind.i64 n1, Value.int IntKind.i64 n2, Value.int IntKind.i64 n3, Value.int IntKind.i64 n4] 110)) d) os).cell? ⟨w.heap.size, 1, none⟩ = some (Value.int IntKind.i64 c.B.weeks) := cell_regrown (by go_simp)
  have c2 : ∀ d os, (grow (redrawn (w.alloc (Obj.cells #[Value.slice (some ⟨c.bb, c.ob, none⟩) c.B.boys.length c.capb, Value.int IntKind.i64 c.B.weeks, Value.slice c.q c.B.trials.length c.capt, Value.map (some c.bm), Value.int IntKind.i64 ↑boy, Value.int IntKind.i64 n0, Value.int IntKind.i64 n1, Value.int IntKind.i64 n2, Value.int IntKind.i64 n3, Value.int IntKind.i64 n4] 110)) d) os).cell? ⟨w.heap.size, 2, none⟩ = some (Value.slice c.q c.B.trials.length c.capt) := cell_regrown (by go_simp)
  have c3 : ∀ d os, (grow (redrawn (w.alloc (Obj.cells #[Value.slice (some ⟨c.bb, c.ob, none⟩) c.B.boys.length c.capb, Value.int IntKind.i64 c.B.weeks, Value.slice c.q c.B.trials.length c.capt, Value.map (some c.bm), Value.int IntKind.i64 ↑boy, Value.int IntKind.i64 n0, Value.int IntKind.i64 n1, Value.int IntKind.i64 n2, Value.int IntKind.i64 n3, Value.int IntKind.i64 n4] 110)) d) os).cell? ⟨w.heap.size, 3, none⟩ = some (Value.map (some c.bm)) := cell_regrown (by go_simp)
  have c4 : ∀ d os, (grow (redrawn (w.alloc (Obj.cells #[Value.slice (some ⟨c.bb, c.ob, none⟩) c.B.boys.length c.capb, Value.int IntKind.i64 c.B.weeks, Value.slice c.q c.B.trials.length c.capt, Value.map (some c.bm), Value.int IntKind.i64 ↑boy, Value.int IntKind.i64 n0, Value.int IntKind.i64 n1, Value.int IntKind.i64 n2, Value.int IntKind.i64 n3, Value.int IntKind.i64 n4] 110)) d) os).cell? ⟨w.heap.size, 4, none⟩ = some (Value.int IntKind.i64 ↑boy) := cell_regrown (by go_simp)
  have c5 : ∀ d os, (grow (redrawn (w.alloc (Obj.cells #[Value.slice (some ⟨c.bb, c.ob, none⟩) c.B.boys.length c.capb, Value.int IntKind.i64 c.B.weeks, Value.slice c.q c.B.trials.length c.capt, Value.map (some c.bm), Value.int IntKind.i64 ↑boy, Value.int IntKind.i64 n0, Value.int IntKind.i64 n1, Value.int IntKind.i64 n2, Value.int IntKind.i64 n3, Value.int IntKind.i64 n4] 110)) d) os).cell? ⟨w.heap.size, 5, none⟩ = some (Value.int IntKind.i64 n0) := cell_regrown (by go_simp)
  have c6 : ∀ d os, (grow (redrawn (w.alloc (Obj.cells #[Value.slice (some ⟨c.bb, c.ob, none⟩) c.B.boys.length c.capb, Value.int IntKind.i64 c.B.weeks, Value.slice c.q c.B.trials.length c.capt, Value.map (some c.bm), Value.int IntKind.i64 ↑boy, Value.int IntKind.i64 n0, Value.int IntKind.i64 n1, Value.int IntKind.i64 n2, Value.int IntKind.i64 n3, Value.int IntKind.i64 n4] 110)) d) os).cell? ⟨w.heap.size, 6, none⟩ = some (Value.int IntKind.i64 n1) := cell_regrown (by go_simp)
  have c7 : ∀ d os, (grow (redrawn (w.alloc (Obj.cells #[Value.slice (some ⟨c.bb, c.ob, none⟩) c.B.boys.length c.capb, Value.int IntKind.i64 c.B.weeks, Value.slice c.q c.B.trials.length c.capt, Value.map (some c.bm), Value.int IntKind.i64 ↑boy, Value.int IntKind.i64 n0, Value.int IntKind.i64 n1, Value.int IntKind.i64 n2, Value.int IntKind.i64 n3, Value.int IntKind.i64 n4] 110)) d) os).cell? ⟨w.heap.size, 7, none⟩ = some (Value.int IntKind.i64 n2) := cell_regrown (by go_simp)
  have c8 : ∀ d os, (grow (redrawn (w.alloc (Obj.cells #[Value.slice (some ⟨c.bb, c.ob, none⟩) c.B.boys.length c.capb, Value.int IntKind.i64 c.B.weeks, Value.slice c.q c.B.trials.length c.capt, Value.map (some c.bm), Value.int IntKind.i64 ↑boy, Value.int IntKind.i64 n0, Value.int IntKind.i64 n1, Value.int IntKind.i64 n2, Value.int IntKind.i64 n3, Value.int IntKind.i64 n4] 110)) d) os).cell? ⟨w.heap.size, 8, none⟩ = some (Value.int IntKind.i64 n3) := cell_regrown (by go_simp)
  have c9 : ∀ d os, (grow (redrawn (w.alloc (Obj.cells #[Value.slice (some ⟨c.bb, c.ob, none⟩) c.B.boys.length c.capb, Value.int IntKind.i64 c.B.weeks, Value.slice c.q c.B.trials.length c.capt, Value.map (some c.bm), Value.int IntKind.i64 ↑boy, Value.int IntKind.i64 n0, Value.int IntKind.i64 n1, Value.int IntKind.i64 n2, Value.int IntKind.i64 n3, Value.int IntKind.i64 n4] 110)) d) os).cell? ⟨w.heap.size, 9, none⟩ = some (Value.int IntKind.i64 n4) := cell_regrown (by go_simp)
  have kW : Kept w (w.alloc (Obj.cells #[Value.slice (some ⟨c.bb, c.ob, none⟩) c.B.boys.length c.capb, Value.int IntKind.i64 c.B.weeks, Value.slice c.q c.B.trials.length c.capt, Value.map (some c.bm), Value.int IntKind.i64 ↑boy, Value.int IntKind.i64 n0, Value.int IntKind.i64 n1, Value.int IntKind.i64 n2, Value.int IntKind.i64 n3, Value.int IntKind.i64 n4] 110)) := kept_alloc (kept_refl _) _
  have cw : ∀ d os, (grow (redrawn (w.alloc (Obj.cells #[Value.slice (some ⟨c.bb, c.ob, none⟩) c.B.boys.length c.capb, Value.int IntKind.i64 c.B.weeks, Value.slice c.q c.B.trials.length c.capt, Value.map (some c.bm), Value.int IntKind.i64 ↑boy, Value.int IntKind.i64 n0, Value.int IntKind.i64 n1, Value.int IntKind.i64 n2, Value.int IntKind.i64 n3, Value.int IntKind.i64 n4] 110)) d) os).cell? ⟨bw, 0, none⟩ = some (.int .i64 wk) := cell_regrown (((bcell kW).1 bw _ hzw).trans hwc)
  have cn : ∀ d os, (grow (redrawn (w.alloc (Obj.cells #[Value.slice (some ⟨c.bb, c.ob, none⟩) c.B.boys.length c.capb, Value.int IntKind.i64 c.B.weeks, Value.slice c.q c.B.trials.length c.capt, Value.map (some c.bm), Value.int IntKind.i64 ↑boy, Value.int IntKind.i64 n0, Value.int IntKind.i64 n1, Value.int IntKind.i64 n2, Value.int IntKind.i64 n3, Value.int IntKind.i64 n4] 110)) d) os).cell? ⟨bn, 0, none⟩ = some (.int .i64 note) := cell_regrown (((bcell kW).1 bn _ hzn).trans hnc)
  have cL : ∀ d os, (grow (redrawn (w.alloc (Obj.cells #[Value.slice (some ⟨c.bb, c.ob, none⟩) c.B.boys.length c.capb, Value.int IntKind.i64 c.B.weeks, Value.slice c.q c.B.trials.length c.capt, Value.map (some c.bm), Value.int IntKind.i64 ↑boy, Value.int IntKind.i64 n0, Value.int IntKind.i64 n1, Value.int IntKind.i64 n2, Value.int IntKind.i64 n3, Value.int IntKind.i64 n4] 110)) d) os).cell? ⟨c.bb, c.ob + boy * 11 + 8, none⟩ = some (.int .i64 loss) := cell_regrown (((bcell kW).1 c.bb _ hin).trans hc)
  have sW : w.heap.size ≤ (w.alloc (Obj.cells #[Value.slice (some ⟨c.bb, c.ob, none⟩) c.B.boys.length c.capb, Value.int IntKind.i64 c.B.weeks, Value.slice c.q c.B.trials.length c.capt, Value.map (some c.bm), Value.int IntKind.i64 ↑boy, Value.int IntKind.i64 n0, Value.int IntKind.i64 n1, Value.int IntKind.i64 n2, Value.int IntKind.i64 n3, Value.int IntKind.i64 n4] 110)).heap.size := by simp
  go_enter Tryz.func90, Tryz.ntmps90
  go_wp2_with fail
  generalize w.alloc (Obj.cells #[Value.slice (some ⟨c.bb, c.ob, none⟩) c.B.boys.length c.capb, Value.int IntKind.i64 c.B.weeks, Value.slice c.q c.B.trials.length c.capt, Value.map (some c.bm), Value.int IntKind.i64 ↑boy, Value.int IntKind.i64 n0, Value.int IntKind.i64 n1, Value.int IntKind.i64 n2, Value.int IntKind.i64 n3, Value.int IntKind.i64 n4] 110) = W at *
  have zL : ∀ d os, c.bb < (grow (redrawn W d) os).heap.size := fun d os => Nat.lt_of_lt_of_le (Nat.lt_of_lt_of_le hin sW) (below_regrown W d os).size
  have HL := Lib.hid cL
  have HZ := Lib.hid zL
  clear cL zL hc hwc hnc
  refine wp_region_quiet_below (by kernel_rfl) (by kernel_rfl) ?_
  repeat (any_goals (quiet_step (first | exact Calls.regrown_of (just_any _ _) | exact Calls.regrown_of (sings_any _ _ _ _ _ _ _ _ _ _ _ _ _ _ _ _ _ _ hb hl (HL.out _ _) (HZ.out _ _) h1 h2 h3 h4 h5))))
  refine wpQuiet_nil ?_
  rintro _ ⟨⟨dq, osq⟩, rfl⟩
  have kW2 := kept_trans kW (below_regrown W dq osq)
  go_wp2_with fail
  go_ret
  exact ⟨rfl, kW2⟩
def singsN (B : Book) (wk lo hi : Int) (boy : Nat) (n : List Int) : Bool := singsB (n.getD 0 0) (n.getD 1 0) (n.getD 2 0) (n.getD 3 0) (n.getD 4 0) ((B.boys[boy]?.map Boy.ls).getD 0) wk lo hi
theorem surely_asks (S : Nat → Prop) (c : Choir) (boy : Nat) (wk note : Int) (x : Boy) (hx : c.B.boys[boy]? = some x) (bw bn : Nat) (W : World) (hat : ChoirAt S W c) (h4 : 0 ≤ wk ∧ wk ≤ 100) (hwc : W.cell? ⟨bw, 0, none⟩ = some (.int .i64 wk)) (hnc : W.cell? ⟨bn, 0, none⟩ = some (.int .i64 note)) :
    Asks c boy x W 90 #[.pointer (some ⟨bw, 0, none⟩), .pointer (some ⟨bn, 0, none⟩)] (singsN c.B wk note note boy) := by
  have hok := hat.ok
  have hlen : c.B.boys.length ≤ 4 := by
    have := hok
    simp only [Book.okB, inB, Bool.and_eq_true, decide_eq_true_eq] at this
    omega
  have hbl : boy < c.B.boys.length := (List.getElem?_eq_some_iff.1 hx).1
  have hxok : x.okB = true := by
    simp only [Book.okB, Bool.and_eq_true, List.all_eq_true] at hok
    exact hok.1.2 x (List.mem_of_getElem? hx)
  obtain ⟨hsp, hls⟩ := spanAt_ok x hxok
  refine ⟨enters_of Tryz.func90 (by kernel_rfl) rfl, fun A n hA hn => ?_⟩
  obtain ⟨_, _, _, _, _, _, _, _, c8, _⟩ := hat.boys.2 boy x hx
  have hr := truths_rng hn
  obtain ⟨n0, n1, n2, n3, n4, rfl⟩ := truths_len hn
  have r1 := hr 1 n1 rfl
  have r2 := hr 2 n2 rfl
  have r3 := hr 3 n3 rfl
  have s1 := hsp 1 (by omega)
  have s2 := hsp 2 (by omega)
  have s3 := hsp 3 (by omega)
  have := surely1_any c boy wk note n0 n1 n2 n3 n4 x.ls bw bn A (kcell hA hwc) (kcell hA hnc) hbl hlen (kcell hA c8) (Nat.lt_of_lt_of_le hat.boys.1 hA.size) (by omega) (by omega) (by omega) h4 (by omega)
  simpa [singsN, hx] using this
set_option maxHeartbeats 4000000 in
theorem surely_all (p q : Option Addr) (cap capt : Nat) (B : Book) (week note : Int) (W : World) (h : BookAt W p q cap capt B) (hg : Nothing W) (hok0 : B.okB = true) (hwk0 : 0 ≤ week ∧ week < B.weeks) (hnt0 : 0 ≤ note ∧ note ≤ 40) :
    Calls Tryz.prog 21 #[B.val p q cap capt, .int .i64 week, .int .i64 note] W (SureP B (singsN B week note note) W) := by
  have hwk : 0 ≤ B.weeks ∧ B.weeks ≤ 1000 := by
    have := hok0
    simp only [Book.okB, inB, Bool.and_eq_true, decide_eq_true_eq] at this
    omega
  have hwk1 : 0 ≤ week ∧ week ≤ 100 := by
    have := hok0
    simp only [Book.okB, inB, Bool.and_eq_true, decide_eq_true_eq] at this
    omega
  have hweekT : inB week 0 (B.weeks - 1) = true := by simp [inB]; omega
  have hnoteT : inB note 0 40 = true := by simp [inB]; omega
  refine callsIn_wide.1 (callsIn_of_wp (n := 0) Tryz.func21 rfl trivial ?_ rfl)
  simp only [Tryz.ntmps21, List.size_toArray, List.length_cons, List.length_nil, Nat.reduceAdd, Nat.reduceSub, Array.replicate_succ, Array.replicate_zero, List.push_toArray, List.append_toArray, List.nil_append, List.cons_append]
  unfold Book.val
  gi_wp2_with fail
  obtain ⟨hk0, a0c, a1c, a2c⟩ := bk2 W p q cap capt B (Obj.cells #[.int .i64 week] 3) (Obj.cells #[.int .i64 note] 3)
  have wc : (((W.alloc (Obj.cells #[.slice p B.boys.length cap, .int .i64 B.weeks, .slice q B.trials.length capt] 25)).alloc (Obj.cells #[.int .i64 week] 3)).alloc (Obj.cells #[.int .i64 note] 3)).cell? ⟨W.heap.size + 1, 0, none⟩ = some (.int .i64 week) := by go_simp
  have nc : (((W.alloc (Obj.cells #[.slice p B.boys.length cap, .int .i64 B.weeks, .slice q B.trials.length capt] 25)).alloc (Obj.cells #[.int .i64 week] 3)).alloc (Obj.cells #[.int .i64 note] 3)).cell? ⟨W.heap.size + 1 + 1, 0, none⟩ = some (.int .i64 note) := by go_simp
  generalize (((W.alloc (Obj.cells #[.slice p B.boys.length cap, .int .i64 B.weeks, .slice q B.trials.length capt] 25)).alloc (Obj.cells #[.int .i64 week] 3)).alloc (Obj.cells #[.int .i64 note] 3)) = W0 at *
  refine wpIn_region_invL (StO 8 (fun j => match j with | 0 => (.agg #[.slice p B.boys.length cap, .int .i64 B.weeks, .slice q B.trials.length capt]) | 1 => (.agg #[.slice p B.boys.length cap, .int .i64 B.weeks, .slice q B.trials.length capt]) | 2 => .int .i64 week | 5 => .int .i64 note | _ => .bool true) W0 B true) (by kernel_rfl) (by kernel_rfl) StO.start ?hop ?hend
  case hop =>
    rintro i o listed a w hl ho h1 h2 hcl ⟨v, err, pp, ha, hw⟩
    have hi11 : i < 15 := (List.getElem?_eq_some_iff.1 ho).1
    match i, ho with
    | 0, ho =>
      have ST := StO.sm (by kernel_rfl) ha hw ho h1 (by decide)
      cases ho
      rw [if_pos (by rfl)]
      have t3 := ha.old 3 (by kernel_rfl)
      simp at t3
      have r0 := kcell hw.kept a0c
      have r1 := kcell hw.kept a1c
      have r2 := kcell hw.kept a2c
      go_simp
      exact ST.out
    | 1, ho =>
      have ST := StO.sm (by kernel_rfl) ha hw ho h1 (by decide)
      cases ho
      rw [if_pos (by rfl)]
      have t3 := ha.old 3 (by kernel_rfl)
      simp at t3
      have r0 := kcell hw.kept a0c
      have r1 := kcell hw.kept a1c
      have r2 := kcell hw.kept a2c
      go_simp
      exact ST.out
    | 2, ho =>
      have ST := StO.sm (by kernel_rfl) ha hw ho h1 (by decide)
      cases ho
      rw [if_pos (by rfl)]
      have t4 := ha.old 4 (by kernel_rfl)
      simp at t4
      have rw0 := kcell hw.kept wc
      go_simp
      exact ST.out
    | 3, ho =>
      have st := fun w' (k : Kept w w') => StO.same (by kernel_rfl) ha hw ho h1 (by omega) (by omega) (by omega) k
      have ST := Lib.hid st; clear st
      cases ho
      rw [if_pos (by rfl)]
      have t12 := ha.new 1 (h2 ⟨1, .data⟩ (by simp) rfl) (d := 12) rfl rfl (by simp)
      simp [openVs] at t12
      have t13 := ha.new 2 (h2 ⟨2, .data⟩ (by simp) rfl) (d := 13) rfl rfl (by simp)
      simp [openVs] at t13
      have hcall := isWeek_any (.slice p B.boys.length cap) (.slice q B.trials.length capt) B.weeks week w hwk.1 hwk.2
      rw [hweekT] at hcall
      go_simp
      refine ⟨trivial, rfl, (callsIn_wide.2 hcall).mono ?_⟩
      rintro e w' ⟨rfl, hk⟩
      exact ST.out _ hk
    | 4, ho =>
      have ST := StO.sm (by kernel_rfl) ha hw ho h1 (by decide)
      cases ho
      rw [if_pos (by rfl)]
      have t14 := ha.new 3 (h2 ⟨3, .data⟩ (by simp) rfl) (d := 14) rfl rfl (by simp)
      simp [openVs] at t14
      go_simp
      exact ST.out
    | 5, ho =>
      have ST := StO.sm (by kernel_rfl) ha hw ho h1 (by decide)
      cases ho
      have t15 := ha.new 4 (h2 ⟨4, .guard⟩ (by simp) rfl) (d := 15) rfl rfl (by simp)
      simp [openVs] at t15
      rw [if_pos (by simp [Region.wanted, yielded, getD_bool t15])]
      have t5 := ha.old 5 (by kernel_rfl)
      simp at t5
      have rn0 := kcell hw.kept nc
      go_simp
      exact ST.out
    | 6, ho =>
      have st := fun w' (k : Kept w w') => StO.same (by kernel_rfl) ha hw ho h1 (by omega) (by omega) (by omega) k
      have ST := Lib.hid st; clear st
      cases ho
      have t15 := ha.new 4 (h2 ⟨4, .guard⟩ (by simp) rfl) (d := 15) rfl rfl (by simp)
      simp [openVs] at t15
      rw [if_pos (by simp [Region.wanted, yielded, getD_bool t15])]
      have t16 := ha.new 5 (h2 ⟨5, .data⟩ (by simp) rfl) (d := 16) rfl rfl (by simp)
      simp [openVs] at t16
      have hcall := isNote_any note w
      rw [hnoteT] at hcall
      go_simp
      refine ⟨trivial, rfl, (callsIn_wide.2 hcall).mono ?_⟩
      rintro e w' ⟨rfl, hk⟩
      subst hk; exact ST.out _ (kept_refl _)
    | 7, ho =>
      have ST := StO.sm (by kernel_rfl) ha hw ho h1 (by decide)
      cases ho
      rw [if_pos (by rfl)]
      have t15 := ha.new 4 (h2 ⟨4, .data⟩ (by simp) rfl) (d := 15) rfl rfl (by simp)
      simp [openVs] at t15
      have t17 := ha.new 6 (h2 ⟨6, .data⟩ (by simp) rfl) (d := 17) rfl rfl (by simp)
      simp [openVs] at t17
      go_simp
      exact ST.out
    | 8, ho =>
      obtain ⟨n5, n6, n7, n9, n10⟩ := open_first hcl h1 ⟨_, rfl, ⟨8, .data⟩, by simp, rfl, rfl⟩ ⟨_, rfl, ⟨9, .data⟩, by simp, rfl, rfl⟩ ⟨_, rfl, ⟨9, .data⟩, by simp, rfl, rfl⟩ ⟨_, rfl, ⟨10, .data⟩, by simp, rfl, rfl⟩ ⟨_, rfl, ⟨11, .data⟩, by simp, rfl, rfl⟩
      have st := fun v' err' w' (k : OpenReg W0 B true v' err' pp true (on listed 12) (on listed 13) w') => StO.opened (by kernel_rfl) ha hl ho h1 n5 n6 n7 n9 n10 k
      have ST := Lib.hid st; clear st
      cases ho
      rw [if_pos (by rfl)]
      have t11 := ha.new 0 (h2 ⟨0, .data⟩ (by simp) rfl) (d := 11) rfl rfl (by simp)
      simp [openVs] at t11
      have t18 := ha.new 7 (h2 ⟨7, .data⟩ (by simp) rfl) (d := 18) rfl rfl (by simp)
      simp [openVs] at t18
      have hcall := open_any p q cap capt B true W w h (kept_trans hk0 hw.kept) (hg.kept (kept_trans hk0 hw.kept))
      unfold Book.val at hcall
      have HOP := Lib.hid (fun e w' => hw.opened (e := e) (w' := w') W.heap.size hk0.size n9)
      go_simp
      refine ⟨trivial, rfl, (callsIn_wide.2 hcall).mono ?_⟩
      intro e w' hop
      obtain ⟨v', err', rfl, hr⟩ := HOP.out e w' hop
      exact ST.out v' err' w' hr
    | 9, ho =>
      have ST := StO.sm (by kernel_rfl) ha hw ho h1 (by decide)
      cases ho
      rw [if_pos (by rfl)]
      have t19 := ha.new 8 (h2 ⟨8, .data⟩ (by simp) rfl) (d := 19) rfl rfl (by simp)
      simp [openVs] at t19
      go_simp
      exact ST.out
    | 10, ho =>
      have ST := StO.sm (by kernel_rfl) ha hw ho h1 (by decide)
      cases ho
      rw [if_pos (by rfl)]
      have t10 := ha.new 9 (h2 ⟨9, .data⟩ (by simp) rfl) (d := 10) rfl rfl (by simp)
      simp [openVs] at t10
      go_simp
      exact ST.out
    | 11, ho =>
      have ST := StO.sm (by kernel_rfl) ha hw ho h1 (by decide)
      cases ho
      rw [if_pos (by rfl)]
      have t10 := ha.new 9 (h2 ⟨9, .data⟩ (by simp) rfl) (d := 10) rfl rfl (by simp)
      simp [openVs] at t10
      go_simp
      exact ST.out
    | 12, ho =>
      have n9 : on listed 13 = false := by
        cases hb : on listed 13 with
        | false => rfl
        | true => have := hcl 13 _ rfl hb ⟨12, .data⟩ (by simp) rfl; rw [on_no h1] at this; cases this
      have st := StO.boxed (by kernel_rfl) ha hw hl ho h1 n9
      have ST := Lib.hid st; clear st
      cases ho
      rw [if_pos (by rfl)]
      go_simp
      exact ST.out
    | 13, ho =>
      have y8 : on listed 12 = true := h2 ⟨12, .data⟩ (by cases ho; simp) rfl
      have y4 : on listed 8 = true := h2 ⟨8, .chain⟩ (by cases ho; simp) rfl
      have t8 := ha.new 12 y8 (d := 8) rfl rfl (by simp)
      simp [openVs] at t8
      have t20 := ha.new 10 (h2 ⟨10, .data⟩ (by cases ho; simp) rfl) (d := 20) rfl rfl (by simp)
      simp [openVs] at t20
      obtain ⟨hbp, ⟨f0, f1, f2, f3, b0, b1, b2, b3⟩, hbf⟩ := hw.box y8
      have bf0 := hbf 0
      have bf1 := hbf 1
      have bf2 := hbf 2
      have bf3 := hbf 3
      rcases hw.res y4 with ⟨_, _, _, _, c, S, hcB, rfl, _⟩ | ⟨rfl, _⟩
      · clear hcB
        have st := StO.stored (by kernel_rfl) ha hw hl ho (by cases ho; rfl) h1 y8 (show c.val = _ from rfl)
        have ST := Lib.hid st; clear st
        cases ho
        rw [if_pos (by rfl)]
        unfold Choir.val at t20
        clear hbf
        go_simp
        exact ST.out
      · have st := StO.stored (by kernel_rfl) ha hw hl ho (by cases ho; rfl) h1 y8 (show zeroChoir = _ from rfl)
        have ST := Lib.hid st; clear st
        cases ho
        rw [if_pos (by rfl)]
        unfold zeroChoir at t20
        clear hbf
        go_simp
        exact ST.out
    | 14, ho =>
      have ST := StO.sm (by kernel_rfl) ha hw ho h1 (by decide)
      cases ho
      rw [if_pos (by rfl)]
      have t21 := ha.new 11 (h2 ⟨11, .data⟩ (by simp) rfl) (d := 21) rfl rfl (by simp)
      simp [openVs] at t21
      go_simp
      exact ST.out
  case hend =>
    rintro listed a w hall ⟨v, err, pp, ha, hw⟩
    rw [show on listed 8 = true from hall 8 (by simp), show on listed 12 = true from hall 12 (by simp), show on listed 13 = true from hall 13 (by simp)] at hw
    obtain ⟨y, hy, hae⟩ := ha.lit (n := 28) rfl
    have y4 := (hy 4).symm.trans (ha.old 4 (by kernel_rfl))
    have y5 := (hy 5).symm.trans (ha.old 5 (by kernel_rfl))
    have y6 := (hy 6).symm.trans (ha.old 6 (by kernel_rfl))
    have y7 := (hy 7).symm.trans (ha.old 7 (by kernel_rfl))
    have y8 := (hy 8).symm.trans (ha.new 12 (hall 12 (by simp)) (d := 8) rfl rfl (by simp))
    have y9 := (hy 9).symm.trans (ha.new 14 (hall 14 (by simp)) (d := 9) rfl rfl (by simp))
    simp at y4 y5 y6 y7
    simp [openVs] at y8 y9
    simp only [List.range, List.range.loop, List.map] at hae
    rw [y4, y5, y6, y7, y8, y9] at hae
    subst hae
    clear ha hy y4 y5 y6 y7 y8 y9
    refine (by assumption : ∀ a w, Code.wpIn _ _ _ _ _ a w → _) _ w ?_
    have wk := kcell hw.kept wc
    have wn := kcell hw.kept nc
    obtain ⟨_, x0, x1, x2, x3, hv, b0, b1, b2, b3⟩ := hw.put rfl
    rcases hw.res rfl with ⟨rfl, hok, _, hcan, c, S, hcB, hvc, hch, hSz, hSp⟩ | ⟨rfl, herr⟩
    · subst hcB
      subst hvc
      have e4 := congrArg (fun u => match u with | Value.agg cs => cs.toList | _ => []) hv
      simp only [Choir.val, List.cons.injEq, and_true] at e4
      obtain ⟨rfl, rfl, rfl, rfl⟩ := e4
      have hzp := Go.Ai.lt_of_cell b0
      have hzw := Go.Ai.lt_of_cell wk
      gi_wp2_with fail
      have hcall := surely_any S c w hch hSz _ _ (singsN c.B week note note) (fun boy x hx => surely_asks S c boy week note x hx (W.heap.size + 1) (W.heap.size + 1 + 1) w hch hwk1 wk wn)
      unfold Choir.val at hcall
      refine ⟨trivial, rfl, (callsIn_wide.2 hcall).mono ?_⟩
      rintro e w2 ⟨v, rfl, hk7, hrow⟩
      clear hcall
      gi_wp2_with fail
      refine bodyPost_ret (v := .tuple #[v, .int .i64 0]) (by simp [results, Tryz.results21, go_sem]) rfl ?_
      exact ⟨_, 0, rfl, kept_trans (kept_trans hk0 hw.kept) hk7, .inl ⟨rfl, hcan, row_le hrow (kept_trans hk0 hw.kept).size⟩⟩
    · rcases herr with ⟨_, he⟩ | ⟨_, _, he⟩ | ⟨rfl, _, _, hnc⟩
      · rw [hok0] at he; cases he
      · cases he
      gi_wp2_with fail
      refine bodyPost_ret (v := .tuple #[.slice none 0 0, .int .i64 22]) (by simp [results, Tryz.results21, go_sem]) rfl ?_
      exact ⟨_, 22, rfl, kept_trans hk0 hw.kept, .inr ⟨rfl, hnc, rfl⟩⟩
theorem lies_any (n l h : Int) (w : World) : Calls Tryz.prog 37 #[.int .i64 n, .int .i64 l, .int .i64 h] w fun e w' => e = .returned (.bool (inB n l h)) ∧ w = w' := by
  by_cases h1 : l ≤ n
  · have h2 : decide (l ≤ n) = true := by simpa using h1
    have H : inB n l h = decide (n ≤ h) := by simp [inB, h1]
    rw [H]; clear H h1
    go_enter Tryz.func37, Tryz.ntmps37
    go_wp2
    go_ret
    exact ⟨rfl, rfl⟩
  · have h2 : decide (l ≤ n) = false := by simpa using h1
    have H : inB n l h = false := by simp [inB, h1]
    rw [H]; clear H h1
    go_enter Tryz.func37, Tryz.ntmps37
    go_wp2
    go_ret
    exact ⟨rfl, rfl⟩
def ListAt (w : World) (v : Value) (l : List Nat) : Prop :=
  (v = .slice none 0 0 ∧ l = []) ∨ ∃ b cap, v = .slice (some ⟨b, 0, none⟩) l.length cap ∧ b < w.heap.size ∧ ∀ i x, l[i]? = some x → w.cell? ⟨b, i, none⟩ = some (.int .i64 ((x : Nat) : Int))
theorem ListAt.kept {w w' : World} {v : Value} {l : List Nat} (h : ListAt w v l) (k : Kept w w') : ListAt w' v l :=
  h.imp id fun ⟨b, cap, e, hb, hc⟩ => ⟨b, cap, e, Nat.lt_of_lt_of_le hb k.size, fun i x hx => kcell k (hc i x hx)⟩
theorem ListAt.of_row {w : World} {n : Nat} {v : Value} {l : List Nat} {e : TypeId} (h : w.ownsRow n e 1 v l.length (intsV l)) : ListAt w v l := by
  have hc := h
  rcases h.2 with ⟨rfl, h0⟩ | ⟨g, cap, cur, rfl, _, hg, _⟩
  · exact .inl ⟨rfl, List.length_eq_zero_iff.1 h0⟩
  · refine .inr ⟨g, cap, rfl, (Array.getElem?_eq_some_iff.1 hg).1, fun i x hx => ?_⟩
    have hi : i < l.length := (List.getElem?_eq_some_iff.1 hx).1
    rw [hc.cellAt i (by omega)]
    simp [intsV, hx]
theorem listAt_len {w : World} {v : Value} {l : List Nat} (h : ListAt w v l) : ∃ p cap, v = .slice p l.length cap := by
  rcases h with ⟨rfl, rfl⟩ | ⟨b, cap, rfl, _⟩
  · exact ⟨none, 0, rfl⟩
  · exact ⟨_, cap, rfl⟩
theorem okB_boys {B : Book} (h : B.okB = true) : (1 ≤ B.boys.length ∧ B.boys.length ≤ 4 ∧ 1 ≤ B.weeks ∧ B.weeks ≤ 6 ∧ B.trials.length ≤ 6) ∧ (∀ x ∈ B.boys, x.okB = true) ∧ ∀ t ∈ B.trials, validTrialB B.boys.length B.weeks.toNat t = true := by
  simp only [Book.okB, inB, Bool.and_eq_true, decide_eq_true_eq, List.all_eq_true] at h
  obtain ⟨⟨⟨⟨h1, h2⟩, h3⟩, h4⟩, h5⟩ := h
  exact ⟨by omega, h4, h5⟩
theorem boy_nums {x : Boy} (h : x.okB = true) : (0 ≤ x.l0 ∧ x.l0 ≤ x.l1 ∧ x.l1 ≤ 40 ∧ x.l1 - x.l0 ≤ 2) ∧ (0 ≤ x.h0 ∧ x.h0 ≤ x.h1 ∧ x.h1 ≤ 40 ∧ x.h1 - x.h0 ≤ 2) ∧ (0 ≤ x.g0 ∧ x.g0 ≤ x.g1 ∧ x.g1 ≤ 2 ∧ x.g1 - x.g0 ≤ 1) ∧ (0 ≤ x.t0 ∧ x.t0 ≤ x.t1 ∧ x.t1 ≤ 6 ∧ x.t1 - x.t0 ≤ 2) ∧ (0 ≤ x.b0 ∧ x.b0 ≤ x.b1 ∧ x.b1 ≤ 9 ∧ x.b1 - x.b0 ≤ 3) ∧ 0 ≤ x.ls ∧ x.ls ≤ 2 := by
  simp only [Boy.okB, spanAt, spanB, inB, Bool.and_eq_true, decide_eq_true_eq, Bool.not_eq_true', decide_eq_false_iff_not] at h
  omega
theorem sung_is (w : World) (hL : Laid w) (hN : Nothing w) : Calls Tryz.prog 18 #[] w fun e w' => e = .returned (.bool true) ∧ Kept w w' := by
  obtain ⟨l0, l1⟩ := hL
  have I : Go.Ai.Inv 3 (fun b => ⟨b, 0, 0⟩) seTop.heap w := by
    refine Go.Ai.start_inv (G := 3) (by decide) (by decide) (by decide) fun b x hx => ?_
    simp only [seTop, List.mem_cons, List.not_mem_nil, or_false, Prod.mk.injEq] at hx
    rcases hx with ⟨rfl, rfl⟩ | ⟨rfl, rfl⟩ | ⟨rfl, rfl⟩
    · refine .inr ⟨_, rfl, by decide, fun i v hv => ?_, Go.Ai.lt_of_cell (hN 0 (by omega))⟩
      match i, hv with
      | 0, hv => cases hv; exact hN 0 (by omega)
      | 1, hv => cases hv; exact hN 1 (by omega)
      | 2, hv => cases hv; exact hN 2 (by omega)
      | 3, hv => cases hv; exact hN 3 (by omega)
      | 4, hv => cases hv; exact hN 4 (by omega)
    · obtain ⟨m0, m1, m2, m3, m4, m5, m6, m7, m8, m9⟩ := l1
      refine .inr ⟨_, rfl, by decide, fun i v hv => ?_, l0⟩
      match i, hv with
      | 0, hv => cases hv; exact m0
      | 1, hv => cases hv; exact m1
      | 2, hv => cases hv; exact m2
      | 3, hv => cases hv; exact m3
      | 4, hv => cases hv; exact m4
      | 5, hv => cases hv; exact m5
      | 6, hv => cases hv; exact m6
      | 7, hv => cases hv; exact m7
      | 8, hv => cases hv; exact m8
      | 9, hv => cases hv; exact m9
    · exact .inl rfl
  refine (Go.Ai.calls_of_ent seTop_h rfl I rfl).mono fun e w' ⟨j2, he, A⟩ => ⟨?_, ⟨A.os, A.tape, A.output, A.size, A.heap⟩⟩
  rw [he]; rfl
section
variable {B : Book} {sb sb' : Nat → List Int → Bool} {n : Nat}
end
end Go.Proofs.YthkcgengohoboaaGreatDoor
namespace Go.Proofs.YthkcgengohoboaaGreatDoor
open Go.ChangeShapes Go.WideShapes Go.ChangeAt Go.WideMaps Go.WideElems Go.RowKit Go.Deep Go.Rg
set_option maxRecDepth 100000
theorem vown : ownKnob Tryz.prog.godebug = none := by kernel_rfl
theorem vlaidOut : laidOutB Tryz.prog = true := by kernel_rfl
theorem gNoth : Tryz.prog.globalNamed "decani/voice.nothing" = some 0 := by kernel_rfl
theorem tNoth : (Tryz.prog.globals[0]?).map (·.type) = some 108 := by kernel_rfl
theorem gBnds : Tryz.prog.globalNamed "decani/voice.bounds" = some 1 := by kernel_rfl
theorem tBnds : (Tryz.prog.globals[1]?).map (·.type) = some 194 := by kernel_rfl
theorem vcI : Tryz.prog.cellsOf 3 = 1 := by kernel_rfl
theorem vcN : Tryz.prog.cellsOf 108 = 5 := by kernel_rfl
theorem vcP : Tryz.prog.cellsOf 193 = 2 := by kernel_rfl
theorem vcS : Tryz.prog.cellsOf 32 = 2 := by kernel_rfl
theorem vcB : Tryz.prog.cellsOf 97 = 11 := by kernel_rfl
theorem vcT : Tryz.prog.cellsOf 49 = 4 := by kernel_rfl
theorem vcL : Tryz.prog.cellsOf 22 = 1 := by kernel_rfl
theorem vcM : Tryz.prog.cellsOf 23 = 1 := by kernel_rfl
theorem vcK : Tryz.prog.cellsOf 25 = 3 := by kernel_rfl
theorem vcA : Tryz.prog.cellsOf 38 = 3 := by kernel_rfl
section
variable {H : Type} {enc : TypeId × Value → H} {w : World} {base : Nat} {sp : Nat → Bool} {held : Bool} {fuel : Nat} {cs : List Value} {x : DataW H × List MemPlace}
theorem one_int {c : Value} (h : DataW.trod enc Tryz.prog w base sp held fuel 3 [c] = some x) : ∃ n, c = .int .i64 n := by
  obtain ⟨z, e, _⟩ := DataW.trod_int Tryz.underlying3 h
  simp at e
  exact ⟨z, e⟩
theorem span_ints {c d : Value} (h : DataW.trod enc Tryz.prog w base sp held fuel 32 [c, d] = some x) : ∃ a b, c = .int .i64 a ∧ d = .int .i64 b := by
  obtain ⟨xs, n, _, hx, hl, hn, hf⟩ := DataW.trod_struct Tryz.underlying32 h
  match xs, hn with
  | [y0, y1], _ =>
    have t0 : DataW.trod enc Tryz.prog w base sp held n 3 (([c, d].drop 0).take (Tryz.prog.cellsOf 3)) = some y0 := hf 0 _ rfl
    have t1 : DataW.trod enc Tryz.prog w base sp held n 3 (([c, d].drop 1).take (Tryz.prog.cellsOf 3)) = some y1 := hf 1 _ rfl
    rw [vcI] at t0 t1
    obtain ⟨a, rfl⟩ := one_int t0
    obtain ⟨b, rfl⟩ := one_int t1
    exact ⟨a, b, rfl, rfl⟩
def boyCells (x : Boy) : List Value := [.int .i64 x.l0, .int .i64 x.l1, .int .i64 x.h0, .int .i64 x.h1, .int .i64 x.g0, .int .i64 x.g1, .int .i64 x.t0, .int .i64 x.t1, .int .i64 x.ls, .int .i64 x.b0, .int .i64 x.b1]
theorem boy_ints (h : DataW.trod enc Tryz.prog w base sp held fuel 97 cs = some x) : ∃ b : Boy, cs = boyCells b := by
  obtain ⟨xs, n, _, hx, hl, hn, hf⟩ := DataW.trod_struct Tryz.underlying97 h
  rw [vcB] at hl
  match cs, hl, xs, hn with
  | [c0, c1, c2, c3, c4, c5, c6, c7, c8, c9, c10], _, [y0, y1, y2, y3, y4, y5], _ =>
    have t0 : DataW.trod enc Tryz.prog w base sp held n 32 (([c0, c1, c2, c3, c4, c5, c6, c7, c8, c9, c10].drop 0).take (Tryz.prog.cellsOf 32)) = some y0 := hf 0 _ rfl
    have t1 : DataW.trod enc Tryz.prog w base sp held n 32 (([c0, c1, c2, c3, c4, c5, c6, c7, c8, c9, c10].drop 2).take (Tryz.prog.cellsOf 32)) = some y1 := hf 1 _ rfl
    have t2 : DataW.trod enc Tryz.prog w base sp held n 32 (([c0, c1, c2, c3, c4, c5, c6, c7, c8, c9, c10].drop 4).take (Tryz.prog.cellsOf 32)) = some y2 := hf 2 _ rfl
    have t3 : DataW.trod enc Tryz.prog w base sp held n 32 (([c0, c1, c2, c3, c4, c5, c6, c7, c8, c9, c10].drop 6).take (Tryz.prog.cellsOf 32)) = some y3 := hf 3 _ rfl
    have t4 : DataW.trod enc Tryz.prog w base sp held n 3 (([c0, c1, c2, c3, c4, c5, c6, c7, c8, c9, c10].drop 8).take (Tryz.prog.cellsOf 3)) = some y4 := hf 4 _ rfl
    have t5 : DataW.trod enc Tryz.prog w base sp held n 32 (([c0, c1, c2, c3, c4, c5, c6, c7, c8, c9, c10].drop 9).take (Tryz.prog.cellsOf 32)) = some y5 := hf 5 _ rfl
    rw [vcS] at t0 t1 t2 t3 t5
    rw [vcI] at t4
    obtain ⟨a0, a1, rfl, rfl⟩ := span_ints t0
    obtain ⟨a2, a3, rfl, rfl⟩ := span_ints t1
    obtain ⟨a4, a5, rfl, rfl⟩ := span_ints t2
    obtain ⟨a6, a7, rfl, rfl⟩ := span_ints t3
    obtain ⟨a8, rfl⟩ := one_int t4
    obtain ⟨a9, a10, rfl, rfl⟩ := span_ints t5
    exact ⟨⟨a0, a1, a2, a3, a4, a5, a6, a7, a8, a9, a10⟩, rfl⟩
def trialCells (t : Trial) : List Value := [.int .i64 t.boy, .int .i64 t.week, .int .i64 t.note, .int .i64 t.sang]
theorem trial_ints (h : DataW.trod enc Tryz.prog w base sp held fuel 49 cs = some x) : ∃ t : Trial, cs = trialCells t := by
  obtain ⟨xs, n, _, hx, hl, hn, hf⟩ := DataW.trod_struct Tryz.underlying49 h
  rw [vcT] at hl
  match cs, hl, xs, hn with
  | [c0, c1, c2, c3], _, [y0, y1, y2, y3], _ =>
    have t0 : DataW.trod enc Tryz.prog w base sp held n 3 (([c0, c1, c2, c3].drop 0).take (Tryz.prog.cellsOf 3)) = some y0 := hf 0 _ rfl
    have t1 : DataW.trod enc Tryz.prog w base sp held n 3 (([c0, c1, c2, c3].drop 1).take (Tryz.prog.cellsOf 3)) = some y1 := hf 1 _ rfl
    have t2 : DataW.trod enc Tryz.prog w base sp held n 3 (([c0, c1, c2, c3].drop 2).take (Tryz.prog.cellsOf 3)) = some y2 := hf 2 _ rfl
    have t3 : DataW.trod enc Tryz.prog w base sp held n 3 (([c0, c1, c2, c3].drop 3).take (Tryz.prog.cellsOf 3)) = some y3 := hf 3 _ rfl
    rw [vcI] at t0 t1 t2 t3
    obtain ⟨a0, rfl⟩ := one_int t0
    obtain ⟨a1, rfl⟩ := one_int t1
    obtain ⟨a2, rfl⟩ := one_int t2
    obtain ⟨a3, rfl⟩ := one_int t3
    exact ⟨⟨a0, a1, a2, a3⟩, rfl⟩
theorem rows_of {α : Type} [Inhabited α] {t e : TypeId} {k : Nat} (f : α → List Value) (hk : 0 < k) (hfl : ∀ y, (f y).length = k) (ht : Tryz.prog.underlying t = some (.slice e)) (hc : Tryz.prog.cellsOf e = k)
    (hel : ∀ (n : Nat) (cs : List Value) (x : DataW H × List MemPlace), DataW.trod enc Tryz.prog w base (fun _ => true) held n e cs = some x → ∃ y, cs = f y)
    {c : Value} (h : DataW.trod enc Tryz.prog w base (fun _ => true) held fuel t [c] = some x) :
    ∃ (p : Option Addr) (cap : Nat) (l : List α), c = .slice p l.length cap ∧ (l = [] ∨ ∃ es ss, x.1 = .slice es ss ∧ es.length = l.length) ∧ (l = [] ∨ ∃ b o, p = some ⟨b, o, none⟩ ∧ b < w.heap.size ∧ ∀ i y, l[i]? = some y → ∀ j, j < k → w.cell? ⟨b, o + i * k + j, none⟩ = (f y)[j]?) ∧ l.length ≤ cap := by
  rcases open_slice ht h with ⟨h0, _⟩ | ⟨a, len, cap, m, n, D, Pl, hcs, hb, hl, hm, hmm, hx, hi⟩
  · simp at h0
    exact ⟨none, 0, [], h0, .inl rfl, .inl rfl, Nat.le_refl _⟩
  · simp at hcs hmm
    rw [hc] at hi
    obtain ⟨g, hg⟩ := choose_lt (n := len) (p := fun i y => w.cells? base (a.add (i * k)) k = some (f y)) (fun i hil => by
      obtain ⟨cs', h1, h2⟩ := hi i (by omega)
      obtain ⟨y, rfl⟩ := hel _ _ _ h2
      exact ⟨y, h1⟩)
    refine ⟨some a, cap, (List.range len).map g, by simpa using hcs, .inr ⟨_, _, congrArg Prod.fst hx, by simp⟩, ?_, by simpa using hl⟩
    by_cases h0 : len = 0
    · exact .inl (by simp [h0])
    right
    have hcell : ∀ i, i < len → ∀ j, j < k → w.cell? ((a.add (i * k)).add j) = (f (g i))[j]? := fun i hil j hj => (World.cells?_some (hg i hil)).2.2 j hj
    have hz := hcell 0 (by omega) 0 hk
    rw [Nat.zero_mul] at hz
    have he : ((a.add 0).add 0) = a := by simp [Addr.add]
    rw [he, List.getElem?_eq_getElem (by rw [hfl]; exact hk)] at hz
    have hsp := World.cell?_spot hz
    obtain ⟨b, o, s⟩ := a
    simp only at hsp
    subst hsp
    refine ⟨b, o, rfl, Go.Ai.lt_of_cell hz, fun i y hy j hj => ?_⟩
    simp only [List.getElem?_map, Option.map_eq_some_iff] at hy
    obtain ⟨i', hi', rfl⟩ := hy
    obtain ⟨hil, rfl⟩ : i < len ∧ i' = i := by
      have := List.getElem?_eq_some_iff.1 hi'
      obtain ⟨h1, h2⟩ := this
      simp at h1 h2
      exact ⟨h1, h2.symm⟩
    have := hcell _ hil j hj
    rw [add_plain, add_plain] at this
    exact this
end
def vlaid : List (String × DataW Unit) := [("decani/voice.nothing", Rows.laid_decani_voice_nothing), ("decani/voice.bounds", Rows.laid_decani_voice_bounds)]
theorem vdoor_met (os : Os) (args : Array Value) : laidMetH Tryz.prog vlaid ((World.doorLaid Tryz.prog 400 os).forCall (fun _ _ => 0) ⟨#[], args, []⟩).memory :=
  laidMetH_of_parts3 (fuel := 8) (laidMet_of_run' 8 (by kernel_rfl) (by kernel_rfl)) (by kernel_rfl) (by kernel_rfl)
theorem pairs_of_trod {H : Type} {enc : TypeId × Value → H} {P : Program} {w : World} {base : Nat} {sp : Nat → Bool} {held : Bool} {fuel : Nat} {t e u : TypeId} {n : Nat} {k : IntKind} {f0 f1 : Field} {cs : List Value} {l : List (Int × Int)} {q : List MemPlace}
    (ht : P.underlying t = some (.array n e)) (he : P.underlying e = some (.struct #[f0, f1])) (hu : P.underlying u = some (.int k)) (h0 : f0.type = u) (h1 : f1.type = u) (o0 : f0.offset = 0) (o1 : f1.offset = 1) (ce : P.cellsOf e = 2) (cu : P.cellsOf u = 1)
    (h : DataW.trod enc P w base sp held fuel t cs = some (.agg (l.map fun p => .agg [.lit (.int k p.1), .lit (.int k p.2)]), q)) : ∀ (i : Nat) (p : Int × Int), l[i]? = some p → cs[2 * i]? = some (.int k p.1) ∧ cs[2 * i + 1]? = some (.int k p.2) := by
  intro i p hp
  obtain ⟨xs, m, _, hx, hl, hn, hel⟩ := DataW.trod_array ht h
  simp only [Prod.mk.injEq, DataW.agg.injEq] at hx
  have hi : i < l.length := by
    rcases Nat.lt_or_ge i l.length with h' | h'
    · exact h'
    · rw [List.getElem?_eq_none h'] at hp; cases hp
  have hxl : xs.length = l.length := by
    have := congrArg List.length hx.1
    simpa using this.symm
  obtain ⟨y, hy⟩ : ∃ y, xs[i]? = some y := ⟨xs[i], by simp [show i < xs.length by omega]⟩
  have hy1 : y.1 = .agg [.lit (.int k p.1), .lit (.int k p.2)] := by
    have := congrArg (fun z => z[i]?) hx.1
    simp only [List.getElem?_map, hp, hy, Option.map_some, Option.some.injEq] at this
    exact this.symm
  have hE := hel i (by omega)
  rw [hy, ce] at hE
  obtain ⟨y0, y1, m', hyy, _, t0, t1⟩ := trod_struct2 he hE
  rw [h0, o0, cu] at t0
  rw [h1, o1, cu] at t1
  obtain ⟨z0, c0, e0, _⟩ := DataW.trod_int hu t0
  obtain ⟨z1, c1, e1, _⟩ := DataW.trod_int hu t1
  rw [hyy, e0, e1] at hy1
  simp only [DataW.agg.injEq, List.cons.injEq, DataW.lit.injEq, Lit.int.injEq, true_and, and_true] at hy1
  obtain ⟨rfl, rfl⟩ := hy1
  refine ⟨?_, ?_⟩
  · have := congrArg (fun z => z[0]?) c0
    simp [List.getElem?_take, List.getElem?_drop] at this
    rw [Nat.mul_comm]
    exact this
  · have := congrArg (fun z => z[0]?) c1
    simp [List.getElem?_take, List.getElem?_drop] at this
    rw [Nat.mul_comm]
    exact this
def bndL : List (Int × Int) := [(40, 2), (40, 2), (2, 1), (6, 2), (9, 3)]
def bndF : List Int := [40, 2, 40, 2, 2, 1, 6, 2, 9, 3]
theorem of_vlaid {W : World} (h : laidMetH Tryz.prog vlaid W) : (∀ i, i < 5 → W.cell? ⟨0, i, none⟩ = some (.int .i64 (-1))) ∧ ∀ i, i < 10 → W.cell? ⟨1, i, none⟩ = some (.int .i64 (bndF.getD i 0)) := by
  rw [MakeChecks.laidMetH_plain _ _ _ (by kernel_rfl)] at h
  refine ⟨fun i hi => ?_, ?_⟩
  · have hT := Lib.tabIs_of_head (k := .i64) (zs := [-1, -1, -1, -1, -1]) gNoth tNoth Tryz.underlying108 Tryz.underlying3 vcI vcN h
    have := hT.cell gNoth i hi
    rw [this]
    match i, hi with
    | 0, _ => rfl
    | 1, _ => rfl
    | 2, _ => rfl
    | 3, _ => rfl
    | 4, _ => rfl
  · obtain ⟨ps, ⟨_, _, _, _, _, _, _, _, _, _, ⟨g, t, cs, fuel, p, q, hg, ht, hv, hd, _⟩, _⟩, _⟩ := h
    obtain rfl := Option.some.inj (gBnds.symm.trans hg)
    obtain rfl := Option.some.inj (tBnds.symm.trans ht)
    have hp := pairs_of_trod (l := bndL) Tryz.underlying194 Tryz.underlying193 Tryz.underlying3 rfl rfl rfl rfl vcP vcI hd
    have cell : ∀ i v, cs.toList[i]? = some v → W.cell? ⟨1, i, none⟩ = some v := fun i v hv' => by
      have := World.var?_cell hg hv i
      rw [this, ← Array.getElem?_toList]
      exact hv'
    intro i hi
    match i, hi with
    | 0, _ => exact cell 0 _ (hp 0 _ rfl).1
    | 1, _ => exact cell 1 _ (hp 0 _ rfl).2
    | 2, _ => exact cell 2 _ (hp 1 _ rfl).1
    | 3, _ => exact cell 3 _ (hp 1 _ rfl).2
    | 4, _ => exact cell 4 _ (hp 2 _ rfl).1
    | 5, _ => exact cell 5 _ (hp 2 _ rfl).2
    | 6, _ => exact cell 6 _ (hp 3 _ rfl).1
    | 7, _ => exact cell 7 _ (hp 3 _ rfl).2
    | 8, _ => exact cell 8 _ (hp 4 _ rfl).1
    | 9, _ => exact cell 9 _ (hp 4 _ rfl).2
theorem kept_but {W W' : World} (hb : Below W.heap.size W W') (may : MemPlace → Prop) : W.keptBut W' may := by
  refine ⟨hb.os, hb.output, fun i hi => ?_⟩
  rw [hb.block i hi]
  cases W.heap[i]? with
  | none => rfl
  | some o => cases o <;> first | exact ⟨rfl, rfl, rfl, fun _ _ => rfl⟩ | exact .inr ⟨rfl, rfl⟩ | rfl
theorem okWide_arr {P : Program} {w : World} {r : Reach} {base n : Nat} {t e : TypeId} {v : Value} (ht : P.underlying t = some (.array n e)) (h : Value.okWide P w r base t v) : ∃ cs, v = .agg cs ∧ cs.size = P.cellsOf t := by
  simp only [Value.okWide, ht] at h
  obtain ⟨cs, h1, h2, _⟩ := h
  exact ⟨cs, h1, h2⟩
theorem len3 {α : Type} {l : List α} (h : l.length = 3) : ∃ a b c, l = [a, b, c] := by
  match l, h with
  | [a, b, c], _ => exact ⟨a, b, c, rfl⟩
theorem vbB : Tryz.prog.bytesOf 97 = 88 := by kernel_rfl
theorem vbT : Tryz.prog.bytesOf 49 = 32 := by kernel_rfl
theorem few_boys {H : Type} {y : DataW H} {k : Nat} (hw : ∀ n ∈ y.weights Tryz.prog 22, n ≤ reachBytes) (h : ∃ es ss, y = .slice es ss ∧ es.length = k) : k ≤ 140737488355328 := by
  obtain ⟨es, ss, rfl, rfl⟩ := h
  have := hw ((es.length + ss.length) * Tryz.prog.bytesOf 97) (by simp [DataW.weights, Tryz.underlying22])
  rw [vbB] at this
  have := reachBytes_lt
  omega
theorem few_trials {H : Type} {y : DataW H} {k : Nat} (hw : ∀ n ∈ y.weights Tryz.prog 23, n ≤ reachBytes) (h : ∃ es ss, y = .slice es ss ∧ es.length = k) : k ≤ 140737488355328 := by
  obtain ⟨es, ss, rfl, rfl⟩ := h
  have := hw ((es.length + ss.length) * Tryz.prog.bytesOf 49) (by simp [DataW.weights, Tryz.underlying23])
  rw [vbT] at this
  have := reachBytes_lt
  omega
theorem book_weights {H : Type} {y0 y1 y2 : DataW H} {ts : List TypeId} {ds : List (DataW H)} (h : (DataW.weightsEach Tryz.prog (25 :: ts) (.agg [y0, y1, y2] :: ds)).all (· ≤ reachBytes) = true) :
    (∀ n ∈ y0.weights Tryz.prog 22, n ≤ reachBytes) ∧ ∀ n ∈ y2.weights Tryz.prog 23, n ≤ reachBytes := by
  have hall := fun n hn => of_decide_eq_true (List.all_eq_true.1 h n hn)
  have hin : ∀ n, n ∈ (DataW.agg [y0, y1, y2]).weights Tryz.prog 25 → n ≤ reachBytes := fun n hn => hall n (DataW.weights_mem_each (j := 0) rfl rfl n hn)
  refine ⟨fun n hn => hin n ?_, fun n hn => hin n ?_⟩
  · simp only [DataW.weights, Tryz.underlying25]
    exact DataW.weights_mem_each (j := 0) rfl rfl n hn
  · simp only [DataW.weights, Tryz.underlying25]
    exact DataW.weights_mem_each (j := 2) rfl rfl n hn
end Go.Proofs.YthkcgengohoboaaGreatDoor
namespace Go.Proofs.YthkcgengohoboaaGreatDoor
open Go.RowKit Go.Sort Go.Rg
set_option maxRecDepth 100000
set_option maxHeartbeats 2000000 in
theorem sings1_any (c : Choir) (boy : Nat) (wk note n0 n1 n2 n3 n4 loss : Int) (bw bn : Nat) (w : World) (hwc : w.cell? ⟨bw, 0, none⟩ = some (.int .i64 wk)) (hnc : w.cell? ⟨bn, 0, none⟩ = some (.int .i64 note))
   (hb : boy < c.B.boys.length) (hl : c.B.boys.length ≤ 4) (hc : w.cell? ⟨c.bb, c.ob + boy * 11 + 8, none⟩ = some (.int .i64 loss)) (hin : c.bb < w.heap.size)
   (h1 : 0 ≤ n1 ∧ n1 ≤ 100) (h2 : 0 ≤ n2 ∧ n2 ≤ 100) (h3 : 0 ≤ n3 ∧ n3 ≤ 100) (h4 : 0 ≤ wk ∧ wk ≤ 100) (h5 : 0 ≤ loss ∧ loss ≤ 100) :
    Calls Tryz.prog 84 #[encT c boy [n0, n1, n2, n3, n4], .pointer (some ⟨bw, 0, none⟩), .pointer (some ⟨bn, 0, none⟩)] w fun e w' => e = .returned (.bool (singsB n0 n1 n2 n3 n4 loss wk note note)) ∧ Kept w w' := by
  simp only [encT, List.map_cons, List.map_nil, List.append_toArray, List.cons_append, List.nil_append, Choir.k0, Choir.k2, Choir.m]
  have hzw := Go.Ai.lt_of_cell hwc
  have hzn := Go.Ai.lt_of_cell hnc
  have c0 : ∀ d os, (grow (redrawn (w.alloc (Obj.cells #[Value.slice (some ⟨c.bb, c.ob, none⟩) c.B.boys.length c.capb, Value.int IntKind.i64 c.B.weeks, Value.slice c.q c.B.trials.length c.capt, Value.map (some c.bm), Value.int IntKind.i64 ↑boy, Value.int IntKind.i64 n0, Value.int IntKind.i64 n1, Value.int IntKind.i64 n2, Value.int IntKind.i64 n3, Value.int IntKind.i64 n4] 110)) d) os).cell? ⟨w.heap.size, 0, none⟩ = some (Value.slice (some ⟨c.bb, c.ob, none⟩) c.B.boys.length c.capb) := cell_regrown (by go_simp)
  have c1 : ∀ d os, (grow (redrawn (w.alloc (Obj.cells #[Value.slice (some ⟨c.bb, c.ob, none⟩) c.B.boys.length c.capb, Value.int IntKind.i64 c.B.weeks, Value.slice c.q c.B.trials.length c.capt, Value.map (some c.bm), Value.int IntKind.i64 ↑boy, Value.int IntKind.i64 n0, Value.int IntKind.i64 n1, Value.int IntKind.i64 n2, Value.int IntKind.i64 n3, Value.int IntKind.i64 n4] 110)) d) os).cell? ⟨w.heap.size, 1, none⟩ = some (Value.int IntKind.i64 c.B.weeks) := cell_regrown (by go_simp)
  have c2 : ∀ d os, (grow (redrawn (w.alloc (Obj.cells #[Value.slice (some ⟨c.bb, c.ob, none⟩) c.B.boys.length c.capb, Value.int IntKind.i64 c.B.weeks, Value.slice c.q c.B.trials.length c.capt, Value.map (some c.bm), Value.int IntKind.i64 ↑boy, Value.int IntKind.i64 n0, Value.int IntKind.i64 n1, Value.int IntKind.i64 n2, Value.int IntKind.i64 n3, Value.int IntKind.i64 n4] 110)) d) os).cell? ⟨w.heap.size, 2, none⟩ = some (Value.slice c.q c.B.trials.length c.capt) := cell_regrown (by go_simp)
  have c3 : ∀ d os, (grow (redrawn (w.alloc (Obj.cells #[Value.slice (some ⟨c.bb, c.ob, none⟩) c.B.boys.length c.capb, Value.int IntKind.i64 c.B.weeks, Value.slice c.q c.B.trials.length c.capt, Value.map (some c.bm), Value.int IntKind.i64 ↑boy, Value.int IntKind.i64 n0, Value.int IntKind.i64 n1, Value.int IntKind.i64 n2, Value.int IntKind.i64 n3, Value.int IntKind.i64 n4] 110)) d) os).cell? ⟨w.heap.size, 3, none⟩ = some (Value.map (some c.bm)) := cell_regrown (by go_simp)
  have c4 : ∀ d os, (grow (redrawn (w.alloc (Obj.cells #[Value.slice (some ⟨c.bb, c.ob, none⟩) c.B.boys.length c.capb, Value.int IntKind.i64 c.B.weeks, Value.slice c.q c.B.trials.length c.capt, Value.map (some c.bm), Value.int IntKind.i64 ↑boy, Value.int IntKind.i64 n0, Value.int IntKind.i64 n1, Value.int IntKind.i64 n2, Value.int IntKind.i64 n3, Value.int IntKind.i64 n4] 110)) d) os).cell? ⟨w.heap.size, 4, none⟩ = some (Value.int IntKind.i64 ↑boy) := cell_regrown (by go_simp)
  have c5 : ∀ d os, (grow (redrawn (w.alloc (Obj.cells #[Value.slice (some ⟨c.bb, c.ob, none⟩) c.B.boys.length c.capb, Value.int IntKind.i64 c.B.weeks, Value.slice c.q c.B.trials.length c.capt, Value.map (some c.bm), Value.int IntKind.i64 ↑boy, Value.int IntKind.i64 n0, Value.int IntKind.i64 n1, Value.int IntKind.i64 n2, Value.int IntKind.i64 n3, Value.int IntKind.i64 n4] 110)) d) os).cell? ⟨w.heap.size, 5, none⟩ = some (Value.int IntKind.i64 n0) := cell_regrown (by go_simp)
  have c6 : ∀ d os, (grow (redrawn (w.alloc (Obj.cells #[Value.slice (some ⟨c.bb, c.ob, none⟩) c.B.boys.length c.capb, Value.int IntKind.i64 c.B.weeks, Value.slice c.q c.B.trials.length c.capt, Value.map (some c.bm), Value.int IntKind.i64 ↑boy, Value.int IntKind.i64 n0, Value.int IntKind.i64 n1, Value.int IntKind.i64 n2, Value.int IntKind.i64 n3, Value.int IntKind.i64 n4] 110)) d) os).cell? ⟨w.heap.size, 6, none⟩ = some (Value.int IntKind.i64 n1) := cell_regrown (by go_simp)
  have c7 : ∀ d os, (grow (redrawn (w.alloc (Obj.cells #[Value.slice (some ⟨c.bb, c.ob, none⟩) c.B.boys.length c.capb, Value.int IntKind.i64 c.B.weeks, Value.slice c.q c.B.trials.length c.capt, Value.map (some c.bm), Value.int IntKind.i64 ↑boy, Value.int IntKind.i64 n0, Value.int IntKind.i64 n1, Value.int IntKind.i64 n2, Value.int IntKind.i64 n3, Value.int IntKind.i64 n4] 110)) d) os).cell? ⟨w.heap.size, 7, none⟩ = some (Value.int IntKind.i64 n2) := cell_regrown (by go_simp)
  have c8 : ∀ d os, (grow (redrawn (w.alloc (Obj.cells #[Value.slice (some ⟨c.bb, c.ob, none⟩) c.B.boys.length c.capb, Value.int IntKind.i64 c.B.weeks, Value.slice c.q c.B.trials.length c.capt, Value.map (some c.bm), Value.int IntKind.i64 ↑boy, Value.int IntKind.i64 n0, Value.int IntKind.i64 n1, Value.int IntKind.i64 n2, Value.int IntKind.i64 n3, Value.int IntKind.i64 n4] 110)) d) os).cell? ⟨w.heap.size, 8, none⟩ = some (Value.int IntKind.i64 n3) := cell_regrown (by go_simp)
  have c9 : ∀ d os, (grow (redrawn (w.alloc (Obj.cells #[Value.slice (some ⟨c.bb, c.ob, none⟩) c.B.boys.length c.capb, Value.int IntKind.i64 c.B.weeks, Value.slice c.q c.B.trials.length c.capt, Value.map (some c.bm), Value.int IntKind.i64 ↑boy, Value.int IntKind.i64 n0, Value.int IntKind.i64 n1, Value.int IntKind.i64 n2, Value.int IntKind.i64 n3, Value.int IntKind.i64 n4] 110)) d) os).cell? ⟨w.heap.size, 9, none⟩ = some (Value.int IntKind.i64 n4) := cell_regrown (by go_simp)
  have kW : Kept w (w.alloc (Obj.cells #[Value.slice (some ⟨c.bb, c.ob, none⟩) c.B.boys.length c.capb, Value.int IntKind.i64 c.B.weeks, Value.slice c.q c.B.trials.length c.capt, Value.map (some c.bm), Value.int IntKind.i64 ↑boy, Value.int IntKind.i64 n0, Value.int IntKind.i64 n1, Value.int IntKind.i64 n2, Value.int IntKind.i64 n3, Value.int IntKind.i64 n4] 110)) := kept_alloc (kept_refl _) _
  have cw : ∀ d os, (grow (redrawn (w.alloc (Obj.cells #[Value.slice (some ⟨c.bb, c.ob, none⟩) c.B.boys.length c.capb, Value.int IntKind.i64 c.B.weeks, Value.slice c.q c.B.trials.length c.capt, Value.map (some c.bm), Value.int IntKind.i64 ↑boy, Value.int IntKind.i64 n0, Value.int IntKind.i64 n1, Value.int IntKind.i64 n2, Value.int IntKind.i64 n3, Value.int IntKind.i64 n4] 110)) d) os).cell? ⟨bw, 0, none⟩ = some (.int .i64 wk) := cell_regrown (((bcell kW).1 bw _ hzw).trans hwc)
  have cn : ∀ d os, (grow (redrawn (w.alloc (Obj.cells #[Value.slice (some ⟨c.bb, c.ob, none⟩) c.B.boys.length c.capb, Value.int IntKind.i64 c.B.weeks, Value.slice c.q c.B.trials.length c.capt, Value.map (some c.bm), Value.int IntKind.i64 ↑boy, Value.int IntKind.i64 n0, Value.int IntKind.i64 n1, Value.int IntKind.i64 n2, Value.int IntKind.i64 n3, Value.int IntKind.i64 n4] 110)) d) os).cell? ⟨bn, 0, none⟩ = some (.int .i64 note) := cell_regrown (((bcell kW).1 bn _ hzn).trans hnc)
  have cL : ∀ d os, (grow (redrawn (w.alloc (Obj.cells #[Value.slice (some ⟨c.bb, c.ob, none⟩) c.B.boys.length c.capb, Value.int IntKind.i64 c.B.weeks, Value.slice c.q c.B.trials.length c.capt, Value.map (some c.bm), Value.int IntKind.i64 ↑boy, Value.int IntKind.i64 n0, Value.int IntKind.i64 n1, Value.int IntKind.i64 n2, Value.int IntKind.i64 n3, Value.int IntKind.i64 n4] 110)) d) os).cell? ⟨c.bb, c.ob + boy * 11 + 8, none⟩ = some (.int .i64 loss) := cell_regrown (((bcell kW).1 c.bb _ hin).trans hc)
  have sW : w.heap.size ≤ (w.alloc (Obj.cells #[Value.slice (some ⟨c.bb, c.ob, none⟩) c.B.boys.length c.capb, Value.int IntKind.i64 c.B.weeks, Value.slice c.q c.B.trials.length c.capt, Value.map (some c.bm), Value.int IntKind.i64 ↑boy, Value.int IntKind.i64 n0, Value.int IntKind.i64 n1, Value.int IntKind.i64 n2, Value.int IntKind.i64 n3, Value.int IntKind.i64 n4] 110)).heap.size := by simp
  go_enter Tryz.func84, Tryz.ntmps84
  go_wp2_with fail
  generalize w.alloc (Obj.cells #[Value.slice (some ⟨c.bb, c.ob, none⟩) c.B.boys.length c.capb, Value.int IntKind.i64 c.B.weeks, Value.slice c.q c.B.trials.length c.capt, Value.map (some c.bm), Value.int IntKind.i64 ↑boy, Value.int IntKind.i64 n0, Value.int IntKind.i64 n1, Value.int IntKind.i64 n2, Value.int IntKind.i64 n3, Value.int IntKind.i64 n4] 110) = W at *
  have zL : ∀ d os, c.bb < (grow (redrawn W d) os).heap.size := fun d os => Nat.lt_of_lt_of_le (Nat.lt_of_lt_of_le hin sW) (below_regrown W d os).size
  have HL := Lib.hid cL
  have HZ := Lib.hid zL
  clear cL zL hc hwc hnc
  refine wp_region_quiet_below (by kernel_rfl) (by kernel_rfl) ?_
  repeat (any_goals (quiet_step (first | exact Calls.regrown_of (just_any _ _) | exact Calls.regrown_of (sings_any _ _ _ _ _ _ _ _ _ _ _ _ _ _ _ _ _ _ hb hl (HL.out _ _) (HZ.out _ _) h1 h2 h3 h4 h5))))
  refine wpQuiet_nil ?_
  rintro _ ⟨⟨dq, osq⟩, rfl⟩
  have kW2 := kept_trans kW (below_regrown W dq osq)
  go_wp2_with fail
  go_ret
  exact ⟨rfl, kW2⟩
theorem sings_asks (S : Nat → Prop) (c : Choir) (boy : Nat) (wk note : Int) (x : Boy) (hx : c.B.boys[boy]? = some x) (bw bn : Nat) (W : World) (hat : ChoirAt S W c) (h4 : 0 ≤ wk ∧ wk ≤ 100) (hwc : W.cell? ⟨bw, 0, none⟩ = some (.int .i64 wk)) (hnc : W.cell? ⟨bn, 0, none⟩ = some (.int .i64 note)) :
    Asks c boy x W 84 #[.pointer (some ⟨bw, 0, none⟩), .pointer (some ⟨bn, 0, none⟩)] (singsN c.B wk note note boy) := by
  have hok := hat.ok
  have hlen : c.B.boys.length ≤ 4 := by
    have := hok
    simp only [Book.okB, inB, Bool.and_eq_true, decide_eq_true_eq] at this
    omega
  have hbl : boy < c.B.boys.length := (List.getElem?_eq_some_iff.1 hx).1
  have hxok : x.okB = true := by
    simp only [Book.okB, Bool.and_eq_true, List.all_eq_true] at hok
    exact hok.1.2 x (List.mem_of_getElem? hx)
  obtain ⟨hsp, hls⟩ := spanAt_ok x hxok
  refine ⟨enters_of Tryz.func84 (by kernel_rfl) rfl, fun A n hA hn => ?_⟩
  obtain ⟨_, _, _, _, _, _, _, _, c8, _⟩ := hat.boys.2 boy x hx
  have hr := truths_rng hn
  obtain ⟨n0, n1, n2, n3, n4, rfl⟩ := truths_len hn
  have r1 := hr 1 n1 rfl
  have r2 := hr 2 n2 rfl
  have r3 := hr 3 n3 rfl
  have s1 := hsp 1 (by omega)
  have s2 := hsp 2 (by omega)
  have s3 := hsp 3 (by omega)
  have := sings1_any c boy wk note n0 n1 n2 n3 n4 x.ls bw bn A (kcell hA hwc) (kcell hA hnc) hbl hlen (kcell hA c8) (Nat.lt_of_lt_of_le hat.boys.1 hA.size) (by omega) (by omega) (by omega) h4 (by omega)
  simpa [singsN, hx] using this
def SingP (B : Book) (boy : Nat) (week note : Int) (W : World) (e : Ending) (C : World) : Prop :=
  ∃ v err, e = .returned (.tuple #[.int .i64 v, .int .i64 err]) ∧ Kept W C ∧
    ((err = 0 ∧ Can B ∧ ∃ x, B.boys[boy]? = some x ∧ v = oftenOf (B.truths boy x) (singsN B week note note boy)) ∨ (err = 22 ∧ ¬ Can B ∧ v = 0))
set_option maxHeartbeats 4000000 in
theorem sings_all (p q : Option Addr) (cap capt : Nat) (B : Book) (boy : Nat) (week note : Int) (W : World) (h : BookAt W p q cap capt B) (hg : Nothing W) (hok0 : B.okB = true) (hb : boy < B.boys.length) (hwk0 : 0 ≤ week ∧ week < B.weeks) (hnt0 : 0 ≤ note ∧ note ≤ 40) :
    Calls Tryz.prog 19 #[B.val p q cap capt, .int .i64 (boy : Int), .int .i64 week, .int .i64 note] W (SingP B boy week note W) := by
  have hwk : 0 ≤ B.weeks ∧ B.weeks ≤ 1000 := by
    have := hok0
    simp only [Book.okB, inB, Bool.and_eq_true, decide_eq_true_eq] at this
    omega
  have hwk1 : 0 ≤ week ∧ week ≤ 100 := by
    have := hok0
    simp only [Book.okB, inB, Bool.and_eq_true, decide_eq_true_eq] at this
    omega
  have hnb := h.nb
  have hboyT : inB (boy : Int) 0 (B.boys.length - 1) = true := by simp [inB]; omega
  have hweekT : inB week 0 (B.weeks - 1) = true := by simp [inB]; omega
  have hnoteT : inB note 0 40 = true := by simp [inB]; omega
  refine callsIn_wide.1 (callsIn_of_wp (n := 0) Tryz.func19 rfl trivial ?_ rfl)
  simp only [Tryz.ntmps19, List.size_toArray, List.length_cons, List.length_nil, Nat.reduceAdd, Nat.reduceSub, Array.replicate_succ, Array.replicate_zero, List.push_toArray, List.append_toArray, List.nil_append, List.cons_append]
  unfold Book.val
  gi_wp2_with fail
  obtain ⟨hk0, a0c, a1c, a2c⟩ := bk2 W p q cap capt B (Obj.cells #[.int .i64 week] 3) (Obj.cells #[.int .i64 note] 3)
  have wc : (((W.alloc (Obj.cells #[.slice p B.boys.length cap, .int .i64 B.weeks, .slice q B.trials.length capt] 25)).alloc (Obj.cells #[.int .i64 week] 3)).alloc (Obj.cells #[.int .i64 note] 3)).cell? ⟨W.heap.size + 1, 0, none⟩ = some (.int .i64 week) := by go_simp
  have nc : (((W.alloc (Obj.cells #[.slice p B.boys.length cap, .int .i64 B.weeks, .slice q B.trials.length capt] 25)).alloc (Obj.cells #[.int .i64 week] 3)).alloc (Obj.cells #[.int .i64 note] 3)).cell? ⟨W.heap.size + 1 + 1, 0, none⟩ = some (.int .i64 note) := by go_simp
  generalize (((W.alloc (Obj.cells #[.slice p B.boys.length cap, .int .i64 B.weeks, .slice q B.trials.length capt] 25)).alloc (Obj.cells #[.int .i64 week] 3)).alloc (Obj.cells #[.int .i64 note] 3)) = W0 at *
  refine wpIn_region_invL (StO 13 (fun j => match j with | 0 => (.agg #[.slice p B.boys.length cap, .int .i64 B.weeks, .slice q B.trials.length capt]) | 1 => (.agg #[.slice p B.boys.length cap, .int .i64 B.weeks, .slice q B.trials.length capt]) | 2 => .int .i64 (boy : Int) | 5 => (.agg #[.slice p B.boys.length cap, .int .i64 B.weeks, .slice q B.trials.length capt]) | 6 => .int .i64 week | 10 => .int .i64 note | _ => .bool true) W0 B true) (by kernel_rfl) (by kernel_rfl) StO.start ?hop ?hend
  case hop =>
    rintro i o listed a w hl ho h1 h2 hcl ⟨v, err, pp, ha, hw⟩
    have hi11 : i < 20 := (List.getElem?_eq_some_iff.1 ho).1
    match i, ho with
    | 0, ho =>
      have ST := StO.sm (by kernel_rfl) ha hw ho h1 (by decide)
      cases ho
      rw [if_pos (by rfl)]
      have t4 := ha.old 4 (by kernel_rfl)
      simp at t4
      have r0 := kcell hw.kept a0c
      have r1 := kcell hw.kept a1c
      have r2 := kcell hw.kept a2c
      go_simp
      exact ST.out
    | 1, ho =>
      have ST := StO.sm (by kernel_rfl) ha hw ho h1 (by decide)
      cases ho
      rw [if_pos (by rfl)]
      have t4 := ha.old 4 (by kernel_rfl)
      simp at t4
      have r0 := kcell hw.kept a0c
      have r1 := kcell hw.kept a1c
      have r2 := kcell hw.kept a2c
      go_simp
      exact ST.out
    | 2, ho =>
      have ST := StO.sm (by kernel_rfl) ha hw ho h1 (by decide)
      cases ho
      rw [if_pos (by rfl)]
      have t1 := ha.old 1 (by kernel_rfl)
      simp at t1
      go_simp
      exact ST.out
    | 3, ho =>
      have st := fun w' (k : Kept w w') => StO.same (by kernel_rfl) ha hw ho h1 (by omega) (by omega) (by omega) k
      have ST := Lib.hid st; clear st
      cases ho
      rw [if_pos (by rfl)]
      have t14 := ha.new 1 (h2 ⟨1, .data⟩ (by simp) rfl) (d := 14) rfl rfl (by simp)
      simp [openVs] at t14
      have t15 := ha.new 2 (h2 ⟨2, .data⟩ (by simp) rfl) (d := 15) rfl rfl (by simp)
      simp [openVs] at t15
      have hcall := isBoy_any p B.boys.length cap (.int .i64 B.weeks) (.slice q B.trials.length capt) (boy : Int) w hnb
      rw [hboyT] at hcall
      go_simp
      refine ⟨trivial, rfl, (callsIn_wide.2 hcall).mono ?_⟩
      rintro e w' ⟨rfl, hk⟩
      exact ST.out _ hk
    | 4, ho =>
      have ST := StO.sm (by kernel_rfl) ha hw ho h1 (by decide)
      cases ho
      rw [if_pos (by rfl)]
      have t16 := ha.new 3 (h2 ⟨3, .data⟩ (by simp) rfl) (d := 16) rfl rfl (by simp)
      simp [openVs] at t16
      go_simp
      exact ST.out
    | 5, ho =>
      have ST := StO.sm (by kernel_rfl) ha hw ho h1 (by decide)
      cases ho
      have t17 := ha.new 4 (h2 ⟨4, .guard⟩ (by simp) rfl) (d := 17) rfl rfl (by simp)
      simp [openVs] at t17
      rw [if_pos (by simp [Region.wanted, yielded, getD_bool t17])]
      have t4 := ha.old 4 (by kernel_rfl)
      simp at t4
      have r0 := kcell hw.kept a0c
      have r1 := kcell hw.kept a1c
      have r2 := kcell hw.kept a2c
      go_simp
      exact ST.out
    | 6, ho =>
      have ST := StO.sm (by kernel_rfl) ha hw ho h1 (by decide)
      cases ho
      have t17 := ha.new 4 (h2 ⟨4, .guard⟩ (by simp) rfl) (d := 17) rfl rfl (by simp)
      simp [openVs] at t17
      rw [if_pos (by simp [Region.wanted, yielded, getD_bool t17])]
      have t6 := ha.old 6 (by kernel_rfl)
      simp at t6
      have rw0 := kcell hw.kept wc
      go_simp
      exact ST.out
    | 7, ho =>
      have st := fun w' (k : Kept w w') => StO.same (by kernel_rfl) ha hw ho h1 (by omega) (by omega) (by omega) k
      have ST := Lib.hid st; clear st
      cases ho
      have t17 := ha.new 4 (h2 ⟨4, .guard⟩ (by simp) rfl) (d := 17) rfl rfl (by simp)
      simp [openVs] at t17
      rw [if_pos (by simp [Region.wanted, yielded, getD_bool t17])]
      have t18 := ha.new 5 (h2 ⟨5, .data⟩ (by simp) rfl) (d := 18) rfl rfl (by simp)
      simp [openVs] at t18
      have t19 := ha.new 6 (h2 ⟨6, .data⟩ (by simp) rfl) (d := 19) rfl rfl (by simp)
      simp [openVs] at t19
      have hcall := isWeek_any (.slice p B.boys.length cap) (.slice q B.trials.length capt) B.weeks week w hwk.1 hwk.2
      rw [hweekT] at hcall
      go_simp
      refine ⟨trivial, rfl, (callsIn_wide.2 hcall).mono ?_⟩
      rintro e w' ⟨rfl, hk⟩
      exact ST.out _ hk
    | 8, ho =>
      have ST := StO.sm (by kernel_rfl) ha hw ho h1 (by decide)
      cases ho
      rw [if_pos (by rfl)]
      have t17 := ha.new 4 (h2 ⟨4, .data⟩ (by simp) rfl) (d := 17) rfl rfl (by simp)
      simp [openVs] at t17
      have t20 := ha.new 7 (h2 ⟨7, .data⟩ (by simp) rfl) (d := 20) rfl rfl (by simp)
      simp [openVs] at t20
      go_simp
      exact ST.out
    | 9, ho =>
      have ST := StO.sm (by kernel_rfl) ha hw ho h1 (by decide)
      cases ho
      rw [if_pos (by rfl)]
      have t21 := ha.new 8 (h2 ⟨8, .data⟩ (by simp) rfl) (d := 21) rfl rfl (by simp)
      simp [openVs] at t21
      go_simp
      exact ST.out
    | 10, ho =>
      have ST := StO.sm (by kernel_rfl) ha hw ho h1 (by decide)
      cases ho
      have t22 := ha.new 9 (h2 ⟨9, .guard⟩ (by simp) rfl) (d := 22) rfl rfl (by simp)
      simp [openVs] at t22
      rw [if_pos (by simp [Region.wanted, yielded, getD_bool t22])]
      have t7 := ha.old 7 (by kernel_rfl)
      simp at t7
      have rn0 := kcell hw.kept nc
      go_simp
      exact ST.out
    | 11, ho =>
      have st := fun w' (k : Kept w w') => StO.same (by kernel_rfl) ha hw ho h1 (by omega) (by omega) (by omega) k
      have ST := Lib.hid st; clear st
      cases ho
      have t22 := ha.new 9 (h2 ⟨9, .guard⟩ (by simp) rfl) (d := 22) rfl rfl (by simp)
      simp [openVs] at t22
      rw [if_pos (by simp [Region.wanted, yielded, getD_bool t22])]
      have t23 := ha.new 10 (h2 ⟨10, .data⟩ (by simp) rfl) (d := 23) rfl rfl (by simp)
      simp [openVs] at t23
      have hcall := isNote_any note w
      rw [hnoteT] at hcall
      go_simp
      refine ⟨trivial, rfl, (callsIn_wide.2 hcall).mono ?_⟩
      rintro e w' ⟨rfl, hk⟩
      subst hk; exact ST.out _ (kept_refl _)
    | 12, ho =>
      have ST := StO.sm (by kernel_rfl) ha hw ho h1 (by decide)
      cases ho
      rw [if_pos (by rfl)]
      have t22 := ha.new 9 (h2 ⟨9, .data⟩ (by simp) rfl) (d := 22) rfl rfl (by simp)
      simp [openVs] at t22
      have t24 := ha.new 11 (h2 ⟨11, .data⟩ (by simp) rfl) (d := 24) rfl rfl (by simp)
      simp [openVs] at t24
      go_simp
      exact ST.out
    | 13, ho =>
      obtain ⟨n5, n6, n7, n9, n10⟩ := open_first hcl h1 ⟨_, rfl, ⟨13, .data⟩, by simp, rfl, rfl⟩ ⟨_, rfl, ⟨14, .data⟩, by simp, rfl, rfl⟩ ⟨_, rfl, ⟨14, .data⟩, by simp, rfl, rfl⟩ ⟨_, rfl, ⟨15, .data⟩, by simp, rfl, rfl⟩ ⟨_, rfl, ⟨16, .data⟩, by simp, rfl, rfl⟩
      have st := fun v' err' w' (k : OpenReg W0 B true v' err' pp true (on listed 17) (on listed 18) w') => StO.opened (by kernel_rfl) ha hl ho h1 n5 n6 n7 n9 n10 k
      have ST := Lib.hid st; clear st
      cases ho
      rw [if_pos (by rfl)]
      have t13 := ha.new 0 (h2 ⟨0, .data⟩ (by simp) rfl) (d := 13) rfl rfl (by simp)
      simp [openVs] at t13
      have t25 := ha.new 12 (h2 ⟨12, .data⟩ (by simp) rfl) (d := 25) rfl rfl (by simp)
      simp [openVs] at t25
      have hcall := open_any p q cap capt B true W w h (kept_trans hk0 hw.kept) (hg.kept (kept_trans hk0 hw.kept))
      unfold Book.val at hcall
      have HOP := Lib.hid (fun e w' => hw.opened (e := e) (w' := w') W.heap.size hk0.size n9)
      go_simp
      refine ⟨trivial, rfl, (callsIn_wide.2 hcall).mono ?_⟩
      intro e w' hop
      obtain ⟨v', err', rfl, hr⟩ := HOP.out e w' hop
      exact ST.out v' err' w' hr
    | 14, ho =>
      have ST := StO.sm (by kernel_rfl) ha hw ho h1 (by decide)
      cases ho
      rw [if_pos (by rfl)]
      have t26 := ha.new 13 (h2 ⟨13, .data⟩ (by simp) rfl) (d := 26) rfl rfl (by simp)
      simp [openVs] at t26
      go_simp
      exact ST.out
    | 15, ho =>
      have ST := StO.sm (by kernel_rfl) ha hw ho h1 (by decide)
      cases ho
      rw [if_pos (by rfl)]
      have t12 := ha.new 14 (h2 ⟨14, .data⟩ (by simp) rfl) (d := 12) rfl rfl (by simp)
      simp [openVs] at t12
      go_simp
      exact ST.out
    | 16, ho =>
      have ST := StO.sm (by kernel_rfl) ha hw ho h1 (by decide)
      cases ho
      rw [if_pos (by rfl)]
      have t12 := ha.new 14 (h2 ⟨14, .data⟩ (by simp) rfl) (d := 12) rfl rfl (by simp)
      simp [openVs] at t12
      go_simp
      exact ST.out
    | 17, ho =>
      have n9 : on listed 18 = false := by
        cases hb : on listed 18 with
        | false => rfl
        | true => have := hcl 18 _ rfl hb ⟨17, .data⟩ (by simp) rfl; rw [on_no h1] at this; cases this
      have st := StO.boxed (by kernel_rfl) ha hw hl ho h1 n9
      have ST := Lib.hid st; clear st
      cases ho
      rw [if_pos (by rfl)]
      go_simp
      exact ST.out
    | 18, ho =>
      have y8 : on listed 17 = true := h2 ⟨17, .data⟩ (by cases ho; simp) rfl
      have y4 : on listed 13 = true := h2 ⟨13, .chain⟩ (by cases ho; simp) rfl
      have t10 := ha.new 17 y8 (d := 10) rfl rfl (by simp)
      simp [openVs] at t10
      have t27 := ha.new 15 (h2 ⟨15, .data⟩ (by cases ho; simp) rfl) (d := 27) rfl rfl (by simp)
      simp [openVs] at t27
      obtain ⟨hbp, ⟨f0, f1, f2, f3, b0, b1, b2, b3⟩, hbf⟩ := hw.box y8
      have bf0 := hbf 0
      have bf1 := hbf 1
      have bf2 := hbf 2
      have bf3 := hbf 3
      rcases hw.res y4 with ⟨_, _, _, _, c, S, hcB, rfl, _⟩ | ⟨rfl, _⟩
      · clear hcB
        have st := StO.stored (by kernel_rfl) ha hw hl ho (by cases ho; rfl) h1 y8 (show c.val = _ from rfl)
        have ST := Lib.hid st; clear st
        cases ho
        rw [if_pos (by rfl)]
        unfold Choir.val at t27
        clear hbf
        go_simp
        exact ST.out
      · have st := StO.stored (by kernel_rfl) ha hw hl ho (by cases ho; rfl) h1 y8 (show zeroChoir = _ from rfl)
        have ST := Lib.hid st; clear st
        cases ho
        rw [if_pos (by rfl)]
        unfold zeroChoir at t27
        clear hbf
        go_simp
        exact ST.out
    | 19, ho =>
      have ST := StO.sm (by kernel_rfl) ha hw ho h1 (by decide)
      cases ho
      rw [if_pos (by rfl)]
      have t28 := ha.new 16 (h2 ⟨16, .data⟩ (by simp) rfl) (d := 28) rfl rfl (by simp)
      simp [openVs] at t28
      go_simp
      exact ST.out
  case hend =>
    rintro listed a w hall ⟨v, err, pp, ha, hw⟩
    rw [show on listed 13 = true from hall 13 (by simp), show on listed 17 = true from hall 17 (by simp), show on listed 18 = true from hall 18 (by simp)] at hw
    obtain ⟨y, hy, hae⟩ := ha.lit (n := 36) rfl
    have y1 := (hy 1).symm.trans (ha.old 1 (by kernel_rfl))
    have y6 := (hy 6).symm.trans (ha.old 6 (by kernel_rfl))
    have y7 := (hy 7).symm.trans (ha.old 7 (by kernel_rfl))
    have y8 := (hy 8).symm.trans (ha.old 8 (by kernel_rfl))
    have y9 := (hy 9).symm.trans (ha.old 9 (by kernel_rfl))
    have y10 := (hy 10).symm.trans (ha.new 17 (hall 17 (by simp)) (d := 10) rfl rfl (by simp))
    have y11 := (hy 11).symm.trans (ha.new 19 (hall 19 (by simp)) (d := 11) rfl rfl (by simp))
    simp at y1 y6 y7 y8 y9
    simp [openVs] at y10 y11
    simp only [List.range, List.range.loop, List.map] at hae
    rw [y1, y6, y7, y8, y9, y10, y11] at hae
    subst hae
    clear ha hy y1 y6 y7 y8 y9 y10 y11
    refine (by assumption : ∀ a w, Code.wpIn _ _ _ _ _ a w → _) _ w ?_
    have wk := kcell hw.kept wc
    have wn := kcell hw.kept nc
    obtain ⟨_, x0, x1, x2, x3, hv, b0, b1, b2, b3⟩ := hw.put rfl
    rcases hw.res rfl with ⟨rfl, hok, _, hcan, c, S, hcB, hvc, hch, hSz, hSp⟩ | ⟨rfl, herr⟩
    · subst hcB
      subst hvc
      have e4 := congrArg (fun u => match u with | Value.agg cs => cs.toList | _ => []) hv
      simp only [Choir.val, List.cons.injEq, and_true] at e4
      obtain ⟨rfl, rfl, rfl, rfl⟩ := e4
      have hzp := Go.Ai.lt_of_cell b0
      have hzw := Go.Ai.lt_of_cell wk
      have hx : c.B.boys[boy]? = some c.B.boys[boy] := List.getElem?_eq_getElem hb
      generalize c.B.boys[boy] = x at *
      gi_wp2_with fail
      have hcall := often_any S c boy x hx w hch hSz _ _ (singsN c.B week note note boy) (sings_asks S c boy week note x hx (W.heap.size + 1) (W.heap.size + 1 + 1) w hch hwk1 wk wn)
      unfold Choir.val at hcall
      refine ⟨trivial, rfl, (callsIn_wide.2 hcall).mono ?_⟩
      rintro e w2 ⟨rfl, hk7⟩
      clear hcall
      gi_wp2_with fail
      refine bodyPost_ret (v := .tuple #[.int .i64 (oftenOf (c.B.truths boy x) (singsN c.B week note note boy)), .int .i64 0]) (by simp [results, Tryz.results19, go_sem]) rfl ?_
      exact ⟨_, 0, rfl, kept_trans (kept_trans hk0 hw.kept) hk7, .inl ⟨rfl, hcan, x, hx, rfl⟩⟩
    · rcases herr with ⟨_, he⟩ | ⟨_, _, he⟩ | ⟨rfl, _, _, hnc⟩
      · rw [hok0] at he; cases he
      · cases he
      gi_wp2_with fail
      refine bodyPost_ret (v := .tuple #[.int .i64 0, .int .i64 22]) (by simp [results, Tryz.results19, go_sem]) rfl ?_
      exact ⟨_, 22, rfl, kept_trans hk0 hw.kept, .inr ⟨rfl, hnc, rfl⟩⟩
def lossOf (B : Book) (boy : Nat) : Int := (B.boys[boy]?.map Boy.ls).getD 0
def hiF (B : Book) (boy : Nat) (wk : Int) (n : List Int) : Int × Bool := (top (n.getD 1 0) (n.getD 2 0) (n.getD 3 0) (lossOf B boy) wk, decide (wk < n.getD 4 0))
theorem singsN_iff (B : Book) (wk lo hi : Int) (boy : Nat) (n : List Int) : singsN B wk lo hi boy n = true ↔ (hiF B boy wk n).2 = true ∧ n.getD 0 0 ≤ lo ∧ hi ≤ (hiF B boy wk n).1 := by
  simp [singsN, singsB, hiF, lossOf, and_assoc]
theorem often_zero {l : List (List Int)} {sb : List Int → Bool} (hl : l ≠ []) (h : ∀ n ∈ l, sb n = false) : oftenOf l sb = 0 := by
  cases l with
  | nil => exact absurd rfl hl
  | cons n l =>
    have h1 : (n :: l).all sb = false := by simp [h n List.mem_cons_self]
    have h2 : (n :: l).any sb = false := by rw [List.any_eq_false]; exact fun m hm => by rw [h m hm]; simp
    simp only [oftenOf, h1, h2]; rfl
theorem often_two {l : List (List Int)} {sb : List Int → Bool} (h : ∀ n ∈ l, sb n = true) : oftenOf l sb = 2 := by
  have h2 : l.all sb = true := List.all_eq_true.2 h
  simp only [oftenOf, h2]; rfl
structure TopsAt (x : Boy) (week note lo0 lo1 br0 br1 tp0 tp1 : Int) (fd : Bool) (kind : Int) : Prop where
  a1 : x.l0 ≤ lo0
  a2 : lo0 ≤ lo1
  a3 : lo1 ≤ x.l1
  b1 : x.b0 ≤ br0
  b2 : br0 ≤ br1
  b3 : br1 ≤ x.b1
  k1 : 0 ≤ kind
  k2 : kind ≤ 2
  t1 : fd = false ↔ br1 ≤ week
  t2 : fd = false → kind = 0 ∧ tp0 = 0 ∧ tp1 = 0
  t3 : fd = true → tp0 ≤ tp1
  t4 : fd = true → tp1 < note → kind = 0
  t5 : note < lo0 → kind = 0
  t6 : fd = true → note = tp1 → lo1 ≤ note → kind ≠ 0
  t7 : fd = true → week < br0 → lo1 ≤ note → note ≤ tp0 → kind = 2
end Go.Proofs.YthkcgengohoboaaGreatDoor
