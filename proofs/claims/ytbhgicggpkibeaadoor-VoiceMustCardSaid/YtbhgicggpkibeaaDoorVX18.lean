import Derived.Test.YtbhgicggpkibeaaDoorVX17
set_option linter.all false
set_option linter.all false
namespace Go.Proofs.YtbhgicggpkibeaaDoor
open Go.RowKit Go.Sort Go.Rg
set_option maxRecDepth 100000

theorem getD_bool {x : Option Value} {b : Bool} (h : x.getD undef = .bool b) : x = some (.bool b) := by
  cases x with
  | none => exact absurd h (by simp [undef])
  | some v => exact congrArg some h

set_option maxHeartbeats 2000000 in
theorem surely1_any (c : Choir) (boy : Nat) (wk note n0 n1 n2 n3 n4 loss : Int) (bw bn : Nat) (w : World) (hwc : w.cell? ⟨bw, 0, none⟩ = some (.int .i64 wk)) (hnc : w.cell? ⟨bn, 0, none⟩ = some (.int .i64 note))
   (hb : boy < c.B.boys.length) (hl : c.B.boys.length ≤ 4) (hc : w.cell? ⟨c.bb, c.ob + boy * 11 + 8, none⟩ = some (.int .i64 loss)) (hin : c.bb < w.heap.size)
   (h1 : 0 ≤ n1 ∧ n1 ≤ 100) (h2 : 0 ≤ n2 ∧ n2 ≤ 100) (h3 : 0 ≤ n3 ∧ n3 ≤ 100) (h4 : 0 ≤ wk ∧ wk ≤ 100) (h5 : 0 ≤ loss ∧ loss ≤ 100) :
    Calls Tryd.prog 55 #[encT c boy [n0, n1, n2, n3, n4], .pointer (some ⟨bw, 0, none⟩), .pointer (some ⟨bn, 0, none⟩)] w fun e w' => e = .returned (.bool (singsB n0 n1 n2 n3 n4 loss wk note note)) ∧ Kept w w' := by
  simp only [encT, List.map_cons, List.map_nil, List.append_toArray, List.cons_append, List.nil_append, Choir.k0, Choir.k2, Choir.m]
  have hzw := Go.Ai.lt_of_cell hwc
  have hzn := Go.Ai.lt_of_cell hnc
  have c0 : ∀ d os, (grow (redrawn (w.alloc (Obj.cells #[Value.slice (some ⟨c.bb, c.ob, none⟩) c.B.boys.length c.capb, Value.int IntKind.i64 c.B.weeks, Value.slice c.q c.B.trials.length c.capt, Value.map (some c.bm), Value.int IntKind.i64 ↑boy, Value.int IntKind.i64 n0, Value.int IntKind.i64 n1, Value.int IntKind.i64 n2, Value.int IntKind.i64 n3, Value.int IntKind.i64 n4] 92)) d) os).cell? ⟨w.heap.size, 0, none⟩ = some (Value.slice (some ⟨c.bb, c.ob, none⟩) c.B.boys.length c.capb) := cell_regrown (by go_simp)
  have c1 : ∀ d os, (grow (redrawn (w.alloc (Obj.cells #[Value.slice (some ⟨c.bb, c.ob, none⟩) c.B.boys.length c.capb, Value.int IntKind.i64 c.B.weeks, Value.slice c.q c.B.trials.length c.capt, Value.map (some c.bm), Value.int IntKind.i64 ↑boy, Value.int IntKind.i64 n0, Value.int IntKind.i64 n1, Value.int IntKind.i64 n2, Value.int IntKind.i64 n3, Value.int IntKind.i64 n4] 92)) d) os).cell? ⟨w.heap.size, 1, none⟩ = some (Value.int IntKind.i64 c.B.weeks) := cell_regrown (by go_simp)
  have c2 : ∀ d os, (grow (redrawn (w.alloc (Obj.cells #[Value.slice (some ⟨c.bb, c.ob, none⟩) c.B.boys.length c.capb, Value.int IntKind.i64 c.B.weeks, Value.slice c.q c.B.trials.length c.capt, Value.map (some c.bm), Value.int IntKind.i64 ↑boy, Value.int IntKind.i64 n0, Value.int IntKind.i64 n1, Value.int IntKind.i64 n2, Value.int IntKind.i64 n3, Value.int IntKind.i64 n4] 92)) d) os).cell? ⟨w.heap.size, 2, none⟩ = some (Value.slice c.q c.B.trials.length c.capt) := cell_regrown (by go_simp)
  have c3 : ∀ d os, (grow (redrawn (w.alloc (Obj.cells #[Value.slice (some ⟨c.bb, c.ob, none⟩) c.B.boys.length c.capb, Value.int IntKind.i64 c.B.weeks, Value.slice c.q c.B.trials.length c.capt, Value.map (some c.bm), Value.int IntKind.i64 ↑boy, Value.int IntKind.i64 n0, Value.int IntKind.i64 n1, Value.int IntKind.i64 n2, Value.int IntKind.i64 n3, Value.int IntKind.i64 n4] 92)) d) os).cell? ⟨w.heap.size, 3, none⟩ = some (Value.map (some c.bm)) := cell_regrown (by go_simp)
  have c4 : ∀ d os, (grow (redrawn (w.alloc (Obj.cells #[Value.slice (some ⟨c.bb, c.ob, none⟩) c.B.boys.length c.capb, Value.int IntKind.i64 c.B.weeks, Value.slice c.q c.B.trials.length c.capt, Value.map (some c.bm), Value.int IntKind.i64 ↑boy, Value.int IntKind.i64 n0, Value.int IntKind.i64 n1, Value.int IntKind.i64 n2, Value.int IntKind.i64 n3, Value.int IntKind.i64 n4] 92)) d) os).cell? ⟨w.heap.size, 4, none⟩ = some (Value.int IntKind.i64 ↑boy) := cell_regrown (by go_simp)
  have c5 : ∀ d os, (grow (redrawn (w.alloc (Obj.cells #[Value.slice (some ⟨c.bb, c.ob, none⟩) c.B.boys.length c.capb, Value.int IntKind.i64 c.B.weeks, Value.slice c.q c.B.trials.length c.capt, Value.map (some c.bm), Value.int IntKind.i64 ↑boy, Value.int IntKind.i64 n0, Value.int IntKind.i64 n1, Value.int IntKind.i64 n2, Value.int IntKind.i64 n3, Value.int IntKind.i64 n4] 92)) d) os).cell? ⟨w.heap.size, 5, none⟩ = some (Value.int IntKind.i64 n0) := cell_regrown (by go_simp)
  have c6 : ∀ d os, (grow (redrawn (w.alloc (Obj.cells #[Value.slice (some ⟨c.bb, c.ob, none⟩) c.B.boys.length c.capb, Value.int IntKind.i64 c.B.weeks, Value.slice c.q c.B.trials.length c.capt, Value.map (some c.bm), Value.int IntKind.i64 ↑boy, Value.int IntKind.i64 n0, Value.int IntKind.i64 n1, Value.int IntKind.i64 n2, Value.int IntKind.i64 n3, Value.int IntKind.i64 n4] 92)) d) os).cell? ⟨w.heap.size, 6, none⟩ = some (Value.int IntKind.i64 n1) := cell_regrown (by go_simp)
  have c7 : ∀ d os, (grow (redrawn (w.alloc (Obj.cells #[Value.slice (some ⟨c.bb, c.ob, none⟩) c.B.boys.length c.capb, Value.int IntKind.i64 c.B.weeks, Value.slice c.q c.B.trials.length c.capt, Value.map (some c.bm), Value.int IntKind.i64 ↑boy, Value.int IntKind.i64 n0, Value.int IntKind.i64 n1, Value.int IntKind.i64 n2, Value.int IntKind.i64 n3, Value.int IntKind.i64 n4] 92)) d) os).cell? ⟨w.heap.size, 7, none⟩ = some (Value.int IntKind.i64 n2) := cell_regrown (by go_simp)
  have c8 : ∀ d os, (grow (redrawn (w.alloc (Obj.cells #[Value.slice (some ⟨c.bb, c.ob, none⟩) c.B.boys.length c.capb, Value.int IntKind.i64 c.B.weeks, Value.slice c.q c.B.trials.length c.capt, Value.map (some c.bm), Value.int IntKind.i64 ↑boy, Value.int IntKind.i64 n0, Value.int IntKind.i64 n1, Value.int IntKind.i64 n2, Value.int IntKind.i64 n3, Value.int IntKind.i64 n4] 92)) d) os).cell? ⟨w.heap.size, 8, none⟩ = some (Value.int IntKind.i64 n3) := cell_regrown (by go_simp)
  have c9 : ∀ d os, (grow (redrawn (w.alloc (Obj.cells #[Value.slice (some ⟨c.bb, c.ob, none⟩) c.B.boys.length c.capb, Value.int IntKind.i64 c.B.weeks, Value.slice c.q c.B.trials.length c.capt, Value.map (some c.bm), Value.int IntKind.i64 ↑boy, Value.int IntKind.i64 n0, Value.int IntKind.i64 n1, Value.int IntKind.i64 n2, Value.int IntKind.i64 n3, Value.int IntKind.i64 n4] 92)) d) os).cell? ⟨w.heap.size, 9, none⟩ = some (Value.int IntKind.i64 n4) := cell_regrown (by go_simp)
  have kW : Kept w (w.alloc (Obj.cells #[Value.slice (some ⟨c.bb, c.ob, none⟩) c.B.boys.length c.capb, Value.int IntKind.i64 c.B.weeks, Value.slice c.q c.B.trials.length c.capt, Value.map (some c.bm), Value.int IntKind.i64 ↑boy, Value.int IntKind.i64 n0, Value.int IntKind.i64 n1, Value.int IntKind.i64 n2, Value.int IntKind.i64 n3, Value.int IntKind.i64 n4] 92)) := kept_alloc (kept_refl _) _
  have cw : ∀ d os, (grow (redrawn (w.alloc (Obj.cells #[Value.slice (some ⟨c.bb, c.ob, none⟩) c.B.boys.length c.capb, Value.int IntKind.i64 c.B.weeks, Value.slice c.q c.B.trials.length c.capt, Value.map (some c.bm), Value.int IntKind.i64 ↑boy, Value.int IntKind.i64 n0, Value.int IntKind.i64 n1, Value.int IntKind.i64 n2, Value.int IntKind.i64 n3, Value.int IntKind.i64 n4] 92)) d) os).cell? ⟨bw, 0, none⟩ = some (.int .i64 wk) := cell_regrown (((bcell kW).1 bw _ hzw).trans hwc)
  have cn : ∀ d os, (grow (redrawn (w.alloc (Obj.cells #[Value.slice (some ⟨c.bb, c.ob, none⟩) c.B.boys.length c.capb, Value.int IntKind.i64 c.B.weeks, Value.slice c.q c.B.trials.length c.capt, Value.map (some c.bm), Value.int IntKind.i64 ↑boy, Value.int IntKind.i64 n0, Value.int IntKind.i64 n1, Value.int IntKind.i64 n2, Value.int IntKind.i64 n3, Value.int IntKind.i64 n4] 92)) d) os).cell? ⟨bn, 0, none⟩ = some (.int .i64 note) := cell_regrown (((bcell kW).1 bn _ hzn).trans hnc)
  have cL : ∀ d os, (grow (redrawn (w.alloc (Obj.cells #[Value.slice (some ⟨c.bb, c.ob, none⟩) c.B.boys.length c.capb, Value.int IntKind.i64 c.B.weeks, Value.slice c.q c.B.trials.length c.capt, Value.map (some c.bm), Value.int IntKind.i64 ↑boy, Value.int IntKind.i64 n0, Value.int IntKind.i64 n1, Value.int IntKind.i64 n2, Value.int IntKind.i64 n3, Value.int IntKind.i64 n4] 92)) d) os).cell? ⟨c.bb, c.ob + boy * 11 + 8, none⟩ = some (.int .i64 loss) := cell_regrown (((bcell kW).1 c.bb _ hin).trans hc)
  have sW : w.heap.size ≤ (w.alloc (Obj.cells #[Value.slice (some ⟨c.bb, c.ob, none⟩) c.B.boys.length c.capb, Value.int IntKind.i64 c.B.weeks, Value.slice c.q c.B.trials.length c.capt, Value.map (some c.bm), Value.int IntKind.i64 ↑boy, Value.int IntKind.i64 n0, Value.int IntKind.i64 n1, Value.int IntKind.i64 n2, Value.int IntKind.i64 n3, Value.int IntKind.i64 n4] 92)).heap.size := by simp
  go_enter Tryd.func55, Tryd.ntmps55
  go_wp2_with fail
  generalize w.alloc (Obj.cells #[Value.slice (some ⟨c.bb, c.ob, none⟩) c.B.boys.length c.capb, Value.int IntKind.i64 c.B.weeks, Value.slice c.q c.B.trials.length c.capt, Value.map (some c.bm), Value.int IntKind.i64 ↑boy, Value.int IntKind.i64 n0, Value.int IntKind.i64 n1, Value.int IntKind.i64 n2, Value.int IntKind.i64 n3, Value.int IntKind.i64 n4] 92) = W at *
  have zL : ∀ d os, c.bb < (grow (redrawn W d) os).heap.size := fun d os => Nat.lt_of_lt_of_le (Nat.lt_of_lt_of_le hin sW) (below_regrown W d os).size
  have HL := Lib.hid cL
  have HZ := Lib.hid zL
  clear cL zL hc hwc hnc
  refine wp_region_quiet_below (by kernel_rfl) (by kernel_rfl) ?_
  repeat (any_goals (quiet_step (first | exact Calls.regrown_of (just_any _ _) | exact Calls.regrown_of (sings_any _ _ _ _ _ _ _ _ _ _ _ _ _ _ _ _ _ _ hb hl (HL.out _ _) (HZ.out _ _) h1 h2 h3 h4 h5))))
  refine wpQuiet_nil ?_
  intro _ hw'
  obtain ⟨⟨dq, osq⟩, hw''⟩ := hw'
  subst hw''
  have kW2 := kept_trans kW (below_regrown W dq osq)
  go_wp2_with fail
  go_ret
  exact ⟨rfl, kW2⟩

/-- can the boy sing the note, with these numbers? -/
def singsN (B : Book) (wk lo hi : Int) (boy : Nat) (n : List Int) : Bool := singsB (n.getD 0 0) (n.getD 1 0) (n.getD 2 0) (n.getD 3 0) (n.getD 4 0) ((B.boys[boy]?.map Boy.ls).getD 0) wk lo hi
theorem surely_asks (S : Nat → Prop) (c : Choir) (boy : Nat) (wk note : Int) (x : Boy) (hx : c.B.boys[boy]? = some x) (bw bn : Nat) (W : World) (hat : ChoirAt S W c) (h4 : 0 ≤ wk ∧ wk ≤ 100) (hwc : W.cell? ⟨bw, 0, none⟩ = some (.int .i64 wk)) (hnc : W.cell? ⟨bn, 0, none⟩ = some (.int .i64 note)) :
    Asks c boy x W 55 #[.pointer (some ⟨bw, 0, none⟩), .pointer (some ⟨bn, 0, none⟩)] (singsN c.B wk note note boy) := by
  have hok := hat.ok
  have hlen : c.B.boys.length ≤ 4 := by
    have := hok
    simp only [Book.okB, inB, Bool.and_eq_true, decide_eq_true_eq] at this
    omega
  have hbl : boy < c.B.boys.length := (List.getElem?_eq_some_iff.1 hx).1
  have hxok : x.okB = true := by
    simp only [Book.okB, Bool.and_eq_true, List.all_eq_true] at hok
    exact hok.1.2 x (List.mem_of_getElem? hx)
  obtain ⟨hsp, hls⟩ := spanAt_ok x hxok
  refine ⟨enters_of Tryd.func55 (by kernel_rfl) rfl, fun A n hA hn => ?_⟩
  obtain ⟨_, _, _, _, _, _, _, _, c8, _⟩ := hat.boys.2 boy x hx
  have hr := truths_rng hn
  obtain ⟨n0, n1, n2, n3, n4, rfl⟩ := truths_len hn
  have r1 := hr 1 n1 rfl
  have r2 := hr 2 n2 rfl
  have r3 := hr 3 n3 rfl
  have s1 := hsp 1 (by omega)
  have s2 := hsp 2 (by omega)
  have s3 := hsp 3 (by omega)
  have := surely1_any c boy wk note n0 n1 n2 n3 n4 x.ls bw bn A (kcell hA hwc) (kcell hA hnc) hbl hlen (kcell hA c8) (Nat.lt_of_lt_of_le hat.boys.1 hA.size) (by omega) (by omega) (by omega) h4 (by omega)
  simpa [singsN, hx] using this

set_option maxHeartbeats 4000000 in
theorem surely_all (p q : Option Addr) (cap capt : Nat) (B : Book) (week note : Int) (W : World) (h : BookAt W p q cap capt B) (hg : Nothing W) (hok0 : B.okB = true) (hwk0 : 0 ≤ week ∧ week < B.weeks) (hnt0 : 0 ≤ note ∧ note ≤ 40) :
    Calls Tryd.prog 10 #[B.val p q cap capt, .int .i64 week, .int .i64 note] W (SureP B (singsN B week note note) W) := by
  have hwk : 0 ≤ B.weeks ∧ B.weeks ≤ 1000 := by
    have := hok0
    simp only [Book.okB, inB, Bool.and_eq_true, decide_eq_true_eq] at this
    omega
  have hwk1 : 0 ≤ week ∧ week ≤ 100 := by
    have := hok0
    simp only [Book.okB, inB, Bool.and_eq_true, decide_eq_true_eq] at this
    omega
  have hweekT : inB week 0 (B.weeks - 1) = true := by simp [inB]; omega
  have hnoteT : inB note 0 40 = true := by simp [inB]; omega
  refine callsIn_wide.1 (callsIn_of_wp (n := 0) Tryd.func10 rfl trivial ?_ rfl)
  simp only [Tryd.ntmps10, List.size_toArray, List.length_cons, List.length_nil, Nat.reduceAdd, Nat.reduceSub, Array.replicate_succ, Array.replicate_zero, List.push_toArray, List.append_toArray, List.nil_append, List.cons_append]
  unfold Book.val
  gi_wp2_with fail
  have hk0 : Kept W (((W.alloc (Obj.cells #[.slice p B.boys.length cap, .int .i64 B.weeks, .slice q B.trials.length capt] 25)).alloc (Obj.cells #[.int .i64 week] 3)).alloc (Obj.cells #[.int .i64 note] 3)) := kept_alloc (kept_alloc (kept_alloc (kept_refl _) _) _) _
  have a0c : (((W.alloc (Obj.cells #[.slice p B.boys.length cap, .int .i64 B.weeks, .slice q B.trials.length capt] 25)).alloc (Obj.cells #[.int .i64 week] 3)).alloc (Obj.cells #[.int .i64 note] 3)).cell? ⟨W.heap.size, 0, none⟩ = some (.slice p B.boys.length cap) := by go_simp
  have a1c : (((W.alloc (Obj.cells #[.slice p B.boys.length cap, .int .i64 B.weeks, .slice q B.trials.length capt] 25)).alloc (Obj.cells #[.int .i64 week] 3)).alloc (Obj.cells #[.int .i64 note] 3)).cell? ⟨W.heap.size, 1, none⟩ = some (.int .i64 B.weeks) := by go_simp
  have a2c : (((W.alloc (Obj.cells #[.slice p B.boys.length cap, .int .i64 B.weeks, .slice q B.trials.length capt] 25)).alloc (Obj.cells #[.int .i64 week] 3)).alloc (Obj.cells #[.int .i64 note] 3)).cell? ⟨W.heap.size, 2, none⟩ = some (.slice q B.trials.length capt) := by go_simp
  have wc : (((W.alloc (Obj.cells #[.slice p B.boys.length cap, .int .i64 B.weeks, .slice q B.trials.length capt] 25)).alloc (Obj.cells #[.int .i64 week] 3)).alloc (Obj.cells #[.int .i64 note] 3)).cell? ⟨W.heap.size + 1, 0, none⟩ = some (.int .i64 week) := by go_simp
  have nc : (((W.alloc (Obj.cells #[.slice p B.boys.length cap, .int .i64 B.weeks, .slice q B.trials.length capt] 25)).alloc (Obj.cells #[.int .i64 week] 3)).alloc (Obj.cells #[.int .i64 note] 3)).cell? ⟨W.heap.size + 1 + 1, 0, none⟩ = some (.int .i64 note) := by go_simp
  generalize (((W.alloc (Obj.cells #[.slice p B.boys.length cap, .int .i64 B.weeks, .slice q B.trials.length capt] 25)).alloc (Obj.cells #[.int .i64 week] 3)).alloc (Obj.cells #[.int .i64 note] 3)) = W0 at *
  refine wpIn_region_invL (StO 8 (fun j => match j with | 0 => (.agg #[.slice p B.boys.length cap, .int .i64 B.weeks, .slice q B.trials.length capt]) | 1 => (.agg #[.slice p B.boys.length cap, .int .i64 B.weeks, .slice q B.trials.length capt]) | 2 => .int .i64 week | 5 => .int .i64 note | _ => .bool true) W0 B) (by kernel_rfl) (by kernel_rfl) StO.start ?hop ?hend
  case hop =>
    rintro i o listed a w hl ho h1 h2 hcl ⟨v, err, pp, ha, hw⟩
    have hi11 : i < 15 := (List.getElem?_eq_some_iff.1 ho).1
    match i, ho with
    | 0, ho =>
      have st := StO.same (by kernel_rfl) ha hw ho h1 (by omega) (by omega) (by omega) (kept_refl w)
      have ST := Lib.hid st; clear st
      cases ho
      rw [if_pos (by rfl)]
      have t3 := ha.old 3 (by kernel_rfl)
      simp at t3
      have r0 := kcell hw.kept a0c
      have r1 := kcell hw.kept a1c
      have r2 := kcell hw.kept a2c
      go_simp
      exact ST.out
    | 1, ho =>
      have st := StO.same (by kernel_rfl) ha hw ho h1 (by omega) (by omega) (by omega) (kept_refl w)
      have ST := Lib.hid st; clear st
      cases ho
      rw [if_pos (by rfl)]
      have t3 := ha.old 3 (by kernel_rfl)
      simp at t3
      have r0 := kcell hw.kept a0c
      have r1 := kcell hw.kept a1c
      have r2 := kcell hw.kept a2c
      go_simp
      exact ST.out
    | 2, ho =>
      have st := StO.same (by kernel_rfl) ha hw ho h1 (by omega) (by omega) (by omega) (kept_refl w)
      have ST := Lib.hid st; clear st
      cases ho
      rw [if_pos (by rfl)]
      have t4 := ha.old 4 (by kernel_rfl)
      simp at t4
      have rw0 := kcell hw.kept wc
      go_simp
      exact ST.out
    | 3, ho =>
      have st := fun w' (k : Kept w w') => StO.same (by kernel_rfl) ha hw ho h1 (by omega) (by omega) (by omega) k
      have ST := Lib.hid st; clear st
      cases ho
      rw [if_pos (by rfl)]
      have t12 := ha.new 1 (h2 ⟨1, .data⟩ (by simp) rfl) (d := 12) rfl rfl (by simp)
      simp [openVs] at t12
      have t13 := ha.new 2 (h2 ⟨2, .data⟩ (by simp) rfl) (d := 13) rfl rfl (by simp)
      simp [openVs] at t13
      have hcall := isWeek_any (.slice p B.boys.length cap) (.slice q B.trials.length capt) B.weeks week w hwk.1 hwk.2
      rw [hweekT] at hcall
      go_simp
      refine ⟨trivial, rfl, (callsIn_wide.2 hcall).mono ?_⟩
      rintro e w' ⟨rfl, hk⟩
      exact ST.out _ hk
    | 4, ho =>
      have st := StO.same (by kernel_rfl) ha hw ho h1 (by omega) (by omega) (by omega) (kept_refl w)
      have ST := Lib.hid st; clear st
      cases ho
      rw [if_pos (by rfl)]
      have t14 := ha.new 3 (h2 ⟨3, .data⟩ (by simp) rfl) (d := 14) rfl rfl (by simp)
      simp [openVs] at t14
      go_simp
      exact ST.out
    | 5, ho =>
      have st := StO.same (by kernel_rfl) ha hw ho h1 (by omega) (by omega) (by omega) (kept_refl w)
      have ST := Lib.hid st; clear st
      cases ho
      have t15 := ha.new 4 (h2 ⟨4, .guard⟩ (by simp) rfl) (d := 15) rfl rfl (by simp)
      simp [openVs] at t15
      rw [if_pos (by simp [Region.wanted, yielded, getD_bool t15])]
      have t5 := ha.old 5 (by kernel_rfl)
      simp at t5
      have rn0 := kcell hw.kept nc
      go_simp
      exact ST.out
    | 6, ho =>
      have st := fun w' (k : Kept w w') => StO.same (by kernel_rfl) ha hw ho h1 (by omega) (by omega) (by omega) k
      have ST := Lib.hid st; clear st
      cases ho
      have t15 := ha.new 4 (h2 ⟨4, .guard⟩ (by simp) rfl) (d := 15) rfl rfl (by simp)
      simp [openVs] at t15
      rw [if_pos (by simp [Region.wanted, yielded, getD_bool t15])]
      have t16 := ha.new 5 (h2 ⟨5, .data⟩ (by simp) rfl) (d := 16) rfl rfl (by simp)
      simp [openVs] at t16
      have hcall := isNote_any note w
      rw [hnoteT] at hcall
      go_simp
      refine ⟨trivial, rfl, (callsIn_wide.2 hcall).mono ?_⟩
      rintro e w' ⟨rfl, hk⟩
      subst hk; exact ST.out _ (kept_refl _)
    | 7, ho =>
      have st := StO.same (by kernel_rfl) ha hw ho h1 (by omega) (by omega) (by omega) (kept_refl w)
      have ST := Lib.hid st; clear st
      cases ho
      rw [if_pos (by rfl)]
      have t15 := ha.new 4 (h2 ⟨4, .data⟩ (by simp) rfl) (d := 15) rfl rfl (by simp)
      simp [openVs] at t15
      have t17 := ha.new 6 (h2 ⟨6, .data⟩ (by simp) rfl) (d := 17) rfl rfl (by simp)
      simp [openVs] at t17
      go_simp
      exact ST.out
    | 8, ho =>
      obtain ⟨n5, n6, n7, n9, n10⟩ := open_first hcl h1 ⟨_, rfl, ⟨8, .data⟩, by simp, rfl, rfl⟩ ⟨_, rfl, ⟨9, .data⟩, by simp, rfl, rfl⟩ ⟨_, rfl, ⟨9, .data⟩, by simp, rfl, rfl⟩ ⟨_, rfl, ⟨10, .data⟩, by simp, rfl, rfl⟩ ⟨_, rfl, ⟨11, .data⟩, by simp, rfl, rfl⟩
      have st := fun v' err' w' (k : OpenReg W0 B true v' err' pp true (on listed 12) (on listed 13) w') => StO.opened (by kernel_rfl) ha hl ho h1 n5 n6 n7 n9 n10 k
      have ST := Lib.hid st; clear st
      cases ho
      rw [if_pos (by rfl)]
      have t11 := ha.new 0 (h2 ⟨0, .data⟩ (by simp) rfl) (d := 11) rfl rfl (by simp)
      simp [openVs] at t11
      have t18 := ha.new 7 (h2 ⟨7, .data⟩ (by simp) rfl) (d := 18) rfl rfl (by simp)
      simp [openVs] at t18
      have hcall := open_any p q cap capt B true W w h (kept_trans hk0 hw.kept) (hg.kept (kept_trans hk0 hw.kept))
      unfold Book.val at hcall
      have HOP := Lib.hid (fun e w' => hw.opened (e := e) (w' := w') W.heap.size hk0.size n9)
      go_simp
      refine ⟨trivial, rfl, (callsIn_wide.2 hcall).mono ?_⟩
      intro e w' hop
      obtain ⟨v', err', rfl, hr⟩ := HOP.out e w' hop
      exact ST.out v' err' w' hr
    | 9, ho =>
      have st := StO.same (by kernel_rfl) ha hw ho h1 (by omega) (by omega) (by omega) (kept_refl w)
      have ST := Lib.hid st; clear st
      cases ho
      rw [if_pos (by rfl)]
      have t19 := ha.new 8 (h2 ⟨8, .data⟩ (by simp) rfl) (d := 19) rfl rfl (by simp)
      simp [openVs] at t19
      go_simp
      exact ST.out
    | 10, ho =>
      have st := StO.same (by kernel_rfl) ha hw ho h1 (by omega) (by omega) (by omega) (kept_refl w)
      have ST := Lib.hid st; clear st
      cases ho
      rw [if_pos (by rfl)]
      have t10 := ha.new 9 (h2 ⟨9, .data⟩ (by simp) rfl) (d := 10) rfl rfl (by simp)
      simp [openVs] at t10
      go_simp
      exact ST.out
    | 11, ho =>
      have st := StO.same (by kernel_rfl) ha hw ho h1 (by omega) (by omega) (by omega) (kept_refl w)
      have ST := Lib.hid st; clear st
      cases ho
      rw [if_pos (by rfl)]
      have t10 := ha.new 9 (h2 ⟨9, .data⟩ (by simp) rfl) (d := 10) rfl rfl (by simp)
      simp [openVs] at t10
      go_simp
      exact ST.out
    | 12, ho =>
      have n9 : on listed 13 = false := by
        cases hb : on listed 13 with
        | false => rfl
        | true => have := hcl 13 _ rfl hb ⟨12, .data⟩ (by simp) rfl; rw [on_no h1] at this; cases this
      have st := StO.boxed (by kernel_rfl) ha hw hl ho h1 n9
      have ST := Lib.hid st; clear st
      cases ho
      rw [if_pos (by rfl)]
      go_simp
      exact ST.out
    | 13, ho =>
      have y8 : on listed 12 = true := h2 ⟨12, .data⟩ (by cases ho; simp) rfl
      have y4 : on listed 8 = true := h2 ⟨8, .chain⟩ (by cases ho; simp) rfl
      have t8 := ha.new 12 y8 (d := 8) rfl rfl (by simp)
      simp [openVs] at t8
      have t20 := ha.new 10 (h2 ⟨10, .data⟩ (by cases ho; simp) rfl) (d := 20) rfl rfl (by simp)
      simp [openVs] at t20
      obtain ⟨hbp, ⟨f0, f1, f2, f3, b0, b1, b2, b3⟩, hbf⟩ := hw.box y8
      have bf0 := hbf 0
      have bf1 := hbf 1
      have bf2 := hbf 2
      have bf3 := hbf 3
      rcases hw.res y4 with ⟨_, _, _, _, c, S, hcB, rfl, _⟩ | ⟨rfl, _⟩
      · clear hcB
        have st := StO.stored (by kernel_rfl) ha hw hl ho (by cases ho; rfl) h1 y8 (show c.val = _ from rfl)
        have ST := Lib.hid st; clear st
        cases ho
        rw [if_pos (by rfl)]
        unfold Choir.val at t20
        clear hbf
        go_simp
        exact ST.out
      · have st := StO.stored (by kernel_rfl) ha hw hl ho (by cases ho; rfl) h1 y8 (show zeroChoir = _ from rfl)
        have ST := Lib.hid st; clear st
        cases ho
        rw [if_pos (by rfl)]
        unfold zeroChoir at t20
        clear hbf
        go_simp
        exact ST.out
    | 14, ho =>
      have st := StO.same (by kernel_rfl) ha hw ho h1 (by omega) (by omega) (by omega) (kept_refl w)
      have ST := Lib.hid st; clear st
      cases ho
      rw [if_pos (by rfl)]
      have t21 := ha.new 11 (h2 ⟨11, .data⟩ (by simp) rfl) (d := 21) rfl rfl (by simp)
      simp [openVs] at t21
      go_simp
      exact ST.out

  case hend =>
    rintro listed a w hall ⟨v, err, pp, ha, hw⟩
    rw [show on listed 8 = true from hall 8 (by simp), show on listed 12 = true from hall 12 (by simp), show on listed 13 = true from hall 13 (by simp)] at hw
    obtain ⟨y, hy, hae⟩ := ha.lit (n := 28) rfl
    have y4 := (hy 4).symm.trans (ha.old 4 (by kernel_rfl))
    have y5 := (hy 5).symm.trans (ha.old 5 (by kernel_rfl))
    have y6 := (hy 6).symm.trans (ha.old 6 (by kernel_rfl))
    have y7 := (hy 7).symm.trans (ha.old 7 (by kernel_rfl))
    have y8 := (hy 8).symm.trans (ha.new 12 (hall 12 (by simp)) (d := 8) rfl rfl (by simp))
    have y9 := (hy 9).symm.trans (ha.new 14 (hall 14 (by simp)) (d := 9) rfl rfl (by simp))
    simp at y4 y5 y6 y7
    simp [openVs] at y8 y9
    simp only [List.range, List.range.loop, List.map] at hae
    rw [y4, y5, y6, y7, y8, y9] at hae
    subst hae
    clear ha hy y4 y5 y6 y7 y8 y9
    refine (by assumption : ∀ a w, Code.wpIn _ _ _ _ _ a w → _) _ w ?_
    have wk := kcell hw.kept wc
    have wn := kcell hw.kept nc
    obtain ⟨_, x0, x1, x2, x3, hv, b0, b1, b2, b3⟩ := hw.put rfl
    rcases hw.res rfl with ⟨rfl, hok, _, hcan, c, S, hcB, hvc, hch, hSz, hSp⟩ | ⟨rfl, herr⟩
    · subst hcB
      subst hvc
      have e4 := congrArg (fun u => match u with | Value.agg cs => cs.toList | _ => []) hv
      simp only [Choir.val, List.cons.injEq, and_true] at e4
      obtain ⟨rfl, rfl, rfl, rfl⟩ := e4
      have hzp := Go.Ai.lt_of_cell b0
      have hzw := Go.Ai.lt_of_cell wk
      gi_wp2_with fail
      have hcall := surely_any S c w hch hSz _ _ (singsN c.B week note note) (fun boy x hx => surely_asks S c boy week note x hx (W.heap.size + 1) (W.heap.size + 1 + 1) w hch hwk1 wk wn)
      unfold Choir.val at hcall
      refine ⟨trivial, rfl, (callsIn_wide.2 hcall).mono ?_⟩
      rintro e w2 ⟨v, rfl, hk7, hrow⟩
      clear hcall
      gi_wp2_with fail
      refine bodyPost_ret (v := .tuple #[v, .int .i64 0]) (by simp [results, Tryd.results10, go_sem]) rfl ?_
      exact ⟨_, 0, rfl, kept_trans (kept_trans hk0 hw.kept) hk7, .inl ⟨rfl, hcan, row_le hrow (kept_trans hk0 hw.kept).size⟩⟩
    · rcases herr with ⟨_, he⟩ | ⟨_, _, he⟩ | ⟨rfl, _, _, hnc⟩
      · rw [hok0] at he; cases he
      · cases he
      gi_wp2_with fail
      refine bodyPost_ret (v := .tuple #[.slice none 0 0, .int .i64 22]) (by simp [results, Tryd.results10, go_sem]) rfl ?_
      exact ⟨_, 22, rfl, kept_trans hk0 hw.kept, .inr ⟨rfl, hnc, rfl⟩⟩
end Go.Proofs.YtbhgicggpkibeaaDoor
