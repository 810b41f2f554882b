/- A part of the proof: contracts of the program's functions for every input. No conditions. -/
import Derived.Test.YthkcgengohoboaaGreatDoorGI
import Derived.Test.YthkcgengohoboaaGreatDoorGH
import Derived.Test.YthkcgengohoboaaGreatDoorGF
set_option linter.all false
set_option linter.all false
namespace Go.Proofs.YthkcgengohoboaaGreatDoor
open Go.RowKit Go.Sort Go.Rg
set_option maxRecDepth 100000

theorem NumsAt.of_row2 {w : World} {base : Nat} {v : Value} {l : List Int} {e : TypeId} (h : w.ownsRow base e 1 v l.length (l.map (Value.int .i64))) (hl : l.length ≤ 100000) : NumsAt w v l := by
  have hc := h
  rcases h.2 with ⟨rfl, h0⟩ | ⟨g, cap, cur, rfl, _, hg, _⟩
  · have : l = [] := List.length_eq_zero_iff.1 h0
    subst this
    exact ⟨none, 0, rfl, by simp, .inl rfl⟩
  · refine ⟨_, cap, rfl, by omega, .inr ⟨g, 0, rfl, (Array.getElem?_eq_some_iff.1 hg).1, fun i x hx => ?_⟩⟩
    have hi : i < l.length := (List.getElem?_eq_some_iff.1 hx).1
    rw [Nat.zero_add, hc.cellAt i (by omega)]
    simp [hx]
set_option maxHeartbeats 4000000 in
theorem rlow_bad (p q : Option Addr) (cap capt : Nat) (B : Book) (boy : Int) (cb : Bool) (er : Int) (W : World) (h : BookAt W p q cap capt B) (hcb : inB boy 0 (B.boys.length - 1) = cb) (her : B.err cb = er) (hne : (er != 0) = true) :
    Calls Tryz.prog 13 #[B.val p q cap capt, .int .i64 boy] W fun e C => e = .returned (.tuple #[.agg #[.int .i64 0, .int .i64 0], .int .i64 er]) ∧ Kept W C := by
  have hnb := h.nb
  unfold Book.val
  have hk0 : Kept W ((W.alloc (Obj.cells #[.slice p B.boys.length cap, .int .i64 B.weeks, .slice q B.trials.length capt] 25)).alloc (Obj.cells #[.int .i64 0, .int .i64 0] 32)) := kept_alloc (kept_alloc (kept_refl _) _) _
  have a0 : ((W.alloc (Obj.cells #[.slice p B.boys.length cap, .int .i64 B.weeks, .slice q B.trials.length capt] 25)).alloc (Obj.cells #[.int .i64 0, .int .i64 0] 32)).cell? ⟨W.heap.size, 0, none⟩ = some (.slice p B.boys.length cap) := by go_simp
  have a1 : ((W.alloc (Obj.cells #[.slice p B.boys.length cap, .int .i64 B.weeks, .slice q B.trials.length capt] 25)).alloc (Obj.cells #[.int .i64 0, .int .i64 0] 32)).cell? ⟨W.heap.size, 1, none⟩ = some (.int .i64 B.weeks) := by go_simp
  have a2 : ((W.alloc (Obj.cells #[.slice p B.boys.length cap, .int .i64 B.weeks, .slice q B.trials.length capt] 25)).alloc (Obj.cells #[.int .i64 0, .int .i64 0] 32)).cell? ⟨W.heap.size, 2, none⟩ = some (.slice q B.trials.length capt) := by go_simp
  have s0 : ((W.alloc (Obj.cells #[.slice p B.boys.length cap, .int .i64 B.weeks, .slice q B.trials.length capt] 25)).alloc (Obj.cells #[.int .i64 0, .int .i64 0] 32)).cell? ⟨W.heap.size + 1, 0, none⟩ = some (.int .i64 0) := by go_simp
  have s1 : ((W.alloc (Obj.cells #[.slice p B.boys.length cap, .int .i64 B.weeks, .slice q B.trials.length capt] 25)).alloc (Obj.cells #[.int .i64 0, .int .i64 0] 32)).cell? ⟨W.heap.size + 1, 1, none⟩ = some (.int .i64 0) := by go_simp
  have sf : ∀ i, ((W.alloc (Obj.cells #[.slice p B.boys.length cap, .int .i64 B.weeks, .slice q B.trials.length capt] 25)).alloc (Obj.cells #[.int .i64 0, .int .i64 0] 32)).frozen? ⟨W.heap.size + 1, i, none⟩ = false := by intro i; go_simp
  have HB := Lib.hid h; clear h
  go_enter Tryz.func13, Tryz.ntmps13
  go_wp2_with fail
  generalize ((W.alloc (Obj.cells #[.slice p B.boys.length cap, .int .i64 B.weeks, .slice q B.trials.length capt] 25)).alloc (Obj.cells #[.int .i64 0, .int .i64 0] 32)) = W0 at *
  have hz := Go.Ai.lt_of_cell a0
  have e0 := cell_regrown a0
  have e1 := cell_regrown a1
  have e2 := cell_regrown a2
  have hc0 := fun d os => Calls.regrown_of (rboy_any p B.boys.length cap (.int .i64 B.weeks) (.slice q B.trials.length capt) boy (grow (redrawn W0 d) os) hnb)
  simp only [hcb] at hc0
  have HC0 := Lib.hid hc0; clear hc0
  have hca := fun d os => Calls.regrown_of (asked_any p q cap capt B cb (grow (redrawn W0 d) os) ((HB.out.kept hk0).kept (below_regrown W0 d os)))
  unfold Book.val at hca
  simp only [her] at hca
  have HCA := Lib.hid hca; clear hca
  have HER := Lib.hid her; clear her
  refine wp_region_quiet_below (by kernel_rfl) (by kernel_rfl) ?_
  repeat (any_goals (first | go_big_quiet_skip | quiet_step (first | with_reducible exact HC0.out _ _ | with_reducible exact HCA.out _ _)))
  refine wpQuiet_nil ?_
  intro _ hw'
  obtain ⟨⟨dq, osq⟩, hw''⟩ := hw'
  subst hw''
  have hkQ := below_regrown W0 dq osq
  have sf0 : (grow (redrawn W0 dq) osq).frozen? ⟨W.heap.size + 1, 0, none⟩ = false := ((kturns hkQ (fun _ => False)).frozen (Go.Ai.lt_of_cell s0) (fun h => h)).trans (sf 0)
  have sf1 : (grow (redrawn W0 dq) osq).frozen? ⟨W.heap.size + 1, 1, none⟩ = false := ((kturns hkQ (fun _ => False)).frozen (Go.Ai.lt_of_cell s0) (fun h => h)).trans (sf 1)
  replace a0 := kcell hkQ a0
  replace a1 := kcell hkQ a1
  replace a2 := kcell hkQ a2
  replace s0 := kcell hkQ s0
  replace s1 := kcell hkQ s1
  have hk01 := kept_trans hk0 hkQ
  have hzs := Go.Ai.lt_of_cell s0
  have hza := Go.Ai.lt_of_cell a0
  clear e0 e1 e2 sf
  generalize grow (redrawn W0 dq) osq = w1 at *
  go_wp2_with fail
  have v0 := (cell_set_ne (W := w1.setCell ⟨W.heap.size + 1, 0, none⟩ (.int .i64 0)) (b := W.heap.size + 1) (o := 1) (o' := 0) (v := .int .i64 0) (by omega)).trans (cell_set_eq s0)
  have v1 := cell_set_eq (v := .int .i64 0) ((cell_set_ne (W := w1) (b := W.heap.size + 1) (o := 0) (o' := 1) (v := .int .i64 0) (by omega)).trans s1)
  refine bodyPost_ret (v := .tuple #[.agg #[.int .i64 0, .int .i64 0], .int .i64 er]) (by simp [results, Tryz.results13, go_sem, v0, v1]) rfl ?_
  refine ⟨rfl, ?_⟩
  exact Below.setCell (p := ⟨W.heap.size + 1, 1, none⟩) (Below.setCell (p := ⟨W.heap.size + 1, 0, none⟩) hk01 (Nat.le_succ _) _) (Nat.le_succ _) _
set_option maxHeartbeats 8000000 in
theorem rlow_good (p q : Option Addr) (cap capt : Nat) (B : Book) (bn : Nat) (x : Boy) (cb : Bool) (W : World) (h : BookAt W p q cap capt B) (hx : B.boys[bn]? = some x) (hcb : inB (bn : Int) 0 (B.boys.length - 1) = cb) (hok : B.okB = true) (hL : B.voices bn x 0 ≠ []) (her : B.err cb = 0) :
    Calls Tryz.prog 13 #[B.val p q cap capt, .int .i64 (bn : Int)] W fun e C => e = .returned (.tuple #[.agg #[.int .i64 (loOf ((B.voices bn x 0).map fun n => n.getD 0 0)), .int .i64 (hiOf ((B.voices bn x 0).map fun n => n.getD 0 0))], .int .i64 0]) ∧ Kept W C := by
  have hlen : (B.voices bn x 0).length ≤ 1024 := vgen_len (boy_wide ((okB_boys hok).2.1 x (List.mem_of_getElem? hx))) 5 []
  have HOK := Lib.hid hok; clear hok
  have HX := Lib.hid hx; clear hx
  have hnb := h.nb
  unfold Book.val
  have hk0 : Kept W ((W.alloc (Obj.cells #[.slice p B.boys.length cap, .int .i64 B.weeks, .slice q B.trials.length capt] 25)).alloc (Obj.cells #[.int .i64 0, .int .i64 0] 32)) := kept_alloc (kept_alloc (kept_refl _) _) _
  have a0 : ((W.alloc (Obj.cells #[.slice p B.boys.length cap, .int .i64 B.weeks, .slice q B.trials.length capt] 25)).alloc (Obj.cells #[.int .i64 0, .int .i64 0] 32)).cell? ⟨W.heap.size, 0, none⟩ = some (.slice p B.boys.length cap) := by go_simp
  have a1 : ((W.alloc (Obj.cells #[.slice p B.boys.length cap, .int .i64 B.weeks, .slice q B.trials.length capt] 25)).alloc (Obj.cells #[.int .i64 0, .int .i64 0] 32)).cell? ⟨W.heap.size, 1, none⟩ = some (.int .i64 B.weeks) := by go_simp
  have a2 : ((W.alloc (Obj.cells #[.slice p B.boys.length cap, .int .i64 B.weeks, .slice q B.trials.length capt] 25)).alloc (Obj.cells #[.int .i64 0, .int .i64 0] 32)).cell? ⟨W.heap.size, 2, none⟩ = some (.slice q B.trials.length capt) := by go_simp
  have s0 : ((W.alloc (Obj.cells #[.slice p B.boys.length cap, .int .i64 B.weeks, .slice q B.trials.length capt] 25)).alloc (Obj.cells #[.int .i64 0, .int .i64 0] 32)).cell? ⟨W.heap.size + 1, 0, none⟩ = some (.int .i64 0) := by go_simp
  have s1 : ((W.alloc (Obj.cells #[.slice p B.boys.length cap, .int .i64 B.weeks, .slice q B.trials.length capt] 25)).alloc (Obj.cells #[.int .i64 0, .int .i64 0] 32)).cell? ⟨W.heap.size + 1, 1, none⟩ = some (.int .i64 0) := by go_simp
  have sf : ∀ i, ((W.alloc (Obj.cells #[.slice p B.boys.length cap, .int .i64 B.weeks, .slice q B.trials.length capt] 25)).alloc (Obj.cells #[.int .i64 0, .int .i64 0] 32)).frozen? ⟨W.heap.size + 1, i, none⟩ = false := by intro i; go_simp
  have HB := Lib.hid h; clear h
  go_enter Tryz.func13, Tryz.ntmps13
  go_wp2_with fail
  generalize ((W.alloc (Obj.cells #[.slice p B.boys.length cap, .int .i64 B.weeks, .slice q B.trials.length capt] 25)).alloc (Obj.cells #[.int .i64 0, .int .i64 0] 32)) = W0 at *
  have hz := Go.Ai.lt_of_cell a0
  have e0 := cell_regrown a0
  have e1 := cell_regrown a1
  have e2 := cell_regrown a2
  have hc0 := fun d os => Calls.regrown_of (rboy_any p B.boys.length cap (.int .i64 B.weeks) (.slice q B.trials.length capt) (bn : Int) (grow (redrawn W0 d) os) hnb)
  simp only [hcb] at hc0
  have HC0 := Lib.hid hc0; clear hc0
  have hca := fun d os => Calls.regrown_of (asked_any p q cap capt B cb (grow (redrawn W0 d) os) ((HB.out.kept hk0).kept (below_regrown W0 d os)))
  unfold Book.val at hca
  simp only [her] at hca
  have HCA := Lib.hid hca; clear hca
  have HER := Lib.hid her; clear her
  refine wp_region_quiet_below (by kernel_rfl) (by kernel_rfl) ?_
  repeat (any_goals (first | go_big_quiet_skip | quiet_step (first | with_reducible exact HC0.out _ _ | with_reducible exact HCA.out _ _)))
  refine wpQuiet_nil ?_
  intro _ hw'
  obtain ⟨⟨dq, osq⟩, hw''⟩ := hw'
  subst hw''
  have hkQ := below_regrown W0 dq osq
  have sf0 : (grow (redrawn W0 dq) osq).frozen? ⟨W.heap.size + 1, 0, none⟩ = false := ((kturns hkQ (fun _ => False)).frozen (Go.Ai.lt_of_cell s0) (fun h => h)).trans (sf 0)
  have sf1 : (grow (redrawn W0 dq) osq).frozen? ⟨W.heap.size + 1, 1, none⟩ = false := ((kturns hkQ (fun _ => False)).frozen (Go.Ai.lt_of_cell s0) (fun h => h)).trans (sf 1)
  replace a0 := kcell hkQ a0
  replace a1 := kcell hkQ a1
  replace a2 := kcell hkQ a2
  replace s0 := kcell hkQ s0
  replace s1 := kcell hkQ s1
  have hk01 := kept_trans hk0 hkQ
  have hzs := Go.Ai.lt_of_cell s0
  have hza := Go.Ai.lt_of_cell a0
  clear e0 e1 e2 sf
  generalize grow (redrawn W0 dq) osq = w1 at *
  have hv := voices_any p q cap capt B bn x 0 w1 (HB.out.kept hk01) HOK.out (by omega) HX.out
  unfold Book.val at hv
  generalize hLL : B.voices bn x 0 = L at *
  have HV := Lib.hid hv; clear hv
  have HLL := Lib.hid hLL; clear hLL
  go_wp2_with fail
  refine HV.out.mono ?_
  rintro e w2 ⟨v, rfl, hk2, hrow⟩
  have HVA := VoicesAt.of_row hrow
  obtain ⟨pv, capv, rfl, hvr⟩ := HVA
  obtain ⟨g, rfl, hcell⟩ := hvr.resolve_left hL
  have HCELL := Lib.hid hcell
  clear hrow hvr HV hcell
  replace a0 := kcell hk2 a0
  replace a1 := kcell hk2 a1
  replace a2 := kcell hk2 a2
  replace s0 := kcell hk2 s0
  replace s1 := kcell hk2 s1
  have sg0 : w2.frozen? ⟨W.heap.size + 1, 0, none⟩ = false := ((kturns hk2 (fun _ => False)).frozen hzs (fun h => h)).trans sf0
  have sg1 : w2.frozen? ⟨W.heap.size + 1, 1, none⟩ = false := ((kturns hk2 (fun _ => False)).frozen hzs (fun h => h)).trans sf1
  have hk02 := kept_trans hk01 hk2
  have hzs2 := Go.Ai.lt_of_cell s0
  clear sf0 sf1 hzs hza
  go_wp2_with fail
  go_loopw [7, 9] (fun ov i V => ∃ k : Nat, k ≤ L.length ∧ i = .int .i64 k ∧ V.ownsRow w2.heap.size 3 1 ov k ((L.take k).map fun n => .int .i64 (n.getD 0 0)) ∧ Kept w2 V) (fun ov i V => L.length - (intOf i).toNat)
  case atStart => exact ⟨0, by omega, by go_num, World.ownsRow_nil _ _ _ _, kept_refl _⟩
  case round =>
    obtain ⟨k, hk, rfl, hR, hkV⟩ := hrel
    by_cases hlt : k < L.length
    · have hltI : (k : Int) < L.length := by omega
      obtain ⟨n, hget⟩ : ∃ n, L[k]? = some n := ⟨_, List.getElem?_eq_getElem hlt⟩
      obtain ⟨c0, c1, c2, c3, c4, c5⟩ := HCELL.out k n hget
      have c := kcell hkV c0
      have hgz := Go.Ai.lt_of_cell c
      have HST := Lib.hid (show (L.take (k + 1)).map (fun n => Value.int .i64 (n.getD 0 0)) = (L.take k).map (fun n => Value.int .i64 (n.getD 0 0)) ++ [.int .i64 (n.getD 0 0)] from by rw [List.take_succ, hget, List.map_append]; rfl)
      generalize n.getD 0 0 = y at *
      have hsz := hkV.size
      have HR := Lib.hid hR
      obtain ⟨i0, hi, hiz, his, hib⟩ := info_parts infoI
      clear c0 c1 c2 c3 c4 c5 hget hR
      have hka := kept_alloc (kept_refl wr) (Obj.cells #[.int .i64 y] 3)
      go_wp2_with (at_builtin
                   refine wpList_append_lies _ rfl _ _ 41 rfl w2.heap.size 3 i0 _ 1 8 Tryz.underlying41 hi hiz his hib rfl (by decide) u7 k _ rfl (HR.out.alloc _) ⟨wr.heap.size, 0, none⟩ 1 1 [.int .i64 y] rfl rfl (cell_one_new _ _ _) (by simp [Value.oneCell']) (by decide) (by unfold maxLen; omega) (by omega) (by simp; omega) _ rfl ?_
                   intro g2 cap2 V3 hown hgrow hat hlt3)
      have hkV3 : Kept w2 V3 := Below.grown (kept_trans hkV hka) hgrow (kept_trans hkV hka).size (fun b e => (HR.out.lt b e).1)
      go_roundw
      case rel => exact ⟨k + 1, by omega, by go_num, by rw [HST.out]; exact hown, hkV3⟩
      case measure => simp [intOf]; omega
    · have hltI : ¬ (k : Int) < L.length := by omega
      obtain rfl : k = L.length := by omega
      rw [List.take_length] at hR
      have hN : NumsAt wr u7 (L.map fun n => n.getD 0 0) := NumsAt.of_row2 (base := w2.heap.size) (e := 3) (by rw [List.length_map, List.map_map]; exact hR) (by rw [List.length_map]; omega)
      have he := ends_any u7 _ wr hN (by simpa using hL)
      generalize hl0 : loOf (L.map fun n => n.getD 0 0) = lo at *
      generalize hh0 : hiOf (L.map fun n => n.getD 0 0) = hi at *
      have HE := Lib.hid he; clear he hN
      have q0 := kcell hkV s0
      have q1 := kcell hkV s1
      have sh0 : wr.frozen? ⟨W.heap.size + 1, 0, none⟩ = false := ((kturns hkV (fun _ => False)).frozen hzs2 (fun h => h)).trans sg0
      have sh1 : wr.frozen? ⟨W.heap.size + 1, 1, none⟩ = false := ((kturns hkV (fun _ => False)).frozen hzs2 (fun h => h)).trans sg1
      have hk0r := kept_trans hk02 hkV
      have HLO := Lib.hid hl0
      have HHO := Lib.hid hh0
      clear s0 s1 sg0 sg1 hl0 hh0 hR
      have hzr := Go.Ai.lt_of_cell q0
      go_wp2_with fail
      refine HE.out.mono ?_
      rintro e w3 ⟨rfl, hk3⟩
      have s0 := kcell hk3 q0
      have s1 := kcell hk3 q1
      have si0 : w3.frozen? ⟨W.heap.size + 1, 0, none⟩ = false := ((kturns hk3 (fun _ => False)).frozen hzr (fun h => h)).trans sh0
      have si1 : w3.frozen? ⟨W.heap.size + 1, 1, none⟩ = false := ((kturns hk3 (fun _ => False)).frozen hzr (fun h => h)).trans sh1
      have hkE := kept_trans hk0r hk3
      have hz3 := Go.Ai.lt_of_cell s0
      clear q0 q1 sh0 sh1 hzr
      go_wp2_with fail
      have v0 := (cell_set_ne (W := w3.setCell ⟨W.heap.size + 1, 0, none⟩ (.int .i64 lo)) (b := W.heap.size + 1) (o := 1) (o' := 0) (v := .int .i64 hi) (by omega)).trans (cell_set_eq s0)
      have v1 := cell_set_eq (v := .int .i64 hi) ((cell_set_ne (W := w3) (b := W.heap.size + 1) (o := 0) (o' := 1) (v := .int .i64 lo) (by omega)).trans s1)
      refine bodyPost_ret (v := .tuple #[.agg #[.int .i64 lo, .int .i64 hi], .int .i64 0]) (by simp [results, Tryz.results13, go_sem, v0, v1]) rfl ?_
      refine ⟨by rw [HLL.out, HLO.out, HHO.out], ?_⟩
      exact Below.setCell (p := ⟨W.heap.size + 1, 1, none⟩) (Below.setCell (p := ⟨W.heap.size + 1, 0, none⟩) hkE (Nat.le_succ _) _) (Nat.le_succ _) _
set_option maxHeartbeats 4000000 in
theorem rbrk_bad (p q : Option Addr) (cap capt : Nat) (B : Book) (boy : Int) (cb : Bool) (er : Int) (W : World) (h : BookAt W p q cap capt B) (hcb : inB boy 0 (B.boys.length - 1) = cb) (her : B.err cb = er) (hne : (er != 0) = true) :
    Calls Tryz.prog 15 #[B.val p q cap capt, .int .i64 boy] W fun e C => e = .returned (.tuple #[.agg #[.int .i64 0, .int .i64 0], .int .i64 er]) ∧ Kept W C := by
  have hnb := h.nb
  unfold Book.val
  have hk0 : Kept W ((W.alloc (Obj.cells #[.slice p B.boys.length cap, .int .i64 B.weeks, .slice q B.trials.length capt] 25)).alloc (Obj.cells #[.int .i64 0, .int .i64 0] 32)) := kept_alloc (kept_alloc (kept_refl _) _) _
  have a0 : ((W.alloc (Obj.cells #[.slice p B.boys.length cap, .int .i64 B.weeks, .slice q B.trials.length capt] 25)).alloc (Obj.cells #[.int .i64 0, .int .i64 0] 32)).cell? ⟨W.heap.size, 0, none⟩ = some (.slice p B.boys.length cap) := by go_simp
  have a1 : ((W.alloc (Obj.cells #[.slice p B.boys.length cap, .int .i64 B.weeks, .slice q B.trials.length capt] 25)).alloc (Obj.cells #[.int .i64 0, .int .i64 0] 32)).cell? ⟨W.heap.size, 1, none⟩ = some (.int .i64 B.weeks) := by go_simp
  have a2 : ((W.alloc (Obj.cells #[.slice p B.boys.length cap, .int .i64 B.weeks, .slice q B.trials.length capt] 25)).alloc (Obj.cells #[.int .i64 0, .int .i64 0] 32)).cell? ⟨W.heap.size, 2, none⟩ = some (.slice q B.trials.length capt) := by go_simp
  have s0 : ((W.alloc (Obj.cells #[.slice p B.boys.length cap, .int .i64 B.weeks, .slice q B.trials.length capt] 25)).alloc (Obj.cells #[.int .i64 0, .int .i64 0] 32)).cell? ⟨W.heap.size + 1, 0, none⟩ = some (.int .i64 0) := by go_simp
  have s1 : ((W.alloc (Obj.cells #[.slice p B.boys.length cap, .int .i64 B.weeks, .slice q B.trials.length capt] 25)).alloc (Obj.cells #[.int .i64 0, .int .i64 0] 32)).cell? ⟨W.heap.size + 1, 1, none⟩ = some (.int .i64 0) := by go_simp
  have sf : ∀ i, ((W.alloc (Obj.cells #[.slice p B.boys.length cap, .int .i64 B.weeks, .slice q B.trials.length capt] 25)).alloc (Obj.cells #[.int .i64 0, .int .i64 0] 32)).frozen? ⟨W.heap.size + 1, i, none⟩ = false := by intro i; go_simp
  have HB := Lib.hid h; clear h
  go_enter Tryz.func15, Tryz.ntmps15
  go_wp2_with fail
  generalize ((W.alloc (Obj.cells #[.slice p B.boys.length cap, .int .i64 B.weeks, .slice q B.trials.length capt] 25)).alloc (Obj.cells #[.int .i64 0, .int .i64 0] 32)) = W0 at *
  have hz := Go.Ai.lt_of_cell a0
  have e0 := cell_regrown a0
  have e1 := cell_regrown a1
  have e2 := cell_regrown a2
  have hc0 := fun d os => Calls.regrown_of (rboy_any p B.boys.length cap (.int .i64 B.weeks) (.slice q B.trials.length capt) boy (grow (redrawn W0 d) os) hnb)
  simp only [hcb] at hc0
  have HC0 := Lib.hid hc0; clear hc0
  have hca := fun d os => Calls.regrown_of (asked_any p q cap capt B cb (grow (redrawn W0 d) os) ((HB.out.kept hk0).kept (below_regrown W0 d os)))
  unfold Book.val at hca
  simp only [her] at hca
  have HCA := Lib.hid hca; clear hca
  have HER := Lib.hid her; clear her
  refine wp_region_quiet_below (by kernel_rfl) (by kernel_rfl) ?_
  repeat (any_goals (first | go_big_quiet_skip | quiet_step (first | with_reducible exact HC0.out _ _ | with_reducible exact HCA.out _ _)))
  refine wpQuiet_nil ?_
  intro _ hw'
  obtain ⟨⟨dq, osq⟩, hw''⟩ := hw'
  subst hw''
  have hkQ := below_regrown W0 dq osq
  have sf0 : (grow (redrawn W0 dq) osq).frozen? ⟨W.heap.size + 1, 0, none⟩ = false := ((kturns hkQ (fun _ => False)).frozen (Go.Ai.lt_of_cell s0) (fun h => h)).trans (sf 0)
  have sf1 : (grow (redrawn W0 dq) osq).frozen? ⟨W.heap.size + 1, 1, none⟩ = false := ((kturns hkQ (fun _ => False)).frozen (Go.Ai.lt_of_cell s0) (fun h => h)).trans (sf 1)
  replace a0 := kcell hkQ a0
  replace a1 := kcell hkQ a1
  replace a2 := kcell hkQ a2
  replace s0 := kcell hkQ s0
  replace s1 := kcell hkQ s1
  have hk01 := kept_trans hk0 hkQ
  have hzs := Go.Ai.lt_of_cell s0
  have hza := Go.Ai.lt_of_cell a0
  clear e0 e1 e2 sf
  generalize grow (redrawn W0 dq) osq = w1 at *
  go_wp2_with fail
  have v0 := (cell_set_ne (W := w1.setCell ⟨W.heap.size + 1, 0, none⟩ (.int .i64 0)) (b := W.heap.size + 1) (o := 1) (o' := 0) (v := .int .i64 0) (by omega)).trans (cell_set_eq s0)
  have v1 := cell_set_eq (v := .int .i64 0) ((cell_set_ne (W := w1) (b := W.heap.size + 1) (o := 0) (o' := 1) (v := .int .i64 0) (by omega)).trans s1)
  refine bodyPost_ret (v := .tuple #[.agg #[.int .i64 0, .int .i64 0], .int .i64 er]) (by simp [results, Tryz.results15, go_sem, v0, v1]) rfl ?_
  refine ⟨rfl, ?_⟩
  exact Below.setCell (p := ⟨W.heap.size + 1, 1, none⟩) (Below.setCell (p := ⟨W.heap.size + 1, 0, none⟩) hk01 (Nat.le_succ _) _) (Nat.le_succ _) _
set_option maxHeartbeats 8000000 in
theorem rbrk_good (p q : Option Addr) (cap capt : Nat) (B : Book) (bn : Nat) (x : Boy) (cb : Bool) (W : World) (h : BookAt W p q cap capt B) (hx : B.boys[bn]? = some x) (hcb : inB (bn : Int) 0 (B.boys.length - 1) = cb) (hok : B.okB = true) (hL : B.voices bn x 0 ≠ []) (her : B.err cb = 0) :
    Calls Tryz.prog 15 #[B.val p q cap capt, .int .i64 (bn : Int)] W fun e C => e = .returned (.tuple #[.agg #[.int .i64 (loOf ((B.voices bn x 0).map fun n => n.getD 4 0)), .int .i64 (hiOf ((B.voices bn x 0).map fun n => n.getD 4 0))], .int .i64 0]) ∧ Kept W C := by
  have hlen : (B.voices bn x 0).length ≤ 1024 := vgen_len (boy_wide ((okB_boys hok).2.1 x (List.mem_of_getElem? hx))) 5 []
  have HOK := Lib.hid hok; clear hok
  have HX := Lib.hid hx; clear hx
  have hnb := h.nb
  unfold Book.val
  have hk0 : Kept W ((W.alloc (Obj.cells #[.slice p B.boys.length cap, .int .i64 B.weeks, .slice q B.trials.length capt] 25)).alloc (Obj.cells #[.int .i64 0, .int .i64 0] 32)) := kept_alloc (kept_alloc (kept_refl _) _) _
  have a0 : ((W.alloc (Obj.cells #[.slice p B.boys.length cap, .int .i64 B.weeks, .slice q B.trials.length capt] 25)).alloc (Obj.cells #[.int .i64 0, .int .i64 0] 32)).cell? ⟨W.heap.size, 0, none⟩ = some (.slice p B.boys.length cap) := by go_simp
  have a1 : ((W.alloc (Obj.cells #[.slice p B.boys.length cap, .int .i64 B.weeks, .slice q B.trials.length capt] 25)).alloc (Obj.cells #[.int .i64 0, .int .i64 0] 32)).cell? ⟨W.heap.size, 1, none⟩ = some (.int .i64 B.weeks) := by go_simp
  have a2 : ((W.alloc (Obj.cells #[.slice p B.boys.length cap, .int .i64 B.weeks, .slice q B.trials.length capt] 25)).alloc (Obj.cells #[.int .i64 0, .int .i64 0] 32)).cell? ⟨W.heap.size, 2, none⟩ = some (.slice q B.trials.length capt) := by go_simp
  have s0 : ((W.alloc (Obj.cells #[.slice p B.boys.length cap, .int .i64 B.weeks, .slice q B.trials.length capt] 25)).alloc (Obj.cells #[.int .i64 0, .int .i64 0] 32)).cell? ⟨W.heap.size + 1, 0, none⟩ = some (.int .i64 0) := by go_simp
  have s1 : ((W.alloc (Obj.cells #[.slice p B.boys.length cap, .int .i64 B.weeks, .slice q B.trials.length capt] 25)).alloc (Obj.cells #[.int .i64 0, .int .i64 0] 32)).cell? ⟨W.heap.size + 1, 1, none⟩ = some (.int .i64 0) := by go_simp
  have sf : ∀ i, ((W.alloc (Obj.cells #[.slice p B.boys.length cap, .int .i64 B.weeks, .slice q B.trials.length capt] 25)).alloc (Obj.cells #[.int .i64 0, .int .i64 0] 32)).frozen? ⟨W.heap.size + 1, i, none⟩ = false := by intro i; go_simp
  have HB := Lib.hid h; clear h
  go_enter Tryz.func15, Tryz.ntmps15
  go_wp2_with fail
  generalize ((W.alloc (Obj.cells #[.slice p B.boys.length cap, .int .i64 B.weeks, .slice q B.trials.length capt] 25)).alloc (Obj.cells #[.int .i64 0, .int .i64 0] 32)) = W0 at *
  have hz := Go.Ai.lt_of_cell a0
  have e0 := cell_regrown a0
  have e1 := cell_regrown a1
  have e2 := cell_regrown a2
  have hc0 := fun d os => Calls.regrown_of (rboy_any p B.boys.length cap (.int .i64 B.weeks) (.slice q B.trials.length capt) (bn : Int) (grow (redrawn W0 d) os) hnb)
  simp only [hcb] at hc0
  have HC0 := Lib.hid hc0; clear hc0
  have hca := fun d os => Calls.regrown_of (asked_any p q cap capt B cb (grow (redrawn W0 d) os) ((HB.out.kept hk0).kept (below_regrown W0 d os)))
  unfold Book.val at hca
  simp only [her] at hca
  have HCA := Lib.hid hca; clear hca
  have HER := Lib.hid her; clear her
  refine wp_region_quiet_below (by kernel_rfl) (by kernel_rfl) ?_
  repeat (any_goals (first | go_big_quiet_skip | quiet_step (first | with_reducible exact HC0.out _ _ | with_reducible exact HCA.out _ _)))
  refine wpQuiet_nil ?_
  intro _ hw'
  obtain ⟨⟨dq, osq⟩, hw''⟩ := hw'
  subst hw''
  have hkQ := below_regrown W0 dq osq
  have sf0 : (grow (redrawn W0 dq) osq).frozen? ⟨W.heap.size + 1, 0, none⟩ = false := ((kturns hkQ (fun _ => False)).frozen (Go.Ai.lt_of_cell s0) (fun h => h)).trans (sf 0)
  have sf1 : (grow (redrawn W0 dq) osq).frozen? ⟨W.heap.size + 1, 1, none⟩ = false := ((kturns hkQ (fun _ => False)).frozen (Go.Ai.lt_of_cell s0) (fun h => h)).trans (sf 1)
  replace a0 := kcell hkQ a0
  replace a1 := kcell hkQ a1
  replace a2 := kcell hkQ a2
  replace s0 := kcell hkQ s0
  replace s1 := kcell hkQ s1
  have hk01 := kept_trans hk0 hkQ
  have hzs := Go.Ai.lt_of_cell s0
  have hza := Go.Ai.lt_of_cell a0
  clear e0 e1 e2 sf
  generalize grow (redrawn W0 dq) osq = w1 at *
  have hv := voices_any p q cap capt B bn x 0 w1 (HB.out.kept hk01) HOK.out (by omega) HX.out
  unfold Book.val at hv
  generalize hLL : B.voices bn x 0 = L at *
  have HV := Lib.hid hv; clear hv
  have HLL := Lib.hid hLL; clear hLL
  go_wp2_with fail
  refine HV.out.mono ?_
  rintro e w2 ⟨v, rfl, hk2, hrow⟩
  have HVA := VoicesAt.of_row hrow
  obtain ⟨pv, capv, rfl, hvr⟩ := HVA
  obtain ⟨g, rfl, hcell⟩ := hvr.resolve_left hL
  have HCELL := Lib.hid hcell
  clear hrow hvr HV hcell
  replace a0 := kcell hk2 a0
  replace a1 := kcell hk2 a1
  replace a2 := kcell hk2 a2
  replace s0 := kcell hk2 s0
  replace s1 := kcell hk2 s1
  have sg0 : w2.frozen? ⟨W.heap.size + 1, 0, none⟩ = false := ((kturns hk2 (fun _ => False)).frozen hzs (fun h => h)).trans sf0
  have sg1 : w2.frozen? ⟨W.heap.size + 1, 1, none⟩ = false := ((kturns hk2 (fun _ => False)).frozen hzs (fun h => h)).trans sf1
  have hk02 := kept_trans hk01 hk2
  have hzs2 := Go.Ai.lt_of_cell s0
  clear sf0 sf1 hzs hza
  go_wp2_with fail
  go_loopw [7, 9] (fun ov i V => ∃ k : Nat, k ≤ L.length ∧ i = .int .i64 k ∧ V.ownsRow w2.heap.size 3 1 ov k ((L.take k).map fun n => .int .i64 (n.getD 4 0)) ∧ Kept w2 V) (fun ov i V => L.length - (intOf i).toNat)
  case atStart => exact ⟨0, by omega, by go_num, World.ownsRow_nil _ _ _ _, kept_refl _⟩
  case round =>
    obtain ⟨k, hk, rfl, hR, hkV⟩ := hrel
    by_cases hlt : k < L.length
    · have hltI : (k : Int) < L.length := by omega
      obtain ⟨n, hget⟩ : ∃ n, L[k]? = some n := ⟨_, List.getElem?_eq_getElem hlt⟩
      obtain ⟨c0, c1, c2, c3, c4, c5⟩ := HCELL.out k n hget
      have c := kcell hkV c5
      have hgz := Go.Ai.lt_of_cell c
      have HST := Lib.hid (show (L.take (k + 1)).map (fun n => Value.int .i64 (n.getD 4 0)) = (L.take k).map (fun n => Value.int .i64 (n.getD 4 0)) ++ [.int .i64 (n.getD 4 0)] from by rw [List.take_succ, hget, List.map_append]; rfl)
      generalize n.getD 4 0 = y at *
      have hsz := hkV.size
      have HR := Lib.hid hR
      obtain ⟨i0, hi, hiz, his, hib⟩ := info_parts infoI
      clear c0 c1 c2 c3 c4 c5 hget hR
      have hka := kept_alloc (kept_refl wr) (Obj.cells #[.int .i64 y] 3)
      go_wp2_with (at_builtin
                   refine wpList_append_lies _ rfl _ _ 41 rfl w2.heap.size 3 i0 _ 1 8 Tryz.underlying41 hi hiz his hib rfl (by decide) u7 k _ rfl (HR.out.alloc _) ⟨wr.heap.size, 0, none⟩ 1 1 [.int .i64 y] rfl rfl (cell_one_new _ _ _) (by simp [Value.oneCell']) (by decide) (by unfold maxLen; omega) (by omega) (by simp; omega) _ rfl ?_
                   intro g2 cap2 V3 hown hgrow hat hlt3)
      have hkV3 : Kept w2 V3 := Below.grown (kept_trans hkV hka) hgrow (kept_trans hkV hka).size (fun b e => (HR.out.lt b e).1)
      go_roundw
      case rel => exact ⟨k + 1, by omega, by go_num, by rw [HST.out]; exact hown, hkV3⟩
      case measure => simp [intOf]; omega
    · have hltI : ¬ (k : Int) < L.length := by omega
      obtain rfl : k = L.length := by omega
      rw [List.take_length] at hR
      have hN : NumsAt wr u7 (L.map fun n => n.getD 4 0) := NumsAt.of_row2 (base := w2.heap.size) (e := 3) (by rw [List.length_map, List.map_map]; exact hR) (by rw [List.length_map]; omega)
      have he := ends_any u7 _ wr hN (by simpa using hL)
      generalize hl0 : loOf (L.map fun n => n.getD 4 0) = lo at *
      generalize hh0 : hiOf (L.map fun n => n.getD 4 0) = hi at *
      have HE := Lib.hid he; clear he hN
      have q0 := kcell hkV s0
      have q1 := kcell hkV s1
      have sh0 : wr.frozen? ⟨W.heap.size + 1, 0, none⟩ = false := ((kturns hkV (fun _ => False)).frozen hzs2 (fun h => h)).trans sg0
      have sh1 : wr.frozen? ⟨W.heap.size + 1, 1, none⟩ = false := ((kturns hkV (fun _ => False)).frozen hzs2 (fun h => h)).trans sg1
      have hk0r := kept_trans hk02 hkV
      have HLO := Lib.hid hl0
      have HHO := Lib.hid hh0
      clear s0 s1 sg0 sg1 hl0 hh0 hR
      have hzr := Go.Ai.lt_of_cell q0
      go_wp2_with fail
      refine HE.out.mono ?_
      rintro e w3 ⟨rfl, hk3⟩
      have s0 := kcell hk3 q0
      have s1 := kcell hk3 q1
      have si0 : w3.frozen? ⟨W.heap.size + 1, 0, none⟩ = false := ((kturns hk3 (fun _ => False)).frozen hzr (fun h => h)).trans sh0
      have si1 : w3.frozen? ⟨W.heap.size + 1, 1, none⟩ = false := ((kturns hk3 (fun _ => False)).frozen hzr (fun h => h)).trans sh1
      have hkE := kept_trans hk0r hk3
      have hz3 := Go.Ai.lt_of_cell s0
      clear q0 q1 sh0 sh1 hzr
      go_wp2_with fail
      have v0 := (cell_set_ne (W := w3.setCell ⟨W.heap.size + 1, 0, none⟩ (.int .i64 lo)) (b := W.heap.size + 1) (o := 1) (o' := 0) (v := .int .i64 hi) (by omega)).trans (cell_set_eq s0)
      have v1 := cell_set_eq (v := .int .i64 hi) ((cell_set_ne (W := w3) (b := W.heap.size + 1) (o := 0) (o' := 1) (v := .int .i64 lo) (by omega)).trans s1)
      refine bodyPost_ret (v := .tuple #[.agg #[.int .i64 lo, .int .i64 hi], .int .i64 0]) (by simp [results, Tryz.results15, go_sem, v0, v1]) rfl ?_
      refine ⟨by rw [HLL.out, HLO.out, HHO.out], ?_⟩
      exact Below.setCell (p := ⟨W.heap.size + 1, 1, none⟩) (Below.setCell (p := ⟨W.heap.size + 1, 0, none⟩) hkE (Nat.le_succ _) _) (Nat.le_succ _) _
end Go.Proofs.YthkcgengohoboaaGreatDoor
set_option linter.all false
namespace Go.Proofs.YthkcgengohoboaaGreatDoor
open Go.RowKit Go.Sort Go.Rg
set_option maxRecDepth 100000

set_option maxHeartbeats 4000000 in
theorem rhigh_bada (p q : Option Addr) (cap capt : Nat) (B : Book) (boy week : Int) (er : Int) (W : World) (h : BookAt W p q cap capt B) (hcb : inB boy 0 (B.boys.length - 1) = false) (her : B.err false = er) (hne : (er != 0) = true) :
    Calls Tryz.prog 17 #[B.val p q cap capt, .int .i64 boy, .int .i64 week] W fun e C => e = .returned (.tuple #[.agg #[.int .i64 0, .int .i64 0], .int .i64 er]) ∧ Kept W C := by
  have hnb := h.nb
  unfold Book.val
  have hk0 : Kept W ((W.alloc (Obj.cells #[.slice p B.boys.length cap, .int .i64 B.weeks, .slice q B.trials.length capt] 25)).alloc (Obj.cells #[.int .i64 0, .int .i64 0] 32)) := kept_alloc (kept_alloc (kept_refl _) _) _
  have a0 : ((W.alloc (Obj.cells #[.slice p B.boys.length cap, .int .i64 B.weeks, .slice q B.trials.length capt] 25)).alloc (Obj.cells #[.int .i64 0, .int .i64 0] 32)).cell? ⟨W.heap.size, 0, none⟩ = some (.slice p B.boys.length cap) := by go_simp
  have a1 : ((W.alloc (Obj.cells #[.slice p B.boys.length cap, .int .i64 B.weeks, .slice q B.trials.length capt] 25)).alloc (Obj.cells #[.int .i64 0, .int .i64 0] 32)).cell? ⟨W.heap.size, 1, none⟩ = some (.int .i64 B.weeks) := by go_simp
  have a2 : ((W.alloc (Obj.cells #[.slice p B.boys.length cap, .int .i64 B.weeks, .slice q B.trials.length capt] 25)).alloc (Obj.cells #[.int .i64 0, .int .i64 0] 32)).cell? ⟨W.heap.size, 2, none⟩ = some (.slice q B.trials.length capt) := by go_simp
  have s0 : ((W.alloc (Obj.cells #[.slice p B.boys.length cap, .int .i64 B.weeks, .slice q B.trials.length capt] 25)).alloc (Obj.cells #[.int .i64 0, .int .i64 0] 32)).cell? ⟨W.heap.size + 1, 0, none⟩ = some (.int .i64 0) := by go_simp
  have s1 : ((W.alloc (Obj.cells #[.slice p B.boys.length cap, .int .i64 B.weeks, .slice q B.trials.length capt] 25)).alloc (Obj.cells #[.int .i64 0, .int .i64 0] 32)).cell? ⟨W.heap.size + 1, 1, none⟩ = some (.int .i64 0) := by go_simp
  have sf : ∀ i, ((W.alloc (Obj.cells #[.slice p B.boys.length cap, .int .i64 B.weeks, .slice q B.trials.length capt] 25)).alloc (Obj.cells #[.int .i64 0, .int .i64 0] 32)).frozen? ⟨W.heap.size + 1, i, none⟩ = false := by intro i; go_simp
  have HB := Lib.hid h; clear h
  go_enter Tryz.func17, Tryz.ntmps17
  go_wp2_with fail
  generalize ((W.alloc (Obj.cells #[.slice p B.boys.length cap, .int .i64 B.weeks, .slice q B.trials.length capt] 25)).alloc (Obj.cells #[.int .i64 0, .int .i64 0] 32)) = W0 at *
  have hz := Go.Ai.lt_of_cell a0
  have e0 := cell_regrown a0
  have e1 := cell_regrown a1
  have e2 := cell_regrown a2
  have hc0 := fun d os => Calls.regrown_of (rboy_any p B.boys.length cap (.int .i64 B.weeks) (.slice q B.trials.length capt) boy (grow (redrawn W0 d) os) hnb)
  simp only [hcb] at hc0
  have HC0 := Lib.hid hc0; clear hc0
  have hca := fun d os => Calls.regrown_of (asked_any p q cap capt B false (grow (redrawn W0 d) os) ((HB.out.kept hk0).kept (below_regrown W0 d os)))
  unfold Book.val at hca
  simp only [her] at hca
  have HCA := Lib.hid hca; clear hca
  have HER := Lib.hid her; clear her
  refine wp_region_quiet_below (by kernel_rfl) (by kernel_rfl) ?_
  repeat (any_goals (first | go_big_quiet_skip | quiet_step (first | with_reducible exact HC0.out _ _ | with_reducible exact HCA.out _ _)))
  refine wpQuiet_nil ?_
  intro _ hw'
  obtain ⟨⟨dq, osq⟩, hw''⟩ := hw'
  subst hw''
  have hkQ := below_regrown W0 dq osq
  have sf0 : (grow (redrawn W0 dq) osq).frozen? ⟨W.heap.size + 1, 0, none⟩ = false := ((kturns hkQ (fun _ => False)).frozen (Go.Ai.lt_of_cell s0) (fun h => h)).trans (sf 0)
  have sf1 : (grow (redrawn W0 dq) osq).frozen? ⟨W.heap.size + 1, 1, none⟩ = false := ((kturns hkQ (fun _ => False)).frozen (Go.Ai.lt_of_cell s0) (fun h => h)).trans (sf 1)
  replace a0 := kcell hkQ a0
  replace a1 := kcell hkQ a1
  replace a2 := kcell hkQ a2
  replace s0 := kcell hkQ s0
  replace s1 := kcell hkQ s1
  have hk01 := kept_trans hk0 hkQ
  have hzs := Go.Ai.lt_of_cell s0
  have hza := Go.Ai.lt_of_cell a0
  clear e0 e1 e2 sf
  generalize grow (redrawn W0 dq) osq = w1 at *
  go_wp2_with fail
  have v0 := (cell_set_ne (W := w1.setCell ⟨W.heap.size + 1, 0, none⟩ (.int .i64 0)) (b := W.heap.size + 1) (o := 1) (o' := 0) (v := .int .i64 0) (by omega)).trans (cell_set_eq s0)
  have v1 := cell_set_eq (v := .int .i64 0) ((cell_set_ne (W := w1) (b := W.heap.size + 1) (o := 0) (o' := 1) (v := .int .i64 0) (by omega)).trans s1)
  refine bodyPost_ret (v := .tuple #[.agg #[.int .i64 0, .int .i64 0], .int .i64 er]) (by simp [results, Tryz.results17, go_sem, v0, v1]) rfl ?_
  refine ⟨rfl, ?_⟩
  exact Below.setCell (p := ⟨W.heap.size + 1, 1, none⟩) (Below.setCell (p := ⟨W.heap.size + 1, 0, none⟩) hk01 (Nat.le_succ _) _) (Nat.le_succ _) _
set_option maxHeartbeats 4000000 in
theorem rhigh_badb (p q : Option Addr) (cap capt : Nat) (B : Book) (boy week : Int) (er : Int) (W : World) (h : BookAt W p q cap capt B) (hcb : inB boy 0 (B.boys.length - 1) = true) (hcw : inB week 0 (wrap64 (B.weeks - 1)) = false) (her : B.err false = er) (hne : (er != 0) = true) :
    Calls Tryz.prog 17 #[B.val p q cap capt, .int .i64 boy, .int .i64 week] W fun e C => e = .returned (.tuple #[.agg #[.int .i64 0, .int .i64 0], .int .i64 er]) ∧ Kept W C := by
  have hnb := h.nb
  unfold Book.val
  have hk0 : Kept W ((W.alloc (Obj.cells #[.slice p B.boys.length cap, .int .i64 B.weeks, .slice q B.trials.length capt] 25)).alloc (Obj.cells #[.int .i64 0, .int .i64 0] 32)) := kept_alloc (kept_alloc (kept_refl _) _) _
  have a0 : ((W.alloc (Obj.cells #[.slice p B.boys.length cap, .int .i64 B.weeks, .slice q B.trials.length capt] 25)).alloc (Obj.cells #[.int .i64 0, .int .i64 0] 32)).cell? ⟨W.heap.size, 0, none⟩ = some (.slice p B.boys.length cap) := by go_simp
  have a1 : ((W.alloc (Obj.cells #[.slice p B.boys.length cap, .int .i64 B.weeks, .slice q B.trials.length capt] 25)).alloc (Obj.cells #[.int .i64 0, .int .i64 0] 32)).cell? ⟨W.heap.size, 1, none⟩ = some (.int .i64 B.weeks) := by go_simp
  have a2 : ((W.alloc (Obj.cells #[.slice p B.boys.length cap, .int .i64 B.weeks, .slice q B.trials.length capt] 25)).alloc (Obj.cells #[.int .i64 0, .int .i64 0] 32)).cell? ⟨W.heap.size, 2, none⟩ = some (.slice q B.trials.length capt) := by go_simp
  have s0 : ((W.alloc (Obj.cells #[.slice p B.boys.length cap, .int .i64 B.weeks, .slice q B.trials.length capt] 25)).alloc (Obj.cells #[.int .i64 0, .int .i64 0] 32)).cell? ⟨W.heap.size + 1, 0, none⟩ = some (.int .i64 0) := by go_simp
  have s1 : ((W.alloc (Obj.cells #[.slice p B.boys.length cap, .int .i64 B.weeks, .slice q B.trials.length capt] 25)).alloc (Obj.cells #[.int .i64 0, .int .i64 0] 32)).cell? ⟨W.heap.size + 1, 1, none⟩ = some (.int .i64 0) := by go_simp
  have sf : ∀ i, ((W.alloc (Obj.cells #[.slice p B.boys.length cap, .int .i64 B.weeks, .slice q B.trials.length capt] 25)).alloc (Obj.cells #[.int .i64 0, .int .i64 0] 32)).frozen? ⟨W.heap.size + 1, i, none⟩ = false := by intro i; go_simp
  have HB := Lib.hid h; clear h
  go_enter Tryz.func17, Tryz.ntmps17
  go_wp2_with fail
  generalize ((W.alloc (Obj.cells #[.slice p B.boys.length cap, .int .i64 B.weeks, .slice q B.trials.length capt] 25)).alloc (Obj.cells #[.int .i64 0, .int .i64 0] 32)) = W0 at *
  have hz := Go.Ai.lt_of_cell a0
  have e0 := cell_regrown a0
  have e1 := cell_regrown a1
  have e2 := cell_regrown a2
  have hc0 := fun d os => Calls.regrown_of (rboy_any p B.boys.length cap (.int .i64 B.weeks) (.slice q B.trials.length capt) boy (grow (redrawn W0 d) os) hnb)
  simp only [hcb] at hc0
  have HC0 := Lib.hid hc0; clear hc0
  have hc1 := fun d os => Calls.regrown_of (rweek_any (.slice p B.boys.length cap) (.slice q B.trials.length capt) B.weeks week (grow (redrawn W0 d) os))
  simp only [hcw] at hc1
  have HC1 := Lib.hid hc1; clear hc1
  have hca := fun d os => Calls.regrown_of (asked_any p q cap capt B false (grow (redrawn W0 d) os) ((HB.out.kept hk0).kept (below_regrown W0 d os)))
  unfold Book.val at hca
  simp only [her] at hca
  have HCA := Lib.hid hca; clear hca
  have HER := Lib.hid her; clear her
  refine wp_region_quiet_below (by kernel_rfl) (by kernel_rfl) ?_
  repeat (any_goals (first | go_big_quiet_skip | quiet_step (first | with_reducible exact HC0.out _ _ | with_reducible exact HC1.out _ _ | with_reducible exact HCA.out _ _)))
  refine wpQuiet_nil ?_
  intro _ hw'
  obtain ⟨⟨dq, osq⟩, hw''⟩ := hw'
  subst hw''
  have hkQ := below_regrown W0 dq osq
  have sf0 : (grow (redrawn W0 dq) osq).frozen? ⟨W.heap.size + 1, 0, none⟩ = false := ((kturns hkQ (fun _ => False)).frozen (Go.Ai.lt_of_cell s0) (fun h => h)).trans (sf 0)
  have sf1 : (grow (redrawn W0 dq) osq).frozen? ⟨W.heap.size + 1, 1, none⟩ = false := ((kturns hkQ (fun _ => False)).frozen (Go.Ai.lt_of_cell s0) (fun h => h)).trans (sf 1)
  replace a0 := kcell hkQ a0
  replace a1 := kcell hkQ a1
  replace a2 := kcell hkQ a2
  replace s0 := kcell hkQ s0
  replace s1 := kcell hkQ s1
  have hk01 := kept_trans hk0 hkQ
  have hzs := Go.Ai.lt_of_cell s0
  have hza := Go.Ai.lt_of_cell a0
  clear e0 e1 e2 sf
  generalize grow (redrawn W0 dq) osq = w1 at *
  go_wp2_with fail
  have v0 := (cell_set_ne (W := w1.setCell ⟨W.heap.size + 1, 0, none⟩ (.int .i64 0)) (b := W.heap.size + 1) (o := 1) (o' := 0) (v := .int .i64 0) (by omega)).trans (cell_set_eq s0)
  have v1 := cell_set_eq (v := .int .i64 0) ((cell_set_ne (W := w1) (b := W.heap.size + 1) (o := 0) (o' := 1) (v := .int .i64 0) (by omega)).trans s1)
  refine bodyPost_ret (v := .tuple #[.agg #[.int .i64 0, .int .i64 0], .int .i64 er]) (by simp [results, Tryz.results17, go_sem, v0, v1]) rfl ?_
  refine ⟨rfl, ?_⟩
  exact Below.setCell (p := ⟨W.heap.size + 1, 1, none⟩) (Below.setCell (p := ⟨W.heap.size + 1, 0, none⟩) hk01 (Nat.le_succ _) _) (Nat.le_succ _) _
set_option maxHeartbeats 4000000 in
theorem rhigh_badc (p q : Option Addr) (cap capt : Nat) (B : Book) (boy week : Int) (er : Int) (W : World) (h : BookAt W p q cap capt B) (hcb : inB boy 0 (B.boys.length - 1) = true) (hcw : inB week 0 (wrap64 (B.weeks - 1)) = true) (her : B.err true = er) (hne : (er != 0) = true) :
    Calls Tryz.prog 17 #[B.val p q cap capt, .int .i64 boy, .int .i64 week] W fun e C => e = .returned (.tuple #[.agg #[.int .i64 0, .int .i64 0], .int .i64 er]) ∧ Kept W C := by
  have hnb := h.nb
  unfold Book.val
  have hk0 : Kept W ((W.alloc (Obj.cells #[.slice p B.boys.length cap, .int .i64 B.weeks, .slice q B.trials.length capt] 25)).alloc (Obj.cells #[.int .i64 0, .int .i64 0] 32)) := kept_alloc (kept_alloc (kept_refl _) _) _
  have a0 : ((W.alloc (Obj.cells #[.slice p B.boys.length cap, .int .i64 B.weeks, .slice q B.trials.length capt] 25)).alloc (Obj.cells #[.int .i64 0, .int .i64 0] 32)).cell? ⟨W.heap.size, 0, none⟩ = some (.slice p B.boys.length cap) := by go_simp
  have a1 : ((W.alloc (Obj.cells #[.slice p B.boys.length cap, .int .i64 B.weeks, .slice q B.trials.length capt] 25)).alloc (Obj.cells #[.int .i64 0, .int .i64 0] 32)).cell? ⟨W.heap.size, 1, none⟩ = some (.int .i64 B.weeks) := by go_simp
  have a2 : ((W.alloc (Obj.cells #[.slice p B.boys.length cap, .int .i64 B.weeks, .slice q B.trials.length capt] 25)).alloc (Obj.cells #[.int .i64 0, .int .i64 0] 32)).cell? ⟨W.heap.size, 2, none⟩ = some (.slice q B.trials.length capt) := by go_simp
  have s0 : ((W.alloc (Obj.cells #[.slice p B.boys.length cap, .int .i64 B.weeks, .slice q B.trials.length capt] 25)).alloc (Obj.cells #[.int .i64 0, .int .i64 0] 32)).cell? ⟨W.heap.size + 1, 0, none⟩ = some (.int .i64 0) := by go_simp
  have s1 : ((W.alloc (Obj.cells #[.slice p B.boys.length cap, .int .i64 B.weeks, .slice q B.trials.length capt] 25)).alloc (Obj.cells #[.int .i64 0, .int .i64 0] 32)).cell? ⟨W.heap.size + 1, 1, none⟩ = some (.int .i64 0) := by go_simp
  have sf : ∀ i, ((W.alloc (Obj.cells #[.slice p B.boys.length cap, .int .i64 B.weeks, .slice q B.trials.length capt] 25)).alloc (Obj.cells #[.int .i64 0, .int .i64 0] 32)).frozen? ⟨W.heap.size + 1, i, none⟩ = false := by intro i; go_simp
  have HB := Lib.hid h; clear h
  go_enter Tryz.func17, Tryz.ntmps17
  go_wp2_with fail
  generalize ((W.alloc (Obj.cells #[.slice p B.boys.length cap, .int .i64 B.weeks, .slice q B.trials.length capt] 25)).alloc (Obj.cells #[.int .i64 0, .int .i64 0] 32)) = W0 at *
  have hz := Go.Ai.lt_of_cell a0
  have e0 := cell_regrown a0
  have e1 := cell_regrown a1
  have e2 := cell_regrown a2
  have hc0 := fun d os => Calls.regrown_of (rboy_any p B.boys.length cap (.int .i64 B.weeks) (.slice q B.trials.length capt) boy (grow (redrawn W0 d) os) hnb)
  simp only [hcb] at hc0
  have HC0 := Lib.hid hc0; clear hc0
  have hc1 := fun d os => Calls.regrown_of (rweek_any (.slice p B.boys.length cap) (.slice q B.trials.length capt) B.weeks week (grow (redrawn W0 d) os))
  simp only [hcw] at hc1
  have HC1 := Lib.hid hc1; clear hc1
  have hca := fun d os => Calls.regrown_of (asked_any p q cap capt B true (grow (redrawn W0 d) os) ((HB.out.kept hk0).kept (below_regrown W0 d os)))
  unfold Book.val at hca
  simp only [her] at hca
  have HCA := Lib.hid hca; clear hca
  have HER := Lib.hid her; clear her
  refine wp_region_quiet_below (by kernel_rfl) (by kernel_rfl) ?_
  repeat (any_goals (first | go_big_quiet_skip | quiet_step (first | with_reducible exact HC0.out _ _ | with_reducible exact HC1.out _ _ | with_reducible exact HCA.out _ _)))
  refine wpQuiet_nil ?_
  intro _ hw'
  obtain ⟨⟨dq, osq⟩, hw''⟩ := hw'
  subst hw''
  have hkQ := below_regrown W0 dq osq
  have sf0 : (grow (redrawn W0 dq) osq).frozen? ⟨W.heap.size + 1, 0, none⟩ = false := ((kturns hkQ (fun _ => False)).frozen (Go.Ai.lt_of_cell s0) (fun h => h)).trans (sf 0)
  have sf1 : (grow (redrawn W0 dq) osq).frozen? ⟨W.heap.size + 1, 1, none⟩ = false := ((kturns hkQ (fun _ => False)).frozen (Go.Ai.lt_of_cell s0) (fun h => h)).trans (sf 1)
  replace a0 := kcell hkQ a0
  replace a1 := kcell hkQ a1
  replace a2 := kcell hkQ a2
  replace s0 := kcell hkQ s0
  replace s1 := kcell hkQ s1
  have hk01 := kept_trans hk0 hkQ
  have hzs := Go.Ai.lt_of_cell s0
  have hza := Go.Ai.lt_of_cell a0
  clear e0 e1 e2 sf
  generalize grow (redrawn W0 dq) osq = w1 at *
  go_wp2_with fail
  have v0 := (cell_set_ne (W := w1.setCell ⟨W.heap.size + 1, 0, none⟩ (.int .i64 0)) (b := W.heap.size + 1) (o := 1) (o' := 0) (v := .int .i64 0) (by omega)).trans (cell_set_eq s0)
  have v1 := cell_set_eq (v := .int .i64 0) ((cell_set_ne (W := w1) (b := W.heap.size + 1) (o := 0) (o' := 1) (v := .int .i64 0) (by omega)).trans s1)
  refine bodyPost_ret (v := .tuple #[.agg #[.int .i64 0, .int .i64 0], .int .i64 er]) (by simp [results, Tryz.results17, go_sem, v0, v1]) rfl ?_
  refine ⟨rfl, ?_⟩
  exact Below.setCell (p := ⟨W.heap.size + 1, 1, none⟩) (Below.setCell (p := ⟨W.heap.size + 1, 0, none⟩) hk01 (Nat.le_succ _) _) (Nat.le_succ _) _
end Go.Proofs.YthkcgengohoboaaGreatDoor
set_option linter.all false
namespace Go.Proofs.YthkcgengohoboaaGreatDoor
open Go.RowKit Go.Sort Go.Rg
set_option maxRecDepth 100000

theorem mem_vgen {lo hi : Nat → Int} {kp : List Int → Bool} : ∀ (d : Nat) (pre x : List Int), x ∈ vgen lo hi kp d pre ↔
    ∃ suf : List Int, suf.length = d ∧ x = pre ++ suf ∧ kp x = true ∧ ∀ i v, suf[i]? = some v → lo (pre.length + i) ≤ v ∧ v ≤ hi (pre.length + i)
  | 0, pre, x => by
    unfold vgen
    constructor
    · intro h
      by_cases hk : kp pre = true
      · rw [if_pos hk] at h
        have : x = pre := by simpa using h
        subst this
        exact ⟨[], rfl, by simp, hk, fun i v hv => by simp at hv⟩
      · rw [if_neg hk] at h; simp at h
    · rintro ⟨suf, hl, rfl, hk, -⟩
      have : suf = [] := List.length_eq_zero_iff.1 hl
      subst this
      rw [List.append_nil] at hk ⊢
      rw [if_pos hk]; simp
  | d + 1, pre, x => by
    rw [vgen_succ]
    unfold vpart
    simp only [List.mem_flatten, List.mem_map, List.mem_range]
    constructor
    · rintro ⟨l, ⟨m, hm, rfl⟩, hx⟩
      obtain ⟨suf, hl, rfl, hk, hs⟩ := (mem_vgen d _ x).1 hx
      refine ⟨(lo pre.length + (m : Int)) :: suf, by simp [hl], by simp, hk, fun i v hv => ?_⟩
      cases i with
      | zero =>
        simp only [List.getElem?_cons_zero, Option.some.injEq] at hv
        subst hv
        exact ⟨by simp only [Nat.add_zero]; omega, by simp only [Nat.add_zero]; omega⟩
      | succ i =>
        have := hs i v (by simpa using hv)
        simp only [List.length_append, List.length_cons, List.length_nil] at this
        rw [show pre.length + (i + 1) = pre.length + (0 + 1) + i by omega]
        exact this
    · rintro ⟨suf, hl, rfl, hk, hs⟩
      match suf, hl with
      | v :: suf, hl =>
        have h0 := hs 0 v rfl
        simp only [Nat.add_zero] at h0
        refine ⟨_, ⟨(v - lo pre.length).toNat, by omega, rfl⟩, ?_⟩
        have e : lo pre.length + (((v - lo pre.length).toNat : Nat) : Int) = v := by omega
        rw [e]
        refine (mem_vgen d _ _).2 ⟨suf, by simpa using hl, by simp, hk, fun i u hu => ?_⟩
        have := hs (i + 1) u (by simpa using hu)
        simp only [List.length_append, List.length_cons, List.length_nil]
        rw [show pre.length + (0 + 1) + i = pre.length + (i + 1) by omega]
        exact this
theorem mem_voices {B : Book} {boy : Nat} {x : Boy} {but : Nat} {n : List Int} : n ∈ B.voices boy x but ↔ n.length = 5 ∧ B.keeps boy x but n = true ∧ ∀ i v, n[i]? = some v → x.lo i ≤ v ∧ v ≤ x.hi i := by
  unfold Book.voices
  rw [mem_vgen]
  constructor
  · rintro ⟨suf, hl, rfl, hk, hs⟩
    simp only [List.nil_append, List.length_nil, Nat.zero_add] at hk hs ⊢
    exact ⟨hl, hk, hs⟩
  · rintro ⟨hl, hk, hs⟩
    exact ⟨n, hl, by simp, hk, fun i v hv => by simpa using hs i v hv⟩
theorem keeps_iff {B : Book} {boy : Nat} {x : Boy} {but : Nat} {n : List Int} : B.keeps boy x but n = true ↔ ∀ j t, B.trials[j]? = some t → t.boy = (boy : Int) → but.testBit j = false → TBn n x.ls t = false := by
  unfold Book.keeps rightB
  rw [List.all_eq_true]
  constructor
  · intro h j t hj hb hbt
    have := h j (List.mem_range.2 (List.getElem?_eq_some_iff.1 hj).1)
    rw [hj] at this
    simp only [badT, hb, hbt, decide_true, Bool.not_false, Bool.true_and, Bool.not_eq_true'] at this
    exact this
  · intro h j hj
    have hj := List.mem_range.1 hj
    rw [List.getElem?_eq_getElem hj]
    simp only [Bool.not_eq_true']
    unfold badT
    by_cases hb : (B.trials[j]).boy = (boy : Int)
    · cases hbt : but.testBit j with
      | true => simp
      | false =>
        have := h j _ (List.getElem?_eq_getElem hj) hb hbt
        unfold TBn at this
        rw [this]; simp
    · simp [hb]
theorem mem_untried_rng {B : Book} {boy : Nat} {x : Boy} {n : List Int} : n ∈ (Book.mk B.boys B.weeks []).truths boy x ↔ n.length = 5 ∧ ∀ i v, n[i]? = some v → x.lo i ≤ v ∧ v ≤ x.hi i := by
  rw [mem_truths]
  constructor
  · rintro ⟨h1, -, h3⟩
    exact ⟨h1, fun i v hv => ⟨(h3 i v hv).1, (h3 i v hv).2.1⟩⟩
  · rintro ⟨h1, h3⟩
    refine ⟨h1, ?_, fun i v hv => ⟨(h3 i v hv).1, (h3 i v hv).2, by simp [fbAt]⟩⟩
    unfold kpOf
    rw [List.all_eq_true]
    intro wk _
    simp [Book.told]
/-- decaniref02's voices are the truths -/
theorem voices_iff {B : Book} (h : B.okB = true) {boy : Nat} {x : Boy} {n : List Int} : n ∈ B.voices boy x 0 ↔ n ∈ B.truths boy x := by
  rw [mem_voices, truths_iff h, mem_untried_rng, keeps_iff]
  constructor
  · rintro ⟨h1, h2, h3⟩
    refine ⟨⟨h1, h3⟩, fun t ht hb => ?_⟩
    obtain ⟨j, hj⟩ := List.getElem?_of_mem ht
    exact h2 j t hj hb (Nat.zero_testBit j)
  · rintro ⟨⟨h1, h3⟩, h2⟩
    exact ⟨h1, fun j t hj hb _ => h2 t (List.mem_of_getElem? hj) hb, h3⟩
theorem voices_nil {B : Book} (h : B.okB = true) {boy : Nat} {x : Boy} : B.voices boy x 0 = [] ↔ B.truths boy x = [] := by
  constructor
  · intro e
    rw [List.eq_nil_iff_forall_not_mem] at e ⊢
    exact fun n hn => e n ((voices_iff h).2 hn)
  · intro e
    rw [List.eq_nil_iff_forall_not_mem] at e ⊢
    exact fun n hn => e n ((voices_iff h).1 hn)
theorem fine_can {B : Book} (h : B.okB = true) : B.fineB 0 = true ↔ Can B := by
  constructor
  · intro hf i x hx e
    have := fineB_false hx ((voices_nil h).2 e)
    rw [hf] at this; cases this
  · intro hc
    exact fineB_true fun i x _ hx e => hc i x hx ((voices_nil h).1 e)
theorem lo_min (l : List Int) : ∀ a : Int, (l.foldl min a ≤ a ∧ ∀ x ∈ l, l.foldl min a ≤ x) ∧ (l.foldl min a = a ∨ l.foldl min a ∈ l) := by
  induction l with
  | nil => exact fun a => ⟨⟨Int.le_refl _, fun x hx => by cases hx⟩, .inl rfl⟩
  | cons y l ih =>
    intro a
    rw [List.foldl_cons]
    obtain ⟨⟨h1, h2⟩, h3⟩ := ih (min a y)
    refine ⟨⟨by omega, fun x hx => ?_⟩, ?_⟩
    · rcases List.mem_cons.1 hx with rfl | hx
      · omega
      · exact h2 x hx
    · rcases h3 with h3 | h3
      · rcases Int.le_total a y with h | h
        · exact .inl (by omega)
        · exact .inr (List.mem_cons.2 (.inl (by omega)))
      · exact .inr (List.mem_cons_of_mem _ h3)
theorem hi_max (l : List Int) : ∀ a : Int, (a ≤ l.foldl max a ∧ ∀ x ∈ l, x ≤ l.foldl max a) ∧ (l.foldl max a = a ∨ l.foldl max a ∈ l) := by
  induction l with
  | nil => exact fun a => ⟨⟨Int.le_refl _, fun x hx => by cases hx⟩, .inl rfl⟩
  | cons y l ih =>
    intro a
    rw [List.foldl_cons]
    obtain ⟨⟨h1, h2⟩, h3⟩ := ih (max a y)
    refine ⟨⟨by omega, fun x hx => ?_⟩, ?_⟩
    · rcases List.mem_cons.1 hx with rfl | hx
      · omega
      · exact h2 x hx
    · rcases h3 with h3 | h3
      · rcases Int.le_total a y with h | h
        · exact .inr (List.mem_cons.2 (.inl (by omega)))
        · exact .inl (by omega)
      · exact .inr (List.mem_cons_of_mem _ h3)
/-- both ends, as the program and as decaniref02 tell them -/
theorem ends_span {f : List Int → Int × Bool} {l : List (List Int)} {L : List Int} (hL : L ≠ []) (h : ∀ v, v ∈ L ↔ ∃ n ∈ l, (f n).2 = true ∧ (f n).1 = v) : spanOf f l = (loOf L, hiOf L, true) := by
  obtain ⟨y, hy⟩ := List.exists_mem_of_ne_nil L hL
  obtain ⟨n, hn, hb, -⟩ := (h y).1 hy
  obtain ⟨lo, hi, e, _, h2, ⟨n1, hn1, hb1, e1⟩, ⟨n2, hn2, hb2, e2⟩⟩ := spanOf_some f l ⟨n, hn, hb⟩
  have hd : L.headD 0 ∈ L := by
    cases L with
    | nil => exact absurd rfl hL
    | cons a t => exact List.mem_cons_self
  obtain ⟨⟨a1, a2⟩, a3⟩ := lo_min L (L.headD 0)
  obtain ⟨⟨b1, b2⟩, b3⟩ := hi_max L (L.headD 0)
  have a4 : loOf L ∈ L := by
    rcases a3 with e | h
    · show L.foldl min (L.headD 0) ∈ L
      rw [e]; exact hd
    · exact h
  have b4 : hiOf L ∈ L := by
    rcases b3 with e | h
    · show L.foldl max (L.headD 0) ∈ L
      rw [e]; exact hd
    · exact h
  obtain ⟨m1, hm1, hmb1, em1⟩ := (h _).1 a4
  obtain ⟨m2, hm2, hmb2, em2⟩ := (h _).1 b4
  have l1 := a2 lo ((h lo).2 ⟨n1, hn1, hb1, e1⟩)
  have l2 := (h2 m1 hm1 hmb1).1
  have r1 := b2 hi ((h hi).2 ⟨n2, hn2, hb2, e2⟩)
  have r2 := (h2 m2 hm2 hmb2).2
  rw [e]
  have ee1 : lo = loOf L := by unfold loOf at *; omega
  have ee2 : hi = hiOf L := by unfold hiOf at *; omega
  rw [ee1, ee2]
end Go.Proofs.YthkcgengohoboaaGreatDoor
set_option linter.all false
namespace Go.Proofs.YthkcgengohoboaaGreatDoor
open Go.RowKit Go.Sort Go.Rg
set_option maxRecDepth 100000

def highL (L : List (List Int)) (ls week : Int) : List Int := (L.filter fun n => decide (week < n.getD 4 0)).map fun n => top (n.getD 1 0) (n.getD 2 0) (n.getD 3 0) ls week
theorem highL_no {L : List (List Int)} {ls week : Int} {k : Nat} {n : List Int} (hn : L[k]? = some n) (h : ¬ week < n.getD 4 0) : highL (L.take (k + 1)) ls week = highL (L.take k) ls week := by
  unfold highL
  rw [List.take_succ, hn, List.filter_append]
  simp only [Option.toList_some, List.filter_cons, List.filter_nil]
  rw [if_neg (by simpa using h), List.append_nil]
theorem highL_yes {L : List (List Int)} {ls week : Int} {k : Nat} {n : List Int} (hn : L[k]? = some n) (h : week < n.getD 4 0) : highL (L.take (k + 1)) ls week = highL (L.take k) ls week ++ [top (n.getD 1 0) (n.getD 2 0) (n.getD 3 0) ls week] := by
  unfold highL
  rw [List.take_succ, hn, List.filter_append, List.map_append]
  simp only [Option.toList_some, List.filter_cons, List.filter_nil]
  rw [if_pos (by simpa using h)]
  rfl
theorem highL_len (L : List (List Int)) (ls week : Int) (k : Nat) : (highL (L.take k) ls week).length ≤ k := by
  unfold highL
  rw [List.length_map]
  exact Nat.le_trans (List.length_filter_le _ _) (by rw [List.length_take]; omega)
def highSpan (H : List Int) : Int × Int × Int := if H = [] then (0, 0, 4) else (loOf H, hiOf H, 0)
set_option maxHeartbeats 8000000 in
theorem rhigh_good (p q : Option Addr) (cap capt : Nat) (B : Book) (bn : Nat) (x : Boy) (week : Int) (W : World) (h : BookAt W p q cap capt B) (hx : B.boys[bn]? = some x) (hcb : inB (bn : Int) 0 (B.boys.length - 1) = true) (hcw : inB week 0 (wrap64 (B.weeks - 1)) = true) (hwk : 0 ≤ week ∧ week ≤ 100) (hok : B.okB = true) (hL : B.voices bn x 0 ≠ []) (her : B.err true = 0) :
    Calls Tryz.prog 17 #[B.val p q cap capt, .int .i64 (bn : Int), .int .i64 week] W fun e C => e = .returned (.tuple #[.agg #[.int .i64 (highSpan (highL (B.voices bn x 0) x.ls week)).1, .int .i64 (highSpan (highL (B.voices bn x 0) x.ls week)).2.1], .int .i64 (highSpan (highL (B.voices bn x 0) x.ls week)).2.2]) ∧ Kept W C := by
  have hlen : (B.voices bn x 0).length ≤ 1024 := vgen_len (boy_wide ((okB_boys hok).2.1 x (List.mem_of_getElem? hx))) 5 []
  obtain ⟨-, -, -, -, -, hl1, hl2⟩ := boy_nums ((okB_boys hok).2.1 x (List.mem_of_getElem? hx))
  have hls : 0 ≤ x.ls ∧ x.ls ≤ 100 := by omega
  have hrg : ∀ n ∈ B.voices bn x 0, (0 ≤ n.getD 1 0 ∧ n.getD 1 0 ≤ 100) ∧ (0 ≤ n.getD 2 0 ∧ n.getD 2 0 ≤ 100) ∧ (0 ≤ n.getD 3 0 ∧ n.getD 3 0 ≤ 100) := fun n hn => by
    obtain ⟨-, b1, b2, b3, -, -, -⟩ := boy_nums ((okB_boys hok).2.1 x (List.mem_of_getElem? hx))
    obtain ⟨h5, -, hr⟩ := mem_voices.1 hn
    match n, h5 with
    | [n0, n1, n2, n3, n4], _ =>
      have r1 : x.h0 ≤ n1 ∧ n1 ≤ x.h1 := hr 1 n1 rfl
      have r2 : x.g0 ≤ n2 ∧ n2 ≤ x.g1 := hr 2 n2 rfl
      have r3 : x.t0 ≤ n3 ∧ n3 ≤ x.t1 := hr 3 n3 rfl
      simp only [List.getD_cons_succ, List.getD_cons_zero]
      omega
  have HRG := Lib.hid hrg
  clear hl1 hl2 hrg
  have HOK := Lib.hid hok; clear hok
  have HX := Lib.hid hx; clear hx
  have hnb := h.nb
  unfold Book.val
  have hk0 : Kept W ((W.alloc (Obj.cells #[.slice p B.boys.length cap, .int .i64 B.weeks, .slice q B.trials.length capt] 25)).alloc (Obj.cells #[.int .i64 0, .int .i64 0] 32)) := kept_alloc (kept_alloc (kept_refl _) _) _
  have a0 : ((W.alloc (Obj.cells #[.slice p B.boys.length cap, .int .i64 B.weeks, .slice q B.trials.length capt] 25)).alloc (Obj.cells #[.int .i64 0, .int .i64 0] 32)).cell? ⟨W.heap.size, 0, none⟩ = some (.slice p B.boys.length cap) := by go_simp
  have a1 : ((W.alloc (Obj.cells #[.slice p B.boys.length cap, .int .i64 B.weeks, .slice q B.trials.length capt] 25)).alloc (Obj.cells #[.int .i64 0, .int .i64 0] 32)).cell? ⟨W.heap.size, 1, none⟩ = some (.int .i64 B.weeks) := by go_simp
  have a2 : ((W.alloc (Obj.cells #[.slice p B.boys.length cap, .int .i64 B.weeks, .slice q B.trials.length capt] 25)).alloc (Obj.cells #[.int .i64 0, .int .i64 0] 32)).cell? ⟨W.heap.size, 2, none⟩ = some (.slice q B.trials.length capt) := by go_simp
  have s0 : ((W.alloc (Obj.cells #[.slice p B.boys.length cap, .int .i64 B.weeks, .slice q B.trials.length capt] 25)).alloc (Obj.cells #[.int .i64 0, .int .i64 0] 32)).cell? ⟨W.heap.size + 1, 0, none⟩ = some (.int .i64 0) := by go_simp
  have s1 : ((W.alloc (Obj.cells #[.slice p B.boys.length cap, .int .i64 B.weeks, .slice q B.trials.length capt] 25)).alloc (Obj.cells #[.int .i64 0, .int .i64 0] 32)).cell? ⟨W.heap.size + 1, 1, none⟩ = some (.int .i64 0) := by go_simp
  have sf : ∀ i, ((W.alloc (Obj.cells #[.slice p B.boys.length cap, .int .i64 B.weeks, .slice q B.trials.length capt] 25)).alloc (Obj.cells #[.int .i64 0, .int .i64 0] 32)).frozen? ⟨W.heap.size + 1, i, none⟩ = false := by intro i; go_simp
  have HB := Lib.hid h; clear h
  go_enter Tryz.func17, Tryz.ntmps17
  go_wp2_with fail
  generalize ((W.alloc (Obj.cells #[.slice p B.boys.length cap, .int .i64 B.weeks, .slice q B.trials.length capt] 25)).alloc (Obj.cells #[.int .i64 0, .int .i64 0] 32)) = W0 at *
  have hz := Go.Ai.lt_of_cell a0
  have e0 := cell_regrown a0
  have e1 := cell_regrown a1
  have e2 := cell_regrown a2
  have hc0 := fun d os => Calls.regrown_of (rboy_any p B.boys.length cap (.int .i64 B.weeks) (.slice q B.trials.length capt) (bn : Int) (grow (redrawn W0 d) os) hnb)
  simp only [hcb] at hc0
  have HC0 := Lib.hid hc0; clear hc0
  have hc1 := fun d os => Calls.regrown_of (rweek_any (.slice p B.boys.length cap) (.slice q B.trials.length capt) B.weeks week (grow (redrawn W0 d) os))
  simp only [hcw] at hc1
  have HC1 := Lib.hid hc1; clear hc1
  have hca := fun d os => Calls.regrown_of (asked_any p q cap capt B true (grow (redrawn W0 d) os) ((HB.out.kept hk0).kept (below_regrown W0 d os)))
  unfold Book.val at hca
  simp only [her] at hca
  have HCA := Lib.hid hca; clear hca
  have HER := Lib.hid her; clear her
  refine wp_region_quiet_below (by kernel_rfl) (by kernel_rfl) ?_
  repeat (any_goals (first | go_big_quiet_skip | quiet_step (first | with_reducible exact HC0.out _ _ | with_reducible exact HC1.out _ _ | with_reducible exact HCA.out _ _)))
  refine wpQuiet_nil ?_
  intro _ hw'
  obtain ⟨⟨dq, osq⟩, hw''⟩ := hw'
  subst hw''
  have hkQ := below_regrown W0 dq osq
  have sf0 : (grow (redrawn W0 dq) osq).frozen? ⟨W.heap.size + 1, 0, none⟩ = false := ((kturns hkQ (fun _ => False)).frozen (Go.Ai.lt_of_cell s0) (fun h => h)).trans (sf 0)
  have sf1 : (grow (redrawn W0 dq) osq).frozen? ⟨W.heap.size + 1, 1, none⟩ = false := ((kturns hkQ (fun _ => False)).frozen (Go.Ai.lt_of_cell s0) (fun h => h)).trans (sf 1)
  replace a0 := kcell hkQ a0
  replace a1 := kcell hkQ a1
  replace a2 := kcell hkQ a2
  replace s0 := kcell hkQ s0
  replace s1 := kcell hkQ s1
  have hk01 := kept_trans hk0 hkQ
  have hzs := Go.Ai.lt_of_cell s0
  have hza := Go.Ai.lt_of_cell a0
  clear e0 e1 e2 sf
  generalize grow (redrawn W0 dq) osq = w1 at *
  have hv := voices_any p q cap capt B bn x 0 w1 (HB.out.kept hk01) HOK.out (by omega) HX.out
  unfold Book.val at hv
  generalize hLL : B.voices bn x 0 = L at *
  have HV := Lib.hid hv; clear hv
  have HLL := Lib.hid hLL; clear hLL
  go_wp2_with fail
  refine HV.out.mono ?_
  rintro e w2 ⟨v, rfl, hk2, hrow⟩
  have HVA := VoicesAt.of_row hrow
  obtain ⟨pv, capv, rfl, hvr⟩ := HVA
  obtain ⟨g, rfl, hcell⟩ := hvr.resolve_left hL
  have HCELL := Lib.hid hcell
  clear hrow hvr HV hcell
  replace a0 := kcell hk2 a0
  replace a1 := kcell hk2 a1
  replace a2 := kcell hk2 a2
  replace s0 := kcell hk2 s0
  replace s1 := kcell hk2 s1
  have sg0 : w2.frozen? ⟨W.heap.size + 1, 0, none⟩ = false := ((kturns hk2 (fun _ => False)).frozen hzs (fun h => h)).trans sf0
  have sg1 : w2.frozen? ⟨W.heap.size + 1, 1, none⟩ = false := ((kturns hk2 (fun _ => False)).frozen hzs (fun h => h)).trans sf1
  have hk02 := kept_trans hk01 hk2
  have hzs2 := Go.Ai.lt_of_cell s0
  clear sf0 sf1 hzs hza
  go_wp2_with fail
  go_loopw [9, 11] (fun ov i V => ∃ k : Nat, k ≤ L.length ∧ i = .int .i64 k ∧ V.ownsRow w2.heap.size 3 1 ov (highL (L.take k) x.ls week).length ((highL (L.take k) x.ls week).map (Value.int .i64)) ∧ Kept w2 V) (fun ov i V => L.length - (intOf i).toNat)
  case atStart => exact ⟨0, by omega, by go_num, World.ownsRow_nil _ _ _ _, kept_refl _⟩
  case round =>
    obtain ⟨k, hk, rfl, hR, hkV⟩ := hrel
    by_cases hlt : k < L.length
    · have hltI : (k : Int) < L.length := by omega
      obtain ⟨n, hget⟩ : ∃ n, L[k]? = some n := ⟨_, List.getElem?_eq_getElem hlt⟩
      obtain ⟨c0, c1, c2, c3, c4, c5⟩ := HCELL.out k n hget
      replace c0 := kcell hkV c0
      replace c1 := kcell hkV c1
      replace c2 := kcell hkV c2
      replace c3 := kcell hkV c3
      replace c4 := kcell hkV c4
      replace c5 := kcell hkV c5
      have hgz := Go.Ai.lt_of_cell c0
      obtain ⟨hr1, hr2, hr3⟩ := HRG.out n (List.mem_of_getElem? hget)
      have hlk := highL_len L x.ls week k
      have HNO := Lib.hid (show ¬ week < n.getD 4 0 → highL (L.take (k + 1)) x.ls week = highL (L.take k) x.ls week from fun h => highL_no hget h)
      have HYE := Lib.hid (show week < n.getD 4 0 → highL (L.take (k + 1)) x.ls week = highL (L.take k) x.ls week ++ [top (n.getD 1 0) (n.getD 2 0) (n.getD 3 0) x.ls week] from fun h => highL_yes hget h)
      generalize n.getD 0 0 = n0 at *
      generalize n.getD 1 0 = n1 at *
      generalize n.getD 2 0 = n2 at *
      generalize n.getD 3 0 = n3 at *
      generalize n.getD 4 0 = n4 at *
      have hsz := hkV.size
      have HR := Lib.hid hR
      clear hget hR
      generalize hHk : highL (L.take k) x.ls week = Hk at *
      by_cases hw4 : week < n4
      · have p4 : decide (week < n4) = true := by simpa using hw4
        have HTP := Lib.hid (rtop_any (.int .i64 n0) (.int .i64 n4) n1 n2 n3 x.ls week wr hr1 hr2 hr3 hwk hls)
        have HYE2 := Lib.hid (HYE.out hw4)
        clear HYE HNO
        go_wp2_with fail
        with_reducible refine HTP.out.mono ?_
        rintro e w3 ⟨rfl, hk3⟩
        generalize top n1 n2 n3 x.ls week = y at *
        obtain ⟨i0, hi, hiz, his, hib⟩ := info_parts infoI
        have hkV3 := kept_trans hkV hk3
        have hsz3 := hk3.size
        have HR3 := Lib.hid (row_kept HR.out hk3)
        clear c0 c1 c2 c3 c4 c5 HTP
        have hka := kept_alloc (kept_refl w3) (Obj.cells #[.int .i64 y] 3)
        go_wp2_with (at_builtin
                     refine wpList_append_lies _ rfl _ _ 41 rfl w2.heap.size 3 i0 _ 1 8 Tryz.underlying41 hi hiz his hib rfl (by decide) u9 Hk.length _ rfl (HR3.out.alloc _) ⟨w3.heap.size, 0, none⟩ 1 1 [.int .i64 y] rfl rfl (cell_one_new _ _ _) (by simp [Value.oneCell']) (by decide) (by unfold maxLen; omega) (by omega) (by simp; omega) _ rfl ?_
                     intro g2 cap2 V3 hown hgrow hat hlt3)
        have hkE3 : Kept w2 V3 := Below.grown (kept_trans hkV3 hka) hgrow (kept_trans hkV3 hka).size (fun b e => (HR3.out.lt b e).1)
        go_roundw
        case rel => exact ⟨k + 1, by omega, by go_num, by rw [HYE2.out]; simpa using hown, hkE3⟩
        case measure => simp [intOf]; omega
      · have p4 : decide (week < n4) = false := by simpa using hw4
        have HNO2 := Lib.hid (HNO.out hw4)
        clear HYE HNO
        go_wp2_with fail
        go_roundw
        case rel => exact ⟨k + 1, by omega, by go_num, by rw [HNO2.out]; exact HR.out, hkV⟩
        case measure => simp [intOf]; omega
    · have hltI : ¬ (k : Int) < L.length := by omega
      obtain rfl : k = L.length := by omega
      have hlk := highL_len L x.ls week L.length
      rw [List.take_length] at hR hlk
      have q0 := kcell hkV s0
      have q1 := kcell hkV s1
      have sh0 : wr.frozen? ⟨W.heap.size + 1, 0, none⟩ = false := ((kturns hkV (fun _ => False)).frozen hzs2 (fun h => h)).trans sg0
      have sh1 : wr.frozen? ⟨W.heap.size + 1, 1, none⟩ = false := ((kturns hkV (fun _ => False)).frozen hzs2 (fun h => h)).trans sg1
      have hk0r := kept_trans hk02 hkV
      generalize hHk : highL L x.ls week = Hk at *
      have HHK := Lib.hid hHk
      have hN : NumsAt wr u9 Hk := NumsAt.of_row2 (base := w2.heap.size) (e := 3) hR (by omega)
      have HNN := Lib.hid hN
      obtain ⟨pn, cpn, en, -, -⟩ := hN
      subst en
      clear s0 s1 sg0 sg1 hR hHk
      have hzr := Go.Ai.lt_of_cell q0
      by_cases hHe : Hk = []
      · subst hHe
        have hle : ((0 : Nat) : Int) = 0 := rfl
        simp only [List.length_nil]
        have s0 := q0
        have s1 := q1
        go_wp2_with fail
        have v0 := (cell_set_ne (W := wr.setCell ⟨W.heap.size + 1, 0, none⟩ (.int .i64 0)) (b := W.heap.size + 1) (o := 1) (o' := 0) (v := .int .i64 0) (by omega)).trans (cell_set_eq s0)
        have v1 := cell_set_eq (v := .int .i64 0) ((cell_set_ne (W := wr) (b := W.heap.size + 1) (o := 0) (o' := 1) (v := .int .i64 0) (by omega)).trans s1)
        refine bodyPost_ret (v := .tuple #[.agg #[.int .i64 0, .int .i64 0], .int .i64 4]) (by simp [results, Tryz.results17, go_sem, v0, v1]) rfl ?_
        refine ⟨by rw [HLL.out, HHK.out]; rfl, ?_⟩
        exact Below.setCell (p := ⟨W.heap.size + 1, 1, none⟩) (Below.setCell (p := ⟨W.heap.size + 1, 0, none⟩) hk0r (Nat.le_succ _) _) (Nat.le_succ _) _
      · have hpos : 0 < Hk.length := List.length_pos_iff.2 hHe
        have hnz : ((Hk.length : Int) == 0) = false := by simp; omega
        have he := ends_any _ Hk wr HNN.out hHe
        have HSP := Lib.hid (show highSpan Hk = (loOf Hk, hiOf Hk, 0) from if_neg hHe)
        generalize hl0 : loOf Hk = lo at *
        generalize hh0 : hiOf Hk = hi at *
        have HE := Lib.hid he; clear he
        clear hl0 hh0 hHe
        go_wp2_with fail
        with_reducible refine HE.out.mono ?_
        rintro e w3 ⟨rfl, hk3⟩
        have s0 := kcell hk3 q0
        have s1 := kcell hk3 q1
        have si0 : w3.frozen? ⟨W.heap.size + 1, 0, none⟩ = false := ((kturns hk3 (fun _ => False)).frozen hzr (fun h => h)).trans sh0
        have si1 : w3.frozen? ⟨W.heap.size + 1, 1, none⟩ = false := ((kturns hk3 (fun _ => False)).frozen hzr (fun h => h)).trans sh1
        have hkE := kept_trans hk0r hk3
        have hz3 := Go.Ai.lt_of_cell s0
        clear q0 q1 sh0 sh1 hzr
        go_wp2_with fail
        have v0 := (cell_set_ne (W := w3.setCell ⟨W.heap.size + 1, 0, none⟩ (.int .i64 lo)) (b := W.heap.size + 1) (o := 1) (o' := 0) (v := .int .i64 hi) (by omega)).trans (cell_set_eq s0)
        have v1 := cell_set_eq (v := .int .i64 hi) ((cell_set_ne (W := w3) (b := W.heap.size + 1) (o := 0) (o' := 1) (v := .int .i64 lo) (by omega)).trans s1)
        refine bodyPost_ret (v := .tuple #[.agg #[.int .i64 lo, .int .i64 hi], .int .i64 0]) (by simp [results, Tryz.results17, go_sem, v0, v1]) rfl ?_
        refine ⟨by rw [HLL.out, HHK.out, HSP.out], ?_⟩
        exact Below.setCell (p := ⟨W.heap.size + 1, 1, none⟩) (Below.setCell (p := ⟨W.heap.size + 1, 0, none⟩) hkE (Nat.le_succ _) _) (Nat.le_succ _) _
end Go.Proofs.YthkcgengohoboaaGreatDoor
set_option linter.all false
namespace Go.Proofs.YthkcgengohoboaaGreatDoor
open Go.RowKit Go.Sort Go.Rg
set_option maxRecDepth 100000
attribute [local go_sem] Oper.semAt_some

set_option maxHeartbeats 4000000 in
theorem bothEnds_e0 (p q : Option Addr) (cap capt : Nat) (B : Book) (boy : Int) (which : Nat) (hw5 : which < 5) (W : World) (h : BookAt W p q cap capt B) (hg : Nothing W) (hboyT : inB boy 0 (B.boys.length - 1) = false) :
    Calls Tryz.prog 64 #[B.val p q cap capt, .int .i64 boy, .int .i64 (which : Int)] W (ErrQ B (.agg #[.int .i64 0, .int .i64 0]) false W) := by
  have hnb := h.nb
  refine callsIn_wide.1 (callsIn_of_wp (n := 0) Tryz.func64 rfl trivial ?_ rfl)
  simp only [Tryz.ntmps64, List.size_toArray, List.length_cons, List.length_nil, Nat.reduceAdd, Nat.reduceSub, Array.replicate_succ, Array.replicate_zero, List.push_toArray, List.append_toArray, List.nil_append, List.cons_append]
  unfold Book.val
  gi_wp2_with fail
  have hk0 : Kept W (((W.alloc (Obj.cells #[.slice p B.boys.length cap, .int .i64 B.weeks, .slice q B.trials.length capt] 25)).alloc (Obj.cells #[.int .i64 (which : Int)] 3)).alloc (Obj.cells #[.int .i64 0, .int .i64 0] 32)) := kept_alloc (kept_alloc (kept_alloc (kept_refl _) _) _) _
  have a0c : (((W.alloc (Obj.cells #[.slice p B.boys.length cap, .int .i64 B.weeks, .slice q B.trials.length capt] 25)).alloc (Obj.cells #[.int .i64 (which : Int)] 3)).alloc (Obj.cells #[.int .i64 0, .int .i64 0] 32)).cell? ⟨W.heap.size, 0, none⟩ = some (.slice p B.boys.length cap) := by go_simp
  have a1c : (((W.alloc (Obj.cells #[.slice p B.boys.length cap, .int .i64 B.weeks, .slice q B.trials.length capt] 25)).alloc (Obj.cells #[.int .i64 (which : Int)] 3)).alloc (Obj.cells #[.int .i64 0, .int .i64 0] 32)).cell? ⟨W.heap.size, 1, none⟩ = some (.int .i64 B.weeks) := by go_simp
  have a2c : (((W.alloc (Obj.cells #[.slice p B.boys.length cap, .int .i64 B.weeks, .slice q B.trials.length capt] 25)).alloc (Obj.cells #[.int .i64 (which : Int)] 3)).alloc (Obj.cells #[.int .i64 0, .int .i64 0] 32)).cell? ⟨W.heap.size, 2, none⟩ = some (.slice q B.trials.length capt) := by go_simp
  have wc : (((W.alloc (Obj.cells #[.slice p B.boys.length cap, .int .i64 B.weeks, .slice q B.trials.length capt] 25)).alloc (Obj.cells #[.int .i64 (which : Int)] 3)).alloc (Obj.cells #[.int .i64 0, .int .i64 0] 32)).cell? ⟨W.heap.size + 1, 0, none⟩ = some (.int .i64 (which : Int)) := by go_simp
  have s0c : (((W.alloc (Obj.cells #[.slice p B.boys.length cap, .int .i64 B.weeks, .slice q B.trials.length capt] 25)).alloc (Obj.cells #[.int .i64 (which : Int)] 3)).alloc (Obj.cells #[.int .i64 0, .int .i64 0] 32)).cell? ⟨W.heap.size + 1 + 1, 0, none⟩ = some (.int .i64 0) := by go_simp
  have s1c : (((W.alloc (Obj.cells #[.slice p B.boys.length cap, .int .i64 B.weeks, .slice q B.trials.length capt] 25)).alloc (Obj.cells #[.int .i64 (which : Int)] 3)).alloc (Obj.cells #[.int .i64 0, .int .i64 0] 32)).cell? ⟨W.heap.size + 1 + 1, 1, none⟩ = some (.int .i64 0) := by go_simp
  have sf : ∀ i, (((W.alloc (Obj.cells #[.slice p B.boys.length cap, .int .i64 B.weeks, .slice q B.trials.length capt] 25)).alloc (Obj.cells #[.int .i64 (which : Int)] 3)).alloc (Obj.cells #[.int .i64 0, .int .i64 0] 32)).frozen? ⟨W.heap.size + 1 + 1, i, none⟩ = false := by intro i; go_simp
  generalize (((W.alloc (Obj.cells #[.slice p B.boys.length cap, .int .i64 B.weeks, .slice q B.trials.length capt] 25)).alloc (Obj.cells #[.int .i64 (which : Int)] 3)).alloc (Obj.cells #[.int .i64 0, .int .i64 0] 32)) = W0 at *
  refine wpIn_region_invL (StO 4 (fun j => match j with | 0 => (.agg #[.slice p B.boys.length cap, .int .i64 B.weeks, .slice q B.trials.length capt]) | 1 => (.agg #[.slice p B.boys.length cap, .int .i64 B.weeks, .slice q B.trials.length capt]) | 2 => .int .i64 boy | 3 => .bool false | _ => undef) W0 B false) (by kernel_rfl) (by kernel_rfl) StO.start ?hop ?hend
  case hop =>
    rintro i o listed a w hl ho h1 h2 hcl ⟨v, err, pp, ha, hw⟩
    have hi11 : i < 11 := (List.getElem?_eq_some_iff.1 ho).1
    match i, ho with
    | 0, ho =>
      have st := StO.same (by kernel_rfl) ha hw ho h1 (by omega) (by omega) (by omega) (kept_refl w)
      have ST := Lib.hid st; clear st
      cases ho
      rw [if_pos (by rfl)]
      have t3 := ha.old 3 (by kernel_rfl)
      simp at t3
      have r0 := kcell hw.kept a0c
      have r1 := kcell hw.kept a1c
      have r2 := kcell hw.kept a2c
      go_simp
      exact ST.out
    | 1, ho =>
      have st := StO.same (by kernel_rfl) ha hw ho h1 (by omega) (by omega) (by omega) (kept_refl w)
      have ST := Lib.hid st; clear st
      cases ho
      rw [if_pos (by rfl)]
      have t3 := ha.old 3 (by kernel_rfl)
      simp at t3
      have r0 := kcell hw.kept a0c
      have r1 := kcell hw.kept a1c
      have r2 := kcell hw.kept a2c
      go_simp
      exact ST.out
    | 2, ho =>
      have st := StO.same (by kernel_rfl) ha hw ho h1 (by omega) (by omega) (by omega) (kept_refl w)
      have ST := Lib.hid st; clear st
      cases ho
      rw [if_pos (by rfl)]
      have t1 := ha.old 1 (by kernel_rfl)
      simp at t1
      go_simp
      exact ST.out
    | 3, ho =>
      have st := fun w' (k : Kept w w') => StO.same (by kernel_rfl) ha hw ho h1 (by omega) (by omega) (by omega) k
      have ST := Lib.hid st; clear st
      cases ho
      rw [if_pos (by rfl)]
      have t15 := ha.new 1 (h2 ⟨1, .data⟩ (by simp) rfl) (d := 15) rfl rfl (by simp)
      simp [openVs] at t15
      have t16 := ha.new 2 (h2 ⟨2, .data⟩ (by simp) rfl) (d := 16) rfl rfl (by simp)
      simp [openVs] at t16
      have hcall := isBoy_any p B.boys.length cap (.int .i64 B.weeks) (.slice q B.trials.length capt) boy w hnb
      rw [hboyT] at hcall
      go_simp
      refine ⟨trivial, rfl, (callsIn_wide.2 hcall).mono ?_⟩
      rintro e w' ⟨rfl, hk⟩
      exact ST.out _ hk
    | 4, ho =>
      obtain ⟨n5, n6, n7, n9, n10⟩ := open_first hcl h1 ⟨_, rfl, ⟨4, .data⟩, by simp, rfl, rfl⟩ ⟨_, rfl, ⟨5, .data⟩, by simp, rfl, rfl⟩ ⟨_, rfl, ⟨5, .data⟩, by simp, rfl, rfl⟩ ⟨_, rfl, ⟨6, .data⟩, by simp, rfl, rfl⟩ ⟨_, rfl, ⟨7, .data⟩, by simp, rfl, rfl⟩
      have st := fun v' err' w' (k : OpenReg W0 B false v' err' pp true (on listed 8) (on listed 9) w') => StO.opened (by kernel_rfl) ha hl ho h1 n5 n6 n7 n9 n10 k
      have ST := Lib.hid st; clear st
      cases ho
      rw [if_pos (by rfl)]
      have t14 := ha.new 0 (h2 ⟨0, .data⟩ (by simp) rfl) (d := 14) rfl rfl (by simp)
      simp [openVs] at t14
      have t17 := ha.new 3 (h2 ⟨3, .data⟩ (by simp) rfl) (d := 17) rfl rfl (by simp)
      simp [openVs] at t17
      have hcall := open_any p q cap capt B false W w h (kept_trans hk0 hw.kept) (hg.kept (kept_trans hk0 hw.kept))
      unfold Book.val at hcall
      have HOP := Lib.hid (fun e w' => hw.opened (e := e) (w' := w') W.heap.size hk0.size n9)
      go_simp
      refine ⟨trivial, rfl, (callsIn_wide.2 hcall).mono ?_⟩
      intro e w' hop
      obtain ⟨v', err', rfl, hr⟩ := HOP.out e w' hop
      exact ST.out v' err' w' hr
    | 5, ho =>
      have st := StO.same (by kernel_rfl) ha hw ho h1 (by omega) (by omega) (by omega) (kept_refl w)
      have ST := Lib.hid st; clear st
      cases ho
      rw [if_pos (by rfl)]
      have t18 := ha.new 4 (h2 ⟨4, .data⟩ (by simp) rfl) (d := 18) rfl rfl (by simp)
      simp [openVs] at t18
      go_simp
      exact ST.out
    | 6, ho =>
      have st := StO.same (by kernel_rfl) ha hw ho h1 (by omega) (by omega) (by omega) (kept_refl w)
      have ST := Lib.hid st; clear st
      cases ho
      rw [if_pos (by rfl)]
      have t13 := ha.new 5 (h2 ⟨5, .data⟩ (by simp) rfl) (d := 13) rfl rfl (by simp)
      simp [openVs] at t13
      go_simp
      exact ST.out
    | 7, ho =>
      have st := StO.same (by kernel_rfl) ha hw ho h1 (by omega) (by omega) (by omega) (kept_refl w)
      have ST := Lib.hid st; clear st
      cases ho
      rw [if_pos (by rfl)]
      have t13 := ha.new 5 (h2 ⟨5, .data⟩ (by simp) rfl) (d := 13) rfl rfl (by simp)
      simp [openVs] at t13
      go_simp
      exact ST.out
    | 8, ho =>
      have n9 : on listed 9 = false := by
        cases hb : on listed 9 with
        | false => rfl
        | true => have := hcl 9 _ rfl hb ⟨8, .data⟩ (by simp) rfl; rw [on_no h1] at this; cases this
      have st := StO.boxed (by kernel_rfl) ha hw hl ho h1 n9
      have ST := Lib.hid st; clear st
      cases ho
      rw [if_pos (by rfl)]
      go_simp
      exact ST.out
    | 9, ho =>
      have y8 : on listed 8 = true := h2 ⟨8, .data⟩ (by cases ho; simp) rfl
      have y4 : on listed 4 = true := h2 ⟨4, .chain⟩ (by cases ho; simp) rfl
      have t8 := ha.new 8 y8 (d := 8) rfl rfl (by simp)
      simp [openVs] at t8
      have t19 := ha.new 6 (h2 ⟨6, .data⟩ (by cases ho; simp) rfl) (d := 19) rfl rfl (by simp)
      simp [openVs] at t19
      obtain ⟨hbp, ⟨f0, f1, f2, f3, b0, b1, b2, b3⟩, hbf⟩ := hw.box y8
      have bf0 := hbf 0
      have bf1 := hbf 1
      have bf2 := hbf 2
      have bf3 := hbf 3
      rcases hw.res y4 with ⟨_, _, he, _⟩ | ⟨rfl, _⟩
      · cases he
      · have st := StO.stored (by kernel_rfl) ha hw hl ho (by cases ho; rfl) h1 y8 (show zeroChoir = _ from rfl)
        have ST := Lib.hid st; clear st
        cases ho
        rw [if_pos (by rfl)]
        unfold zeroChoir at t19
        clear hbf
        go_simp
        exact ST.out
    | 10, ho =>
      have st := StO.same (by kernel_rfl) ha hw ho h1 (by omega) (by omega) (by omega) (kept_refl w)
      have ST := Lib.hid st; clear st
      cases ho
      rw [if_pos (by rfl)]
      have t20 := ha.new 7 (h2 ⟨7, .data⟩ (by simp) rfl) (d := 20) rfl rfl (by simp)
      simp [openVs] at t20
      go_simp
      exact ST.out
  case hend =>
    rintro listed a w hall ⟨v, err, pp, ha, hw⟩
    rw [show on listed 4 = true from hall 4 (by simp), show on listed 8 = true from hall 8 (by simp), show on listed 9 = true from hall 9 (by simp)] at hw
    obtain ⟨y, hy, hae⟩ := ha.lit (n := 35) rfl
    have y1 := (hy 1).symm.trans (ha.old 1 (by kernel_rfl))
    have y5 := (hy 5).symm.trans (ha.old 5 (by kernel_rfl))
    have y6 := (hy 6).symm.trans (ha.old 6 (by kernel_rfl))
    have y7 := (hy 7).symm.trans (ha.old 7 (by kernel_rfl))
    have y8 := (hy 8).symm.trans (ha.new 8 (hall 8 (by simp)) (d := 8) rfl rfl (by simp))
    have y9 := (hy 9).symm.trans (ha.new 10 (hall 10 (by simp)) (d := 9) rfl rfl (by simp))
    simp at y1 y5 y6 y7
    simp [openVs] at y8 y9
    simp only [List.range, List.range.loop, List.map] at hae
    rw [y1, y5, y6, y7, y8, y9] at hae
    subst hae
    clear ha hy y1 y5 y6 y7 y8 y9
    refine (by assumption : ∀ a w, Code.wpIn _ _ _ _ _ a w → _) _ w ?_
    have wk := kcell hw.kept wc
    have s0 := kcell hw.kept s0c
    have s1 := kcell hw.kept s1c
    have sf0 : w.frozen? ⟨W.heap.size + 1 + 1, 0, none⟩ = false := ((kturns hw.kept (fun _ => False)).frozen (Go.Ai.lt_of_cell s0c) (fun h => h)).trans (sf 0)
    have sf1 : w.frozen? ⟨W.heap.size + 1 + 1, 1, none⟩ = false := ((kturns hw.kept (fun _ => False)).frozen (Go.Ai.lt_of_cell s0c) (fun h => h)).trans (sf 1)
    obtain ⟨_, x0, x1, x2, x3, hv, b0, b1, b2, b3⟩ := hw.put rfl
    rcases hw.res rfl with ⟨_, _, he, _⟩ | ⟨rfl, herr⟩
    · cases he
    · rcases herr with ⟨rfl, he⟩ | ⟨rfl, he, he2⟩ | ⟨_, _, he, _⟩
      · 
        gi_wp2_with fail
        have hT := Turns.setCell (T := fun b => b = W.heap.size + 1 + 1) (Turns.setCell (T := fun b => b = W.heap.size + 1 + 1) (Turns.refl _ w) rfl 0 (.int .i64 0)) rfl 1 (.int .i64 0)
        have v0 := (cell_set_ne (W := w.setCell ⟨W.heap.size + 1 + 1, 0, none⟩ (.int .i64 0)) (b := W.heap.size + 1 + 1) (o := 1) (o' := 0) (v := .int .i64 0) (by omega)).trans (cell_set_eq s0)
        have v1 := cell_set_eq (v := .int .i64 0) ((cell_set_ne (W := w) (b := W.heap.size + 1 + 1) (o := 0) (o' := 1) (v := .int .i64 0) (by omega)).trans s1)
        refine bodyPost_ret (v := .tuple #[.agg #[.int .i64 0, .int .i64 0], .int .i64 20]) (by simp [results, Tryz.results64, go_sem, v0, v1]) rfl ?_
        refine ⟨20, rfl, ?_, .inl ⟨rfl, he⟩⟩
        exact Below.trans (kept_trans hk0 hw.kept) (hT.toBelow (n := W.heap.size) (by rintro b rfl; omega) (by have := (kept_trans hk0 hw.kept).size; omega))
      · 
        gi_wp2_with fail
        have hT := Turns.setCell (T := fun b => b = W.heap.size + 1 + 1) (Turns.setCell (T := fun b => b = W.heap.size + 1 + 1) (Turns.refl _ w) rfl 0 (.int .i64 0)) rfl 1 (.int .i64 0)
        have v0 := (cell_set_ne (W := w.setCell ⟨W.heap.size + 1 + 1, 0, none⟩ (.int .i64 0)) (b := W.heap.size + 1 + 1) (o := 1) (o' := 0) (v := .int .i64 0) (by omega)).trans (cell_set_eq s0)
        have v1 := cell_set_eq (v := .int .i64 0) ((cell_set_ne (W := w) (b := W.heap.size + 1 + 1) (o := 0) (o' := 1) (v := .int .i64 0) (by omega)).trans s1)
        refine bodyPost_ret (v := .tuple #[.agg #[.int .i64 0, .int .i64 0], .int .i64 21]) (by simp [results, Tryz.results64, go_sem, v0, v1]) rfl ?_
        refine ⟨21, rfl, ?_, .inr ⟨rfl, he, rfl⟩⟩
        exact Below.trans (kept_trans hk0 hw.kept) (hT.toBelow (n := W.heap.size) (by rintro b rfl; omega) (by have := (kept_trans hk0 hw.kept).size; omega))
      · cases he

set_option maxHeartbeats 4000000 in
theorem bothEnds_e1 (p q : Option Addr) (cap capt : Nat) (B : Book) (boy : Int) (which : Nat) (hw5 : which < 5) (W : World) (h : BookAt W p q cap capt B) (hg : Nothing W) (hboyT : inB boy 0 (B.boys.length - 1) = true) (hok0 : B.okB = false) :
    Calls Tryz.prog 64 #[B.val p q cap capt, .int .i64 boy, .int .i64 (which : Int)] W (ErrQ B (.agg #[.int .i64 0, .int .i64 0]) true W) := by
  have hnb := h.nb
  refine callsIn_wide.1 (callsIn_of_wp (n := 0) Tryz.func64 rfl trivial ?_ rfl)
  simp only [Tryz.ntmps64, List.size_toArray, List.length_cons, List.length_nil, Nat.reduceAdd, Nat.reduceSub, Array.replicate_succ, Array.replicate_zero, List.push_toArray, List.append_toArray, List.nil_append, List.cons_append]
  unfold Book.val
  gi_wp2_with fail
  have hk0 : Kept W (((W.alloc (Obj.cells #[.slice p B.boys.length cap, .int .i64 B.weeks, .slice q B.trials.length capt] 25)).alloc (Obj.cells #[.int .i64 (which : Int)] 3)).alloc (Obj.cells #[.int .i64 0, .int .i64 0] 32)) := kept_alloc (kept_alloc (kept_alloc (kept_refl _) _) _) _
  have a0c : (((W.alloc (Obj.cells #[.slice p B.boys.length cap, .int .i64 B.weeks, .slice q B.trials.length capt] 25)).alloc (Obj.cells #[.int .i64 (which : Int)] 3)).alloc (Obj.cells #[.int .i64 0, .int .i64 0] 32)).cell? ⟨W.heap.size, 0, none⟩ = some (.slice p B.boys.length cap) := by go_simp
  have a1c : (((W.alloc (Obj.cells #[.slice p B.boys.length cap, .int .i64 B.weeks, .slice q B.trials.length capt] 25)).alloc (Obj.cells #[.int .i64 (which : Int)] 3)).alloc (Obj.cells #[.int .i64 0, .int .i64 0] 32)).cell? ⟨W.heap.size, 1, none⟩ = some (.int .i64 B.weeks) := by go_simp
  have a2c : (((W.alloc (Obj.cells #[.slice p B.boys.length cap, .int .i64 B.weeks, .slice q B.trials.length capt] 25)).alloc (Obj.cells #[.int .i64 (which : Int)] 3)).alloc (Obj.cells #[.int .i64 0, .int .i64 0] 32)).cell? ⟨W.heap.size, 2, none⟩ = some (.slice q B.trials.length capt) := by go_simp
  have wc : (((W.alloc (Obj.cells #[.slice p B.boys.length cap, .int .i64 B.weeks, .slice q B.trials.length capt] 25)).alloc (Obj.cells #[.int .i64 (which : Int)] 3)).alloc (Obj.cells #[.int .i64 0, .int .i64 0] 32)).cell? ⟨W.heap.size + 1, 0, none⟩ = some (.int .i64 (which : Int)) := by go_simp
  have s0c : (((W.alloc (Obj.cells #[.slice p B.boys.length cap, .int .i64 B.weeks, .slice q B.trials.length capt] 25)).alloc (Obj.cells #[.int .i64 (which : Int)] 3)).alloc (Obj.cells #[.int .i64 0, .int .i64 0] 32)).cell? ⟨W.heap.size + 1 + 1, 0, none⟩ = some (.int .i64 0) := by go_simp
  have s1c : (((W.alloc (Obj.cells #[.slice p B.boys.length cap, .int .i64 B.weeks, .slice q B.trials.length capt] 25)).alloc (Obj.cells #[.int .i64 (which : Int)] 3)).alloc (Obj.cells #[.int .i64 0, .int .i64 0] 32)).cell? ⟨W.heap.size + 1 + 1, 1, none⟩ = some (.int .i64 0) := by go_simp
  have sf : ∀ i, (((W.alloc (Obj.cells #[.slice p B.boys.length cap, .int .i64 B.weeks, .slice q B.trials.length capt] 25)).alloc (Obj.cells #[.int .i64 (which : Int)] 3)).alloc (Obj.cells #[.int .i64 0, .int .i64 0] 32)).frozen? ⟨W.heap.size + 1 + 1, i, none⟩ = false := by intro i; go_simp
  generalize (((W.alloc (Obj.cells #[.slice p B.boys.length cap, .int .i64 B.weeks, .slice q B.trials.length capt] 25)).alloc (Obj.cells #[.int .i64 (which : Int)] 3)).alloc (Obj.cells #[.int .i64 0, .int .i64 0] 32)) = W0 at *
  refine wpIn_region_invL (StO 4 (fun j => match j with | 0 => (.agg #[.slice p B.boys.length cap, .int .i64 B.weeks, .slice q B.trials.length capt]) | 1 => (.agg #[.slice p B.boys.length cap, .int .i64 B.weeks, .slice q B.trials.length capt]) | 2 => .int .i64 boy | 3 => .bool true | _ => undef) W0 B true) (by kernel_rfl) (by kernel_rfl) StO.start ?hop ?hend
  case hop =>
    rintro i o listed a w hl ho h1 h2 hcl ⟨v, err, pp, ha, hw⟩
    have hi11 : i < 11 := (List.getElem?_eq_some_iff.1 ho).1
    match i, ho with
    | 0, ho =>
      have st := StO.same (by kernel_rfl) ha hw ho h1 (by omega) (by omega) (by omega) (kept_refl w)
      have ST := Lib.hid st; clear st
      cases ho
      rw [if_pos (by rfl)]
      have t3 := ha.old 3 (by kernel_rfl)
      simp at t3
      have r0 := kcell hw.kept a0c
      have r1 := kcell hw.kept a1c
      have r2 := kcell hw.kept a2c
      go_simp
      exact ST.out
    | 1, ho =>
      have st := StO.same (by kernel_rfl) ha hw ho h1 (by omega) (by omega) (by omega) (kept_refl w)
      have ST := Lib.hid st; clear st
      cases ho
      rw [if_pos (by rfl)]
      have t3 := ha.old 3 (by kernel_rfl)
      simp at t3
      have r0 := kcell hw.kept a0c
      have r1 := kcell hw.kept a1c
      have r2 := kcell hw.kept a2c
      go_simp
      exact ST.out
    | 2, ho =>
      have st := StO.same (by kernel_rfl) ha hw ho h1 (by omega) (by omega) (by omega) (kept_refl w)
      have ST := Lib.hid st; clear st
      cases ho
      rw [if_pos (by rfl)]
      have t1 := ha.old 1 (by kernel_rfl)
      simp at t1
      go_simp
      exact ST.out
    | 3, ho =>
      have st := fun w' (k : Kept w w') => StO.same (by kernel_rfl) ha hw ho h1 (by omega) (by omega) (by omega) k
      have ST := Lib.hid st; clear st
      cases ho
      rw [if_pos (by rfl)]
      have t15 := ha.new 1 (h2 ⟨1, .data⟩ (by simp) rfl) (d := 15) rfl rfl (by simp)
      simp [openVs] at t15
      have t16 := ha.new 2 (h2 ⟨2, .data⟩ (by simp) rfl) (d := 16) rfl rfl (by simp)
      simp [openVs] at t16
      have hcall := isBoy_any p B.boys.length cap (.int .i64 B.weeks) (.slice q B.trials.length capt) boy w hnb
      rw [hboyT] at hcall
      go_simp
      refine ⟨trivial, rfl, (callsIn_wide.2 hcall).mono ?_⟩
      rintro e w' ⟨rfl, hk⟩
      exact ST.out _ hk
    | 4, ho =>
      obtain ⟨n5, n6, n7, n9, n10⟩ := open_first hcl h1 ⟨_, rfl, ⟨4, .data⟩, by simp, rfl, rfl⟩ ⟨_, rfl, ⟨5, .data⟩, by simp, rfl, rfl⟩ ⟨_, rfl, ⟨5, .data⟩, by simp, rfl, rfl⟩ ⟨_, rfl, ⟨6, .data⟩, by simp, rfl, rfl⟩ ⟨_, rfl, ⟨7, .data⟩, by simp, rfl, rfl⟩
      have st := fun v' err' w' (k : OpenReg W0 B true v' err' pp true (on listed 8) (on listed 9) w') => StO.opened (by kernel_rfl) ha hl ho h1 n5 n6 n7 n9 n10 k
      have ST := Lib.hid st; clear st
      cases ho
      rw [if_pos (by rfl)]
      have t14 := ha.new 0 (h2 ⟨0, .data⟩ (by simp) rfl) (d := 14) rfl rfl (by simp)
      simp [openVs] at t14
      have t17 := ha.new 3 (h2 ⟨3, .data⟩ (by simp) rfl) (d := 17) rfl rfl (by simp)
      simp [openVs] at t17
      have hcall := open_any p q cap capt B true W w h (kept_trans hk0 hw.kept) (hg.kept (kept_trans hk0 hw.kept))
      unfold Book.val at hcall
      have HOP := Lib.hid (fun e w' => hw.opened (e := e) (w' := w') W.heap.size hk0.size n9)
      go_simp
      refine ⟨trivial, rfl, (callsIn_wide.2 hcall).mono ?_⟩
      intro e w' hop
      obtain ⟨v', err', rfl, hr⟩ := HOP.out e w' hop
      exact ST.out v' err' w' hr
    | 5, ho =>
      have st := StO.same (by kernel_rfl) ha hw ho h1 (by omega) (by omega) (by omega) (kept_refl w)
      have ST := Lib.hid st; clear st
      cases ho
      rw [if_pos (by rfl)]
      have t18 := ha.new 4 (h2 ⟨4, .data⟩ (by simp) rfl) (d := 18) rfl rfl (by simp)
      simp [openVs] at t18
      go_simp
      exact ST.out
    | 6, ho =>
      have st := StO.same (by kernel_rfl) ha hw ho h1 (by omega) (by omega) (by omega) (kept_refl w)
      have ST := Lib.hid st; clear st
      cases ho
      rw [if_pos (by rfl)]
      have t13 := ha.new 5 (h2 ⟨5, .data⟩ (by simp) rfl) (d := 13) rfl rfl (by simp)
      simp [openVs] at t13
      go_simp
      exact ST.out
    | 7, ho =>
      have st := StO.same (by kernel_rfl) ha hw ho h1 (by omega) (by omega) (by omega) (kept_refl w)
      have ST := Lib.hid st; clear st
      cases ho
      rw [if_pos (by rfl)]
      have t13 := ha.new 5 (h2 ⟨5, .data⟩ (by simp) rfl) (d := 13) rfl rfl (by simp)
      simp [openVs] at t13
      go_simp
      exact ST.out
    | 8, ho =>
      have n9 : on listed 9 = false := by
        cases hb : on listed 9 with
        | false => rfl
        | true => have := hcl 9 _ rfl hb ⟨8, .data⟩ (by simp) rfl; rw [on_no h1] at this; cases this
      have st := StO.boxed (by kernel_rfl) ha hw hl ho h1 n9
      have ST := Lib.hid st; clear st
      cases ho
      rw [if_pos (by rfl)]
      go_simp
      exact ST.out
    | 9, ho =>
      have y8 : on listed 8 = true := h2 ⟨8, .data⟩ (by cases ho; simp) rfl
      have y4 : on listed 4 = true := h2 ⟨4, .chain⟩ (by cases ho; simp) rfl
      have t8 := ha.new 8 y8 (d := 8) rfl rfl (by simp)
      simp [openVs] at t8
      have t19 := ha.new 6 (h2 ⟨6, .data⟩ (by cases ho; simp) rfl) (d := 19) rfl rfl (by simp)
      simp [openVs] at t19
      obtain ⟨hbp, ⟨f0, f1, f2, f3, b0, b1, b2, b3⟩, hbf⟩ := hw.box y8
      have bf0 := hbf 0
      have bf1 := hbf 1
      have bf2 := hbf 2
      have bf3 := hbf 3
      rcases hw.res y4 with ⟨_, _, _, _, c, S, hcB, rfl, _⟩ | ⟨rfl, _⟩
      · clear hcB
        have st := StO.stored (by kernel_rfl) ha hw hl ho (by cases ho; rfl) h1 y8 (show c.val = _ from rfl)
        have ST := Lib.hid st; clear st
        cases ho
        rw [if_pos (by rfl)]
        unfold Choir.val at t19
        clear hbf
        go_simp
        exact ST.out
      · have st := StO.stored (by kernel_rfl) ha hw hl ho (by cases ho; rfl) h1 y8 (show zeroChoir = _ from rfl)
        have ST := Lib.hid st; clear st
        cases ho
        rw [if_pos (by rfl)]
        unfold zeroChoir at t19
        clear hbf
        go_simp
        exact ST.out
    | 10, ho =>
      have st := StO.same (by kernel_rfl) ha hw ho h1 (by omega) (by omega) (by omega) (kept_refl w)
      have ST := Lib.hid st; clear st
      cases ho
      rw [if_pos (by rfl)]
      have t20 := ha.new 7 (h2 ⟨7, .data⟩ (by simp) rfl) (d := 20) rfl rfl (by simp)
      simp [openVs] at t20
      go_simp
      exact ST.out
  case hend =>
    rintro listed a w hall ⟨v, err, pp, ha, hw⟩
    rw [show on listed 4 = true from hall 4 (by simp), show on listed 8 = true from hall 8 (by simp), show on listed 9 = true from hall 9 (by simp)] at hw
    obtain ⟨y, hy, hae⟩ := ha.lit (n := 35) rfl
    have y1 := (hy 1).symm.trans (ha.old 1 (by kernel_rfl))
    have y5 := (hy 5).symm.trans (ha.old 5 (by kernel_rfl))
    have y6 := (hy 6).symm.trans (ha.old 6 (by kernel_rfl))
    have y7 := (hy 7).symm.trans (ha.old 7 (by kernel_rfl))
    have y8 := (hy 8).symm.trans (ha.new 8 (hall 8 (by simp)) (d := 8) rfl rfl (by simp))
    have y9 := (hy 9).symm.trans (ha.new 10 (hall 10 (by simp)) (d := 9) rfl rfl (by simp))
    simp at y1 y5 y6 y7
    simp [openVs] at y8 y9
    simp only [List.range, List.range.loop, List.map] at hae
    rw [y1, y5, y6, y7, y8, y9] at hae
    subst hae
    clear ha hy y1 y5 y6 y7 y8 y9
    refine (by assumption : ∀ a w, Code.wpIn _ _ _ _ _ a w → _) _ w ?_
    have wk := kcell hw.kept wc
    have s0 := kcell hw.kept s0c
    have s1 := kcell hw.kept s1c
    have sf0 : w.frozen? ⟨W.heap.size + 1 + 1, 0, none⟩ = false := ((kturns hw.kept (fun _ => False)).frozen (Go.Ai.lt_of_cell s0c) (fun h => h)).trans (sf 0)
    have sf1 : w.frozen? ⟨W.heap.size + 1 + 1, 1, none⟩ = false := ((kturns hw.kept (fun _ => False)).frozen (Go.Ai.lt_of_cell s0c) (fun h => h)).trans (sf 1)
    obtain ⟨_, x0, x1, x2, x3, hv, b0, b1, b2, b3⟩ := hw.put rfl
    rcases hw.res rfl with ⟨_, hok, _⟩ | ⟨rfl, herr⟩
    · rw [hok0] at hok; cases hok
    · rcases herr with ⟨rfl, he⟩ | ⟨_, he, _⟩ | ⟨_, he, _⟩
      · 
        gi_wp2_with fail
        have hT := Turns.setCell (T := fun b => b = W.heap.size + 1 + 1) (Turns.setCell (T := fun b => b = W.heap.size + 1 + 1) (Turns.refl _ w) rfl 0 (.int .i64 0)) rfl 1 (.int .i64 0)
        have v0 := (cell_set_ne (W := w.setCell ⟨W.heap.size + 1 + 1, 0, none⟩ (.int .i64 0)) (b := W.heap.size + 1 + 1) (o := 1) (o' := 0) (v := .int .i64 0) (by omega)).trans (cell_set_eq s0)
        have v1 := cell_set_eq (v := .int .i64 0) ((cell_set_ne (W := w) (b := W.heap.size + 1 + 1) (o := 0) (o' := 1) (v := .int .i64 0) (by omega)).trans s1)
        refine bodyPost_ret (v := .tuple #[.agg #[.int .i64 0, .int .i64 0], .int .i64 20]) (by simp [results, Tryz.results64, go_sem, v0, v1]) rfl ?_
        refine ⟨20, rfl, ?_, .inl ⟨rfl, he⟩⟩
        exact Below.trans (kept_trans hk0 hw.kept) (hT.toBelow (n := W.heap.size) (by rintro b rfl; omega) (by have := (kept_trans hk0 hw.kept).size; omega))
      · rw [hok0] at he; cases he
      · rw [hok0] at he; cases he

end Go.Proofs.YthkcgengohoboaaGreatDoor
