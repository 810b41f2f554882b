/- A part of the proof: contracts of the program's functions for every input. No conditions. -/
import Derived.Test.YtcgihkaglonnaaaGreatDoorGG
import Derived.Test.YtcgihkaglonnaaaGreatDoorGE
import Derived.Shelf.Sort.Plain
import Derived.Shelf.Slices.In.SortNone
import Derived.Test.YtcgihkaglonnaaaGreatDoorProg
import Derived.Sort.OwnSortedInts
import Derived.Test.YtcgihkaglonnaaaGreatDoorGC
import Derived.Test.YtcgihkaglonnaaaGreatDoorGF
set_option linter.all false
set_option linter.all false
namespace Go.Proofs.YtcgihkaglonnaaaGreatDoor
open Go.RowKit Go.Sort Go.Rg
set_option maxRecDepth 100000

/-- the trials, among the first j, whose numbers are not told -/
def keepL (ts : List Trial) (l : List Nat) : Nat → List Trial
  | 0 => []
  | j + 1 => keepL ts l j ++ (match ts[j]? with
    | some t => if j ∈ l then [] else [t]
    | none => [])
theorem keepL_len (ts : List Trial) (l : List Nat) : ∀ j, (keepL ts l j).length ≤ j
  | 0 => by simp [keepL]
  | j + 1 => by
    have := keepL_len ts l j
    unfold keepL
    rw [List.length_append]
    have h : (match ts[j]? with | some t => if j ∈ l then [] else [t] | none => []).length ≤ 1 := by
      split
      · split <;> simp
      · simp
    omega
def Book.less (B : Book) (l : List Nat) : Book := ⟨B.boys, B.weeks, keepL B.trials l B.trials.length⟩

set_option maxHeartbeats 100000000 in
theorem without_any (p q : Option Addr) (cap capt : Nat) (B : Book) (lv : Value) (l : List Nat) (W : World) (h : BookAt W p q cap capt B) (h6 : B.trials.length ≤ 6) (hl : ListAt W lv l) (hl6 : l.length ≤ 6) :
    Calls Tryz.prog 41 #[B.val p q cap capt, lv] W fun e C => ∃ q' capt', e = .returned ((B.less l).val p q' cap capt') ∧ Kept W C ∧ BookAt C p q' cap capt' (B.less l) := by
  have hk0 : Kept W ((W.alloc (Obj.cells #[.slice p B.boys.length cap, .int .i64 B.weeks, .slice q B.trials.length capt] 25)).alloc (Obj.cells #[.slice none 0 0, .int .i64 0, .slice none 0 0] 25)) := kept_alloc (kept_alloc (kept_refl _) _) _
  unfold Book.val
  have hz0 : ((W.alloc (Obj.cells #[.slice p B.boys.length cap, .int .i64 B.weeks, .slice q B.trials.length capt] 25)).alloc (Obj.cells #[.slice none 0 0, .int .i64 0, .slice none 0 0] 25)).heap.size = W.heap.size + 1 + 1 := by simp
  have s0 : ((W.alloc (Obj.cells #[.slice p B.boys.length cap, .int .i64 B.weeks, .slice q B.trials.length capt] 25)).alloc (Obj.cells #[.slice none 0 0, .int .i64 0, .slice none 0 0] 25)).cell? ⟨W.heap.size, 0, none⟩ = some (.slice p B.boys.length cap) := by go_simp
  have s1 : ((W.alloc (Obj.cells #[.slice p B.boys.length cap, .int .i64 B.weeks, .slice q B.trials.length capt] 25)).alloc (Obj.cells #[.slice none 0 0, .int .i64 0, .slice none 0 0] 25)).cell? ⟨W.heap.size, 1, none⟩ = some (.int .i64 B.weeks) := by go_simp
  have s2 : ((W.alloc (Obj.cells #[.slice p B.boys.length cap, .int .i64 B.weeks, .slice q B.trials.length capt] 25)).alloc (Obj.cells #[.slice none 0 0, .int .i64 0, .slice none 0 0] 25)).cell? ⟨W.heap.size, 2, none⟩ = some (.slice q B.trials.length capt) := by go_simp
  have r0 : ((W.alloc (Obj.cells #[.slice p B.boys.length cap, .int .i64 B.weeks, .slice q B.trials.length capt] 25)).alloc (Obj.cells #[.slice none 0 0, .int .i64 0, .slice none 0 0] 25)).cell? ⟨W.heap.size + 1, 0, none⟩ = some (.slice none 0 0) := by go_simp
  have r1 : ((W.alloc (Obj.cells #[.slice p B.boys.length cap, .int .i64 B.weeks, .slice q B.trials.length capt] 25)).alloc (Obj.cells #[.slice none 0 0, .int .i64 0, .slice none 0 0] 25)).cell? ⟨W.heap.size + 1, 1, none⟩ = some (.int .i64 0) := by go_simp
  have r2 : ((W.alloc (Obj.cells #[.slice p B.boys.length cap, .int .i64 B.weeks, .slice q B.trials.length capt] 25)).alloc (Obj.cells #[.slice none 0 0, .int .i64 0, .slice none 0 0] 25)).cell? ⟨W.heap.size + 1, 2, none⟩ = some (.slice none 0 0) := by go_simp
  have rf : ∀ i, ((W.alloc (Obj.cells #[.slice p B.boys.length cap, .int .i64 B.weeks, .slice q B.trials.length capt] 25)).alloc (Obj.cells #[.slice none 0 0, .int .i64 0, .slice none 0 0] 25)).frozen? ⟨W.heap.size + 1, i, none⟩ = false := by intro i; go_simp
  obtain ⟨pl, capl, el⟩ := listAt_len hl
  have HLV := Lib.hid hl
  rw [el] at HLV
  subst el
  have HB := Lib.hid h; clear h
  go_enter Tryz.func41, Tryz.ntmps41
  go_wp2_with fail
  generalize ((W.alloc (Obj.cells #[.slice p B.boys.length cap, .int .i64 B.weeks, .slice q B.trials.length capt] 25)).alloc (Obj.cells #[.slice none 0 0, .int .i64 0, .slice none 0 0] 25)) = V3 at *
  rw [← hz0]
  have HZ0 := Lib.hid hz0; clear hz0
  have hG0 : Gathers V3 (V3.alloc (Obj.cells #[.slice p B.boys.length cap, .int .i64 B.weeks, .slice none 0 0] 25)) V3.heap.size p B.boys.length cap B.weeks (.slice none 0 0) [] := ⟨kept_alloc (kept_refl _) _, by go_simp, by go_simp, by go_simp, by go_simp, World.ownsRow_nil _ _ _ _⟩
  go_loopw [6] (fun i V => ∃ (j : Nat) (v : Value), j ≤ B.trials.length ∧ i = .int .i64 j ∧ Gathers V3 V V3.heap.size p B.boys.length cap B.weeks v (keepL B.trials l j)) (fun i V => B.trials.length - (intOf i).toNat)
  case atStart => exact ⟨0, .slice none 0 0, by omega, by go_num, by simpa [keepL] using hG0⟩
  case round =>
    obtain ⟨j, v, hj, rfl, hG⟩ := hrel
    have a2 := kcell hG.kept s2
    by_cases hlt : j < B.trials.length
    · obtain ⟨bt, ot, rfl, htr⟩ : ∃ b o, q = some ⟨b, o, none⟩ ∧ TrialsAt wr b o B.trials := by
        rcases ((HB.out.kept hk0).kept hG.kept).trials with e | h
        · rw [e] at hlt; cases hlt
        · exact h
      obtain ⟨t, hget⟩ : ∃ t, B.trials[j]? = some t := ⟨_, List.getElem?_eq_getElem hlt⟩
      obtain ⟨d0, d1, d2, d3⟩ := htr.2 j t hget
      have hltI : (j : Int) < B.trials.length := by omega
      have hxz := Go.Ai.lt_of_cell hG.c0
      have hzq := Go.Ai.lt_of_cell d0
      have hstep : keepL B.trials l (j + 1) = keepL B.trials l j ++ (if j ∈ l then [] else [t]) := by
        show keepL B.trials l j ++ _ = _
        rw [hget]
      have hgL := keepL_len B.trials l j
      have HWH := Lib.hid (where6 _ l j wr ((HLV.out.kept hk0).kept hG.kept) hl6)
      have HGG := Lib.hid hG
      generalize hTS : (keepL B.trials l j) = ts at *
      by_cases hb : j ∈ l
      · rw [if_pos hb, List.append_nil] at hstep
        have HST := Lib.hid hstep
        clear hstep hG hget d0 d1 d2 d3
        go_wp2_with (go_at_call 86; refine HWH.out.mono ?_; rintro e wz ⟨r, rfl, hkz, hr⟩; have hr0 : ¬ r < 0 := by have := hr.2 hb; omega)
        go_roundw
        case rel => exact ⟨j + 1, v, by omega, by go_num, by rw [HST.out]; exact HGG.out.go hkz⟩
        case measure => simp [intOf]; omega
      · rw [if_neg hb] at hstep
        have HST := Lib.hid hstep
        clear hstep hG hget
        go_wp2_with (go_at_call 86; refine HWH.out.mono ?_; rintro e wz ⟨r, rfl, hkz, hr⟩; have hr0 : r < 0 := by have h1 := mt hr.1 hb; omega)
        have hGz := HGG.out.go hkz
        have a2z := kcell hkz a2
        have d0z := kcell hkz d0
        have d1z := kcell hkz d1
        have d2z := kcell hkz d2
        have d3z := kcell hkz d3
        have hxz := Go.Ai.lt_of_cell hGz.c0
        have hzq := Go.Ai.lt_of_cell d0z
        clear a2 d0 d1 d2 d3
        obtain ⟨i0, hi, hiz, his, hib⟩ := info_parts infoT
        obtain ⟨WB, hWB⟩ : ∃ WB, WB = wz.drew.alloc (Obj.cells #[.int .i64 t.boy, .int .i64 t.week, .int .i64 t.note, .int .i64 t.sang] 49) := ⟨_, rfl⟩
        have HKB := Lib.hid (show Kept wz WB from hWB ▸ kept_alloc (kept_drew (kept_refl _)) _)
        have HNEW := Lib.hid (show ∀ (k : Nat) (u : Value), (trialC t)[k]? = some u → WB.cell? ((⟨wz.heap.size, 0, none⟩ : Addr).add k) = some u from trial_news t hWB)
        have HSZ := Lib.hid (show V3.heap.size + 1 ≤ WB.heap.size from by have := HKB.out.size; omega)
        have HRW := Lib.hid (show WB.ownsRow (V3.heap.size + 1) 49 4 v ts.length (ts.flatMap trialC) from (hGz.go HKB.out).row)
        have HWB := Lib.hid hWB; clear hWB
        have HBB := Lib.hid hb
        refine (wpIn_wide (n := 0)).1 (wpIn_region_invL (StA 7 8 10 (fun k => match k with | 0 => .pointer (some ⟨V3.heap.size, 2, none⟩) | 1 => v | 2 => .pointer (some ⟨W.heap.size, 2, none⟩) | 3 => .slice (some ⟨bt, ot, none⟩) B.trials.length capt | 4 => .int .i64 (j : Int) | 5 => .pointer (some ⟨bt, ot + j * 4, none⟩) | 6 => t.val | 7 => .slice (some ⟨wz.heap.size, 0, none⟩) 1 1 | _ => .pointer (some ⟨V3.heap.size, 2, none⟩)) wz WB (Grew wz V3.heap.size v ts t) ⟨V3.heap.size, 2, none⟩) (by kernel_rfl) (by kernel_rfl) StA.start ?hop ?hend)
        case hop =>
          clear hb hTS hr hr0
          rintro i o listed a w hl ho h1 h2 hcl ⟨r, ha, hf, ht⟩
          have hi11 : i < 11 := (List.getElem?_eq_some_iff.1 ho).1
          match i, ho with
          | 0, ho =>
            have n8 : on listed 8 = false := by
              cases b8 : on listed 8 with
              | false => rfl
              | true =>
                have b1 := hcl 8 _ rfl b8 ⟨1, .data⟩ (by simp) rfl
                have b0 := hcl 1 _ rfl b1 ⟨0, .data⟩ (by simp) rfl
                rw [on_no h1] at b0; cases b0
            have kd : Kept wz w := StA_kept hf n8 HKB.out
            have st := StA.pure (by kernel_rfl) ha hf ht ho h1 (by omega) (by omega) (by omega)
            have ST := Lib.hid st; clear st ht hf
            cases ho
            rw [if_pos (by rfl)]
            have t5 := ha.old 5 (by kernel_rfl)
            simp at t5
            go_simp
            exact ST.out
          | 1, ho =>
            have n8 : on listed 8 = false := by
              cases b8 : on listed 8 with
              | false => rfl
              | true =>
                have b1 := hcl 8 _ rfl b8 ⟨1, .data⟩ (by simp) rfl
                rw [on_no h1] at b1; cases b1
            have kd : Kept wz w := StA_kept hf n8 HKB.out
            have st := StA.pure (by kernel_rfl) ha hf ht ho h1 (by omega) (by omega) (by omega)
            have ST := Lib.hid st; clear st ht hf
            cases ho
            rw [if_pos (by rfl)]
            have t20 := ha.new 0 (h2 ⟨0, .data⟩ (by simp) rfl) (d := 20) rfl rfl (by simp)
            simp at t20
            have c0 := kcell kd hGz.c2
            go_simp
            exact ST.out
          | 2, ho =>
            have n8 : on listed 8 = false := by
              cases b8 : on listed 8 with
              | false => rfl
              | true =>
                have b7 := hcl 8 _ rfl b8 ⟨7, .data⟩ (by simp) rfl
                have b6 := hcl 7 _ rfl b7 ⟨6, .data⟩ (by simp) rfl
                have b5 := hcl 6 _ rfl b6 ⟨5, .data⟩ (by simp) rfl
                have b3 := hcl 5 _ rfl b5 ⟨3, .data⟩ (by simp) rfl
                have b2 := hcl 3 _ rfl b3 ⟨2, .data⟩ (by simp) rfl
                rw [on_no h1] at b2; cases b2
            have kd : Kept wz w := StA_kept hf n8 HKB.out
            have st := StA.pure (by kernel_rfl) ha hf ht ho h1 (by omega) (by omega) (by omega)
            have ST := Lib.hid st; clear st ht hf
            cases ho
            rw [if_pos (by rfl)]
            have t2 := ha.old 2 (by kernel_rfl)
            simp at t2
            go_simp
            exact ST.out
          | 3, ho =>
            have n8 : on listed 8 = false := by
              cases b8 : on listed 8 with
              | false => rfl
              | true =>
                have b7 := hcl 8 _ rfl b8 ⟨7, .data⟩ (by simp) rfl
                have b6 := hcl 7 _ rfl b7 ⟨6, .data⟩ (by simp) rfl
                have b5 := hcl 6 _ rfl b6 ⟨5, .data⟩ (by simp) rfl
                have b3 := hcl 5 _ rfl b5 ⟨3, .data⟩ (by simp) rfl
                rw [on_no h1] at b3; cases b3
            have kd : Kept wz w := StA_kept hf n8 HKB.out
            have st := StA.pure (by kernel_rfl) ha hf ht ho h1 (by omega) (by omega) (by omega)
            have ST := Lib.hid st; clear st ht hf
            cases ho
            rw [if_pos (by rfl)]
            have t22 := ha.new 2 (h2 ⟨2, .data⟩ (by simp) rfl) (d := 22) rfl rfl (by simp)
            simp at t22
            have c0 := kcell kd a2z
            go_simp
            exact ST.out
          | 4, ho =>
            have n8 : on listed 8 = false := by
              cases b8 : on listed 8 with
              | false => rfl
              | true =>
                have b7 := hcl 8 _ rfl b8 ⟨7, .data⟩ (by simp) rfl
                have b6 := hcl 7 _ rfl b7 ⟨6, .data⟩ (by simp) rfl
                have b5 := hcl 6 _ rfl b6 ⟨5, .data⟩ (by simp) rfl
                have b4 := hcl 5 _ rfl b5 ⟨4, .data⟩ (by simp) rfl
                rw [on_no h1] at b4; cases b4
            have kd : Kept wz w := StA_kept hf n8 HKB.out
            have st := StA.pure (by kernel_rfl) ha hf ht ho h1 (by omega) (by omega) (by omega)
            have ST := Lib.hid st; clear st ht hf
            cases ho
            rw [if_pos (by rfl)]
            have t6 := ha.old 6 (by kernel_rfl)
            simp at t6
            go_simp
            exact ST.out
          | 5, ho =>
            have n8 : on listed 8 = false := by
              cases b8 : on listed 8 with
              | false => rfl
              | true =>
                have b7 := hcl 8 _ rfl b8 ⟨7, .data⟩ (by simp) rfl
                have b6 := hcl 7 _ rfl b7 ⟨6, .data⟩ (by simp) rfl
                have b5 := hcl 6 _ rfl b6 ⟨5, .data⟩ (by simp) rfl
                rw [on_no h1] at b5; cases b5
            have kd : Kept wz w := StA_kept hf n8 HKB.out
            have st := StA.pure (by kernel_rfl) ha hf ht ho h1 (by omega) (by omega) (by omega)
            have ST := Lib.hid st; clear st ht hf
            cases ho
            rw [if_pos (by rfl)]
            have t23 := ha.new 3 (h2 ⟨3, .data⟩ (by simp) rfl) (d := 23) rfl rfl (by simp)
            simp at t23
            have t24 := ha.new 4 (h2 ⟨4, .data⟩ (by simp) rfl) (d := 24) rfl rfl (by simp)
            simp at t24
            go_simp
            exact ST.out
          | 6, ho =>
            have n8 : on listed 8 = false := by
              cases b8 : on listed 8 with
              | false => rfl
              | true =>
                have b7 := hcl 8 _ rfl b8 ⟨7, .data⟩ (by simp) rfl
                have b6 := hcl 7 _ rfl b7 ⟨6, .data⟩ (by simp) rfl
                rw [on_no h1] at b6; cases b6
            have kd : Kept wz w := StA_kept hf n8 HKB.out
            have st := StA.pure (by kernel_rfl) ha hf ht ho h1 (by omega) (by omega) (by omega)
            have ST := Lib.hid st; clear st ht hf
            cases ho
            rw [if_pos (by rfl)]
            have t25 := ha.new 5 (h2 ⟨5, .data⟩ (by simp) rfl) (d := 25) rfl rfl (by simp)
            simp at t25
            have c0 := kcell kd d0z
            have c1 := kcell kd d1z
            have c2 := kcell kd d2z
            have c3 := kcell kd d3z
            go_simp
            exact ST.out
          | 7, ho =>
            have n8 : on listed 8 = false := by
              cases b8 : on listed 8 with
              | false => rfl
              | true =>
                have b7 := hcl 8 _ rfl b8 ⟨7, .data⟩ (by simp) rfl
                rw [on_no h1] at b7; cases b7
            obtain ⟨hwd, st⟩ := StA.built (s := 10) (X := ⟨V3.heap.size, 2, none⟩) (R := Grew wz V3.heap.size v ts t) (by kernel_rfl) ha hf hl ho h1 (by omega) n8
            have HWD := Lib.hid hwd; clear hwd
            have ST := Lib.hid st; clear st ht hf
            cases ho
            rw [if_pos (by rfl)]
            have t26 := ha.new 6 (h2 ⟨6, .data⟩ (by simp) rfl) (d := 26) rfl rfl (by simp)
            simp at t26
            unfold Trial.val at t26
            go_simp
            rw [HWD.out, show wz.drew.heap.size = wz.heap.size from rfl, ← HWB.out]
            exact ST.out
          | 8, ho =>
            have b1 : on listed 1 = true := h2 ⟨1, .data⟩ (by cases ho; simp) rfl
            have b7 : on listed 7 = true := h2 ⟨7, .data⟩ (by cases ho; simp) rfl
            have n10 : on listed 10 = false := by
              cases b10 : on listed 10 with
              | false => rfl
              | true =>
                have b8 := hcl 10 _ rfl b10 ⟨8, .data⟩ (by simp) rfl
                rw [on_no h1] at b8; cases b8
            obtain ⟨hwd, st⟩ := StA.appended (s := 10) (X := ⟨V3.heap.size, 2, none⟩) (R := Grew wz V3.heap.size v ts t) (by kernel_rfl) ha hf hl ho h1 (by omega) b7 n10
            have t21 : a.eval (.tmp 21) = v := ha.new 1 b1 (d := 21) rfl rfl (by simp)
            have t27 : a.eval (.tmp 27) = .slice (some ⟨wz.heap.size, 0, none⟩) 1 1 := ha.new 7 b7 (d := 27) rfl rfl (by simp)
            have ST := Lib.hid st; clear st ht hf
            subst hwd
            cases ho
            rw [if_pos (by rfl)]
            refine wpIn_append_lies _ (.tmp 21) (.tmp 27) 23 rfl (V3.heap.size + 1) 49 i0 _ 4 32 Tryz.underlying23 hi hiz his hib rfl (by decide) v _ _ t21 HRW.out ⟨wz.heap.size, 0, none⟩ 1 1 (trialC t) t27 rfl HNEW.out (trial_one t) (by omega) (by unfold maxLen; omega) (by omega) HSZ.out ?_
            intro g cap' w' hown hgrow hat hlt3
            exact ST.out _ _ ⟨g, cap', rfl, hown, grownBy_kept HKB.out hgrow⟩
          | 9, ho =>
            have st := StA.pure (by kernel_rfl) ha hf ht ho h1 (by omega) (by omega) (by omega)
            have ST := Lib.hid st; clear st ht hf
            cases ho
            rw [if_pos (by rfl)]
            have t5 := ha.old 5 (by kernel_rfl)
            simp at t5
            go_simp
            exact ST.out
          | 10, ho =>
            have b8 : on listed 8 = true := h2 ⟨8, .data⟩ (by cases ho; simp) rfl
            have b9 : on listed 9 = true := h2 ⟨9, .data⟩ (by cases ho; simp) rfl
            obtain ⟨hr, st⟩ := StA.stored (b := 7) (V := wz) (WB := WB) (by kernel_rfl) ha ht hl ho h1 (by cases ho; rfl) (by omega) b8
            have t28 := ha.new 8 b8 (d := 28) rfl rfl (by simp)
            have t29 := ha.new 9 b9 (d := 29) rfl rfl (by simp)
            simp at t28 t29
            have ST := Lib.hid st; clear st ht hf
            obtain ⟨g, cap', hre, hown, hgr⟩ := hr
            have c2 := grown_cell hgr (hGz.own (Nat.le_refl _)) hGz.c2
            have cf := (World.frozen?_of_block (a := ⟨V3.heap.size, 2, none⟩) (hgr.block V3.heap.size hxz (Ne.symm (hGz.own (Nat.le_refl _))))).trans hGz.fr
            clear hown hgr
            cases ho
            rw [if_pos (by rfl)]
            subst hre
            go_simp
            exact ST.out
        case hend =>
          rintro listed a w hall ⟨r, ha, -, ht⟩
          obtain ⟨wc, hR, hw⟩ := ht (hall 8 (by simp))
          rw [show on listed 10 = true from hall 10 (by simp), if_pos rfl] at hw
          subst hw
          have hN := hGz.grew hR
          obtain ⟨y, hae⟩ := atSt_mid ha 20 10 (by kernel_rfl) (by simp)
          simp only [List.range, List.range.loop, List.map, List.take_succ_cons, List.take_zero, List.drop_succ_cons, List.drop_zero, List.cons_append, List.nil_append, Nat.reduceAdd] at hae
          subst hae
          clear ha
          refine (by assumption : ∀ a w, Code.wp _ _ _ a w → _) _ _ ?_
          generalize hW9 : wc.setCell ⟨V3.heap.size, 2, none⟩ r = W9 at *
          clear hW9 hR HNEW HSZ HRW HWB HKB
          go_wp2_with fail
          go_roundw
          case rel => exact ⟨j + 1, r, by omega, by go_num, by rw [HST.out]; exact hN⟩
          case measure => simp [intOf]; omega
    · have hje : j = B.trials.length := by omega
      subst hje
      have hkN : Kept W wr := kept_trans hk0 hG.kept
      obtain ⟨q', capt', rfl, htr', hroom⟩ := hG.trials
      have hqb : ∀ b o, q' = some ⟨b, o, none⟩ → V3.heap.size + 1 ≤ b := fun b o e => (hG.row.lt b (by rw [e]; rfl)).1
      have HTR := Lib.hid htr'
      have HQB := Lib.hid hqb
      have HRM := Lib.hid hroom
      clear hqb
      obtain ⟨x0, x1, x2⟩ := And.intro hG.c0 (And.intro hG.c1 hG.c2)
      have hBB := HB.out.kept hkN
      have hlX := keepL_len B.trials l B.trials.length
      have hBX : BookAt wr p q' cap capt' (B.less l) := ⟨hBB.laid, hBB.nb, ⟨(show (keepL B.trials l B.trials.length).length ≤ _ by omega), hroom⟩, hBB.boys, htr'⟩
      obtain ⟨nx, hnx⟩ : ∃ nx, nx = (keepL B.trials l B.trials.length).length := ⟨_, rfl⟩
      have HV := Lib.hid (show (.agg #[.slice p (B.less l).boys.length cap, .int .i64 (B.less l).weeks, .slice q' (B.less l).trials.length capt'] : Value) = .agg #[.slice p B.boys.length cap, .int .i64 B.weeks, .slice q' nx capt'] from by rw [hnx]; rfl)
      rw [← hnx] at x2
      have hW5 : W.heap.size + 1 < V3.heap.size := Go.Ai.lt_of_cell r0
      replace r0 := kcell hG.kept r0
      replace r1 := kcell hG.kept r1
      replace r2 := kcell hG.kept r2
      have rf0 := ((kturns hG.kept (fun _ => False)).frozen hW5 (fun h => h)).trans (rf 0)
      have rf1 := ((kturns hG.kept (fun _ => False)).frozen hW5 (fun h => h)).trans (rf 1)
      have rf2 := ((kturns hG.kept (fun _ => False)).frozen hW5 (fun h => h)).trans (rf 2)
      clear hG hnx htr' hlX s0 s1 s2 hk0 hG0 hroom
      go_wp2_with fail
      have hTC : Turns (fun b => b = W.heap.size + 1) wr (((wr.setCell ⟨W.heap.size + 1, 0, none⟩ (.slice p B.boys.length cap)).setCell ⟨W.heap.size + 1, 1, none⟩ (.int .i64 B.weeks)).setCell ⟨W.heap.size + 1, 2, none⟩ (.slice q' nx capt')) := (((Turns.refl (fun b => b = W.heap.size + 1) wr).setCell rfl _ _).setCell rfl _ _).setCell rfl _ _
      have t0 : (((wr.setCell ⟨W.heap.size + 1, 0, none⟩ (.slice p B.boys.length cap)).setCell ⟨W.heap.size + 1, 1, none⟩ (.int .i64 B.weeks)).setCell ⟨W.heap.size + 1, 2, none⟩ (.slice q' nx capt')).cell? ⟨W.heap.size + 1, 0, none⟩ = some (.slice p B.boys.length cap) := by go_simp
      have t1 : (((wr.setCell ⟨W.heap.size + 1, 0, none⟩ (.slice p B.boys.length cap)).setCell ⟨W.heap.size + 1, 1, none⟩ (.int .i64 B.weeks)).setCell ⟨W.heap.size + 1, 2, none⟩ (.slice q' nx capt')).cell? ⟨W.heap.size + 1, 1, none⟩ = some (.int .i64 B.weeks) := by go_simp
      have t2 : (((wr.setCell ⟨W.heap.size + 1, 0, none⟩ (.slice p B.boys.length cap)).setCell ⟨W.heap.size + 1, 1, none⟩ (.int .i64 B.weeks)).setCell ⟨W.heap.size + 1, 2, none⟩ (.slice q' nx capt')).cell? ⟨W.heap.size + 1, 2, none⟩ = some (.slice q' nx capt') := by go_simp
      have hkD : Kept W (((wr.setCell ⟨W.heap.size + 1, 0, none⟩ (.slice p B.boys.length cap)).setCell ⟨W.heap.size + 1, 1, none⟩ (.int .i64 B.weeks)).setCell ⟨W.heap.size + 1, 2, none⟩ (.slice q' nx capt')) := Below.setCell (p := ⟨W.heap.size + 1, 2, none⟩) (Below.setCell (p := ⟨W.heap.size + 1, 1, none⟩) (Below.setCell (p := ⟨W.heap.size + 1, 0, none⟩) hkN (show W.heap.size ≤ W.heap.size + 1 by omega) _) (show W.heap.size ≤ W.heap.size + 1 by omega) _) (show W.heap.size ≤ W.heap.size + 1 by omega) _
      generalize (((wr.setCell ⟨W.heap.size + 1, 0, none⟩ (.slice p B.boys.length cap)).setCell ⟨W.heap.size + 1, 1, none⟩ (.int .i64 B.weeks)).setCell ⟨W.heap.size + 1, 2, none⟩ (.slice q' nx capt')) = D at *
      have hB' := HB.out
      refine bodyPost_ret (v := .agg #[.slice p B.boys.length cap, .int .i64 B.weeks, .slice q' nx capt']) (by simp [results, Tryz.results41, go_sem, t0, t1, t2]) rfl ?_
      refine ⟨q', capt', by rw [HV.out], hkD, ⟨hB'.laid.kept hkD, hB'.nb, ⟨(show (keepL B.trials l B.trials.length).length ≤ _ by have := keepL_len B.trials l B.trials.length; omega), HRM.out⟩, hB'.boys.imp id fun ⟨b, o, e, hb⟩ => ⟨b, o, e, hb.kept hkD⟩, HTR.out.imp id fun ⟨b, o, e, ht⟩ => ⟨b, o, e, ht.turns hTC (fun e2 => by have := HQB.out b o e; omega)⟩⟩⟩
end Go.Proofs.YtcgihkaglonnaaaGreatDoor
set_option linter.all false
namespace Go.Proofs.YtcgihkaglonnaaaGreatDoor

theorem okB_trials {B : Book} (h : B.okB = true) : B.trials.length ≤ 6 ∧ ∀ t ∈ B.trials, (0 ≤ t.boy ∧ t.boy ≤ (B.boys.length : Int) - 1) ∧ (0 ≤ t.week ∧ t.week ≤ B.weeks - 1) ∧ (0 ≤ t.sang ∧ t.sang ≤ 1) := by
  simp only [Book.okB, inB, Bool.and_eq_true, decide_eq_true_eq, List.all_eq_true] at h
  refine ⟨by omega, fun t ht => ?_⟩
  have := h.2 t ht
  simp only [validTrialB, inB, Bool.and_eq_true, decide_eq_true_eq] at this
  omega
theorem truths_iff {B : Book} (h : B.okB = true) {boy : Nat} {x : Boy} {n : List Int} : n ∈ B.truths boy x ↔ n ∈ (Book.mk B.boys B.weeks []).truths boy x ∧ ∀ t ∈ B.trials, t.boy = (boy : Int) → TBn n x.ls t = false := by
  obtain ⟨-, hT⟩ := okB_trials h
  constructor
  · intro hn
    refine ⟨truths_mono (A := Book.mk B.boys B.weeks []) (B := B) rfl (fun t ht => by cases ht) hn, fun t ht hb => ?_⟩
    obtain ⟨-, hk, -⟩ := mem_truths.1 hn
    obtain ⟨h1, h2, h3⟩ := hT t ht
    unfold kpOf at hk
    rw [List.all_eq_true] at hk
    have h4 := hk t.week.toNat (List.mem_range.2 (by omega))
    simp only [Bool.not_eq_true', List.any_eq_false] at h4
    have h5 := h4 t (List.mem_filter.2 ⟨ht, by simp [hb]; omega⟩)
    unfold TBn
    simpa using h5
  · rintro ⟨hn, hb⟩
    obtain ⟨n0, n1, n2, n3, n4, rfl⟩ := truths_len hn
    obtain ⟨h1, h2, h3⟩ := mem_truths.1 hn
    refine mem_truths.2 ⟨h1, ?_, fun i v hv => ⟨(h3 i v hv).1, (h3 i v hv).2.1, ?_⟩⟩
    · unfold kpOf
      rw [List.all_eq_true]
      intro wk hwk
      simp only [Bool.not_eq_true', List.any_eq_false]
      intro t ht
      obtain ⟨ht1, ht2⟩ := List.mem_filter.1 ht
      simp only [Bool.and_eq_true, decide_eq_true_eq] at ht2
      have := hb t ht1 ht2.1
      unfold TBn at this
      simpa using this
    · unfold fbAt
      rw [List.any_eq_false]
      intro t ht hf
      simp only [forbidsB, Bool.and_eq_true, Bool.or_eq_true, decide_eq_true_eq] at hf
      obtain ⟨⟨f1, f2⟩, f3⟩ := hf
      have h4 := hb t ht f1
      have h5 := hT t ht
      have hs : (t.sang == 1) = true := by simp; omega
      unfold TBn TB beliesB singsB at h4
      rw [hs] at h4
      simp only [List.getD_cons_zero, List.getD_cons_succ] at h4
      rcases f3 with ⟨e, f⟩ | ⟨e, f⟩
      · have e0 : i = 0 := by omega
        subst e0
        cases hv
        have : decide (n0 ≤ t.note) = false := by simp; omega
        rw [this] at h4
        simp at h4
      · have e0 : i = 4 := by omega
        subst e0
        cases hv
        have : decide (t.week < n4) = false := by simp; omega
        rw [this] at h4
        simp at h4
theorem keepL_mem {ts : List Trial} {l : List Nat} {t : Trial} : ∀ {j : Nat}, t ∈ keepL ts l j ↔ ∃ k, k < j ∧ ts[k]? = some t ∧ ¬ k ∈ l
  | 0 => by simp [keepL]
  | j + 1 => by
    have ih := keepL_mem (ts := ts) (l := l) (t := t) (j := j)
    unfold keepL
    rw [List.mem_append, ih]
    constructor
    · rintro (⟨k, h1, h2⟩ | h)
      · exact ⟨k, by omega, h2⟩
      · cases hj : ts[j]? with
        | none => rw [hj] at h; cases h
        | some u =>
          rw [hj] at h
          by_cases hm : j ∈ l
          · simp [hm] at h
          · simp [hm] at h
            subst h
            exact ⟨j, by omega, hj, hm⟩
    · rintro ⟨k, h1, h2, h3⟩
      by_cases e : k = j
      · subst e
        right
        rw [h2]
        simp [h3]
      · exact .inl ⟨k, by omega, h2, h3⟩
theorem less_ok {B : Book} (h : B.okB = true) (l : List Nat) : (B.less l).okB = true := by
  have hl := keepL_len B.trials l B.trials.length
  unfold Book.less Book.okB
  simp only [Book.okB, Bool.and_eq_true, decide_eq_true_eq, List.all_eq_true] at h ⊢
  refine ⟨⟨⟨h.1.1.1, by omega⟩, h.1.2⟩, fun t ht => ?_⟩
  obtain ⟨k, -, hk, -⟩ := keepL_mem.1 ht
  exact h.2 t (List.mem_of_getElem? hk)
theorem less_iff {B : Book} (h : B.okB = true) (l : List Nat) {boy : Nat} {x : Boy} {n : List Int} : n ∈ (B.less l).truths boy x ↔ n ∈ (Book.mk B.boys B.weeks []).truths boy x ∧ ∀ k ∈ belL B boy x n B.trials.length, k ∈ l := by
  rw [truths_iff (less_ok h l)]
  refine and_congr_right fun _ => ?_
  constructor
  · intro h1 k hk
    obtain ⟨hk1, hk2⟩ := F_mem.1 hk
    unfold belB at hk2
    cases ht : B.trials[k]? with
    | none => rw [ht] at hk2; cases hk2
    | some t =>
      rw [ht] at hk2
      simp only [Bool.and_eq_true, decide_eq_true_eq] at hk2
      by_cases hm : k ∈ l
      · exact hm
      · have := h1 t (keepL_mem.2 ⟨k, hk1, ht, hm⟩) hk2.1
        rw [hk2.2] at this; cases this
  · intro h1 t ht hb
    obtain ⟨k, hk, hkt, hm⟩ := keepL_mem.1 ht
    cases hv : TBn n x.ls t with
    | false => rfl
    | true => exact absurd (h1 k (F_mem.2 ⟨hk, by unfold belB; rw [hkt]; simp [hb, hv]⟩)) hm
theorem can_less {B : Book} (h : B.okB = true) (l : List Nat) : Can (B.less l) ↔ ∀ (boy : Nat) (x : Boy), B.boys[boy]? = some x → ∃ n, n ∈ (Book.mk B.boys B.weeks []).truths boy x ∧ ∀ k ∈ belL B boy x n B.trials.length, k ∈ l := by
  constructor
  · intro hc boy x hx
    obtain ⟨n, hn⟩ := List.exists_mem_of_ne_nil _ (hc boy x hx)
    exact ⟨n, (less_iff h l).1 hn⟩
  · intro hc boy x hx
    obtain ⟨n, hn⟩ := hc boy x hx
    exact List.ne_nil_of_mem ((less_iff h l).2 hn)
theorem can_iff {B : Book} (h : B.okB = true) : Can B ↔ ∀ (boy : Nat) (x : Boy), B.boys[boy]? = some x → ∃ n, n ∈ (Book.mk B.boys B.weeks []).truths boy x ∧ belL B boy x n B.trials.length = [] := by
  constructor
  · intro hc boy x hx
    obtain ⟨n, hn⟩ := List.exists_mem_of_ne_nil _ (hc boy x hx)
    obtain ⟨h1, h2⟩ := (truths_iff h).1 hn
    refine ⟨n, h1, List.eq_nil_iff_forall_not_mem.2 fun k hk => ?_⟩
    obtain ⟨hk1, hk2⟩ := F_mem.1 hk
    unfold belB at hk2
    cases ht : B.trials[k]? with
    | none => rw [ht] at hk2; cases hk2
    | some t =>
      rw [ht] at hk2
      simp only [Bool.and_eq_true, decide_eq_true_eq] at hk2
      rw [h2 t (List.mem_of_getElem? ht) hk2.1] at hk2
      cases hk2.2
  · intro hc boy x hx
    obtain ⟨n, hn, he⟩ := hc boy x hx
    refine List.ne_nil_of_mem ((truths_iff h).2 ⟨hn, fun t ht hb => ?_⟩)
    obtain ⟨k, hk⟩ := List.getElem?_of_mem ht
    cases hv : TBn n x.ls t with
    | false => rfl
    | true =>
      have : k ∈ belL B boy x n B.trials.length := F_mem.2 ⟨(List.getElem?_eq_some_iff.1 hk).1, by unfold belB; rw [hk]; simp [hb, hv]⟩
      rw [he] at this; cases this
end Go.Proofs.YtcgihkaglonnaaaGreatDoor
set_option linter.all false
namespace Go.Proofs.YtcgihkaglonnaaaGreatDoor

theorem cmpI_neg {x y : Nat} : cmpI (x : Int) y < 0 ↔ x < y := by
  unfold cmpI
  split
  · simp; omega
  · split <;> simp <;> omega
theorem cmpI_zero {x y : Nat} : cmpI (x : Int) y = 0 ↔ x = y := by
  unfold cmpI
  split
  · simp; omega
  · split <;> simp <;> omega
theorem lex_cons {x y : Nat} {a b : List Nat} : lexC (x :: a) (y :: b) < 0 ↔ x < y ∨ (x = y ∧ lexC a b < 0) := by
  simp only [lexC]
  by_cases e : cmpI (x : Int) y = 0
  · rw [if_pos e]
    have := cmpI_zero.1 e
    subst this
    simp
  · rw [if_neg e, cmpI_neg]
    have : x ≠ y := fun h => e (cmpI_zero.2 h)
    simp [this]
theorem lex_trans : ∀ {a b c : List Nat}, lexC a b < 0 → lexC b c < 0 → lexC a c < 0
  | [], [], _, h, _ => by simp [lexC] at h
  | [], _ :: _, [], _, h => by simp [lexC] at h
  | [], _ :: _, _ :: _, _, _ => by simp [lexC]
  | _ :: _, [], _, h, _ => by simp [lexC] at h
  | _ :: _, _ :: _, [], _, h => by simp [lexC] at h
  | x :: a, y :: b, z :: c, h1, h2 => by
    rw [lex_cons] at h1 h2 ⊢
    rcases h1 with h1 | ⟨e1, h1⟩
    · rcases h2 with h2 | ⟨e2, _⟩
      · left; omega
      · left; omega
    · rcases h2 with h2 | ⟨e2, h2⟩
      · left; omega
      · exact .inr ⟨by omega, lex_trans h1 h2⟩
theorem lex_tri : ∀ (a b : List Nat), lexC a b < 0 ∨ a = b ∨ lexC b a < 0
  | [], [] => .inr (.inl rfl)
  | [], _ :: _ => .inl (by simp [lexC])
  | _ :: _, [] => .inr (.inr (by simp [lexC]))
  | x :: a, y :: b => by
    rw [lex_cons, lex_cons]
    rcases Nat.lt_trichotomy x y with e | e | e
    · exact .inl (.inl e)
    · subst e
      rcases lex_tri a b with h | h | h
      · exact .inl (.inr ⟨rfl, h⟩)
      · exact .inr (.inl (by rw [h]))
      · exact .inr (.inr (.inr ⟨rfl, h⟩))
    · exact .inr (.inr (.inl e))
theorem ord_trans {a b c : List Nat} (h1 : ordC a b < 0) (h2 : ordC b c < 0) : ordC a c < 0 := by
  rcases ord_cases h1 with h1 | ⟨e1, h1⟩ <;> rcases ord_cases h2 with h2 | ⟨e2, h2⟩
  · exact ord_less (by omega)
  · exact ord_less (by omega)
  · exact ord_less (by omega)
  · exact ord_lex (by omega) (lex_trans h1 h2)
theorem ord_tri (a b : List Nat) : ordC a b < 0 ∨ a = b ∨ ordC b a < 0 := by
  rcases Nat.lt_trichotomy a.length b.length with e | e | e
  · exact .inl (ord_less e)
  · rcases lex_tri a b with h | h | h
    · exact .inl (ord_lex e h)
    · exact .inr (.inl h)
    · exact .inr (.inr (ord_lex e.symm h))
  · exact .inr (.inr (ord_less e))
theorem fold_le : ∀ (L : List (List Nat)) (m : List Nat), ¬ ordC m (L.foldl minStep m) < 0 ∧ ∀ l ∈ L, ¬ ordC l (L.foldl minStep m) < 0
  | [], m => ⟨ordC_irrefl m, fun l h => by cases h⟩
  | b :: L, m => by
    rw [List.foldl_cons]
    obtain ⟨h1, h2⟩ := fold_le L (minStep m b)
    generalize L.foldl minStep (minStep m b) = r at *
    have key : ¬ ordC m r < 0 ∧ ¬ ordC b r < 0 := by
      unfold minStep at h1
      split at h1
      · rename_i hb
        exact ⟨fun h => h1 (ord_trans hb h), h1⟩
      · rename_i hb
        refine ⟨h1, fun h => ?_⟩
        rcases ord_tri b m with h3 | h3 | h3
        · exact hb h3
        · subst h3; exact h1 h
        · exact h1 (ord_trans h3 h)
    refine ⟨key.1, fun l hl => ?_⟩
    rcases List.mem_cons.1 hl with e | e
    · subst e; exact key.2
    · exact h2 l e
theorem minL_le : ∀ {L : List (List Nat)} {l : List Nat}, l ∈ L → ¬ ordC l (minL L) < 0
  | a :: L, l, h => by
    obtain ⟨h1, h2⟩ := fold_le L a
    rcases List.mem_cons.1 h with e | e
    · subst e; exact h1
    · exact h2 l e
theorem ext_lt : ∀ {a b : List Nat}, a.Pairwise (· < ·) → b.Pairwise (· < ·) → (∀ k, k ∈ a ↔ k ∈ b) → a = b
  | [], [], _, _, _ => rfl
  | [], y :: b, _, _, h => by have := (h y).2 List.mem_cons_self; cases this
  | x :: a, [], _, _, h => by have := (h x).1 List.mem_cons_self; cases this
  | x :: a, y :: b, ha, hb, h => by
    rw [List.pairwise_cons] at ha hb
    have hxy : x = y := by
      rcases List.mem_cons.1 ((h x).1 List.mem_cons_self) with e | e
      · exact e
      · rcases List.mem_cons.1 ((h y).2 List.mem_cons_self) with e2 | e2
        · exact e2.symm
        · have := ha.1 y e2
          have := hb.1 x e
          omega
    subst hxy
    congr 1
    refine ext_lt ha.2 hb.2 fun k => ?_
    have h1 := h k
    rw [List.mem_cons, List.mem_cons] at h1
    constructor
    · intro hk
      rcases h1.1 (.inr hk) with e | e
      · have := ha.1 k hk; omega
      · exact e
    · intro hk
      rcases h1.2 (.inr hk) with e | e
      · have := hb.1 k hk; omega
      · exact e
theorem incr_of {l : List Nat} (h : l.Pairwise (· < ·)) : incr l := by
  intro i x y hx hy
  obtain ⟨h1, rfl⟩ := List.getElem?_eq_some_iff.1 hx
  obtain ⟨h2, rfl⟩ := List.getElem?_eq_some_iff.1 hy
  exact List.pairwise_iff_getElem.1 h i (i + 1) h1 h2 (by omega)

section
variable {B : Book}
def ownB (B : Book) (k : Nat) : Nat := match B.trials[k]? with
  | some t => t.boy.toNat
  | none => 0
theorem belB_own {i k : Nat} {x : Boy} {t : List Int} (h : belB B i x t k = true) : ownB B k = i := by
  unfold belB at h
  unfold ownB
  cases ht : B.trials[k]? with
  | none => rw [ht] at h; cases h
  | some u =>
    rw [ht] at h
    simp only [Bool.and_eq_true, decide_eq_true_eq] at h
    show u.boy.toNat = i
    rw [h.1]
    omega
/-- what the best list of a boy is -/
theorem wrongAt_is (hok : B.okB = true) {i : Nat} {x : Boy} (hx : B.boys[i]? = some x) : ∃ t, t ∈ (Book.mk B.boys B.weeks []).truths i x ∧ wrongAt B i = F B.trials.length (belB B i x t) ∧
    ∀ t', t' ∈ (Book.mk B.boys B.weeks []).truths i x → ¬ ordC (F B.trials.length (belB B i x t')) (wrongAt B i) < 0 := by
  have hxo := (okB_boys hok).2.1 x (List.mem_of_getElem? hx)
  have hne : belLs B i x ≠ [] := fun e => untried_ne hxo (List.map_eq_nil_iff.1 e)
  have hw : wrongAt B i = minL (belLs B i x) := by unfold wrongAt; rw [hx]
  obtain ⟨t, ht, e⟩ := List.mem_map.1 (minL_mem hne)
  refine ⟨t, ht, by rw [hw]; exact e.symm, fun t' ht' => ?_⟩
  rw [hw]
  exact minL_le (List.mem_map.2 ⟨t', ht', rfl⟩)
theorem wrongAt_none {i : Nat} (h : B.boys.length ≤ i) : wrongAt B i = [] := by
  unfold wrongAt
  rw [List.getElem?_eq_none h]
def inW (B : Book) (i k : Nat) : Bool := decide (k ∈ wrongAt B i)
theorem inW_F (hok : B.okB = true) (i : Nat) : F B.trials.length (inW B i) = wrongAt B i := by
  cases hx : B.boys[i]? with
  | none =>
    have : wrongAt B i = [] := by unfold wrongAt; rw [hx]
    unfold inW F
    rw [this]
    simp
  | some x =>
    obtain ⟨t, -, h2, -⟩ := wrongAt_is hok hx
    refine ext_lt (F_lt _ _) (by rw [h2]; exact F_lt _ _) fun k => ?_
    rw [F_mem]
    unfold inW
    rw [decide_eq_true_eq]
    constructor
    · exact fun h => h.2
    · intro h
      refine ⟨?_, h⟩
      rw [h2] at h
      exact (F_mem.1 h).1
theorem inW_own (hok : B.okB = true) (i k : Nat) (_ : k < B.trials.length) (h : inW B i k = true) : ownB B k = i := by
  unfold inW at h
  rw [decide_eq_true_eq] at h
  cases hx : B.boys[i]? with
  | none =>
    have : wrongAt B i = [] := by unfold wrongAt; rw [hx]
    rw [this] at h; cases h
  | some x =>
    obtain ⟨t, -, h2, -⟩ := wrongAt_is hok hx
    rw [h2] at h
    exact belB_own (F_mem.1 h).2
theorem mem_acc {m k : Nat} : k ∈ accL B m ↔ ∃ i, i < m ∧ k ∈ wrongAt B i := by
  unfold accL
  rw [List.mem_flatMap]
  constructor
  · rintro ⟨i, h1, h2⟩; exact ⟨i, List.mem_range.1 h1, h2⟩
  · rintro ⟨i, h1, h2⟩; exact ⟨i, List.mem_range.2 h1, h2⟩
theorem acc_nodup (hok : B.okB = true) : ∀ m, (accL B m).Nodup
  | 0 => by simp [accL]
  | m + 1 => by
    rw [accL_succ, List.nodup_append]
    refine ⟨acc_nodup hok m, ?_, ?_⟩
    · rw [← inW_F hok m]
      exact (F_lt _ _).imp (fun h => by omega)
    · intro a ha b hb e
      subst e
      obtain ⟨i, hi, h1⟩ := mem_acc.1 ha
      rw [← inW_F hok i] at h1
      rw [← inW_F hok m] at hb
      have e1 := inW_own hok i a (F_mem.1 h1).1 (F_mem.1 h1).2
      have e2 := inW_own hok m a (F_mem.1 hb).1 (F_mem.1 hb).2
      omega
theorem wrongL_is (hok : B.okB = true) : wrongL B = F B.trials.length (anyB (inW B) B.boys.length) := by
  have hp := List.pairwise_mergeSort (le := fun x y : Nat => decide (x ≤ y)) (by simp; omega) (by simp; omega) (accL B B.boys.length)
  have hn : (wrongL B).Nodup := (List.mergeSort_perm _ _).nodup_iff.2 (acc_nodup hok _)
  refine ext_lt ?_ (F_lt _ _) fun k => ?_
  · refine (hp.and hn).imp ?_
    rintro a b ⟨h1, h2⟩
    simp at h1
    omega
  · unfold wrongL
    rw [List.mem_mergeSort, mem_acc, F_mem, anyB_true]
    constructor
    · rintro ⟨i, hi, hk⟩
      refine ⟨?_, i, hi, by unfold inW; simpa using hk⟩
      rw [← inW_F hok i] at hk
      exact (F_mem.1 hk).1
    · rintro ⟨-, i, hi, hk⟩
      unfold inW at hk
      exact ⟨i, hi, by simpa using hk⟩
theorem wrong_facts (hok : B.okB = true) : incr (wrongL B) ∧ (∀ x ∈ wrongL B, x < B.trials.length) ∧ (wrongL B).length ≤ B.trials.length ∧ (wrongL B = [] ↔ Can B) ∧ Can (B.less (wrongL B)) ∧
    ∀ s, ordC (bitsL s B.trials.length) (wrongL B) < 0 → ¬ Can (B.less (bitsL s B.trials.length)) := by
  have hw := wrongL_is hok
  have hmem : ∀ i k, k ∈ wrongAt B i → i < B.boys.length → k ∈ wrongL B := fun i k h hi => by
    unfold wrongL
    rw [List.mem_mergeSort]
    exact mem_acc.2 ⟨i, hi, h⟩
  refine ⟨by rw [hw]; exact incr_of (F_lt _ _), fun x hx => by rw [hw] at hx; exact (F_mem.1 hx).1, ?_, ?_, ?_, ?_⟩
  · rw [hw]
    have := List.length_filter_le (anyB (inW B) B.boys.length) (List.range B.trials.length)
    rw [List.length_range] at this
    exact this
  · rw [can_iff hok]
    constructor
    · intro he boy x hx
      obtain ⟨t, ht, h2, -⟩ := wrongAt_is hok hx
      refine ⟨t, ht, ?_⟩
      show F _ _ = []
      rw [← h2]
      refine List.eq_nil_iff_forall_not_mem.2 fun k hk => ?_
      have := hmem boy k hk (List.getElem?_eq_some_iff.1 hx).1
      rw [he] at this; cases this
    · intro hc
      refine List.eq_nil_iff_forall_not_mem.2 fun k hk => ?_
      rw [hw] at hk
      obtain ⟨i, hi, h1⟩ := anyB_true.1 (F_mem.1 hk).2
      have hx : B.boys[i]? = some B.boys[i] := List.getElem?_eq_getElem hi
      obtain ⟨t, ht, he⟩ := hc i _ hx
      obtain ⟨-, -, -, h4⟩ := wrongAt_is hok hx
      have h5 := h4 t ht
      have he' : F B.trials.length (belB B i B.boys[i] t) = [] := he
      rw [he'] at h5
      unfold inW at h1
      rw [decide_eq_true_eq] at h1
      exact h5 (ord_less (List.length_pos_iff.2 (List.ne_nil_of_mem h1)))
  · rw [can_less hok]
    intro boy x hx
    obtain ⟨t, ht, h2, -⟩ := wrongAt_is hok hx
    refine ⟨t, ht, fun k hk => hmem boy k ?_ (List.getElem?_eq_some_iff.1 hx).1⟩
    rw [h2]; exact hk
  · intro s hlt hc
    rw [can_less hok] at hc
    have hch : ∀ i : Nat, ∃ P : Nat → Bool, (∀ k, k < B.trials.length → P k = true → ownB B k = i) ∧ (i < B.boys.length → ¬ ordC (F B.trials.length P) (wrongAt B i) < 0 ∧ ∀ k, k < B.trials.length → P k = true → s.testBit k = true) := by
      intro i
      by_cases hi : i < B.boys.length
      · have hx : B.boys[i]? = some B.boys[i] := List.getElem?_eq_getElem hi
        obtain ⟨t, ht, h1⟩ := hc i _ hx
        obtain ⟨-, -, -, h4⟩ := wrongAt_is hok hx
        refine ⟨belB B i B.boys[i] t, fun k _ h => belB_own h, fun _ => ⟨h4 t ht, fun k hk h => ?_⟩⟩
        have := h1 k (F_mem.2 ⟨hk, h⟩)
        exact (F_mem.1 this).2
      · exact ⟨fun _ => false, fun k _ h => (nomatch h), fun h => absurd h hi⟩
    obtain ⟨V, hV⟩ := Classical.axiomOfChoice hch
    rw [hw] at hlt
    refine best_all (own := ownB B) (M := inW B) (V := V) (nb := B.boys.length) (n := B.trials.length) (o := fun k => s.testBit k) (inW_own hok) (fun i k hk h => (hV i).1 k hk h) (fun i hi => ?_) (fun i k hi hk h => ((hV i).2 hi).2 k hk h) hlt
    rw [inW_F hok i]
    exact ((hV i).2 hi).1
end
end Go.Proofs.YtcgihkaglonnaaaGreatDoor
namespace Go.Proofs
open Go.Shelf
def Tryz.lays189_ren : Go.Shelf.Ren := ⟨fun | 189 => 102 | 125 => 116 | 257 => 115 | 128 => 129 | 129 => 130 | 294 => 120 | 295 => 121 | 296 => 122 | 297 => 123 | 298 => 124 | 299 => 125 | 216 => 126 | 300 => 127 | 301 => 128 | 328 => 132 | 329 => 133 | 330 => 134 | 331 => 135 | 332 => 136 | 215 => 119 | 343 => 137 | n => n, fun | 28 => 41 | 3 => 3 | 46 => 140 | 0 => 0 | 51 => 151 | 53 => 153 | 4 => 4 | 183 => 145 | 182 => 144 | 131 => 103 | 5 => 5 | 9 => 9 | 218 => 155 | 222 => 159 | 228 => 161 | 229 => 162 | n => n, fun | n => n⟩
theorem Tryz.lays189 : Go.Proofs.Lays.n189 Tryz.prog Tryz.lays189_ren := {
  mixed := by kernel_rfl
  f125 := Tryz.func116.trans (congrArg some (by kernel_rfl))
  f128 := Tryz.func129.trans (congrArg some (by kernel_rfl))
  f129 := Tryz.func130.trans (congrArg some (by kernel_rfl))
  f189 := Tryz.func102.trans (congrArg some (by kernel_rfl))
  f215 := Tryz.func119.trans (congrArg some (by kernel_rfl))
  f216 := Tryz.func126.trans (congrArg some (by kernel_rfl))
  f257 := Tryz.func115.trans (congrArg some (by kernel_rfl))
  f294 := Tryz.func120.trans (congrArg some (by kernel_rfl))
  f295 := Tryz.func121.trans (congrArg some (by kernel_rfl))
  f296 := Tryz.func122.trans (congrArg some (by kernel_rfl))
  f297 := Tryz.func123.trans (congrArg some (by kernel_rfl))
  f298 := Tryz.func124.trans (congrArg some (by kernel_rfl))
  f299 := Tryz.func125.trans (congrArg some (by kernel_rfl))
  f300 := Tryz.func127.trans (congrArg some (by kernel_rfl))
  f301 := Tryz.func128.trans (congrArg some (by kernel_rfl))
  f328 := Tryz.func132.trans (congrArg some (by kernel_rfl))
  f329 := Tryz.func133.trans (congrArg some (by kernel_rfl))
  f330 := Tryz.func134.trans (congrArg some (by kernel_rfl))
  f331 := Tryz.func135.trans (congrArg some (by kernel_rfl))
  f332 := Tryz.func136.trans (congrArg some (by kernel_rfl))
  f343 := Tryz.func137.trans (congrArg some (by kernel_rfl))
  t0 := Tryz.underlying0
  a0 := Tryz.isAgg0
  z0 := Tryz.sizeOf0
  v0 := Tryz.zeroValue0
  t3 := Tryz.underlying3
  a3 := Tryz.isAgg3
  z3 := Tryz.sizeOf3
  v3 := Tryz.zeroValue3
  t4 := Tryz.underlying4
  a4 := Tryz.isAgg4
  z4 := Tryz.sizeOf4
  v4 := Tryz.zeroValue4
  t5 := Tryz.underlying5
  a5 := Tryz.isAgg5
  z5 := Tryz.sizeOf5
  v5 := Tryz.zeroValue5
  t9 := Tryz.underlying9
  a9 := Tryz.isAgg9
  z9 := Tryz.sizeOf9
  v9 := Tryz.zeroValue9
  t28 := Tryz.underlying41
  a28 := Tryz.isAgg41
  z28 := Tryz.sizeOf41
  v28 := Tryz.zeroValue41
  t46 := Tryz.underlying140
  a46 := Tryz.isAgg140
  z46 := Tryz.sizeOf140
  v46 := Tryz.zeroValue140
  t51 := Tryz.underlying151
  a51 := Tryz.isAgg151
  z51 := Tryz.sizeOf151
  v51 := Tryz.zeroValue151
  t53 := Tryz.underlying153
  a53 := Tryz.isAgg153
  z53 := Tryz.sizeOf153
  v53 := Tryz.zeroValue153
  t131 := Tryz.underlying103
  a131 := Tryz.isAgg103
  z131 := Tryz.sizeOf103
  v131 := Tryz.zeroValue103
  t182 := Tryz.underlying144
  a182 := Tryz.isAgg144
  z182 := Tryz.sizeOf144
  v182 := Tryz.zeroValue144
  t183 := Tryz.underlying145
  a183 := Tryz.isAgg145
  z183 := Tryz.sizeOf145
  v183 := Tryz.zeroValue145
  t218 := Tryz.underlying155
  a218 := Tryz.isAgg155
  z218 := Tryz.sizeOf155
  v218 := Tryz.zeroValue155
  t222 := Tryz.underlying159
  a222 := Tryz.isAgg159
  z222 := Tryz.sizeOf159
  v222 := Tryz.zeroValue159
  t228 := Tryz.underlying161
  a228 := Tryz.isAgg161
  z228 := Tryz.sizeOf161
  v228 := Tryz.zeroValue161
  t229 := Tryz.underlying162
  a229 := Tryz.isAgg162
  z229 := Tryz.sizeOf162
  v229 := Tryz.zeroValue162 }
end Go.Proofs
set_option linter.all false
namespace Go.Proofs.YtcgihkaglonnaaaGreatDoor
open Go.RowKit Go.Sort Go.Rg
set_option maxRecDepth 100000

theorem sorted_map (l : List Nat) : ((l.map fun x : Nat => (x : Int)).mergeSort fun x y => decide (x ≤ y)) = (l.mergeSort fun x y => decide (x ≤ y)).map fun x : Nat => (x : Int) := by
  rw [List.map_mergeSort (r := fun x y => decide (x ≤ y)) (s := fun x y : Int => decide (x ≤ y))]
  intro a _ b _
  simp
theorem ints_map (m : List Nat) : (m.map fun x : Nat => (x : Int)).map (Value.int .i64) = intsV m := by rw [List.map_map]; rfl
theorem sorts : Sorts := by
  intro v l base V hb hrow hl
  rcases hrow.2 with ⟨rfl, h0⟩ | ⟨g, cap, cur, rfl, hbg, hg, h1, h2, h3, h4⟩
  · have : l = [] := List.length_eq_zero_iff.1 h0
    subst this
    refine (Any.slices_Sort_int_none Tryz.lays189 none 0 V).mono ?_
    rintro e w' ⟨rfl, rfl⟩
    exact ⟨rfl, .inl ⟨rfl, by simp⟩, Below.refl _ _⟩
  · have hgz := (Array.getElem?_eq_some_iff.1 hg).1
    have hH : Holds (Value.int .i64) V g 0 (l.map fun x : Nat => (x : Int)).toArray := holds_of_blockI hg (by rw [ints_map, List.length_map]; simpa using h4)
    have h := Any.slices_Sort_int Tryz.lays189 g 0 cap (l.map fun x : Nat => (x : Int)) V hH hgz (by simp; omega)
    rw [List.length_map] at h
    refine h.mono ?_
    rintro e w' ⟨rfl, n, os, rfl⟩
    have hrow' := ownsRow_sortedI (n := n) (os := os) (base := base) (cap := cap) (ss := l.map fun x : Nat => (x : Int)) (ts := (l.map fun x : Nat => (x : Int)).mergeSort fun x y => decide (x ≤ y)) (by simp) hbg hg (by simpa using h1) h2 h3
    have hgr := grownBy_sortedI (w := V) (g := g) (n := n) (os := os) ((l.map fun x : Nat => (x : Int)).mergeSort fun x y => decide (x ≤ y)).toArray
    rw [sorted_map] at hrow' hgr ⊢
    refine ⟨rfl, ListAt.of_row (n := base) (e := 3) ?_, ⟨hgr.os, hgr.tape, hgr.output, hgr.size, fun k hk => hgr.block k (by omega) (fun e => by cases e; omega)⟩⟩
    have hll : (l.mergeSort fun x y => decide (x ≤ y)).length = l.length := List.length_mergeSort _
    rw [hll]
    rw [ints_map, List.length_map] at hrow'
    exact hrow'
end Go.Proofs.YtcgihkaglonnaaaGreatDoor
set_option linter.all false
namespace Go.Proofs.YtcgihkaglonnaaaGreatDoor
open Go.RowKit Go.Sort Go.Rg
set_option maxRecDepth 100000

theorem lexC_end (l m : List Nat) (h : l = [] ∨ m = []) : decide (lexC l m < 0) = decide ((l.length : Int) < m.length) := by
  rcases h with rfl | rfl
  · cases m with
    | nil => rfl
    | cons a m => simp [lexC]
  · cases l with
    | nil => rfl
    | cons a l =>
      have : ¬ (((a :: l).length : Int) < ([] : List Nat).length) := by simp only [List.length_cons, List.length_nil]; omega
      rw [decide_eq_false this]
      simp [lexC]

set_option maxHeartbeats 4000000 in
theorem earlier_any (v1 v2 : Value) (l m : List Nat) (w : World) (h1 : ListAt w v1 l) (h2 : ListAt w v2 m) (hl : l.length ≤ 100) (hm : m.length ≤ 100) :
    Calls Tryz.prog 87 #[v1, v2] w fun e w' => e = .returned (.bool (decide (lexC l m < 0))) ∧ Kept w w' := by
  obtain ⟨p1, cap1, rfl⟩ := listAt_len h1
  obtain ⟨p2, cap2, rfl⟩ := listAt_len h2
  generalize hr : decide (lexC l m < 0) = r
  go_enter Tryz.func87, Tryz.ntmps87
  go_wp2_with fail
  go_loopw [5] (fun i W => ∃ k : Nat, k ≤ l.length ∧ k ≤ m.length ∧ i = .int .i64 k ∧ lexC l m = lexC (l.drop k) (m.drop k) ∧ Kept w W) (fun i W => l.length - (intOf i).toNat)
  case atStart => exact ⟨0, by omega, by omega, rfl, rfl, kept_refl _⟩
  case round =>
    obtain ⟨k, hk, hkm, rfl, hlex, hkW⟩ := hrel
    by_cases hlt : k < l.length
    · have hltI : (k : Int) < l.length := by omega
      by_cases hlt2 : k < m.length
      · have hltJ : (k : Int) < m.length := by omega
        have hget : l[k]? = some l[k] := List.getElem?_eq_getElem hlt
        have hd1 : l.drop k = l[k] :: l.drop (k + 1) := List.drop_eq_getElem_cons hlt
        have hget2 : m[k]? = some m[k] := List.getElem?_eq_getElem hlt2
        have hd2 : m.drop k = m[k] :: m.drop (k + 1) := List.drop_eq_getElem_cons hlt2
        rw [hd1, hd2] at hlex
        generalize l[k] = x at *
        generalize m[k] = y at *
        rcases h1.kept hkW with ⟨_, rfl⟩ | ⟨b, cap', e, hb, hc⟩
        · simp at hlt
        cases e
        rcases h2.kept hkW with ⟨_, rfl⟩ | ⟨b2, cap2', e, hb2, hc2⟩
        · simp at hlt2
        cases e
        have q1 : ∀ d os, (grow (redrawn wr d) os).cell? ⟨b, k, none⟩ = some (.int .i64 x) := cell_regrown (hc k x hget)
        have q2 : ∀ d os, (grow (redrawn wr d) os).cell? ⟨b2, k, none⟩ = some (.int .i64 y) := cell_regrown (hc2 k y hget2)
        clear hd1 hd2 hget hget2 hc hc2
        simp only [lexC] at hlex
        by_cases hxy : x = y
        · subst hxy
          have hz : cmpI (x : Int) x = 0 := by simp [cmpI]
          rw [if_pos hz] at hlex
          have hne : ((x : Int) != (x : Int)) = false := by simp
          have HL := Lib.hid hlex; clear hlex hz
          have HR := Lib.hid hr; clear hr
          go_wp2_with fail
          refine wp_region_quiet_below (by kernel_rfl) (by kernel_rfl) ?_
          iterate 9 (any_goals (first | go_big_quiet_skip | quiet_step (fail)))
          refine wpQuiet_nil ?_
          intro _ hw'
          obtain ⟨⟨dq, osq⟩, hw''⟩ := hw'
          subst hw''
          have kW2 := kept_trans hkW (below_regrown wr dq osq)
          go_wp2_with fail
          go_roundw
          case rel => exact ⟨k + 1, by omega, by omega, by go_num, HL.out, kW2⟩
          case measure => simp [intOf]; omega
        · have hne : ((x : Int) != (y : Int)) = true := by simp; omega
          have hz : cmpI (x : Int) y ≠ 0 := by unfold cmpI; split; omega; split <;> omega
          rw [if_neg hz] at hlex
          have hlt3 : decide ((x : Int) < (y : Int)) = r := by
            rw [← hr, hlex]
            unfold cmpI
            by_cases h3 : (x : Int) < y
            · simp [h3]
            · rw [if_neg h3]; simp [h3]; split <;> omega
          clear hlex hz hr
          go_wp2_with fail
          refine wp_region_quiet_below (by kernel_rfl) (by kernel_rfl) ?_
          iterate 9 (any_goals (first | go_big_quiet_skip | quiet_step (fail)))
          refine wpQuiet_nil ?_
          intro _ hw'
          obtain ⟨⟨dq, osq⟩, hw''⟩ := hw'
          subst hw''
          have kW2 := kept_trans hkW (below_regrown wr dq osq)
          have q1' := q1 dq osq
          have q2' := q2 dq osq
          clear q1 q2
          generalize grow (redrawn wr dq) osq = W2 at *
          have q1 : ∀ d os, (grow (redrawn W2 d) os).cell? ⟨b, k, none⟩ = some (.int .i64 x) := cell_regrown q1'
          have q2 : ∀ d os, (grow (redrawn W2 d) os).cell? ⟨b2, k, none⟩ = some (.int .i64 y) := cell_regrown q2'
          clear q1' q2'
          go_wp2_with fail
          refine wp_region_quiet_below (by kernel_rfl) (by kernel_rfl) ?_
          iterate 10 (any_goals (first | go_big_quiet_skip | quiet_step (fail)))
          refine wpQuiet_nil ?_
          intro _ hw'
          obtain ⟨⟨dq, osq⟩, hw''⟩ := hw'
          subst hw''
          have kW3 := kept_trans kW2 (below_regrown W2 dq osq)
          go_wp2_with fail
          go_ret
          exact ⟨by rw [← show decide (x < y) = r by rw [← hlt3]; simp]; rfl, kW3⟩
      · have hltJ : ¬ (k : Int) < m.length := by omega
        have hd2 : m.drop k = [] := List.drop_eq_nil_iff.2 (by omega)
        have he := lexC_end (l.drop k) (m.drop k) (.inr hd2)
        rw [← hlex, hr, List.length_drop, List.length_drop] at he
        have hre : r = decide ((l.length : Int) < m.length) := by rw [he]; congr 1; apply propext; omega
        subst hre
        clear hlex hd2 he hr
        go_wp2_with fail
        go_ret
        exact ⟨rfl, hkW⟩
    · have hltI : ¬ (k : Int) < l.length := by omega
      have hd1 : l.drop k = [] := List.drop_eq_nil_iff.2 (by omega)
      have he := lexC_end (l.drop k) (m.drop k) (.inl hd1)
      rw [← hlex, hr, List.length_drop, List.length_drop] at he
      have hre : r = decide ((l.length : Int) < m.length) := by rw [he]; congr 1; apply propext; omega
      subst hre
      clear hlex hd1 he hr
      go_wp2_with fail
      go_ret
      exact ⟨rfl, hkW⟩

set_option maxHeartbeats 4000000 in
theorem shorter_any (v1 v2 : Value) (l m : List Nat) (w : World) (h1 : ListAt w v1 l) (h2 : ListAt w v2 m) (hl : l.length ≤ 100) (hm : m.length ≤ 100) :
    Calls Tryz.prog 42 #[v1, v2] w fun e w' => e = .returned (.bool (decide (ordC l m < 0))) ∧ Kept w w' := by
  have HE := Lib.hid (earlier_any v1 v2 l m w h1 h2 hl hm)
  obtain ⟨p1, cap1, e1⟩ := listAt_len h1
  obtain ⟨p2, cap2, e2⟩ := listAt_len h2
  rw [e1, e2] at HE
  subst e1 e2
  have ho : ordC l m = if cmpI l.length m.length = 0 then lexC l m else cmpI l.length m.length := rfl
  by_cases hlt : (l.length : Int) < m.length
  · have hr : decide (ordC l m < 0) = true := by rw [ho]; simp [cmpI, hlt]
    rw [hr]
    clear hr ho
    go_enter Tryz.func42, Tryz.ntmps42
    go_wp2_with fail
    go_ret
    exact ⟨rfl, kept_refl _⟩
  · by_cases heq : l.length = m.length
    · have heqI : ((l.length : Int) == (m.length : Int)) = true := by simp; omega
      have hr : decide (ordC l m < 0) = decide (lexC l m < 0) := by rw [ho, heq]; simp [cmpI]
      rw [hr]
      clear hr ho heq
      generalize decide (lexC l m < 0) = r at *
      go_enter Tryz.func42, Tryz.ntmps42
      go_wp2_with (go_at_call 87; refine HE.out.mono ?_; rintro e w' ⟨rfl, hk⟩)
      go_ret
      exact ⟨rfl, hk⟩
    · have heqI : ((l.length : Int) == (m.length : Int)) = false := by simp; omega
      have hr : decide (ordC l m < 0) = false := by
        rw [ho]
        have h1 : cmpI (l.length : Int) m.length = 1 := by unfold cmpI; rw [if_neg hlt, if_pos (by omega)]
        rw [h1]; simp
      rw [hr]
      clear hr ho
      go_enter Tryz.func42, Tryz.ntmps42
      go_wp2_with fail
      go_ret
      exact ⟨rfl, kept_refl _⟩
end Go.Proofs.YtcgihkaglonnaaaGreatDoor
set_option linter.all false
namespace Go.Proofs.YtcgihkaglonnaaaGreatDoor
open Go.RowKit Go.Sort Go.Rg
set_option maxRecDepth 100000

set_option maxHeartbeats 1000000 in
theorem ordered6 (v : Value) (l : List Nat) (n : Nat) (w : World) (h : ListAt w v l) (hl : l.length ≤ 6) (hx : ∀ x ∈ l, x < n) (hn : n ≤ 6) (hi : incr l) :
    Calls Tryz.prog 39 #[v, .int .i64 (n : Int)] w fun e w' => e = .returned (.bool true) ∧ Kept w w' := by
  obtain ⟨p, cap, rfl⟩ := listAt_len h
  go_enter Tryz.func39, Tryz.ntmps39
  go_wp2_with fail
  go_loopw [5] (fun i W => ∃ k : Nat, k ≤ l.length ∧ i = .int .i64 k ∧ Kept w W) (fun i W => l.length - (intOf i).toNat)
  case atStart => exact ⟨0, by omega, rfl, kept_refl _⟩
  case round =>
    obtain ⟨k, hk, rfl, hkW⟩ := hrel
    by_cases hlt : k < l.length
    · have hltI : (k : Int) < l.length := by omega
      have hget : l[k]? = some l[k] := List.getElem?_eq_getElem hlt
      have hxn := hx _ (List.getElem_mem hlt)
      generalize l[k] = x at *
      rcases h.kept hkW with ⟨_, rfl⟩ | ⟨b, cap', e, hb, hc⟩
      · simp at hlt
      cases e
      have hinc := fun y (j : Nat) (e : j + 1 = k) (hy : l[j]? = some y) => hi j y x hy (by rw [e]; exact hget)
      have hcx : ∀ d os, (grow (redrawn wr d) os).cell? ⟨b, k, none⟩ = some (.int .i64 x) := cell_regrown (hc k x hget)
      have hin : inB (x : Int) 0 ((n : Int) - 1) = true := by simp [inB]; omega
      have hwr : IntKind.i64.wrap ((n : Int) - 1) = (n : Int) - 1 := IntWalk.i64_in _ (by omega)
      have hlies : ∀ d os, Calls Tryz.prog 37 #[.int .i64 x, .int .i64 0, .int .i64 ((n : Int) - 1)] (grow (redrawn wr d) os) fun e w'' => e = .returned (.bool true) ∧ ∃ p : Regrown, w'' = grow (redrawn wr p.d) p.os := fun d os => Calls.regrown_of ((lies_any _ _ _ _).mono (by rintro e w' ⟨rfl, rfl⟩; exact ⟨by rw [hin], kept_refl _⟩))
      have HL := Lib.hid hlies
      clear hlies hget hi hx
      go_wp2_with fail
      by_cases hk0 : k = 0
      · subst hk0
        clear hc hinc
        refine wp_region_quiet_below (by kernel_rfl) (by kernel_rfl) ?_
        repeat (any_goals (first | go_big_quiet_skip | quiet_step (first | exact HL.out _ _)))
        refine wpQuiet_nil ?_
        intro _ hw'
        obtain ⟨⟨dq, osq⟩, hw''⟩ := hw'
        subst hw''
        have kW2 := kept_trans hkW (below_regrown wr dq osq)
        go_wp2_with fail
        go_roundw
        case rel => exact ⟨1, by omega, by go_num, kW2⟩
        case measure => simp [intOf]; omega
      · obtain ⟨y, hgy⟩ : ∃ y, l[k - 1]? = some y := ⟨_, List.getElem?_eq_getElem (by omega)⟩
        have hyx := hinc y (k - 1) (by omega) hgy
        have hcy : ∀ d os, (grow (redrawn wr d) os).cell? ⟨b, k - 1, none⟩ = some (.int .i64 y) := cell_regrown (hc (k - 1) y hgy)
        have hle : decide ((x : Int) ≤ (y : Int)) = false := by simp; omega
        have w0 : IntKind.i64.wrap 0 = 0 := IntWalk.i64_in _ (by omega)
        have w1 : IntKind.i64.wrap 1 = 1 := IntWalk.i64_in _ (by omega)
        have w2 : IntKind.i64.wrap 2 = 2 := IntWalk.i64_in _ (by omega)
        have w3 : IntKind.i64.wrap 3 = 3 := IntWalk.i64_in _ (by omega)
        have w4 : IntKind.i64.wrap 4 = 4 := IntWalk.i64_in _ (by omega)
        clear hc hinc hgy
        have hk2 : k + 1 ≤ l.length := hlt
        have HI : Hid (k + 1 ≤ l.length) := Lib.hid hk2
        rcases (show k = 1 ∨ k = 2 ∨ k = 3 ∨ k = 4 ∨ k = 5 by omega) with rfl | rfl | rfl | rfl | rfl
        all_goals
          simp only [Nat.reduceSub] at hcy
          have b0 : (0 : Int) < l.length := by omega
          have b0n : 0 < l.length := by omega
          have b1 : (1 : Int) < l.length := by omega
          try have b2 : (2 : Int) < l.length := by omega
          try have b3 : (3 : Int) < l.length := by omega
          try have b4 : (4 : Int) < l.length := by omega
          try have b5 : (5 : Int) < l.length := by omega
          refine wp_region_quiet_below (by kernel_rfl) (by kernel_rfl) ?_
          repeat (any_goals (first | go_big_quiet_skip | quiet_step (first | exact HL.out _ _)))
          refine wpQuiet_nil ?_
          intro _ hw'
          obtain ⟨⟨dq, osq⟩, hw''⟩ := hw'
          subst hw''
          have kW2 := kept_trans hkW (below_regrown wr dq osq)
          go_wp2_with fail
          go_roundw
          case rel => exact ⟨_, HI.out, by go_num, kW2⟩
          case measure => simp [intOf]; omega
    · have hltI : ¬ (k : Int) < l.length := by omega
      go_wp2_with fail
      go_ret
      exact ⟨rfl, hkW⟩

end Go.Proofs.YtcgihkaglonnaaaGreatDoor
set_option linter.all false
namespace Go.Proofs.YtcgihkaglonnaaaGreatDoor
open Go.RowKit Go.Sort Go.Rg
set_option maxRecDepth 100000

theorem hasN6 : ∀ s : Nat, s < 64 → ∀ n : Nat, n < 6 → (bits BinOp.and IntKind.i64 ((s : Int) / 2 ^ n) 1 == 1) = s.testBit n := by decide +kernel
theorem has6 (s n : Nat) (w : World) (hs : s < 64) (hn : n < 6) : Calls Tryz.prog 85 #[.int .i64 (s : Int), .int .i64 (n : Int)] w fun e w' => e = .returned (.bool (s.testBit n)) ∧ w = w' := by
  have h1 : decide ((n : Int) ≥ 0) = true := by simp
  have h2 : decide ((n : Int) < 62) = true := by simp; omega
  go_enter Tryz.func85, Tryz.ntmps85
  go_wp2_with fail
  go_ret
  exact ⟨by rw [hasN6 s hs n hn]; rfl, rfl⟩

set_option maxHeartbeats 4000000 in
theorem bits6 (s n : Nat) (W : World) (hs : s < 64) (hn : n ≤ 6) :
    Calls Tryz.prog 40 #[.int .i64 (s : Int), .int .i64 (n : Int)] W fun e C => ∃ v, e = .returned v ∧ Kept W C ∧ C.ownsRow W.heap.size 3 1 v (bitsL s n).length (intsV (bitsL s n)) := by
  obtain ⟨i0, hi, hiz, his, hib⟩ := info_parts infoI
  have hk0 : Kept W (W.alloc (Obj.cells #[] 3)) := kept_alloc (kept_refl _) _
  have hrow0 : (W.alloc (Obj.cells #[] 3)).ownsRow W.heap.size 3 1 (.slice (some ⟨W.heap.size, 0, none⟩) 0 0) 0 [] :=
    ⟨rfl, .inr ⟨W.heap.size, 0, #[], rfl, Nat.le_refl _, heap_alloc_new _ _, Nat.le_refl _, by decide, rfl, rfl⟩⟩
  go_enter Tryz.func40, Tryz.ntmps40
  go_wp2_with fail
  generalize hV0 : W.alloc (Obj.cells #[] 3) = V0 at *
  have hz0 : V0.heap.size = W.heap.size + 1 := by rw [← hV0]; simp
  clear hV0
  go_loopw [5, 6] (fun v i V => ∃ j : Nat, j ≤ n ∧ i = .int .i64 j ∧ V.ownsRow W.heap.size 3 1 v (bitsL s j).length (intsV (bitsL s j)) ∧ Kept W V) (fun v i V => n - (intOf i).toNat)
  case atStart => exact ⟨0, by omega, rfl, hrow0, hk0⟩
  case round =>
    obtain ⟨j, hj, rfl, hrow, hV⟩ := hrel
    by_cases hlt : j < n
    · have hltI : (j : Int) < n := by omega
      have hblen := bitsL_len s j
      go_wp2_with fail
      refine (has6 s j _ hs (by omega)).mono ?_
      intro e V2 hh
      obtain ⟨h1, h2⟩ := hh
      subst h2
      cases hb : s.testBit j with
      | false =>
        rw [hb] at h1
        subst h1
        have hL : bitsL s (j + 1) = bitsL s j := by rw [bitsL_succ, hb]; simp
        have HL := Lib.hid hL; clear hL hb
        have HROW := Lib.hid hrow; clear hrow
        go_wp2_with fail
        go_roundw
        case rel => exact ⟨j + 1, by omega, by go_num, by rw [HL.out]; exact HROW.out, hV⟩
        case measure => simp [intOf]; omega
      | true =>
        rw [hb] at h1
        subst h1
        have hL : bitsL s (j + 1) = bitsL s j ++ [j] := by rw [bitsL_succ, hb]; simp
        have HL := Lib.hid hL; clear hL hb
        have hbase : W.heap.size ≤ wr.heap.size := hV.size
        go_wp2_with (at_builtin; refine wpList_append_lies _ rfl _ _ 41 rfl W.heap.size 3 i0 _ 1 8 Tryz.underlying41 hi hiz his hib rfl (by decide) u5 (bitsL s j).length _ rfl (hrow.alloc _) ⟨wr.heap.size, 0, none⟩ 1 1 [.int .i64 (j : Int)] rfl rfl (cell_one_new _ _ _) (by simp [Value.oneCell']) (by decide) (by unfold maxLen; omega) (by omega) (by simp; omega) _ rfl ?_; intro g2 cap2 V3 hown hgrow hat hlt3)
        have hkV3 : Kept W V3 := by
          refine Below.trans (kept_trans hV (kept_alloc (kept_refl _) (Obj.cells #[.int .i64 (j : Int)] 3))) ⟨hgrow.os, hgrow.tape, hgrow.output, hgrow.size, fun k hk => hgrow.block k (by simp; omega) (fun e => ?_)⟩
          have := (hrow.lt k e.symm).1
          omega
        go_roundw
        case rel =>
          refine ⟨j + 1, by omega, by go_num, ?_, hkV3⟩
          rw [HL.out]
          simpa [intsV] using hown
        case measure => simp [intOf]; omega
    · have hltI : ¬ (j : Int) < n := by omega
      have hje : j = n := by omega
      go_wp2_with fail
      go_ret
      exact ⟨_, rfl, hV, by rw [← hje]; exact hrow⟩
end Go.Proofs.YtcgihkaglonnaaaGreatDoor
set_option linter.all false
namespace Go.Proofs.YtcgihkaglonnaaaGreatDoor
open Go.RowKit Go.Sort Go.Rg
set_option maxRecDepth 100000

theorem new3_0 (w : World) (a b c : Value) (ty : TypeId) : (w.alloc (Obj.cells #[a, b, c] ty)).cell? ⟨w.heap.size, 0, none⟩ = some a := by go_simp
theorem new3_1 (w : World) (a b c : Value) (ty : TypeId) : (w.alloc (Obj.cells #[a, b, c] ty)).cell? ⟨w.heap.size, 1, none⟩ = some b := by go_simp
theorem new3_2 (w : World) (a b c : Value) (ty : TypeId) : (w.alloc (Obj.cells #[a, b, c] ty)).cell? ⟨w.heap.size, 2, none⟩ = some c := by go_simp
theorem new3_f (w : World) (a b c : Value) (ty : TypeId) (i : Nat) : (w.alloc (Obj.cells #[a, b, c] ty)).frozen? ⟨w.heap.size, i, none⟩ = false := by go_simp
/-- what is known while a region is carried out, in whatever order, of which one operation (b) makes memory and another one, behind it, (s) writes to that memory -/
def StM (b s : Nat) (vs : Nat → Value) (V WB WS : World) (l : List Oper) (a0 : Act) (listed : Array Bool) (a : Act) (w : World) : Prop :=
  AtSt l.toArray vs a0 listed a ∧ (on listed s = true → on listed b = true) ∧ w = if on listed s then WS else if on listed b then WB else V.drew
section
variable {l : List Oper} {a0 a : Act} {b s : Nat} {vs : Nat → Value} {V WB WS w : World} {listed : Array Bool} {i : Nat} {o : Oper}
theorem StM.start : StM b s vs V WB WS l a0 (Array.replicate l.length false) a0 V.drew := by
  have no : ∀ j, on (Array.replicate l.length false) j = false := fun j => by
    unfold on
    simp only [Array.getD_eq_getD_getElem?, Array.getElem?_replicate]
    split <;> simp
  refine ⟨⟨rfl, rfl, fun j o d hj => ?_, fun t _ => rfl⟩, (fun h => by rw [no] at h; cases h), by rw [no, no]; rfl⟩
  have := no j
  unfold on at this
  rw [this] at hj; cases hj
theorem StM.pure (hd : distFrom l = true) (ha : AtSt l.toArray vs a0 listed a) (hbs : on listed s = true → on listed b = true) (hw : w = if on listed s then WS else if on listed b then WB else V.drew) (ho : l[i]? = some o) (h1 : listed.getD i true = false) (ib : i ≠ b) (is : i ≠ s) :
    StM b s vs V WB WS l a0 (listed.setIfInBounds i true) (a.put o.dst (vs i)) w :=
  ⟨ha.put (by simpa using ho) h1 (dist_arr hd), by rw [on_set (Ne.symm is), on_set (Ne.symm ib)]; exact hbs, by rw [on_set (Ne.symm is), on_set (Ne.symm ib)]; exact hw⟩
theorem StM.built (hd : distFrom l = true) (ha : AtSt l.toArray vs a0 listed a) (hbs : on listed s = true → on listed b = true) (hw : w = if on listed s then WS else if on listed b then WB else V.drew) (hl : listed.size = l.length) (ho : l[b]? = some o) (h1 : listed.getD b true = false) (bs : b ≠ s) :
    w = V.drew ∧ StM b s vs V WB WS l a0 (listed.setIfInBounds b true) (a.put o.dst (vs b)) WB := by
  have hz : b < listed.size := by rw [hl]; exact (List.getElem?_eq_some_iff.1 ho).1
  have hb := on_no h1
  have hs : on listed s = false := by
    cases h : on listed s with
    | false => rfl
    | true => rw [hbs h] at hb; cases hb
  rw [hs, hb] at hw
  exact ⟨hw, ha.put (by simpa using ho) h1 (dist_arr hd), fun _ => on_self hz, by rw [on_set (Ne.symm bs), hs, on_self hz]; rfl⟩
theorem StM.stored (hd : distFrom l = true) (ha : AtSt l.toArray vs a0 listed a) (hw : w = if on listed s then WS else if on listed b then WB else V.drew) (hl : listed.size = l.length) (ho : l[s]? = some o) (h1 : listed.getD s true = false) (hn : o.dst = none) (hb : on listed b = true) :
    w = WB ∧ StM b s vs V WB WS l a0 (listed.setIfInBounds s true) a WS := by
  have hz : s < listed.size := by rw [hl]; exact (List.getElem?_eq_some_iff.1 ho).1
  rw [on_no h1, hb] at hw
  have := ha.put (i := s) (by simpa using ho) h1 (dist_arr hd)
  rw [hn] at this
  exact ⟨hw, this, fun _ => on_set_mono hb, by rw [on_self hz]; rfl⟩
end

/-- what an append of one trial onto a full slice answers -/
def Full (w : World) (ts : List Trial) (t : Trial) (r : Value) (wc : World) : Prop :=
  ∃ g cap, r = .slice (some ⟨g, 0, none⟩) (ts.length + 1) cap ∧ w.heap.size ≤ g ∧ wc.ownsRow g 49 4 r (ts.length + 1) (ts.flatMap trialC ++ trialC t) ∧ Kept w wc

set_option maxHeartbeats 8000000 in
theorem cwith_any (c : Choir) (t : Trial) (W : World) (S : Nat → Prop) (h : ChoirAt S W c) (hS : ∀ b, S b → b < W.heap.size) (hL : Laid W) (hok : (Book.mk c.B.boys c.B.weeks (c.B.trials ++ [t])).okB = true) :
    Calls Tryz.prog 81 #[c.val, .agg #[.int .i64 t.boy, .int .i64 t.week, .int .i64 t.note, .int .i64 t.sang]] W fun e C =>
      ∃ c' : Choir, c'.B = ⟨c.B.boys, c.B.weeks, c.B.trials ++ [t]⟩ ∧ e = .returned c'.val ∧ Kept W C ∧ ∃ S', ChoirAt S' C c' ∧ ∀ b, S' b → b < C.heap.size := by
  unfold Choir.val
  go_enter Tryz.func81, Tryz.ntmps81
  go_wp2_with fail
  have hk0 : Kept W (((W.alloc (Obj.cells #[.slice (some ⟨c.bb, c.ob, none⟩) c.B.boys.length c.capb, .int .i64 c.B.weeks, .slice c.q c.B.trials.length c.capt, .map (some c.bm)] 70)).alloc (Obj.cells #[.int .i64 t.boy, .int .i64 t.week, .int .i64 t.note, .int .i64 t.sang] 49)).alloc (Obj.cells #[.slice none 0 0, .int .i64 0, .slice none 0 0, .map none] 70)) := kept_alloc (kept_alloc (kept_alloc (kept_refl _) _) _) _
  have hsz0 : (((W.alloc (Obj.cells #[.slice (some ⟨c.bb, c.ob, none⟩) c.B.boys.length c.capb, .int .i64 c.B.weeks, .slice c.q c.B.trials.length c.capt, .map (some c.bm)] 70)).alloc (Obj.cells #[.int .i64 t.boy, .int .i64 t.week, .int .i64 t.note, .int .i64 t.sang] 49)).alloc (Obj.cells #[.slice none 0 0, .int .i64 0, .slice none 0 0, .map none] 70)).heap.size = W.heap.size + 1 + 1 + 1 := by simp
  have x0 : (((W.alloc (Obj.cells #[.slice (some ⟨c.bb, c.ob, none⟩) c.B.boys.length c.capb, .int .i64 c.B.weeks, .slice c.q c.B.trials.length c.capt, .map (some c.bm)] 70)).alloc (Obj.cells #[.int .i64 t.boy, .int .i64 t.week, .int .i64 t.note, .int .i64 t.sang] 49)).alloc (Obj.cells #[.slice none 0 0, .int .i64 0, .slice none 0 0, .map none] 70)).cell? ⟨W.heap.size, 0, none⟩ = some (.slice (some ⟨c.bb, c.ob, none⟩) c.B.boys.length c.capb) := by go_simp
  have x1 : (((W.alloc (Obj.cells #[.slice (some ⟨c.bb, c.ob, none⟩) c.B.boys.length c.capb, .int .i64 c.B.weeks, .slice c.q c.B.trials.length c.capt, .map (some c.bm)] 70)).alloc (Obj.cells #[.int .i64 t.boy, .int .i64 t.week, .int .i64 t.note, .int .i64 t.sang] 49)).alloc (Obj.cells #[.slice none 0 0, .int .i64 0, .slice none 0 0, .map none] 70)).cell? ⟨W.heap.size, 1, none⟩ = some (.int .i64 c.B.weeks) := by go_simp
  have x2 : (((W.alloc (Obj.cells #[.slice (some ⟨c.bb, c.ob, none⟩) c.B.boys.length c.capb, .int .i64 c.B.weeks, .slice c.q c.B.trials.length c.capt, .map (some c.bm)] 70)).alloc (Obj.cells #[.int .i64 t.boy, .int .i64 t.week, .int .i64 t.note, .int .i64 t.sang] 49)).alloc (Obj.cells #[.slice none 0 0, .int .i64 0, .slice none 0 0, .map none] 70)).cell? ⟨W.heap.size, 2, none⟩ = some (.slice c.q c.B.trials.length c.capt) := by go_simp
  have v0 : (((W.alloc (Obj.cells #[.slice (some ⟨c.bb, c.ob, none⟩) c.B.boys.length c.capb, .int .i64 c.B.weeks, .slice c.q c.B.trials.length c.capt, .map (some c.bm)] 70)).alloc (Obj.cells #[.int .i64 t.boy, .int .i64 t.week, .int .i64 t.note, .int .i64 t.sang] 49)).alloc (Obj.cells #[.slice none 0 0, .int .i64 0, .slice none 0 0, .map none] 70)).cell? ⟨W.heap.size + 1, 0, none⟩ = some (.int .i64 t.boy) := by go_simp
  have v1 : (((W.alloc (Obj.cells #[.slice (some ⟨c.bb, c.ob, none⟩) c.B.boys.length c.capb, .int .i64 c.B.weeks, .slice c.q c.B.trials.length c.capt, .map (some c.bm)] 70)).alloc (Obj.cells #[.int .i64 t.boy, .int .i64 t.week, .int .i64 t.note, .int .i64 t.sang] 49)).alloc (Obj.cells #[.slice none 0 0, .int .i64 0, .slice none 0 0, .map none] 70)).cell? ⟨W.heap.size + 1, 1, none⟩ = some (.int .i64 t.week) := by go_simp
  have v2 : (((W.alloc (Obj.cells #[.slice (some ⟨c.bb, c.ob, none⟩) c.B.boys.length c.capb, .int .i64 c.B.weeks, .slice c.q c.B.trials.length c.capt, .map (some c.bm)] 70)).alloc (Obj.cells #[.int .i64 t.boy, .int .i64 t.week, .int .i64 t.note, .int .i64 t.sang] 49)).alloc (Obj.cells #[.slice none 0 0, .int .i64 0, .slice none 0 0, .map none] 70)).cell? ⟨W.heap.size + 1, 2, none⟩ = some (.int .i64 t.note) := by go_simp
  have v3 : (((W.alloc (Obj.cells #[.slice (some ⟨c.bb, c.ob, none⟩) c.B.boys.length c.capb, .int .i64 c.B.weeks, .slice c.q c.B.trials.length c.capt, .map (some c.bm)] 70)).alloc (Obj.cells #[.int .i64 t.boy, .int .i64 t.week, .int .i64 t.note, .int .i64 t.sang] 49)).alloc (Obj.cells #[.slice none 0 0, .int .i64 0, .slice none 0 0, .map none] 70)).cell? ⟨W.heap.size + 1, 3, none⟩ = some (.int .i64 t.sang) := by go_simp
  have r0 : (((W.alloc (Obj.cells #[.slice (some ⟨c.bb, c.ob, none⟩) c.B.boys.length c.capb, .int .i64 c.B.weeks, .slice c.q c.B.trials.length c.capt, .map (some c.bm)] 70)).alloc (Obj.cells #[.int .i64 t.boy, .int .i64 t.week, .int .i64 t.note, .int .i64 t.sang] 49)).alloc (Obj.cells #[.slice none 0 0, .int .i64 0, .slice none 0 0, .map none] 70)).cell? ⟨W.heap.size + 1 + 1, 0, none⟩ = some (.slice none 0 0) := by go_simp
  have r1 : (((W.alloc (Obj.cells #[.slice (some ⟨c.bb, c.ob, none⟩) c.B.boys.length c.capb, .int .i64 c.B.weeks, .slice c.q c.B.trials.length c.capt, .map (some c.bm)] 70)).alloc (Obj.cells #[.int .i64 t.boy, .int .i64 t.week, .int .i64 t.note, .int .i64 t.sang] 49)).alloc (Obj.cells #[.slice none 0 0, .int .i64 0, .slice none 0 0, .map none] 70)).cell? ⟨W.heap.size + 1 + 1, 1, none⟩ = some (.int .i64 0) := by go_simp
  have r2 : (((W.alloc (Obj.cells #[.slice (some ⟨c.bb, c.ob, none⟩) c.B.boys.length c.capb, .int .i64 c.B.weeks, .slice c.q c.B.trials.length c.capt, .map (some c.bm)] 70)).alloc (Obj.cells #[.int .i64 t.boy, .int .i64 t.week, .int .i64 t.note, .int .i64 t.sang] 49)).alloc (Obj.cells #[.slice none 0 0, .int .i64 0, .slice none 0 0, .map none] 70)).cell? ⟨W.heap.size + 1 + 1, 2, none⟩ = some (.slice none 0 0) := by go_simp
  have r3 : (((W.alloc (Obj.cells #[.slice (some ⟨c.bb, c.ob, none⟩) c.B.boys.length c.capb, .int .i64 c.B.weeks, .slice c.q c.B.trials.length c.capt, .map (some c.bm)] 70)).alloc (Obj.cells #[.int .i64 t.boy, .int .i64 t.week, .int .i64 t.note, .int .i64 t.sang] 49)).alloc (Obj.cells #[.slice none 0 0, .int .i64 0, .slice none 0 0, .map none] 70)).cell? ⟨W.heap.size + 1 + 1, 3, none⟩ = some (.map none) := by go_simp
  have rf : ∀ i, (((W.alloc (Obj.cells #[.slice (some ⟨c.bb, c.ob, none⟩) c.B.boys.length c.capb, .int .i64 c.B.weeks, .slice c.q c.B.trials.length c.capt, .map (some c.bm)] 70)).alloc (Obj.cells #[.int .i64 t.boy, .int .i64 t.week, .int .i64 t.note, .int .i64 t.sang] 49)).alloc (Obj.cells #[.slice none 0 0, .int .i64 0, .slice none 0 0, .map none] 70)).frozen? ⟨W.heap.size + 1 + 1, i, none⟩ = false := by intro i; go_simp
  generalize (((W.alloc (Obj.cells #[.slice (some ⟨c.bb, c.ob, none⟩) c.B.boys.length c.capb, .int .i64 c.B.weeks, .slice c.q c.B.trials.length c.capt, .map (some c.bm)] 70)).alloc (Obj.cells #[.int .i64 t.boy, .int .i64 t.week, .int .i64 t.note, .int .i64 t.sang] 49)).alloc (Obj.cells #[.slice none 0 0, .int .i64 0, .slice none 0 0, .map none] 70)) = V at *
  have HSZ := Lib.hid hsz0; clear hsz0
  have hLV := hL.kept hk0
  have hboys := h.boys.kept hk0
  have htr : c.B.trials = [] ∨ ∃ b o, c.q = some ⟨b, o, none⟩ ∧ TrialsAt V b o c.B.trials := h.trials.imp id fun ⟨b, o, e, _, ht⟩ => ⟨b, o, e, ht.kept hk0⟩
  have hz0 := Go.Ai.lt_of_cell x0
  obtain ⟨WB, hWB⟩ : ∃ WB, WB = V.drew.alloc (Obj.cells #[.slice none 0 0, .int .i64 0, .slice none 0 0] 25) := ⟨_, rfl⟩
  obtain ⟨WS, hWS⟩ : ∃ WS, WS = ((WB.setCell ⟨V.heap.size, 0, none⟩ (.slice (some ⟨c.bb, c.ob, none⟩) c.B.boys.length c.capb)).setCell ⟨V.heap.size, 1, none⟩ (.int .i64 c.B.weeks)).setCell ⟨V.heap.size, 2, none⟩ (.slice c.q c.B.trials.length c.capt) := ⟨_, rfl⟩
  have kWB : Kept V WB := hWB ▸ kept_alloc (kept_drew (kept_refl _)) _
  have kWS : Kept V WS := hWS ▸ Below.setCell (p := ⟨V.heap.size, 2, none⟩) (Below.setCell (p := ⟨V.heap.size, 1, none⟩) (Below.setCell (p := ⟨V.heap.size, 0, none⟩) kWB (Nat.le_refl _) _) (Nat.le_refl _) _) (Nat.le_refl _) _
  have w0 : WB.cell? ⟨V.heap.size, 0, none⟩ = some (.slice none 0 0) := by rw [hWB]; exact new3_0 V.drew _ _ _ _
  have w1 : WB.cell? ⟨V.heap.size, 1, none⟩ = some (.int .i64 0) := by rw [hWB]; exact new3_1 V.drew _ _ _ _
  have w2 : WB.cell? ⟨V.heap.size, 2, none⟩ = some (.slice none 0 0) := by rw [hWB]; exact new3_2 V.drew _ _ _ _
  have wf : ∀ i, WB.frozen? ⟨V.heap.size, i, none⟩ = false := by intro i; rw [hWB]; exact new3_f V.drew _ _ _ _ i
  have y0 : WS.cell? ⟨V.heap.size, 0, none⟩ = some (.slice (some ⟨c.bb, c.ob, none⟩) c.B.boys.length c.capb) := by rw [hWS, cell_set_ne (by omega), cell_set_ne (by omega)]; exact cell_set_eq w0
  have y1 : WS.cell? ⟨V.heap.size, 1, none⟩ = some (.int .i64 c.B.weeks) := by rw [hWS, cell_set_ne (by omega)]; exact cell_set_eq ((cell_set_ne (by omega)).trans w1)
  have y2 : WS.cell? ⟨V.heap.size, 2, none⟩ = some (.slice c.q c.B.trials.length c.capt) := by rw [hWS]; exact cell_set_eq ((cell_set_ne (by omega)).trans ((cell_set_ne (by omega)).trans w2))
  have yf : ∀ i, WS.frozen? ⟨V.heap.size, i, none⟩ = false := fun i => by rw [hWS, World.frozen?_setCell, World.frozen?_setCell, World.frozen?_setCell]; exact wf i
  have HF := Lib.hid (And.intro w0 (And.intro w1 (And.intro w2 wf)))
  clear w0 w1 w2 wf
  have HW := Lib.hid (And.intro hWB hWS)
  have HK := Lib.hid (And.intro kWB kWS)
  clear hWB hWS kWB kWS
  refine (wpIn_wide (n := 0)).1 (wpIn_region_invL (StM 6 7 (fun k => match k with | 0 => .pointer (some ⟨W.heap.size, 0, none⟩) | 1 => .agg #[.slice (some ⟨c.bb, c.ob, none⟩) c.B.boys.length c.capb, .int .i64 c.B.weeks, .slice c.q c.B.trials.length c.capt] | 2 => .pointer (some ⟨W.heap.size, 0, none⟩) | 3 => .pointer (some ⟨W.heap.size, 2, none⟩) | 4 => .slice c.q c.B.trials.length c.capt | 6 => .pointer (some ⟨V.heap.size, 0, none⟩) | _ => .int .i64 (c.B.trials.length : Int)) V WB WS) (by kernel_rfl) (by kernel_rfl) StM.start ?hop ?hend)
  case hop =>
    rintro i o listed a w hl ho h1 h2 hcl ⟨ha, hbs, hw⟩
    have hi9 : i < 9 := (List.getElem?_eq_some_iff.1 ho).1
    have kd : Kept V w := by
      rw [hw]
      split
      · exact HK.out.2
      · split
        · exact HK.out.1
        · exact kept_drew (kept_refl V)
    match i, ho with
    | 0, ho =>
      have st := StM.pure (by kernel_rfl) ha hbs hw ho h1 (by omega) (by omega)
      have ST := Lib.hid st; clear st hw
      cases ho
      rw [if_pos (by rfl)]
      have t2 := ha.old 2 (by kernel_rfl)
      simp at t2
      go_simp
      exact ST.out
    | 1, ho =>
      have st := StM.pure (by kernel_rfl) ha hbs hw ho h1 (by omega) (by omega)
      have ST := Lib.hid st; clear st hw
      cases ho
      rw [if_pos (by rfl)]
      have t7 := ha.new 0 (h2 ⟨0, .data⟩ (by simp) rfl) (d := 7) rfl rfl (by simp)
      simp at t7
      have c0 := kcell kd x0
      have c1 := kcell kd x1
      have c2 := kcell kd x2
      go_simp
      exact ST.out
    | 2, ho =>
      have st := StM.pure (by kernel_rfl) ha hbs hw ho h1 (by omega) (by omega)
      have ST := Lib.hid st; clear st hw
      cases ho
      rw [if_pos (by rfl)]
      have t2 := ha.old 2 (by kernel_rfl)
      simp at t2
      go_simp
      exact ST.out
    | 3, ho =>
      have st := StM.pure (by kernel_rfl) ha hbs hw ho h1 (by omega) (by omega)
      have ST := Lib.hid st; clear st hw
      cases ho
      rw [if_pos (by rfl)]
      have t9 := ha.new 2 (h2 ⟨2, .data⟩ (by simp) rfl) (d := 9) rfl rfl (by simp)
      simp at t9
      go_simp
      exact ST.out
    | 4, ho =>
      have st := StM.pure (by kernel_rfl) ha hbs hw ho h1 (by omega) (by omega)
      have ST := Lib.hid st; clear st hw
      cases ho
      rw [if_pos (by rfl)]
      have t10 := ha.new 3 (h2 ⟨3, .data⟩ (by simp) rfl) (d := 10) rfl rfl (by simp)
      simp at t10
      have c0 := kcell kd x2
      go_simp
      exact ST.out
    | 5, ho =>
      have st := StM.pure (by kernel_rfl) ha hbs hw ho h1 (by omega) (by omega)
      have ST := Lib.hid st; clear st hw
      cases ho
      rw [if_pos (by rfl)]
      have t11 := ha.new 4 (h2 ⟨4, .data⟩ (by simp) rfl) (d := 11) rfl rfl (by simp)
      simp at t11
      go_simp
      exact ST.out
    | 6, ho =>
      obtain ⟨hwd, st⟩ := StM.built (by kernel_rfl) ha hbs hw hl ho h1 (by omega)
      have HWD := Lib.hid hwd; clear hwd hw
      have ST := Lib.hid st; clear st
      cases ho
      rw [if_pos (by rfl)]
      go_simp
      rw [HWD.out, show V.drew.heap.size = V.heap.size from rfl, ← HW.out.1]
      exact ST.out
    | 7, ho =>
      have b6 : on listed 6 = true := h2 ⟨6, .data⟩ (by cases ho; simp) rfl
      have b1 : on listed 1 = true := h2 ⟨1, .data⟩ (by cases ho; simp) rfl
      obtain ⟨hwd, st⟩ := StM.stored (by kernel_rfl) ha hw hl ho h1 (by cases ho; rfl) b6
      have ST := Lib.hid st; clear st hw kd
      have t5 := ha.new 6 b6 (d := 5) rfl rfl (by simp)
      have t8 := ha.new 1 b1 (d := 8) rfl rfl (by simp)
      simp at t5 t8
      obtain ⟨w0, w1, w2, wf⟩ := HF.out
      have wf0 := wf 0
      have wf1 := wf 1
      have wf2 := wf 2
      clear wf
      subst hwd
      cases ho
      rw [if_pos (by rfl)]
      go_simp
      rw [← HW.out.2]
      exact ST.out
    | 8, ho =>
      have st := StM.pure (by kernel_rfl) ha hbs hw ho h1 (by omega) (by omega)
      have ST := Lib.hid st; clear st hw
      cases ho
      rw [if_pos (by rfl)]
      have t12 := ha.new 5 (h2 ⟨5, .data⟩ (by simp) rfl) (d := 12) rfl rfl (by simp)
      simp at t12
      go_simp
      exact ST.out
  case hend =>
    rintro listed a w hall ⟨ha, -, hw⟩
    rw [show on listed 7 = true from hall 7 (by simp), if_pos rfl] at hw
    subst hw
    have hLS := hLV.kept HK.out.2
    have htS : c.B.trials = [] ∨ ∃ b o, c.q = some ⟨b, o, none⟩ ∧ TrialsAt w b o c.B.trials := htr.imp id fun ⟨b, o, e, ht⟩ => ⟨b, o, e, ht.kept HK.out.2⟩
    have hbS := hboys.kept HK.out.2
    have kS := HK.out.2
    obtain ⟨y, hy, hae⟩ := atSt_mid2 ha 5 8 (by kernel_rfl) (by simp)
    have e5 := (hy 0 (by omega)).symm.trans (ha.new 6 (hall 6 (by simp)) (d := 5) rfl rfl (by simp))
    have e6 := (hy 1 (by omega)).symm.trans (ha.new 8 (hall 8 (by simp)) (d := 6) rfl rfl (by simp))
    simp at e5 e6
    simp only [List.range, List.range.loop, List.map, List.take_succ_cons, List.take_zero, List.drop_succ_cons, List.drop_zero, List.cons_append, List.nil_append, Nat.reduceAdd] at hae
    rw [e5, e6] at hae
    subst hae
    clear ha hy e5 e6
    refine (by assumption : ∀ a w, Code.wp _ _ _ a w → _) _ _ ?_
    replace v0 := kcell kS v0
    replace v1 := kcell kS v1
    replace v2 := kcell kS v2
    replace v3 := kcell kS v3
    replace r0 := kcell kS r0
    replace r1 := kcell kS r1
    replace r2 := kcell kS r2
    replace r3 := kcell kS r3
    have rf : ∀ i, w.frozen? ⟨W.heap.size + 1 + 1, i, none⟩ = false := fun i => ((kturns kS (fun _ => False)).frozen (by have := HSZ.out; omega) (fun h => h)).trans (rf i)
    have hkW : Kept W w := kept_trans hk0 kS
    clear HW HF HK htr hboys hLV x0 x1 x2
    have HROOM := Lib.hid h.room
    obtain ⟨WB2, hWB2⟩ : ∃ WB, WB = w.drew.alloc (Obj.cells #[.int .i64 t.boy, .int .i64 t.week, .int .i64 t.note, .int .i64 t.sang] 49) := ⟨_, rfl⟩
    have HKB := Lib.hid (show Kept w WB2 from hWB2 ▸ kept_alloc (kept_drew (kept_refl _)) _)
    have hlen : c.B.trials.length ≤ 1000 := by
      have := hok
      simp only [Book.okB, Bool.and_eq_true, decide_eq_true_eq, List.length_append, List.length_singleton] at this
      omega
    have HRUN := Lib.hid (run_append_full 23 WB2 c.q c.B.trials t (htS.imp id fun ⟨b, o, e, ht⟩ => ⟨b, o, e, ht.kept HKB.out⟩) hlen ⟨w.heap.size, 0, none⟩ 1 (trial_news t hWB2))
    have HSZ2 := Lib.hid (show w.heap.size ≤ WB2.heap.size from HKB.out.size)
    have HWB := Lib.hid hWB2; clear hWB2
    have HLS := Lib.hid hLS; clear hLS
    go_wp2_with fail
    refine (wpIn_wide (n := 0)).1 (wpIn_region_invL (StA 6 7 9 (fun k => match k with | 0 => .pointer (some ⟨V.heap.size, 2, none⟩) | 1 => .slice c.q c.B.trials.length c.capt | 2 => .int .i64 (c.B.trials.length : Int) | 3 => .int .i64 (c.B.trials.length : Int) | 4 => .slice c.q c.B.trials.length c.B.trials.length | 5 => t.val | 6 => .slice (some ⟨w.heap.size, 0, none⟩) 1 1 | _ => .pointer (some ⟨V.heap.size, 2, none⟩)) w WB2 (Full w c.B.trials t) ⟨V.heap.size, 2, none⟩) (by kernel_rfl) (by kernel_rfl) StA.start ?hop2 ?hend2)
    case hop2 =>
      clear hall htS hbS
      rintro i o listed a w1 hl ho h1 h2 hcl ⟨r, ha, hf, ht⟩
      have hi10 : i < 10 := (List.getElem?_eq_some_iff.1 ho).1
      match i, ho with
      | 0, ho =>
        have n8 : on listed 7 = false := by
          cases b7 : on listed 7 with
          | false => rfl
          | true =>
            have b4 := hcl 7 _ rfl b7 ⟨4, .data⟩ (by simp) rfl
            have b1 := hcl 4 _ rfl b4 ⟨1, .data⟩ (by simp) rfl
            have b0 := hcl 1 _ rfl b1 ⟨0, .data⟩ (by simp) rfl
            rw [on_no h1] at b0; cases b0
        have kd : Kept w w1 := StA_kept hf n8 HKB.out
        have st := StA.pure (by kernel_rfl) ha hf ht ho h1 (by omega) (by omega) (by omega)
        have ST := Lib.hid st; clear st ht hf
        cases ho
        rw [if_pos (by rfl)]
        have t5 := ha.old 5 (by kernel_rfl)
        simp at t5
        go_simp
        exact ST.out
      | 1, ho =>
        have n8 : on listed 7 = false := by
          cases b7 : on listed 7 with
          | false => rfl
          | true =>
            have b4 := hcl 7 _ rfl b7 ⟨4, .data⟩ (by simp) rfl
            have b1 := hcl 4 _ rfl b4 ⟨1, .data⟩ (by simp) rfl
            rw [on_no h1] at b1; cases b1
        have kd : Kept w w1 := StA_kept hf n8 HKB.out
        have st := StA.pure (by kernel_rfl) ha hf ht ho h1 (by omega) (by omega) (by omega)
        have ST := Lib.hid st; clear st ht hf
        cases ho
        rw [if_pos (by rfl)]
        have t13 := ha.new 0 (h2 ⟨0, .data⟩ (by simp) rfl) (d := 13) rfl rfl (by simp)
        simp at t13
        have c0 := kcell kd y2
        go_simp
        exact ST.out
      | 2, ho =>
        have n8 : on listed 7 = false := by
          cases b7 : on listed 7 with
          | false => rfl
          | true =>
            have b4 := hcl 7 _ rfl b7 ⟨4, .data⟩ (by simp) rfl
            have b2 := hcl 4 _ rfl b4 ⟨2, .data⟩ (by simp) rfl
            rw [on_no h1] at b2; cases b2
        have kd : Kept w w1 := StA_kept hf n8 HKB.out
        have st := StA.pure (by kernel_rfl) ha hf ht ho h1 (by omega) (by omega) (by omega)
        have ST := Lib.hid st; clear st ht hf
        cases ho
        rw [if_pos (by rfl)]
        have t6 := ha.old 6 (by kernel_rfl)
        simp at t6
        go_simp
        exact ST.out
      | 3, ho =>
        have n8 : on listed 7 = false := by
          cases b7 : on listed 7 with
          | false => rfl
          | true =>
            have b4 := hcl 7 _ rfl b7 ⟨4, .data⟩ (by simp) rfl
            have b3 := hcl 4 _ rfl b4 ⟨3, .data⟩ (by simp) rfl
            rw [on_no h1] at b3; cases b3
        have kd : Kept w w1 := StA_kept hf n8 HKB.out
        have st := StA.pure (by kernel_rfl) ha hf ht ho h1 (by omega) (by omega) (by omega)
        have ST := Lib.hid st; clear st ht hf
        cases ho
        rw [if_pos (by rfl)]
        have t6 := ha.old 6 (by kernel_rfl)
        simp at t6
        go_simp
        exact ST.out
      | 4, ho =>
        have n8 : on listed 7 = false := by
          cases b7 : on listed 7 with
          | false => rfl
          | true =>
            have b4 := hcl 7 _ rfl b7 ⟨4, .data⟩ (by simp) rfl
            rw [on_no h1] at b4; cases b4
        have kd : Kept w w1 := StA_kept hf n8 HKB.out
        have st := StA.pure (by kernel_rfl) ha hf ht ho h1 (by omega) (by omega) (by omega)
        have ST := Lib.hid st; clear st ht hf
        cases ho
        rw [if_pos (by rfl)]
        have t14 := ha.new 1 (h2 ⟨1, .data⟩ (by simp) rfl) (d := 14) rfl rfl (by simp)
        simp at t14
        have t15 := ha.new 2 (h2 ⟨2, .data⟩ (by simp) rfl) (d := 15) rfl rfl (by simp)
        simp at t15
        have t16 := ha.new 3 (h2 ⟨3, .data⟩ (by simp) rfl) (d := 16) rfl rfl (by simp)
        simp at t16
        have hroom := HROOM.out
        go_simp
        exact ST.out
      | 5, ho =>
        have n8 : on listed 7 = false := by
          cases b7 : on listed 7 with
          | false => rfl
          | true =>
            have b6 := hcl 7 _ rfl b7 ⟨6, .data⟩ (by simp) rfl
            have b5 := hcl 6 _ rfl b6 ⟨5, .data⟩ (by simp) rfl
            rw [on_no h1] at b5; cases b5
        have kd : Kept w w1 := StA_kept hf n8 HKB.out
        have st := StA.pure (by kernel_rfl) ha hf ht ho h1 (by omega) (by omega) (by omega)
        have ST := Lib.hid st; clear st ht hf
        cases ho
        rw [if_pos (by rfl)]
        have t3 := ha.old 3 (by kernel_rfl)
        simp at t3
        have c0 := kcell kd v0
        have c1 := kcell kd v1
        have c2 := kcell kd v2
        have c3 := kcell kd v3
        unfold Trial.val at ST
        go_simp
        exact ST.out
      | 6, ho =>
        have n8 : on listed 7 = false := by
          cases b7 : on listed 7 with
          | false => rfl
          | true =>
            have b6 := hcl 7 _ rfl b7 ⟨6, .data⟩ (by simp) rfl
            rw [on_no h1] at b6; cases b6
        obtain ⟨hwd, st⟩ := StA.built (s := 9) (X := ⟨V.heap.size, 2, none⟩) (R := Full w c.B.trials t) (by kernel_rfl) ha hf hl ho h1 (by omega) n8
        have HWD := Lib.hid hwd; clear hwd
        have ST := Lib.hid st; clear st ht hf
        cases ho
        rw [if_pos (by rfl)]
        have t18 := ha.new 5 (h2 ⟨5, .data⟩ (by simp) rfl) (d := 18) rfl rfl (by simp)
        simp at t18
        unfold Trial.val at t18
        go_simp
        rw [HWD.out, show w.drew.heap.size = w.heap.size from rfl, ← HWB.out]
        exact ST.out
      | 7, ho =>
        have b4 : on listed 4 = true := h2 ⟨4, .data⟩ (by cases ho; simp) rfl
        have b6 : on listed 6 = true := h2 ⟨6, .data⟩ (by cases ho; simp) rfl
        have n9 : on listed 9 = false := by
          cases b9 : on listed 9 with
          | false => rfl
          | true =>
            have b7 := hcl 9 _ rfl b9 ⟨7, .data⟩ (by simp) rfl
            rw [on_no h1] at b7; cases b7
        obtain ⟨hwd, st⟩ := StA.appended (s := 9) (X := ⟨V.heap.size, 2, none⟩) (R := Full w c.B.trials t) (by kernel_rfl) ha hf hl ho h1 (by omega) b6 n9
        have t17 : a.eval (.tmp 17) = .slice c.q c.B.trials.length c.B.trials.length := ha.new 4 b4 (d := 17) rfl rfl (by simp)
        have t19 : a.eval (.tmp 19) = .slice (some ⟨w.heap.size, 0, none⟩) 1 1 := ha.new 6 b6 (d := 19) rfl rfl (by simp)
        have ST := Lib.hid st; clear st ht hf
        subst hwd
        obtain ⟨cap', w', hrun, hown, hkk⟩ := HRUN.out
        cases ho
        rw [if_pos (by rfl)]
        refine wpIn_append_run _ (.tmp 17) (.tmp 19) 23 rfl t17 t19 hrun ?_
        exact ST.out _ _ ⟨_, cap', rfl, HSZ2.out, hown, kept_trans HKB.out hkk⟩
      | 8, ho =>
        have st := StA.pure (by kernel_rfl) ha hf ht ho h1 (by omega) (by omega) (by omega)
        have ST := Lib.hid st; clear st ht hf
        cases ho
        rw [if_pos (by rfl)]
        have t5 := ha.old 5 (by kernel_rfl)
        simp at t5
        go_simp
        exact ST.out
      | 9, ho =>
        have b7 : on listed 7 = true := h2 ⟨7, .data⟩ (by cases ho; simp) rfl
        have b8 : on listed 8 = true := h2 ⟨8, .data⟩ (by cases ho; simp) rfl
        obtain ⟨hr, st⟩ := StA.stored (b := 6) (V := w) (WB := WB2) (by kernel_rfl) ha ht hl ho h1 (by cases ho; rfl) (by omega) b7
        have t20 := ha.new 7 b7 (d := 20) rfl rfl (by simp)
        have t21 := ha.new 8 b8 (d := 21) rfl rfl (by simp)
        simp at t20 t21
        have ST := Lib.hid st; clear st ht hf
        obtain ⟨g, cap', hre, hbg, hown, hkk⟩ := hr
        have c2 := kcell hkk y2
        have cf := ((kturns hkk (fun _ => False)).frozen (Go.Ai.lt_of_cell y2) (fun h => h)).trans (yf 2)
        clear hown
        cases ho
        rw [if_pos (by rfl)]
        subst hre
        go_simp
        exact ST.out
    case hend2 =>
      clear hall
      rintro listed a w1 hall ⟨r, ha, -, ht⟩
      obtain ⟨wc, hR, hw⟩ := ht (hall 7 (by simp))
      rw [show on listed 9 = true from hall 9 (by simp), if_pos rfl] at hw
      subst hw
      obtain ⟨g, cap', rfl, hbg, hown, hkk⟩ := hR
      have hzV := Nat.lt_of_lt_of_le (Go.Ai.lt_of_cell y2) hkk.size
      have hzw := Go.Ai.lt_of_cell y2
      obtain ⟨y', hae⟩ := atSt_mid ha 13 9 (by kernel_rfl) (by simp)
      simp only [List.range, List.range.loop, List.map, List.take_succ_cons, List.take_zero, List.drop_succ_cons, List.drop_zero, List.cons_append, List.nil_append, Nat.reduceAdd] at hae
      subst hae
      clear ha
      refine (by assumption : ∀ a w, Code.wp _ _ _ a w → _) _ _ ?_
      have hsz := HSZ.out
      have hT : Turns (fun b => b = V.heap.size) wc (wc.setCell ⟨V.heap.size, 2, none⟩ (.slice (some ⟨g, 0, none⟩) (c.B.trials.length + 1) cap')) := Turns.setCell (T := fun b => b = V.heap.size) (Turns.refl _ _) rfl _ _
      have hk5 : Kept W (wc.setCell ⟨V.heap.size, 2, none⟩ (.slice (some ⟨g, 0, none⟩) (c.B.trials.length + 1) cap')) := Below.setCell (p := ⟨V.heap.size, 2, none⟩) (kept_trans hkW hkk) (show W.heap.size ≤ V.heap.size by omega) _
      have y0' := (cell_set_ne (o := 2) (o' := 0) (v := .slice (some ⟨g, 0, none⟩) (c.B.trials.length + 1) cap') (by omega)).trans (kcell hkk y0)
      have y1' := (cell_set_ne (o := 2) (o' := 1) (v := .slice (some ⟨g, 0, none⟩) (c.B.trials.length + 1) cap') (by omega)).trans (kcell hkk y1)
      have y2' := cell_set_eq (v := .slice (some ⟨g, 0, none⟩) (c.B.trials.length + 1) cap') (kcell hkk y2)
      have r0' := tcell hT (show ¬ W.heap.size + 1 + 1 = V.heap.size by omega) (kcell hkk r0)
      have r1' := tcell hT (show ¬ W.heap.size + 1 + 1 = V.heap.size by omega) (kcell hkk r1)
      have r2' := tcell hT (show ¬ W.heap.size + 1 + 1 = V.heap.size by omega) (kcell hkk r2)
      have r3' := tcell hT (show ¬ W.heap.size + 1 + 1 = V.heap.size by omega) (kcell hkk r3)
      have rf' : ∀ i, (wc.setCell ⟨V.heap.size, 2, none⟩ (.slice (some ⟨g, 0, none⟩) (c.B.trials.length + 1) cap')).frozen? ⟨W.heap.size + 1 + 1, i, none⟩ = false := fun i => by
        rw [World.frozen?_setCell]; exact ((kturns hkk (fun _ => False)).frozen (Go.Ai.lt_of_cell r0) (fun h => h)).trans (rf i)
      have hrow := ownsRow_set hown (a := ⟨V.heap.size, 2, none⟩) (show V.heap.size < g by omega) (.slice (some ⟨g, 0, none⟩) (c.B.trials.length + 1) cap')
      have hnc : c.B.trials.length + 1 ≤ cap' := by
        rcases hown.2 with ⟨e, _⟩ | ⟨_, _, _, e, _, _, h1, _⟩
        · cases e
        · cases e; exact h1
      have hgz := (hrow.lt g rfl).2
      have htr5 : TrialsAt (wc.setCell ⟨V.heap.size, 2, none⟩ (.slice (some ⟨g, 0, none⟩) (c.B.trials.length + 1) cap')) g 0 (c.B.trials ++ [t]) := trialsAt_own (base := g) (cap := cap') (by simpa using hrow)
      have hbl : c.B.boys.length ≤ 140737488355328 := by
        have := hok
        simp only [Book.okB, inB, Bool.and_eq_true, decide_eq_true_eq] at this
        omega
      have hboys5 := h.boys.kept hk5
      have hbook : BookAt (wc.setCell ⟨V.heap.size, 2, none⟩ (.slice (some ⟨g, 0, none⟩) (c.B.trials.length + 1) cap')) (some ⟨c.bb, c.ob, none⟩) (some ⟨g, 0, none⟩) c.capb cap' ⟨c.B.boys, c.B.weeks, c.B.trials ++ [t]⟩ := ⟨hL.kept hk5, hbl, (by simp only [List.length_append, List.length_singleton]; omega), .inr ⟨_, _, rfl, hboys5⟩, .inr ⟨g, 0, rfl, htr5⟩⟩
      have h1 := newChoir_in (fun b => b ≠ W.heap.size + 1 + 1 ∧ b < (wc.setCell ⟨V.heap.size, 2, none⟩ (.slice (some ⟨g, 0, none⟩) (c.B.trials.length + 1) cap')).heap.size) (some ⟨c.bb, c.ob, none⟩) (some ⟨g, 0, none⟩) c.capb cap' ⟨c.B.boys, c.B.weeks, c.B.trials ++ [t]⟩ _ hok hbook
        (fun b o e => by cases e; exact ⟨by have := hS _ h.sb; omega, hboys5.1⟩) (fun _ b o e => by cases e; exact ⟨by omega, hgz⟩)
      simp only [List.length_append, List.length_singleton] at h1
      have H1 := Lib.hid h1; clear h1
      have hW5 : W.heap.size + 1 + 1 < (wc.setCell ⟨V.heap.size, 2, none⟩ (.slice (some ⟨g, 0, none⟩) (c.B.trials.length + 1) cap')).heap.size := Go.Ai.lt_of_cell r0'
      clear hT hrow hown hbook htr5 hboys5 hsz hgz y0 y1 y2 r0 r1 r2 r3 rf yf v0 v1 v2 v3 HRUN HKB HWB HLS hbg
      have hkV : V.heap.size = W.heap.size + 1 + 1 + 1 := HSZ.out
      have HKV := Lib.hid hkV; clear hkV
      go_wp2_with fail
      generalize (wc.setCell ⟨V.heap.size, 2, none⟩ (.slice (some ⟨g, 0, none⟩) (c.B.trials.length + 1) cap')) = W5 at *
      refine H1.out.mono ?_
      rintro e C ⟨c', hcB, rfl, hkC, hat⟩
      clear H1
      have HCB := Lib.hid hcB; clear hcB
      unfold Choir.val
      replace r0' := kcell hkC r0'
      replace r1' := kcell hkC r1'
      replace r2' := kcell hkC r2'
      replace r3' := kcell hkC r3'
      have rf0 := ((kturns hkC (fun _ => False)).frozen hW5 (fun h => h)).trans (rf' 0)
      have rf1 := ((kturns hkC (fun _ => False)).frozen hW5 (fun h => h)).trans (rf' 1)
      have rf2 := ((kturns hkC (fun _ => False)).frozen hW5 (fun h => h)).trans (rf' 2)
      have rf3 := ((kturns hkC (fun _ => False)).frozen hW5 (fun h => h)).trans (rf' 3)
      go_wp2_with fail
      have hTC : Turns (fun b => b = W.heap.size + 1 + 1) C ((((C.setCell ⟨W.heap.size + 1 + 1, 0, none⟩ (.slice (some ⟨c'.bb, c'.ob, none⟩) c'.B.boys.length c'.capb)).setCell ⟨W.heap.size + 1 + 1, 1, none⟩ (.int .i64 c'.B.weeks)).setCell ⟨W.heap.size + 1 + 1, 2, none⟩ (.slice c'.q c'.B.trials.length c'.capt)).setCell ⟨W.heap.size + 1 + 1, 3, none⟩ (.map (some c'.bm))) := ((((Turns.refl (fun b => b = W.heap.size + 1 + 1) C).setCell rfl _ _).setCell rfl _ _).setCell rfl _ _).setCell rfl _ _
      have s0 : ((((C.setCell ⟨W.heap.size + 1 + 1, 0, none⟩ (.slice (some ⟨c'.bb, c'.ob, none⟩) c'.B.boys.length c'.capb)).setCell ⟨W.heap.size + 1 + 1, 1, none⟩ (.int .i64 c'.B.weeks)).setCell ⟨W.heap.size + 1 + 1, 2, none⟩ (.slice c'.q c'.B.trials.length c'.capt)).setCell ⟨W.heap.size + 1 + 1, 3, none⟩ (.map (some c'.bm))).cell? ⟨W.heap.size + 1 + 1, 0, none⟩ = some (.slice (some ⟨c'.bb, c'.ob, none⟩) c'.B.boys.length c'.capb) := by go_simp
      have s1 : ((((C.setCell ⟨W.heap.size + 1 + 1, 0, none⟩ (.slice (some ⟨c'.bb, c'.ob, none⟩) c'.B.boys.length c'.capb)).setCell ⟨W.heap.size + 1 + 1, 1, none⟩ (.int .i64 c'.B.weeks)).setCell ⟨W.heap.size + 1 + 1, 2, none⟩ (.slice c'.q c'.B.trials.length c'.capt)).setCell ⟨W.heap.size + 1 + 1, 3, none⟩ (.map (some c'.bm))).cell? ⟨W.heap.size + 1 + 1, 1, none⟩ = some (.int .i64 c'.B.weeks) := by go_simp
      have s2 : ((((C.setCell ⟨W.heap.size + 1 + 1, 0, none⟩ (.slice (some ⟨c'.bb, c'.ob, none⟩) c'.B.boys.length c'.capb)).setCell ⟨W.heap.size + 1 + 1, 1, none⟩ (.int .i64 c'.B.weeks)).setCell ⟨W.heap.size + 1 + 1, 2, none⟩ (.slice c'.q c'.B.trials.length c'.capt)).setCell ⟨W.heap.size + 1 + 1, 3, none⟩ (.map (some c'.bm))).cell? ⟨W.heap.size + 1 + 1, 2, none⟩ = some (.slice c'.q c'.B.trials.length c'.capt) := by go_simp
      have s3 : ((((C.setCell ⟨W.heap.size + 1 + 1, 0, none⟩ (.slice (some ⟨c'.bb, c'.ob, none⟩) c'.B.boys.length c'.capb)).setCell ⟨W.heap.size + 1 + 1, 1, none⟩ (.int .i64 c'.B.weeks)).setCell ⟨W.heap.size + 1 + 1, 2, none⟩ (.slice c'.q c'.B.trials.length c'.capt)).setCell ⟨W.heap.size + 1 + 1, 3, none⟩ (.map (some c'.bm))).cell? ⟨W.heap.size + 1 + 1, 3, none⟩ = some (.map (some c'.bm)) := by go_simp
      have hkD : Kept W ((((C.setCell ⟨W.heap.size + 1 + 1, 0, none⟩ (.slice (some ⟨c'.bb, c'.ob, none⟩) c'.B.boys.length c'.capb)).setCell ⟨W.heap.size + 1 + 1, 1, none⟩ (.int .i64 c'.B.weeks)).setCell ⟨W.heap.size + 1 + 1, 2, none⟩ (.slice c'.q c'.B.trials.length c'.capt)).setCell ⟨W.heap.size + 1 + 1, 3, none⟩ (.map (some c'.bm))) := Below.setCell (p := ⟨W.heap.size + 1 + 1, 3, none⟩) (Below.setCell (p := ⟨W.heap.size + 1 + 1, 2, none⟩) (Below.setCell (p := ⟨W.heap.size + 1 + 1, 1, none⟩) (Below.setCell (p := ⟨W.heap.size + 1 + 1, 0, none⟩) (kept_trans hk5 hkC) (show W.heap.size ≤ W.heap.size + 1 + 1 by omega) _) (show W.heap.size ≤ W.heap.size + 1 + 1 by omega) _) (show W.heap.size ≤ W.heap.size + 1 + 1 by omega) _) (show W.heap.size ≤ W.heap.size + 1 + 1 by omega) _
      generalize ((((C.setCell ⟨W.heap.size + 1 + 1, 0, none⟩ (.slice (some ⟨c'.bb, c'.ob, none⟩) c'.B.boys.length c'.capb)).setCell ⟨W.heap.size + 1 + 1, 1, none⟩ (.int .i64 c'.B.weeks)).setCell ⟨W.heap.size + 1 + 1, 2, none⟩ (.slice c'.q c'.B.trials.length c'.capt)).setCell ⟨W.heap.size + 1 + 1, 3, none⟩ (.map (some c'.bm))) = D at *
      refine bodyPost_ret (v := .agg #[.slice (some ⟨c'.bb, c'.ob, none⟩) c'.B.boys.length c'.capb, .int .i64 c'.B.weeks, .slice c'.q c'.B.trials.length c'.capt, .map (some c'.bm)]) (by simp [results, Tryz.results81, go_sem, s0, s1, s2, s3]) rfl ?_
      exact ⟨c', HCB.out, rfl, hkD, _, hat.turns hTC (fun b hb e => by
        obtain ⟨_, h1 | h1⟩ := hb
        · exact h1.1 e
        · omega), fun b hb => Nat.lt_of_lt_of_le hb.1 hTC.size⟩
end Go.Proofs.YtcgihkaglonnaaaGreatDoor
set_option linter.all false
namespace Go.Proofs.YtcgihkaglonnaaaGreatDoor
open Go.RowKit Go.Sort Go.Rg
set_option maxRecDepth 100000

/-- the book with one trial more -/
def Book.more (B : Book) (t : Trial) : Book := ⟨B.boys, B.weeks, B.trials ++ [t]⟩
theorem more_ok {B : Book} {t : Trial} (h : B.okB = true) (h5 : B.trials.length ≤ 5) : (B.more t).okB = validTrialB B.boys.length B.weeks.toNat t := by
  simp only [Book.okB, Book.more, Bool.and_eq_true, decide_eq_true_eq, List.all_append, List.all_cons, List.all_nil, Bool.and_true] at h ⊢
  rw [h.1.1.1.1, h.1.1.1.2, h.1.2, h.2]
  simp
  omega
/-- can the book be true with one trial more? -/
def FitsP (B : Book) (t : Trial) (W : World) (e : Ending) (C : World) : Prop :=
  ∃ (r : Bool) (err : Int), e = .returned (.tuple #[.bool r, .int .i64 err]) ∧ Kept W C ∧
    ((err = 0 ∧ (B.more t).okB = true ∧ Can B ∧ (r = true ↔ Can (B.more t))) ∨ (r = false ∧ err = 21 ∧ (B.more t).okB = false) ∨ (r = false ∧ err = 22 ∧ (B.more t).okB = true ∧ ¬ Can B))

set_option maxHeartbeats 8000000 in
theorem fits_any (p q : Option Addr) (cap capt : Nat) (B : Book) (t : Trial) (W : World) (h : BookAt W p q cap capt B) (hg : Nothing W) (hok0 : B.okB = true) (h5 : B.trials.length ≤ 5) :
    Calls Tryz.prog 28 #[B.val p q cap capt, .agg #[.int .i64 t.boy, .int .i64 t.week, .int .i64 t.note, .int .i64 t.sang]] W (FitsP B t W) := by
  have hwk : 1 ≤ B.weeks ∧ B.weeks ≤ 6 := by
    have := hok0
    simp only [Book.okB, inB, Bool.and_eq_true, decide_eq_true_eq] at this
    omega
  have hwkI : ((B.weeks.toNat : Nat) : Int) = B.weeks := Int.toNat_of_nonneg (by omega)
  have hnb := h.nb
  obtain ⟨ct, hct⟩ : ∃ ct, validTrialB B.boys.length B.weeks.toNat t = ct := ⟨_, rfl⟩
  have HCT := Lib.hid hct; clear hct
  have HMO := Lib.hid (more_ok (t := t) hok0 h5)
  refine callsIn_wide.1 (callsIn_of_wp (n := 0) Tryz.func28 rfl trivial ?_ rfl)
  simp only [Tryz.ntmps28, List.size_toArray, List.length_cons, List.length_nil, Nat.reduceAdd, Nat.reduceSub, Array.replicate_succ, Array.replicate_zero, List.push_toArray, List.append_toArray, List.nil_append, List.cons_append]
  unfold Book.val
  gi_wp2_with fail
  have hk0 : Kept W (((W.alloc (Obj.cells #[.slice p B.boys.length cap, .int .i64 B.weeks, .slice q B.trials.length capt] 25)).alloc (Obj.cells #[.int .i64 t.boy, .int .i64 t.week, .int .i64 t.note, .int .i64 t.sang] 49))) := kept_alloc (kept_alloc (kept_refl _) _) _
  have a0c : (((W.alloc (Obj.cells #[.slice p B.boys.length cap, .int .i64 B.weeks, .slice q B.trials.length capt] 25)).alloc (Obj.cells #[.int .i64 t.boy, .int .i64 t.week, .int .i64 t.note, .int .i64 t.sang] 49))).cell? ⟨W.heap.size, 0, none⟩ = some (.slice p B.boys.length cap) := by go_simp
  have a1c : (((W.alloc (Obj.cells #[.slice p B.boys.length cap, .int .i64 B.weeks, .slice q B.trials.length capt] 25)).alloc (Obj.cells #[.int .i64 t.boy, .int .i64 t.week, .int .i64 t.note, .int .i64 t.sang] 49))).cell? ⟨W.heap.size, 1, none⟩ = some (.int .i64 B.weeks) := by go_simp
  have a2c : (((W.alloc (Obj.cells #[.slice p B.boys.length cap, .int .i64 B.weeks, .slice q B.trials.length capt] 25)).alloc (Obj.cells #[.int .i64 t.boy, .int .i64 t.week, .int .i64 t.note, .int .i64 t.sang] 49))).cell? ⟨W.heap.size, 2, none⟩ = some (.slice q B.trials.length capt) := by go_simp
  have v0 : (((W.alloc (Obj.cells #[.slice p B.boys.length cap, .int .i64 B.weeks, .slice q B.trials.length capt] 25)).alloc (Obj.cells #[.int .i64 t.boy, .int .i64 t.week, .int .i64 t.note, .int .i64 t.sang] 49))).cell? ⟨W.heap.size + 1, 0, none⟩ = some (.int .i64 t.boy) := by go_simp
  have v1 : (((W.alloc (Obj.cells #[.slice p B.boys.length cap, .int .i64 B.weeks, .slice q B.trials.length capt] 25)).alloc (Obj.cells #[.int .i64 t.boy, .int .i64 t.week, .int .i64 t.note, .int .i64 t.sang] 49))).cell? ⟨W.heap.size + 1, 1, none⟩ = some (.int .i64 t.week) := by go_simp
  have v2 : (((W.alloc (Obj.cells #[.slice p B.boys.length cap, .int .i64 B.weeks, .slice q B.trials.length capt] 25)).alloc (Obj.cells #[.int .i64 t.boy, .int .i64 t.week, .int .i64 t.note, .int .i64 t.sang] 49))).cell? ⟨W.heap.size + 1, 2, none⟩ = some (.int .i64 t.note) := by go_simp
  have v3 : (((W.alloc (Obj.cells #[.slice p B.boys.length cap, .int .i64 B.weeks, .slice q B.trials.length capt] 25)).alloc (Obj.cells #[.int .i64 t.boy, .int .i64 t.week, .int .i64 t.note, .int .i64 t.sang] 49))).cell? ⟨W.heap.size + 1, 3, none⟩ = some (.int .i64 t.sang) := by go_simp
  generalize (((W.alloc (Obj.cells #[.slice p B.boys.length cap, .int .i64 B.weeks, .slice q B.trials.length capt] 25)).alloc (Obj.cells #[.int .i64 t.boy, .int .i64 t.week, .int .i64 t.note, .int .i64 t.sang] 49))) = W0 at *
  refine wpIn_region_invL (StO 4 (fun j => match j with | 0 => (.agg #[.slice p B.boys.length cap, .int .i64 B.weeks, .slice q B.trials.length capt]) | 1 => (.agg #[.slice p B.boys.length cap, .int .i64 B.weeks, .slice q B.trials.length capt]) | 2 => .agg #[.int .i64 t.boy, .int .i64 t.week, .int .i64 t.note, .int .i64 t.sang] | _ => .bool ct) W0 B ct) (by kernel_rfl) (by kernel_rfl) StO.start ?hop ?hend
  case hop =>
    rintro i o listed a w hl ho h1 h2 hcl ⟨v, err, pp, ha, hw⟩
    have hi11 : i < 11 := (List.getElem?_eq_some_iff.1 ho).1
    match i, ho with
    | 0, ho =>
      have st := StO.same (by kernel_rfl) ha hw ho h1 (by omega) (by omega) (by omega) (kept_refl w)
      have ST := Lib.hid st; clear st
      cases ho
      rw [if_pos (by rfl)]
      have t2 := ha.old 2 (by kernel_rfl)
      simp at t2
      have r0 := kcell hw.kept a0c
      have r1 := kcell hw.kept a1c
      have r2 := kcell hw.kept a2c
      go_simp
      exact ST.out
    | 1, ho =>
      have st := StO.same (by kernel_rfl) ha hw ho h1 (by omega) (by omega) (by omega) (kept_refl w)
      have ST := Lib.hid st; clear st
      cases ho
      rw [if_pos (by rfl)]
      have t2 := ha.old 2 (by kernel_rfl)
      simp at t2
      have r0 := kcell hw.kept a0c
      have r1 := kcell hw.kept a1c
      have r2 := kcell hw.kept a2c
      go_simp
      exact ST.out
    | 2, ho =>
      have st := StO.same (by kernel_rfl) ha hw ho h1 (by omega) (by omega) (by omega) (kept_refl w)
      have ST := Lib.hid st; clear st
      cases ho
      rw [if_pos (by rfl)]
      have t3 := ha.old 3 (by kernel_rfl)
      simp at t3
      have z0 := kcell hw.kept v0
      have z1 := kcell hw.kept v1
      have z2 := kcell hw.kept v2
      have z3 := kcell hw.kept v3
      go_simp
      exact ST.out
    | 3, ho =>
      have st := fun w' (k : Kept w w') => StO.same (by kernel_rfl) ha hw ho h1 (by omega) (by omega) (by omega) k
      have ST := Lib.hid st; clear st
      cases ho
      rw [if_pos (by rfl)]
      have t10 := ha.new 1 (h2 ⟨1, .data⟩ (by simp) rfl) (d := 10) rfl rfl (by simp)
      simp [openVs] at t10
      have t11 := ha.new 2 (h2 ⟨2, .data⟩ (by simp) rfl) (d := 11) rfl rfl (by simp)
      simp [openVs] at t11
      have hcall := validTrial_any p B.boys.length cap B.weeks.toNat (.slice q B.trials.length capt) t w hnb (by omega)
      rw [hwkI, HCT.out] at hcall
      go_simp
      refine ⟨trivial, rfl, (callsIn_wide.2 hcall).mono ?_⟩
      rintro e w' ⟨rfl, hk⟩
      exact ST.out _ hk
    | 4, ho =>
      obtain ⟨n5, n6, n7, n9, n10⟩ := open_first hcl h1 ⟨_, rfl, ⟨4, .data⟩, by simp, rfl, rfl⟩ ⟨_, rfl, ⟨5, .data⟩, by simp, rfl, rfl⟩ ⟨_, rfl, ⟨5, .data⟩, by simp, rfl, rfl⟩ ⟨_, rfl, ⟨6, .data⟩, by simp, rfl, rfl⟩ ⟨_, rfl, ⟨7, .data⟩, by simp, rfl, rfl⟩
      have st := fun v' err' w' (k : OpenReg W0 B ct v' err' pp true (on listed 8) (on listed 9) w') => StO.opened (by kernel_rfl) ha hl ho h1 n5 n6 n7 n9 n10 k
      have ST := Lib.hid st; clear st
      cases ho
      rw [if_pos (by rfl)]
      have t9 := ha.new 0 (h2 ⟨0, .data⟩ (by simp) rfl) (d := 9) rfl rfl (by simp)
      simp [openVs] at t9
      have t12 := ha.new 3 (h2 ⟨3, .data⟩ (by simp) rfl) (d := 12) rfl rfl (by simp)
      simp [openVs] at t12
      have hcall := open_any p q cap capt B ct W w h (kept_trans hk0 hw.kept) (hg.kept (kept_trans hk0 hw.kept))
      unfold Book.val at hcall
      have HOP := Lib.hid (fun e w' => hw.opened (e := e) (w' := w') W.heap.size hk0.size n9)
      go_simp
      refine ⟨trivial, rfl, (callsIn_wide.2 hcall).mono ?_⟩
      intro e w' hop
      obtain ⟨v', err', rfl, hr⟩ := HOP.out e w' hop
      exact ST.out v' err' w' hr
    | 5, ho =>
      have st := StO.same (by kernel_rfl) ha hw ho h1 (by omega) (by omega) (by omega) (kept_refl w)
      have ST := Lib.hid st; clear st
      cases ho
      rw [if_pos (by rfl)]
      have t13 := ha.new 4 (h2 ⟨4, .data⟩ (by simp) rfl) (d := 13) rfl rfl (by simp)
      simp [openVs] at t13
      go_simp
      exact ST.out
    | 6, ho =>
      have st := StO.same (by kernel_rfl) ha hw ho h1 (by omega) (by omega) (by omega) (kept_refl w)
      have ST := Lib.hid st; clear st
      cases ho
      rw [if_pos (by rfl)]
      have t8 := ha.new 5 (h2 ⟨5, .data⟩ (by simp) rfl) (d := 8) rfl rfl (by simp)
      simp [openVs] at t8
      go_simp
      exact ST.out
    | 7, ho =>
      have st := StO.same (by kernel_rfl) ha hw ho h1 (by omega) (by omega) (by omega) (kept_refl w)
      have ST := Lib.hid st; clear st
      cases ho
      rw [if_pos (by rfl)]
      have t8 := ha.new 5 (h2 ⟨5, .data⟩ (by simp) rfl) (d := 8) rfl rfl (by simp)
      simp [openVs] at t8
      go_simp
      exact ST.out
    | 8, ho =>
      have n9 : on listed 9 = false := by
        cases hb : on listed 9 with
        | false => rfl
        | true => have := hcl 9 _ rfl hb ⟨8, .data⟩ (by simp) rfl; rw [on_no h1] at this; cases this
      have st := StO.boxed (by kernel_rfl) ha hw hl ho h1 n9
      have ST := Lib.hid st; clear st
      cases ho
      rw [if_pos (by rfl)]
      go_simp
      exact ST.out
    | 9, ho =>
      have y8 : on listed 8 = true := h2 ⟨8, .data⟩ (by cases ho; simp) rfl
      have y4 : on listed 4 = true := h2 ⟨4, .chain⟩ (by cases ho; simp) rfl
      have t6 := ha.new 8 y8 (d := 6) rfl rfl (by simp)
      simp [openVs] at t6
      have t14 := ha.new 6 (h2 ⟨6, .data⟩ (by cases ho; simp) rfl) (d := 14) rfl rfl (by simp)
      simp [openVs] at t14
      obtain ⟨hbp, ⟨f0, f1, f2, f3, b0, b1, b2, b3⟩, hbf⟩ := hw.box y8
      have bf0 := hbf 0
      have bf1 := hbf 1
      have bf2 := hbf 2
      have bf3 := hbf 3
      rcases hw.res y4 with ⟨_, _, hctt, _, c, S, hcB, rfl, _⟩ | ⟨rfl, _⟩
      · clear hcB hctt
        have st := StO.stored (by kernel_rfl) ha hw hl ho (by cases ho; rfl) h1 y8 (show c.val = _ from rfl)
        have ST := Lib.hid st; clear st
        cases ho
        rw [if_pos (by rfl)]
        unfold Choir.val at t14
        clear hbf
        go_simp
        exact ST.out
      · have st := StO.stored (by kernel_rfl) ha hw hl ho (by cases ho; rfl) h1 y8 (show zeroChoir = _ from rfl)
        have ST := Lib.hid st; clear st
        cases ho
        rw [if_pos (by rfl)]
        unfold zeroChoir at t14
        clear hbf
        go_simp
        exact ST.out
    | 10, ho =>
      have st := StO.same (by kernel_rfl) ha hw ho h1 (by omega) (by omega) (by omega) (kept_refl w)
      have ST := Lib.hid st; clear st
      cases ho
      rw [if_pos (by rfl)]
      have t15 := ha.new 7 (h2 ⟨7, .data⟩ (by simp) rfl) (d := 15) rfl rfl (by simp)
      simp [openVs] at t15
      go_simp
      exact ST.out

  case hend =>
    rintro listed a w hall ⟨v, err, pp, ha, hw⟩
    rw [show on listed 4 = true from hall 4 (by simp), show on listed 8 = true from hall 8 (by simp), show on listed 9 = true from hall 9 (by simp)] at hw
    obtain ⟨y, hy, hae⟩ := ha.lit (n := 23) rfl
    have y2 := (hy 2).symm.trans (ha.old 2 (by kernel_rfl))
    have y3 := (hy 3).symm.trans (ha.old 3 (by kernel_rfl))
    have y4 := (hy 4).symm.trans (ha.old 4 (by kernel_rfl))
    have y5 := (hy 5).symm.trans (ha.old 5 (by kernel_rfl))
    have y6 := (hy 6).symm.trans (ha.new 8 (hall 8 (by simp)) (d := 6) rfl rfl (by simp))
    have y7 := (hy 7).symm.trans (ha.new 10 (hall 10 (by simp)) (d := 7) rfl rfl (by simp))
    simp at y2 y3 y4 y5
    simp [openVs] at y6 y7
    simp only [List.range, List.range.loop, List.map] at hae
    rw [y2, y3, y4, y5, y6, y7] at hae
    subst hae
    clear ha hy y2 y3 y4 y5 y6 y7
    refine (by assumption : ∀ a w, Code.wpIn _ _ _ _ _ a w → _) _ w ?_
    have z0 := kcell hw.kept v0
    have z1 := kcell hw.kept v1
    have z2 := kcell hw.kept v2
    have z3 := kcell hw.kept v3
    obtain ⟨_, x0, x1, x2, x3, hv, b0, b1, b2, b3⟩ := hw.put rfl
    rcases hw.res rfl with ⟨rfl, hok, hctt, hcan, c, S, hcB, hvc, hch, hSz, hSp⟩ | ⟨rfl, herr⟩
    · subst hcB
      subst hvc
      have e4 := congrArg (fun u => match u with | Value.agg cs => cs.toList | _ => []) hv
      simp only [Choir.val, List.cons.injEq, and_true] at e4
      obtain ⟨rfl, rfl, rfl, rfl⟩ := e4
      have hzp := Go.Ai.lt_of_cell b0
      have hzw := Go.Ai.lt_of_cell z0
      have hmok : (c.B.more t).okB = true := HMO.out.trans (HCT.out.trans hctt)
      have hkw := kept_trans hk0 hw.kept
      have HC := Lib.hid (cwith_any c t w S hch hSz (h.laid.kept hkw) hmok)
      have HHG := Lib.hid (hg.kept hkw)
      have hcanH := Lib.hid hcan
      clear hch hSz hSp hok hctt hcan
      unfold Choir.val at HC
      gi_wp2_with fail
      refine ⟨trivial, rfl, (callsIn_wide.2 HC.out).mono ?_⟩
      rintro e w2 ⟨c', hcB', rfl, hk2, S', hat', hS'⟩
      have HCB := Lib.hid hcB'; clear hcB'
      have HCAN := Lib.hid (canBeTrue_any S' c' w2 hat' hS' (HHG.out.kept hk2))
      unfold Choir.val at HCAN
      clear HC hat' hS'
      gi_wp2_with fail
      refine ⟨trivial, rfl, (callsIn_wide.2 HCAN.out).mono ?_⟩
      rintro e w3 ⟨r, hr, rfl, hk3⟩
      gi_wp2_with fail
      refine bodyPost_ret (v := .tuple #[.bool r, .int .i64 0]) (by simp [results, Tryz.results28, go_sem]) rfl ?_
      rw [HCB.out] at hr
      exact ⟨r, 0, rfl, kept_trans hkw (kept_trans hk2 hk3), .inl ⟨rfl, hmok, hcanH.out, hr⟩⟩
    · rcases herr with ⟨_, he⟩ | ⟨rfl, _, he⟩ | ⟨rfl, _, he, hnc⟩
      · rw [hok0] at he; cases he
      · gi_wp2_with fail
        refine bodyPost_ret (v := .tuple #[.bool false, .int .i64 21]) (by simp [results, Tryz.results28, go_sem]) rfl ?_
        exact ⟨false, 21, rfl, kept_trans hk0 hw.kept, .inr (.inl ⟨rfl, rfl, HMO.out.trans (HCT.out.trans he)⟩)⟩
      · gi_wp2_with fail
        refine bodyPost_ret (v := .tuple #[.bool false, .int .i64 22]) (by simp [results, Tryz.results28, go_sem]) rfl ?_
        exact ⟨false, 22, rfl, kept_trans hk0 hw.kept, .inr (.inr ⟨rfl, rfl, HMO.out.trans (HCT.out.trans he), hnc⟩)⟩
end Go.Proofs.YtcgihkaglonnaaaGreatDoor
set_option linter.all false
namespace Go.Proofs.YtcgihkaglonnaaaGreatDoor
open Go.RowKit Go.Sort Go.Rg
set_option maxRecDepth 100000

set_option maxHeartbeats 4000000 in
theorem right_bad (p q : Option Addr) (cap capt : Nat) (B : Book) (W : World) (h : BookAt W p q cap capt B) (hok : B.okB = false) :
    Calls Tryz.prog 8 #[B.val p q cap capt] W fun e C => e = .returned (.tuple #[.bool false, .int .i64 20]) ∧ Kept W C := by
  unfold Book.val
  have hk0 : Kept W (W.alloc (Obj.cells #[.slice p B.boys.length cap, .int .i64 B.weeks, .slice q B.trials.length capt] 25)) := kept_alloc (kept_refl _) _
  have a0 : (W.alloc (Obj.cells #[.slice p B.boys.length cap, .int .i64 B.weeks, .slice q B.trials.length capt] 25)).cell? ⟨W.heap.size, 0, none⟩ = some (.slice p B.boys.length cap) := by go_simp
  have a1 : (W.alloc (Obj.cells #[.slice p B.boys.length cap, .int .i64 B.weeks, .slice q B.trials.length capt] 25)).cell? ⟨W.heap.size, 1, none⟩ = some (.int .i64 B.weeks) := by go_simp
  have a2 : (W.alloc (Obj.cells #[.slice p B.boys.length cap, .int .i64 B.weeks, .slice q B.trials.length capt] 25)).cell? ⟨W.heap.size, 2, none⟩ = some (.slice q B.trials.length capt) := by go_simp
  go_enter Tryz.func8, Tryz.ntmps8
  go_wp2_with fail
  generalize W.alloc (Obj.cells #[.slice p B.boys.length cap, .int .i64 B.weeks, .slice q B.trials.length capt] 25) = W1 at *
  refine (check_any p q cap capt B _ (h.kept hk0)).mono ?_
  rintro e W2 ⟨rfl, hk2⟩
  have hkW2 := kept_trans hk0 hk2
  simp only [hok, if_false, Bool.false_eq_true]
  go_wp2_with fail
  refine bodyPost_ret (v := .tuple #[.bool false, .int .i64 20]) (by simp [results, Tryz.results8, go_sem]) rfl ?_
  exact ⟨rfl, hkW2⟩


end Go.Proofs.YtcgihkaglonnaaaGreatDoor
