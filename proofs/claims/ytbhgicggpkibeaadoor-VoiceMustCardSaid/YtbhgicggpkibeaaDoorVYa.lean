import Derived.Test.YtbhgicggpkibeaaDoorVX19
set_option linter.all false
set_option linter.all false
namespace Go.Proofs.YtbhgicggpkibeaaDoor
open Go.RowKit Go.Sort Go.Rg
set_option maxRecDepth 100000

theorem lies_any (n l h : Int) (w : World) : Calls Tryd.prog 36 #[.int .i64 n, .int .i64 l, .int .i64 h] w fun e w' => e = .returned (.bool (inB n l h)) ∧ w = w' := by
  by_cases h1 : l ≤ n
  · have h2 : decide (l ≤ n) = true := by simpa using h1
    have H : inB n l h = decide (n ≤ h) := by simp [inB, h1]
    rw [H]; clear H h1
    go_enter Tryd.func36, Tryd.ntmps36
    go_wp2
    go_ret
    exact ⟨rfl, rfl⟩
  · have h2 : decide (l ≤ n) = false := by simpa using h1
    have H : inB n l h = false := by simp [inB, h1]
    rw [H]; clear H h1
    go_enter Tryd.func36, Tryd.ntmps36
    go_wp2
    go_ret
    exact ⟨rfl, rfl⟩
theorem tmod_small (n : Int) (b : Int) (hb : 1 ≤ b) : -b < Int.tmod n b ∧ Int.tmod n b < b := by
  have h1 := Int.tmod_lt_of_pos n (show 0 < b by omega)
  have h2 := Int.tmod_lt_of_pos (-n) (show 0 < b by omega)
  rw [Int.neg_tmod] at h2
  omega
theorem turn_any (n b : Int) (hb : 1 ≤ b) (hb2 : b ≤ 1000) (w : World) : Calls Tryd.prog 7 #[.int .i64 n, .int .i64 b] w fun e w' => ∃ r, e = .returned (.int .i64 r) ∧ 0 ≤ r ∧ r < b ∧ w = w' := by
  have hb0 : decide (b < 1) = false := by simp; omega
  have hbz : (b == 0) = false := by simp; omega
  obtain ⟨m1, m2⟩ := tmod_small n b hb
  go_enter Tryd.func7, Tryd.ntmps7
  go_wp2_with fail
  all_goals go_ret
  · exact ⟨_, rfl, by omega, by omega, rfl⟩
  · exact ⟨_, rfl, by omega, by omega, rfl⟩
theorem fair_true (a b lo hi wide : Int) (w : World) (h1 : lo ≤ a) (h2 : a ≤ b) (h3 : b ≤ hi) (h4 : b - a ≤ wide) (ha : 0 ≤ a) (hb : b ≤ 100) :
    Calls Tryd.prog 37 #[.agg #[.int .i64 a, .int .i64 b], .int .i64 lo, .int .i64 hi, .int .i64 wide] w fun e w' => e = .returned (.bool true) ∧ Kept w w' := by
  have p1 : decide (lo ≤ a) = true := by simpa using h1
  have p2 : decide (a ≤ b) = true := by simpa using h2
  have p3 : decide (b ≤ hi) = true := by simpa using h3
  have p4 : decide (b - a ≤ wide) = true := by simpa using h4
  go_enter Tryd.func37, Tryd.ntmps37
  go_wp2_with fail
  go_ret
  exact ⟨rfl, kept_alloc (kept_refl _) _⟩

/-- a list of small numbers that can be read -/
def ListAt (w : World) (v : Value) (l : List Nat) : Prop :=
  (v = .slice none 0 0 ∧ l = []) ∨ ∃ b cap, v = .slice (some ⟨b, 0, none⟩) l.length cap ∧ b < w.heap.size ∧ ∀ i x, l[i]? = some x → w.cell? ⟨b, i, none⟩ = some (.int .i64 ((x : Nat) : Int))
theorem ListAt.kept {w w' : World} {v : Value} {l : List Nat} (h : ListAt w v l) (k : Kept w w') : ListAt w' v l :=
  h.imp id fun ⟨b, cap, e, hb, hc⟩ => ⟨b, cap, e, Nat.lt_of_lt_of_le hb k.size, fun i x hx => kcell k (hc i x hx)⟩
theorem ListAt.of_row {w : World} {n : Nat} {v : Value} {l : List Nat} {e : TypeId} (h : w.ownsRow n e 1 v l.length (intsV l)) : ListAt w v l := by
  have hc := h
  rcases h.2 with ⟨rfl, h0⟩ | ⟨g, cap, cur, rfl, _, hg, _⟩
  · exact .inl ⟨rfl, List.length_eq_zero_iff.1 h0⟩
  · refine .inr ⟨g, cap, rfl, (Array.getElem?_eq_some_iff.1 hg).1, fun i x hx => ?_⟩
    have hi : i < l.length := (List.getElem?_eq_some_iff.1 hx).1
    rw [hc.cellAt i (by omega)]
    simp [intsV, hx]
theorem listAt_len {w : World} {v : Value} {l : List Nat} (h : ListAt w v l) : ∃ p cap, v = .slice p l.length cap := by
  rcases h with ⟨rfl, rfl⟩ | ⟨b, cap, rfl, _⟩
  · exact ⟨none, 0, rfl⟩
  · exact ⟨_, cap, rfl⟩

set_option maxHeartbeats 1000000 in
theorem where_any (v : Value) (l : List Nat) (n : Nat) (w : World) (h : ListAt w v l) (hl : l.length ≤ 4) :
    Calls Tryd.prog 12 #[v, .int .i64 (n : Int)] w fun e w' => ∃ r : Int, e = .returned (.int .i64 r) ∧ Kept w w' ∧ (0 ≤ r ↔ n ∈ l) := by
  obtain ⟨p, cap, rfl⟩ := listAt_len h
  go_enter Tryd.func12, Tryd.ntmps12
  go_wp2_with fail
  go_loopw [5] (fun i W => ∃ k : Nat, k ≤ l.length ∧ i = .int .i64 k ∧ (∀ j, j < k → l[j]? ≠ some n) ∧ Kept w W) (fun i W => l.length - (intOf i).toNat)
  case atStart => exact ⟨0, by omega, rfl, fun j hj => by omega, kept_refl _⟩
  case round =>
    obtain ⟨k, hk, rfl, hno, hkW⟩ := hrel
    rename_i W
    have HNO := Lib.hid hno; clear hno
    by_cases hlt : k < l.length
    · have hltI : (k : Int) < l.length := by omega
      have hget : l[k]? = some l[k] := List.getElem?_eq_getElem hlt
      have hmem : l[k] ∈ l := List.getElem_mem hlt
      generalize l[k] = x at *
      rcases h.kept hkW with ⟨_, rfl⟩ | ⟨b, cap', e, hb, hc⟩
      · simp at hlt
      cases e
      replace hc := hc k x hget
      have HG := Lib.hid hget; clear hget
      by_cases hxn : x = n
      · have HM := Lib.hid (show n ∈ l from hxn ▸ hmem)
        have hx1 : ((x : Int) == (n : Int)) = true := by simp; omega
        clear hxn hmem
        go_wp2_with fail
        go_ret
        exact ⟨_, rfl, hkW, by simp [HM.out]⟩
      · have hx1 : ((x : Int) == (n : Int)) = false := by simp; omega
        have HNEW : Hid (∀ j, j < k + 1 → l[j]? ≠ some n) := Lib.hid (by
          intro j hj hg
          by_cases e : j = k
          · subst e; rw [HG.out] at hg; cases hg; exact hxn rfl
          · exact HNO.out j (by omega) hg)
        clear hxn hmem
        go_wp2_with fail
        go_roundw
        case rel => exact ⟨k + 1, by omega, by go_num, HNEW.out, hkW⟩
        case measure => simp [intOf]; omega
    · have hltI : ¬ (k : Int) < l.length := by omega
      go_wp2_with fail
      go_ret
      refine ⟨-1, rfl, hkW, ?_⟩
      have : ¬ n ∈ l := fun hm => by
        obtain ⟨j, hj⟩ := List.getElem?_of_mem hm
        exact HNO.out j (by have := (List.getElem?_eq_some_iff.1 hj).1; omega) hj
      simp [this]

def gath (l : List Nat) : Nat := l.foldl (fun s x => s ||| 2 ^ x) 0
theorem orNat : ∀ s : Nat, s < 16 → ∀ x : Nat, x < 4 → bits .or .i64 (s : Int) (wrap64 (2 ^ x)) = ((s ||| 2 ^ x : Nat) : Int) ∧ s ||| 2 ^ x < 16 := by decide +kernel
set_option maxHeartbeats 1000000 in
theorem gather_any (v : Value) (l : List Nat) (w : World) (h : ListAt w v l) (hl : l.length ≤ 4) (hx : ∀ x ∈ l, x < 4) :
    Calls Tryd.prog 13 #[v] w fun e w' => e = .returned (.int .i64 (gath l : Nat)) ∧ Kept w w' := by
  obtain ⟨p, cap, rfl⟩ := listAt_len h
  go_enter Tryd.func13, Tryd.ntmps13
  go_wp2_with fail
  go_loopw [3, 4] (fun s i W => ∃ k : Nat, k ≤ l.length ∧ i = .int .i64 k ∧ s = .int .i64 (gath (l.take k) : Nat) ∧ gath (l.take k) < 16 ∧ Kept w W) (fun s i W => l.length - (intOf i).toNat)
  case atStart => exact ⟨0, by omega, rfl, rfl, by simp [gath], kept_refl _⟩
  case round =>
    obtain ⟨k, hk, rfl, rfl, hg16, hkW⟩ := hrel
    by_cases hlt : k < l.length
    · have hltI : (k : Int) < l.length := by omega
      have hget : l[k]? = some l[k] := List.getElem?_eq_getElem hlt
      have hx4 := hx _ (List.getElem_mem hlt)
      have hstep : gath (l.take (k + 1)) = gath (l.take k) ||| 2 ^ l[k] := by
        rw [List.take_succ, hget]; unfold gath; rw [List.foldl_append]; rfl
      have HST := Lib.hid hstep; clear hstep
      generalize l[k] = x at *
      rcases h.kept hkW with ⟨_, rfl⟩ | ⟨b, cap', e, hb, hc⟩
      · simp at hlt
      cases e
      replace hc := hc k x hget
      have HG := Lib.hid hget; clear hget
      have hin : inB (x : Int) 0 61 = true := by simp [inB]; omega
      go_wp2_with (go_at_call 36; refine (lies_any _ _ _ _).mono ?_; rintro e w' ⟨rfl, rfl⟩; rw [hin])
      obtain ⟨o1, o2⟩ := orNat _ hg16 _ hx4
      go_roundw
      case rel => exact ⟨k + 1, by omega, by go_num, by rw [o1, HST.out], by rw [HST.out]; exact o2, hkW⟩
      case measure => simp [intOf]; omega
    · have hltI : ¬ (k : Int) < l.length := by omega
      go_wp2_with fail
      go_ret
      rw [List.take_of_length_le (by omega)]
      exact ⟨rfl, hkW⟩
end Go.Proofs.YtbhgicggpkibeaaDoor
set_option linter.all false
namespace Go.Proofs.YtbhgicggpkibeaaDoor
open Go.RowKit Go.Sort Go.Rg
set_option maxRecDepth 100000

def incr (l : List Nat) : Prop := ∀ i x y, l[i]? = some x → l[i + 1]? = some y → x < y
set_option maxHeartbeats 1000000 in
theorem ordered_any (v : Value) (l : List Nat) (n : Nat) (w : World) (h : ListAt w v l) (hl : l.length ≤ 4) (hx : ∀ x ∈ l, x < n) (hn : n ≤ 4) (hi : incr l) :
    Calls Tryd.prog 11 #[v, .int .i64 (n : Int)] w fun e w' => e = .returned (.bool true) ∧ Kept w w' := by
  obtain ⟨p, cap, rfl⟩ := listAt_len h
  go_enter Tryd.func11, Tryd.ntmps11
  go_wp2_with fail
  go_loopw [5] (fun i W => ∃ k : Nat, k ≤ l.length ∧ i = .int .i64 k ∧ Kept w W) (fun i W => l.length - (intOf i).toNat)
  case atStart => exact ⟨0, by omega, rfl, kept_refl _⟩
  case round =>
    obtain ⟨k, hk, rfl, hkW⟩ := hrel
    by_cases hlt : k < l.length
    · have hltI : (k : Int) < l.length := by omega
      have hget : l[k]? = some l[k] := List.getElem?_eq_getElem hlt
      have hxn := hx _ (List.getElem_mem hlt)
      generalize l[k] = x at *
      rcases h.kept hkW with ⟨_, rfl⟩ | ⟨b, cap', e, hb, hc⟩
      · simp at hlt
      cases e
      have hinc := fun y (j : Nat) (e : j + 1 = k) (hy : l[j]? = some y) => hi j y x hy (by rw [e]; exact hget)
      have hcx : ∀ d os, (grow (redrawn wr d) os).cell? ⟨b, k, none⟩ = some (.int .i64 x) := cell_regrown (hc k x hget)
      have hin : inB (x : Int) 0 ((n : Int) - 1) = true := by simp [inB]; omega
      have hwr : IntKind.i64.wrap ((n : Int) - 1) = (n : Int) - 1 := IntWalk.i64_in _ (by omega)
      have hlies : ∀ d os, Calls Tryd.prog 36 #[.int .i64 x, .int .i64 0, .int .i64 ((n : Int) - 1)] (grow (redrawn wr d) os) fun e w'' => e = .returned (.bool true) ∧ ∃ p : Regrown, w'' = grow (redrawn wr p.d) p.os := fun d os => Calls.regrown_of ((lies_any _ _ _ _).mono (by rintro e w' ⟨rfl, rfl⟩; exact ⟨by rw [hin], kept_refl _⟩))
      have HL := Lib.hid hlies
      clear hlies hget hi hx
      go_wp2_with fail
      by_cases hk0 : k = 0
      · subst hk0
        clear hc hinc
        refine wp_region_quiet_below (by kernel_rfl) (by kernel_rfl) ?_
        repeat (any_goals (first | go_big_quiet_skip | quiet_step (first | exact HL.out _ _)))
        refine wpQuiet_nil ?_
        intro _ hw'
        obtain ⟨⟨dq, osq⟩, hw''⟩ := hw'
        subst hw''
        have kW2 := kept_trans hkW (below_regrown wr dq osq)
        go_wp2_with fail
        go_roundw
        case rel => exact ⟨1, by omega, by go_num, kW2⟩
        case measure => simp [intOf]; omega
      · obtain ⟨y, hgy⟩ : ∃ y, l[k - 1]? = some y := ⟨_, List.getElem?_eq_getElem (by omega)⟩
        have hyx := hinc y (k - 1) (by omega) hgy
        have hcy : ∀ d os, (grow (redrawn wr d) os).cell? ⟨b, k - 1, none⟩ = some (.int .i64 y) := cell_regrown (hc (k - 1) y hgy)
        have hle : decide ((x : Int) ≤ (y : Int)) = false := by simp; omega
        have w0 : IntKind.i64.wrap 0 = 0 := IntWalk.i64_in _ (by omega)
        have w1 : IntKind.i64.wrap 1 = 1 := IntWalk.i64_in _ (by omega)
        have w2 : IntKind.i64.wrap 2 = 2 := IntWalk.i64_in _ (by omega)
        clear hc hinc hgy
        have hk2 : k + 1 ≤ l.length := hlt
        have HI : Hid (k + 1 ≤ l.length) := Lib.hid hk2
        rcases (show k = 1 ∨ k = 2 ∨ k = 3 by omega) with rfl | rfl | rfl
        all_goals
          simp only [Nat.reduceSub] at hcy
          have b0 : (0 : Int) < l.length := by omega
          have b0n : 0 < l.length := by omega
          have b1 : (1 : Int) < l.length := by omega
          try have b2 : (2 : Int) < l.length := by omega
          try have b3 : (3 : Int) < l.length := by omega
          refine wp_region_quiet_below (by kernel_rfl) (by kernel_rfl) ?_
          repeat (any_goals (first | go_big_quiet_skip | quiet_step (first | exact HL.out _ _)))
          refine wpQuiet_nil ?_
          intro _ hw'
          obtain ⟨⟨dq, osq⟩, hw''⟩ := hw'
          subst hw''
          have kW2 := kept_trans hkW (below_regrown wr dq osq)
          go_wp2_with fail
          go_roundw
          case rel => exact ⟨_, HI.out, by go_num, kW2⟩
          case measure => simp [intOf]; omega
    · have hltI : ¬ (k : Int) < l.length := by omega
      go_wp2_with fail
      go_ret
      exact ⟨rfl, hkW⟩
end Go.Proofs.YtbhgicggpkibeaaDoor
