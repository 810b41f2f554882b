/- A part of the proof: contracts of the program's functions for every input. No conditions. -/
import Derived.Test.YtchgkfnodcbpiaaDoorVF
set_option linter.all false
set_option linter.all false
namespace Go.Proofs.YtchgkfnodcbpiaaDoor
open Go.RowKit Go.Sort Go.Rg
set_option maxRecDepth 100000

theorem lies_any (n l h : Int) (w : World) : Calls Tryd.prog 18 #[.int .i64 n, .int .i64 l, .int .i64 h] w fun e w' => e = .returned (.bool (inB n l h)) ∧ w = w' := by
  by_cases h1 : l ≤ n
  · have h2 : decide (l ≤ n) = true := by simpa using h1
    have H : inB n l h = decide (n ≤ h) := by simp [inB, h1]
    rw [H]; clear H h1
    go_enter Tryd.func18, Tryd.ntmps18
    go_wp2
    go_ret
    exact ⟨rfl, rfl⟩
  · have h2 : decide (l ≤ n) = false := by simpa using h1
    have H : inB n l h = false := by simp [inB, h1]
    rw [H]; clear H h1
    go_enter Tryd.func18, Tryd.ntmps18
    go_wp2
    go_ret
    exact ⟨rfl, rfl⟩
theorem tmod_small (n : Int) (b : Int) (hb : 1 ≤ b) : -b < Int.tmod n b ∧ Int.tmod n b < b := by
  have h1 := Int.tmod_lt_of_pos n (show 0 < b by omega)
  have h2 := Int.tmod_lt_of_pos (-n) (show 0 < b by omega)
  rw [Int.neg_tmod] at h2
  omega
theorem turn_any (n b : Int) (hb : 1 ≤ b) (hb2 : b ≤ 1000) (w : World) : Calls Tryd.prog 9 #[.int .i64 n, .int .i64 b] w fun e w' => ∃ r, e = .returned (.int .i64 r) ∧ 0 ≤ r ∧ r < b ∧ w = w' := by
  have hb0 : decide (b < 1) = false := by simp; omega
  have hbz : (b == 0) = false := by simp; omega
  obtain ⟨m1, m2⟩ := tmod_small n b hb
  go_enter Tryd.func9, Tryd.ntmps9
  go_wp2_with fail
  all_goals go_ret
  · exact ⟨_, rfl, by omega, by omega, rfl⟩
  · exact ⟨_, rfl, by omega, by omega, rfl⟩
theorem fair_true (a b lo hi wide : Int) (w : World) (h1 : lo ≤ a) (h2 : a ≤ b) (h3 : b ≤ hi) (h4 : b - a ≤ wide) (ha : 0 ≤ a) (hb : b ≤ 100) :
    Calls Tryd.prog 19 #[.agg #[.int .i64 a, .int .i64 b], .int .i64 lo, .int .i64 hi, .int .i64 wide] w fun e w' => e = .returned (.bool true) ∧ Kept w w' := by
  have p1 : decide (lo ≤ a) = true := by simpa using h1
  have p2 : decide (a ≤ b) = true := by simpa using h2
  have p3 : decide (b ≤ hi) = true := by simpa using h3
  have p4 : decide (b - a ≤ wide) = true := by simpa using h4
  go_enter Tryd.func19, Tryd.ntmps19
  go_wp2_with fail
  go_ret
  exact ⟨rfl, kept_alloc (kept_refl _) _⟩

/-- a list of small numbers that can be read -/
def ListAt (w : World) (v : Value) (l : List Nat) : Prop :=
  (v = .slice none 0 0 ∧ l = []) ∨ ∃ b cap, v = .slice (some ⟨b, 0, none⟩) l.length cap ∧ b < w.heap.size ∧ ∀ i x, l[i]? = some x → w.cell? ⟨b, i, none⟩ = some (.int .i64 ((x : Nat) : Int))
theorem ListAt.kept {w w' : World} {v : Value} {l : List Nat} (h : ListAt w v l) (k : Kept w w') : ListAt w' v l :=
  h.imp id fun ⟨b, cap, e, hb, hc⟩ => ⟨b, cap, e, Nat.lt_of_lt_of_le hb k.size, fun i x hx => kcell k (hc i x hx)⟩
theorem ListAt.of_row {w : World} {n : Nat} {v : Value} {l : List Nat} {e : TypeId} (h : w.ownsRow n e 1 v l.length (intsV l)) : ListAt w v l := by
  have hc := h
  rcases h.2 with ⟨rfl, h0⟩ | ⟨g, cap, cur, rfl, _, hg, _⟩
  · exact .inl ⟨rfl, List.length_eq_zero_iff.1 h0⟩
  · refine .inr ⟨g, cap, rfl, (Array.getElem?_eq_some_iff.1 hg).1, fun i x hx => ?_⟩
    have hi : i < l.length := (List.getElem?_eq_some_iff.1 hx).1
    rw [hc.cellAt i (by omega)]
    simp [intsV, hx]
theorem listAt_len {w : World} {v : Value} {l : List Nat} (h : ListAt w v l) : ∃ p cap, v = .slice p l.length cap := by
  rcases h with ⟨rfl, rfl⟩ | ⟨b, cap, rfl, _⟩
  · exact ⟨none, 0, rfl⟩
  · exact ⟨_, cap, rfl⟩

def gath (l : List Nat) : Nat := l.foldl (fun s x => s ||| 2 ^ x) 0
theorem orNat : ∀ s : Nat, s < 16 → ∀ x : Nat, x < 4 → bits .or .i64 (s : Int) (wrap64 (2 ^ x)) = ((s ||| 2 ^ x : Nat) : Int) ∧ s ||| 2 ^ x < 16 := by decide +kernel
set_option maxHeartbeats 1000000 in
theorem gather_any (v : Value) (l : List Nat) (w : World) (h : ListAt w v l) (hl : l.length ≤ 4) (hx : ∀ x ∈ l, x < 4) :
    Calls Tryd.prog 16 #[v] w fun e w' => e = .returned (.int .i64 (gath l : Nat)) ∧ Kept w w' := by
  obtain ⟨p, cap, rfl⟩ := listAt_len h
  go_enter Tryd.func16, Tryd.ntmps16
  go_wp2_with fail
  go_loopw [3, 4] (fun s i W => ∃ k : Nat, k ≤ l.length ∧ i = .int .i64 k ∧ s = .int .i64 (gath (l.take k) : Nat) ∧ gath (l.take k) < 16 ∧ Kept w W) (fun s i W => l.length - (intOf i).toNat)
  case atStart => exact ⟨0, by omega, rfl, rfl, by simp [gath], kept_refl _⟩
  case round =>
    obtain ⟨k, hk, rfl, rfl, hg16, hkW⟩ := hrel
    by_cases hlt : k < l.length
    · have hltI : (k : Int) < l.length := by omega
      have hget : l[k]? = some l[k] := List.getElem?_eq_getElem hlt
      have hx4 := hx _ (List.getElem_mem hlt)
      have hstep : gath (l.take (k + 1)) = gath (l.take k) ||| 2 ^ l[k] := by
        rw [List.take_succ, hget]; unfold gath; rw [List.foldl_append]; rfl
      have HST := Lib.hid hstep; clear hstep
      generalize l[k] = x at *
      rcases h.kept hkW with ⟨_, rfl⟩ | ⟨b, cap', e, hb, hc⟩
      · simp at hlt
      cases e
      replace hc := hc k x hget
      have HG := Lib.hid hget; clear hget
      have hin : inB (x : Int) 0 61 = true := by simp [inB]; omega
      go_wp2_with (go_at_call 18; refine (lies_any _ _ _ _).mono ?_; rintro e w' ⟨rfl, rfl⟩; rw [hin])
      obtain ⟨o1, o2⟩ := orNat _ hg16 _ hx4
      go_roundw
      case rel => exact ⟨k + 1, by omega, by go_num, by rw [o1, HST.out], by rw [HST.out]; exact o2, hkW⟩
      case measure => simp [intOf]; omega
    · have hltI : ¬ (k : Int) < l.length := by omega
      go_wp2_with fail
      go_ret
      rw [List.take_of_length_le (by omega)]
      exact ⟨rfl, hkW⟩
end Go.Proofs.YtchgkfnodcbpiaaDoor
set_option linter.all false
namespace Go.Proofs.YtchgkfnodcbpiaaDoor
open Go.RowKit Go.Sort Go.Rg
set_option maxRecDepth 100000

def incr (l : List Nat) : Prop := ∀ i x y, l[i]? = some x → l[i + 1]? = some y → x < y
end Go.Proofs.YtchgkfnodcbpiaaDoor
set_option linter.all false
namespace Go.Proofs.YtchgkfnodcbpiaaDoor
open Go.RowKit Go.Sort Go.Rg
set_option maxRecDepth 100000

set_option maxHeartbeats 2000000 in
theorem small_false (p q : Option Addr) (cap capt : Nat) (B : Book) (W : World) (h : BookAt W p q cap capt B) (hok : B.okB = false) :
    Calls Tryd.prog 4 #[B.val p q cap capt] W fun e C => e = .returned (.bool false) ∧ Kept W C := by
  unfold Book.val
  have hk0 : Kept W (W.alloc (Obj.cells #[.slice p B.boys.length cap, .int .i64 B.weeks, .slice q B.trials.length capt] 25)) := kept_alloc (kept_refl _) _
  have hcall := check_any p q cap capt B _ (h.kept hk0)
  rw [hok] at hcall
  simp only [Bool.false_eq_true, if_false] at hcall
  have HC := Lib.hid hcall; clear hcall
  go_enter Tryd.func4, Tryd.ntmps4
  go_wp2_with fail
  generalize W.alloc (Obj.cells #[.slice p B.boys.length cap, .int .i64 B.weeks, .slice q B.trials.length capt] 25) = W0 at *
  refine HC.out.mono ?_
  rintro e w2 ⟨rfl, hk2⟩
  go_wp2_with fail
  go_loopw [3, 4] (fun ok i V => ok = .bool false ∧ i = .int .i64 0 ∧ V = w2) (fun ok i V => 0)
  case atStart => exact ⟨rfl, rfl, rfl⟩
  case round =>
    obtain ⟨rfl, rfl, rfl⟩ := hrel
    go_wp2_with fail
    go_loopw [3, 6] (fun ok i V => ok = .bool false ∧ i = .int .i64 0 ∧ V = wr) (fun ok i V => 0)
    case atStart => exact ⟨rfl, rfl, rfl⟩
    case round =>
      obtain ⟨rfl, rfl, rfl⟩ := hrel
      go_wp2_with fail
      go_ret
      exact ⟨rfl, kept_trans hk0 hk2⟩

theorem okB_boys {B : Book} (h : B.okB = true) : (1 ≤ B.boys.length ∧ B.boys.length ≤ 4 ∧ 1 ≤ B.weeks ∧ B.weeks ≤ 6 ∧ B.trials.length ≤ 6) ∧ (∀ x ∈ B.boys, x.okB = true) ∧ ∀ t ∈ B.trials, validTrialB B.boys.length B.weeks.toNat t = true := by
  simp only [Book.okB, inB, Bool.and_eq_true, decide_eq_true_eq, List.all_eq_true] at h
  obtain ⟨⟨⟨⟨h1, h2⟩, h3⟩, h4⟩, h5⟩ := h
  exact ⟨by omega, h4, h5⟩
theorem boy_nums {x : Boy} (h : x.okB = true) : (0 ≤ x.l0 ∧ x.l0 ≤ x.l1 ∧ x.l1 ≤ 40 ∧ x.l1 - x.l0 ≤ 2) ∧ (0 ≤ x.h0 ∧ x.h0 ≤ x.h1 ∧ x.h1 ≤ 40 ∧ x.h1 - x.h0 ≤ 2) ∧ (0 ≤ x.g0 ∧ x.g0 ≤ x.g1 ∧ x.g1 ≤ 2 ∧ x.g1 - x.g0 ≤ 1) ∧ (0 ≤ x.t0 ∧ x.t0 ≤ x.t1 ∧ x.t1 ≤ 6 ∧ x.t1 - x.t0 ≤ 2) ∧ (0 ≤ x.b0 ∧ x.b0 ≤ x.b1 ∧ x.b1 ≤ 9 ∧ x.b1 - x.b0 ≤ 3) ∧ 0 ≤ x.ls ∧ x.ls ≤ 2 := by
  simp only [Boy.okB, spanAt, spanB, inB, Bool.and_eq_true, decide_eq_true_eq, Bool.not_eq_true', decide_eq_false_iff_not] at h
  omega

set_option maxHeartbeats 4000000 in
theorem small_true (p q : Option Addr) (cap capt : Nat) (B : Book) (W : World) (h : BookAt W p q cap capt B) (hok : B.okB = true) :
    Calls Tryd.prog 4 #[B.val p q cap capt] W fun e C => e = .returned (.bool true) ∧ Kept W C := by
  unfold Book.val
  have hk0 : Kept W (W.alloc (Obj.cells #[.slice p B.boys.length cap, .int .i64 B.weeks, .slice q B.trials.length capt] 25)) := kept_alloc (kept_refl _) _
  have hcall := check_any p q cap capt B _ (h.kept hk0)
  rw [hok] at hcall
  simp only [if_true] at hcall
  have HC := Lib.hid hcall; clear hcall
  obtain ⟨⟨q1, q2, q3, q4, q5⟩, hbs, hts⟩ := okB_boys hok
  have i1 : inB (B.boys.length : Int) 1 4 = true := by simp [inB]; omega
  have i2 : inB B.weeks 1 6 = true := by simp [inB]; omega
  have i3 : decide ((B.trials.length : Int) ≤ 6) = true := by simp; omega
  have a0c : (W.alloc (Obj.cells #[.slice p B.boys.length cap, .int .i64 B.weeks, .slice q B.trials.length capt] 25)).cell? ⟨W.heap.size, 0, none⟩ = some (.slice p B.boys.length cap) := by go_simp
  have a1c : (W.alloc (Obj.cells #[.slice p B.boys.length cap, .int .i64 B.weeks, .slice q B.trials.length capt] 25)).cell? ⟨W.heap.size, 1, none⟩ = some (.int .i64 B.weeks) := by go_simp
  have a2c : (W.alloc (Obj.cells #[.slice p B.boys.length cap, .int .i64 B.weeks, .slice q B.trials.length capt] 25)).cell? ⟨W.heap.size, 2, none⟩ = some (.slice q B.trials.length capt) := by go_simp
  go_enter Tryd.func4, Tryd.ntmps4
  go_wp2_with fail
  generalize W.alloc (Obj.cells #[.slice p B.boys.length cap, .int .i64 B.weeks, .slice q B.trials.length capt] 25) = W0 at *
  refine HC.out.mono ?_
  rintro e w2 ⟨rfl, hk2⟩
  have e0 := kcell hk2 a0c
  have e1 := kcell hk2 a1c
  have e2 := kcell hk2 a2c
  go_wp2_with (first
    | (go_at_call 18; refine (lies_any _ _ _ _).mono ?_; rintro e w' ⟨rfl, rfl⟩; first | rw [i1] | rw [i2]))
  have hk02 := kept_trans hk0 hk2
  go_loopw [3, 4] (fun ok i V => ok = .bool true ∧ ∃ k : Nat, k ≤ B.boys.length ∧ i = .int .i64 k ∧ Kept w2 V) (fun ok i V => B.boys.length - (intOf i).toNat)
  case atStart => exact ⟨rfl, 0, by omega, rfl, kept_refl _⟩
  case round =>
    obtain ⟨rfl, k, hk, rfl, hkV⟩ := hrel
    have f0 := kcell hkV e0
    have f1 := kcell hkV e1
    have f2 := kcell hkV e2
    by_cases hlt : k < B.boys.length
    · have hltI : (k : Int) < B.boys.length := by omega
      have hget : B.boys[k]? = some B.boys[k] := List.getElem?_eq_getElem hlt
      have hxo := boy_nums (hbs _ (List.getElem_mem hlt))
      generalize B.boys[k] = x at *
      obtain ⟨y0, y1, y2, y3, y4, y5, y6⟩ := hxo
      rcases h.boys with hb | ⟨b, o, rfl, hb⟩
      · rw [hb] at hlt; simp at hlt
      have hbV := hb.kept (kept_trans hk02 hkV)
      obtain ⟨c0, c1, c2, c3, c4, c5, c6, c7, c8, c9, c10⟩ := hbV.2 k x hget
      have hiz := hbV.1
      clear hget hb
      have HZ := Lib.hid hk02
      go_wp2_with fail
      have m0 : (wr.alloc (Obj.cells #[.int .i64 x.l0, .int .i64 x.l1, .int .i64 x.h0, .int .i64 x.h1, .int .i64 x.g0, .int .i64 x.g1, .int .i64 x.t0, .int .i64 x.t1, .int .i64 x.ls, .int .i64 x.b0, .int .i64 x.b1] 53)).cell? ⟨wr.heap.size, 0, none⟩ = some (.int .i64 x.l0) := by go_simp
      have m1 : (wr.alloc (Obj.cells #[.int .i64 x.l0, .int .i64 x.l1, .int .i64 x.h0, .int .i64 x.h1, .int .i64 x.g0, .int .i64 x.g1, .int .i64 x.t0, .int .i64 x.t1, .int .i64 x.ls, .int .i64 x.b0, .int .i64 x.b1] 53)).cell? ⟨wr.heap.size, 1, none⟩ = some (.int .i64 x.l1) := by go_simp
      have m2 : (wr.alloc (Obj.cells #[.int .i64 x.l0, .int .i64 x.l1, .int .i64 x.h0, .int .i64 x.h1, .int .i64 x.g0, .int .i64 x.g1, .int .i64 x.t0, .int .i64 x.t1, .int .i64 x.ls, .int .i64 x.b0, .int .i64 x.b1] 53)).cell? ⟨wr.heap.size, 2, none⟩ = some (.int .i64 x.h0) := by go_simp
      have m3 : (wr.alloc (Obj.cells #[.int .i64 x.l0, .int .i64 x.l1, .int .i64 x.h0, .int .i64 x.h1, .int .i64 x.g0, .int .i64 x.g1, .int .i64 x.t0, .int .i64 x.t1, .int .i64 x.ls, .int .i64 x.b0, .int .i64 x.b1] 53)).cell? ⟨wr.heap.size, 3, none⟩ = some (.int .i64 x.h1) := by go_simp
      have m4 : (wr.alloc (Obj.cells #[.int .i64 x.l0, .int .i64 x.l1, .int .i64 x.h0, .int .i64 x.h1, .int .i64 x.g0, .int .i64 x.g1, .int .i64 x.t0, .int .i64 x.t1, .int .i64 x.ls, .int .i64 x.b0, .int .i64 x.b1] 53)).cell? ⟨wr.heap.size, 4, none⟩ = some (.int .i64 x.g0) := by go_simp
      have m5 : (wr.alloc (Obj.cells #[.int .i64 x.l0, .int .i64 x.l1, .int .i64 x.h0, .int .i64 x.h1, .int .i64 x.g0, .int .i64 x.g1, .int .i64 x.t0, .int .i64 x.t1, .int .i64 x.ls, .int .i64 x.b0, .int .i64 x.b1] 53)).cell? ⟨wr.heap.size, 5, none⟩ = some (.int .i64 x.g1) := by go_simp
      have m6 : (wr.alloc (Obj.cells #[.int .i64 x.l0, .int .i64 x.l1, .int .i64 x.h0, .int .i64 x.h1, .int .i64 x.g0, .int .i64 x.g1, .int .i64 x.t0, .int .i64 x.t1, .int .i64 x.ls, .int .i64 x.b0, .int .i64 x.b1] 53)).cell? ⟨wr.heap.size, 6, none⟩ = some (.int .i64 x.t0) := by go_simp
      have m7 : (wr.alloc (Obj.cells #[.int .i64 x.l0, .int .i64 x.l1, .int .i64 x.h0, .int .i64 x.h1, .int .i64 x.g0, .int .i64 x.g1, .int .i64 x.t0, .int .i64 x.t1, .int .i64 x.ls, .int .i64 x.b0, .int .i64 x.b1] 53)).cell? ⟨wr.heap.size, 7, none⟩ = some (.int .i64 x.t1) := by go_simp
      have m8 : (wr.alloc (Obj.cells #[.int .i64 x.l0, .int .i64 x.l1, .int .i64 x.h0, .int .i64 x.h1, .int .i64 x.g0, .int .i64 x.g1, .int .i64 x.t0, .int .i64 x.t1, .int .i64 x.ls, .int .i64 x.b0, .int .i64 x.b1] 53)).cell? ⟨wr.heap.size, 8, none⟩ = some (.int .i64 x.ls) := by go_simp
      have m9 : (wr.alloc (Obj.cells #[.int .i64 x.l0, .int .i64 x.l1, .int .i64 x.h0, .int .i64 x.h1, .int .i64 x.g0, .int .i64 x.g1, .int .i64 x.t0, .int .i64 x.t1, .int .i64 x.ls, .int .i64 x.b0, .int .i64 x.b1] 53)).cell? ⟨wr.heap.size, 9, none⟩ = some (.int .i64 x.b0) := by go_simp
      have m10 : (wr.alloc (Obj.cells #[.int .i64 x.l0, .int .i64 x.l1, .int .i64 x.h0, .int .i64 x.h1, .int .i64 x.g0, .int .i64 x.g1, .int .i64 x.t0, .int .i64 x.t1, .int .i64 x.ls, .int .i64 x.b0, .int .i64 x.b1] 53)).cell? ⟨wr.heap.size, 10, none⟩ = some (.int .i64 x.b1) := by go_simp
      have kV : Kept wr (wr.alloc (Obj.cells #[.int .i64 x.l0, .int .i64 x.l1, .int .i64 x.h0, .int .i64 x.h1, .int .i64 x.g0, .int .i64 x.g1, .int .i64 x.t0, .int .i64 x.t1, .int .i64 x.ls, .int .i64 x.b0, .int .i64 x.b1] 53)) := kept_alloc (kept_refl _) _
      generalize wr.alloc (Obj.cells #[.int .i64 x.l0, .int .i64 x.l1, .int .i64 x.h0, .int .i64 x.h1, .int .i64 x.g0, .int .i64 x.g1, .int .i64 x.t0, .int .i64 x.t1, .int .i64 x.ls, .int .i64 x.b0, .int .i64 x.b1] 53) = V0 at *
      clear c0 c1 c2 c3 c4 c5 c6 c7 c8 c9 c10 f0 f1 f2
      have hzs := Go.Ai.lt_of_cell m0
      go_wp2_with (first
        | (go_at_call 18; refine (lies_any _ _ _ _).mono ?_; rintro e w' ⟨rfl, rfl⟩; rw [show inB x.ls 0 2 = true by simp [inB]; omega])
        | (go_at_call 19; refine (fair_true _ _ _ _ _ _ (by omega) (by omega) (by omega) (by omega) (by omega) (by omega)).mono ?_; rintro e w' ⟨rfl, hkk⟩; replace m0 := kcell hkk m0; replace m1 := kcell hkk m1; replace m2 := kcell hkk m2; replace m3 := kcell hkk m3; replace m4 := kcell hkk m4; replace m5 := kcell hkk m5; replace m6 := kcell hkk m6; replace m7 := kcell hkk m7; replace m8 := kcell hkk m8; replace m9 := kcell hkk m9; replace m10 := kcell hkk m10; replace kV := kept_trans kV hkk; clear hkk; replace hzs := Go.Ai.lt_of_cell m0))
      go_roundw
      case rel => exact ⟨rfl, k + 1, by omega, by go_num, kept_trans hkV kV⟩
      case measure => simp [intOf]; omega
    · have hltI : ¬ (k : Int) < B.boys.length := by omega
      go_wp2_with fail
      have hk03 := kept_trans hk02 hkV
      obtain ⟨V1, hV1⟩ : ∃ V1, V1 = wr := ⟨_, rfl⟩
      subst hV1
      go_loopw [3, 6] (fun ok i V => ok = .bool true ∧ ∃ k : Nat, k ≤ B.trials.length ∧ i = .int .i64 k ∧ Kept V1 V) (fun ok i V => B.trials.length - (intOf i).toNat)
      case atStart => exact ⟨rfl, 0, by omega, rfl, kept_refl _⟩
      case round =>
        obtain ⟨rfl, k2, hk2', rfl, hkV2⟩ := hrel
        have f0 := kcell hkV2 f0
        have f1 := kcell hkV2 f1
        have f2 := kcell hkV2 f2
        have hzB := Go.Ai.lt_of_cell f0
        by_cases hlt2 : k2 < B.trials.length
        · have hltI2 : (k2 : Int) < B.trials.length := by omega
          have hget : B.trials[k2]? = some B.trials[k2] := List.getElem?_eq_getElem hlt2
          have hto := hts _ (List.getElem_mem hlt2)
          generalize B.trials[k2] = t at *
          rcases h.trials with hb | ⟨b, o, rfl, hb⟩
          · rw [hb] at hlt2; simp at hlt2
          have hbV := hb.kept (kept_trans hk03 hkV2)
          obtain ⟨c0, c1, c2, c3⟩ := hbV.2 k2 t hget
          have hiz := hbV.1
          clear hget hb
          have HZ := Lib.hid hk03
          simp only [validTrialB, Bool.and_eq_true] at hto
          obtain ⟨⟨⟨u1, u2⟩, u3⟩, _⟩ := hto
          have v2 : inB t.week 0 (B.weeks - 1) = true := by
            simp only [inB, Bool.and_eq_true, decide_eq_true_eq] at u2 ⊢; omega
          have hwr1 : IntKind.i64.wrap ((B.boys.length : Int) - 1) = (B.boys.length : Int) - 1 := IntWalk.i64_in _ (by omega)
          have hwr2 : IntKind.i64.wrap (B.weeks - 1) = B.weeks - 1 := IntWalk.i64_in _ (by omega)
          go_wp2_with (go_at_call 18; refine (lies_any _ _ _ _).mono ?_; rintro e w' ⟨rfl, rfl⟩; first | rw [u1] | rw [v2] | rw [u3])
          go_roundw
          case rel => exact ⟨rfl, k2 + 1, by omega, by go_num, kept_trans hkV2 (kept_alloc (kept_refl _) _)⟩
          case measure => simp [intOf]; omega
        · have hltI2 : ¬ (k2 : Int) < B.trials.length := by omega
          go_wp2_with fail
          go_ret
          exact ⟨rfl, kept_trans hk03 hkV2⟩
theorem small_any (p q : Option Addr) (cap capt : Nat) (B : Book) (W : World) (h : BookAt W p q cap capt B) :
    Calls Tryd.prog 4 #[B.val p q cap capt] W fun e C => e = .returned (.bool B.okB) ∧ Kept W C := by
  cases hok : B.okB with
  | false => exact small_false p q cap capt B W h hok
  | true => exact small_true p q cap capt B W h hok
end Go.Proofs.YtchgkfnodcbpiaaDoor
