/- Bounds of differences, closed by way of each node, one after the other: how great they can become, and that none is greater than by way of a third node. No conditions. -/
import Derived.WalkKit
import Derived.Test.YthgfbokfaidklaaGreatDoorProg
import Derived.WalkSpells
import Derived.Deep.QuietTactic
import Derived.BigQuiet
import Derived.Lib.Hide
import Derived.IntWalk
import Derived.Deep.RegionHeld3
import Derived.Deep.DeepCutAuto
import Derived.Lib.QuietBelow
import Derived.LoopTactic
set_option linter.all false
set_option linter.all false
namespace Go.Proofs.YthgfbokfaidklaaGreatDoor

abbrev Fm := Nat → Nat → Int
def dfltF : Fm := fun i j => if i = j then 0 else 120
def updF (f : Fm) (i j : Nat) (m : Int) : Fm := fun a b => if a = i ∧ b = j then min m (f i j) else f a b
def relaxF (k i : Nat) (f : Fm) (j : Nat) : Fm := updF f i j (f i k + f k j)
def rowTo (k i : Nat) (f : Fm) (j : Nat) : Fm := (List.range j).foldl (relaxF k i) f
def phaseTo (P k : Nat) (f : Fm) (i : Nat) : Fm := (List.range i).foldl (fun f i => rowTo k i f (P + 1)) f
def fwTo (P : Nat) (f : Fm) (k : Nat) : Fm := (List.range k).foldl (fun f k => phaseTo P k f (P + 1)) f
theorem rowTo_zero (k i : Nat) (f : Fm) : rowTo k i f 0 = f := rfl
theorem rowTo_succ (k i : Nat) (f : Fm) (j : Nat) : rowTo k i f (j + 1) = updF (rowTo k i f j) i j (rowTo k i f j i k + rowTo k i f j k j) := by
  simp [rowTo, List.range_succ, List.foldl_append, relaxF]
theorem phaseTo_zero (P k : Nat) (f : Fm) : phaseTo P k f 0 = f := rfl
theorem phaseTo_succ (P k : Nat) (f : Fm) (i : Nat) : phaseTo P k f (i + 1) = rowTo k i (phaseTo P k f i) (P + 1) := by
  simp [phaseTo, List.range_succ, List.foldl_append]
theorem fwTo_zero (P : Nat) (f : Fm) : fwTo P f 0 = f := rfl
theorem fwTo_succ (P : Nat) (f : Fm) (k : Nat) : fwTo P f (k + 1) = phaseTo P k (fwTo P f k) (P + 1) := by
  simp [fwTo, List.range_succ, List.foldl_append]

/-- it only falls -/
def LeF (f g : Fm) : Prop := ∀ a b, f a b ≤ g a b
theorem LeF.refl (f : Fm) : LeF f f := fun _ _ => Int.le_refl _
theorem LeF.trans {f g h : Fm} (x : LeF f g) (y : LeF g h) : LeF f h := fun a b => Int.le_trans (x a b) (y a b)
theorem updF_le (f : Fm) (i j : Nat) (m : Int) : LeF (updF f i j m) f := fun a b => by
  unfold updF
  split
  · rename_i h; obtain ⟨rfl, rfl⟩ := h; exact Int.min_le_right _ _
  · exact Int.le_refl _
theorem rowTo_le (k i : Nat) (f : Fm) : ∀ j, LeF (rowTo k i f j) f
  | 0 => LeF.refl f
  | j + 1 => by rw [rowTo_succ]; exact (updF_le _ _ _ _).trans (rowTo_le k i f j)
theorem phaseTo_le (P k : Nat) (f : Fm) : ∀ i, LeF (phaseTo P k f i) f
  | 0 => LeF.refl f
  | i + 1 => by rw [phaseTo_succ]; exact (rowTo_le _ _ _ _).trans (phaseTo_le P k f i)
theorem fwTo_le (P : Nat) (f : Fm) : ∀ k, LeF (fwTo P f k) f
  | 0 => LeF.refl f
  | k + 1 => by rw [fwTo_succ]; exact (phaseTo_le _ _ _ _).trans (fwTo_le P f k)
theorem fwTo_mono (P : Nat) (f : Fm) (k : Nat) : ∀ n, LeF (fwTo P f (k + n)) (fwTo P f k)
  | 0 => LeF.refl _
  | n + 1 => by
    rw [← Nat.add_assoc, fwTo_succ]; exact (phaseTo_le _ _ _ _).trans (fwTo_mono P f k n)
theorem phaseTo_mono (P k : Nat) (f : Fm) (i : Nat) : ∀ n, LeF (phaseTo P k f (i + n)) (phaseTo P k f i)
  | 0 => LeF.refl _
  | n + 1 => by
    rw [← Nat.add_assoc, phaseTo_succ]; exact (rowTo_le _ _ _ _).trans (phaseTo_mono P k f i n)

/-- a row's other rows stay -/
theorem rowTo_other (k i : Nat) (f : Fm) {a : Nat} (ha : a ≠ i) (b : Nat) : ∀ j, rowTo k i f j a b = f a b
  | 0 => rfl
  | j + 1 => by rw [rowTo_succ]; unfold updF; rw [if_neg (fun h => ha h.1)]; exact rowTo_other k i f ha b j
theorem rowTo_later (k i : Nat) (f : Fm) {b : Nat} : ∀ j, j ≤ b → rowTo k i f j i b = f i b
  | 0, _ => rfl
  | j + 1, h => by rw [rowTo_succ]; unfold updF; rw [if_neg (fun h' => by omega)]; exact rowTo_later k i f j (by omega)

/-- how low a row can fall -/
theorem row_low (k i : Nat) (f : Fm) (M A : Int) (hM : 0 ≤ M) (hA : M ≤ A) (h1 : ∀ b, -M ≤ f i b) (h2 : ∀ b, -A ≤ f k b) (hik : i = k → A = M) :
    ∀ j, (∀ b, -(M + 2 * A) ≤ rowTo k i f j i b) ∧ (-(M + A) ≤ rowTo k i f j i k)
  | 0 => ⟨fun b => by have := h1 b; rw [rowTo_zero]; omega, by have := h1 k; rw [rowTo_zero]; omega⟩
  | j + 1 => by
    obtain ⟨r1, r2⟩ := row_low k i f M A hM hA h1 h2 hik j
    have hj := h1 j
    have e1 : rowTo k i f j i j = f i j := rowTo_later k i f j (Nat.le_refl _)
    rw [rowTo_succ]
    by_cases e : i = k
    · subst e
      obtain rfl := hik rfl
      refine ⟨fun b => ?_, ?_⟩
      · unfold updF
        split
        · rename_i h; rw [e1]; omega
        · exact r1 b
      · unfold updF
        split
        · rename_i h; obtain ⟨_, rfl⟩ := h
          rw [e1]; omega
        · exact r2
    · have e2 : rowTo k i f j k j = f k j := rowTo_other k i f (Ne.symm e) j j
      have := h2 j
      refine ⟨fun b => ?_, ?_⟩
      · unfold updF
        split
        · rw [e1, e2]; omega
        · exact r1 b
      · unfold updF
        split
        · rename_i h; obtain ⟨_, rfl⟩ := h
          rw [e1, e2]; omega
        · exact r2
theorem phase_low (P k : Nat) (f : Fm) (M : Int) (hM : 0 ≤ M) (h : ∀ a b, -M ≤ f a b) :
    ∀ i, (∀ a b, -(7 * M) ≤ phaseTo P k f i a b) ∧ (∀ a b, i ≤ a → -M ≤ phaseTo P k f i a b) ∧ (∀ b, -(3 * M) ≤ phaseTo P k f i k b)
  | 0 => ⟨fun a b => by have := h a b; rw [phaseTo_zero]; omega, fun a b _ => h a b, fun b => by have := h k b; rw [phaseTo_zero]; omega⟩
  | i + 1 => by
    obtain ⟨p1, p2, p3⟩ := phase_low P k f M hM h i
    rw [phaseTo_succ]
    by_cases e : i = k
    · subst e
      have hr := row_low i i (phaseTo P i f i) M M hM (Int.le_refl _) (fun b => p2 i b (Nat.le_refl _)) (fun b => p2 i b (Nat.le_refl _)) (fun _ => rfl) (P + 1)
      refine ⟨fun a b => ?_, fun a b ha => ?_, fun b => ?_⟩
      · by_cases ea : a = i
        · subst ea; have := hr.1 b; omega
        · rw [rowTo_other _ _ _ ea]; exact p1 a b
      · rw [rowTo_other _ _ _ (by omega)]; exact p2 a b (by omega)
      · have := hr.1 b; omega
    · have hr := row_low k i (phaseTo P k f i) M (3 * M) hM (by omega) (fun b => p2 i b (Nat.le_refl _)) p3 (fun h => absurd h e) (P + 1)
      refine ⟨fun a b => ?_, fun a b ha => ?_, fun b => ?_⟩
      · by_cases ea : a = i
        · subst ea; have := hr.1 b; omega
        · rw [rowTo_other _ _ _ ea]; exact p1 a b
      · rw [rowTo_other _ _ _ (by omega)]; exact p2 a b (by omega)
      · rw [rowTo_other _ _ _ (fun h => e h.symm)]; exact p3 b
/-- no bound is less than this, whenever it is asked -/
theorem fw_low (P : Nat) (f : Fm) (M : Int) (hM : 0 ≤ M) (h : ∀ a b, -M ≤ f a b) : ∀ k, ∀ a b, -(7 ^ k * M) ≤ fwTo P f k a b
  | 0 => fun a b => by have := h a b; rw [fwTo_zero]; simpa using this
  | k + 1 => fun a b => by
    have hp : (0 : Int) ≤ 7 ^ k * M := Int.mul_nonneg (Int.pow_nonneg (by decide)) hM
    have := (phase_low P k (fwTo P f k) (7 ^ k * M) hp (fw_low P f M hM h k) (P + 1)).1 a b
    rw [fwTo_succ]
    have e : (7 : Int) ^ (k + 1) * M = 7 * (7 ^ k * M) := by rw [Int.pow_succ]; rw [Int.mul_comm (7 ^ k) 7, Int.mul_assoc]
    omega
theorem row_in (P k i j : Nat) (f : Fm) (M : Int) (hM : 0 ≤ M) (h : ∀ a b, -M ≤ f a b) (a b : Nat) : -(7 * M) ≤ rowTo k i (phaseTo P k f i) j a b := by
  obtain ⟨p1, p2, p3⟩ := phase_low P k f M hM h i
  by_cases ea : a = i
  · subst ea
    by_cases e : a = k
    · subst e
      have hr := row_low a a (phaseTo P a f a) M M hM (Int.le_refl _) (fun b => p2 a b (Nat.le_refl _)) (fun b => p2 a b (Nat.le_refl _)) (fun _ => rfl) j
      have := hr.1 b; omega
    · have hr := row_low k a (phaseTo P k f a) M (3 * M) hM (by omega) (fun b => p2 a b (Nat.le_refl _)) p3 (fun h => absurd h e) j
      have := hr.1 b; omega
  · rw [rowTo_other _ _ _ ea]; exact p1 a b

/-- what a phase does where its node's own bound is 0 -/
theorem row_zero (k i : Nat) (f : Fm) (hk : f k k = 0) : ∀ j, rowTo k i f j i k = f i k ∧ (∀ b, rowTo k i f j i b = if b < j then min (f i k + f k b) (f i b) else f i b)
  | 0 => ⟨rfl, fun b => by simp [rowTo_zero]⟩
  | j + 1 => by
    obtain ⟨h1, h2⟩ := row_zero k i f hk j
    have hkj : rowTo k i f j k j = f k j := by
      by_cases e : i = k
      · subst e; exact rowTo_later i i f j (Nat.le_refl _)
      · exact rowTo_other k i f (Ne.symm e) j j
    have hij : rowTo k i f j i j = f i j := rowTo_later k i f j (Nat.le_refl _)
    rw [rowTo_succ, h1, hkj]
    refine ⟨?_, fun b => ?_⟩
    · unfold updF
      split
      · rename_i h; obtain ⟨_, rfl⟩ := h; rw [hk, hij]; simp
      · exact h1
    · unfold updF
      split
      · rename_i h; obtain ⟨_, rfl⟩ := h; rw [hij, if_pos (by omega)]
      · rename_i h
        rw [h2 b]
        by_cases hb : b < j
        · rw [if_pos hb, if_pos (by omega)]
        · rw [if_neg hb, if_neg (fun h' => h ⟨rfl, by omega⟩)]
theorem phase_zero (P k : Nat) (f : Fm) (hk : f k k = 0) (hkP : k ≤ P) : ∀ i a b, b ≤ P → phaseTo P k f i a b = if a < i then min (f a k + f k b) (f a b) else f a b
  | 0, a, b, _ => by simp [phaseTo_zero]
  | i + 1, a, b, hb => by
    have ih := phase_zero P k f hk hkP i
    have hkk : phaseTo P k f i k k = 0 := by rw [ih k k hkP]; split <;> simp [hk]
    have hkb : phaseTo P k f i k b = f k b := by
      rw [ih k b hb]; split
      · rw [hk]; simp
      · rfl
    rw [phaseTo_succ]
    by_cases e : a = i
    · subst e
      rw [(row_zero k a (phaseTo P k f a) hkk (P + 1)).2 b, if_pos (by omega), if_pos (by omega), hkb, ih a b hb, ih a k hkP]
      simp
    · rw [rowTo_other _ _ _ e, ih a b hb]
      by_cases h : a < i
      · rw [if_pos h, if_pos (by omega)]
      · rw [if_neg h, if_neg (by omega)]

/-- by way of each node below k no bound would be less -/
def TriF (P k : Nat) (f : Fm) : Prop := ∀ m, m < k → ∀ i j, i ≤ P → j ≤ P → f i j ≤ f i m + f m j
theorem tri_step (P k : Nat) (f : Fm) (hk : f k k = 0) (hkP : k ≤ P) (h : TriF P k f) : TriF P (k + 1) (phaseTo P k f (P + 1)) := by
  intro m hm i j hi hj
  have E := fun a b (ha : a ≤ P) (hb : b ≤ P) => (phase_zero P k f hk hkP (P + 1) a b hb).trans (if_pos (by omega))
  have hmP : m ≤ P := by omega
  rw [E i j hi hj, E i m hi hmP, E m j hmP hj]
  by_cases e : m = k
  · subst e; rw [hk]; omega
  · have t1 := h m (by omega) i j hi hj
    have t2 := h m (by omega) k j hkP hj
    have t3 := h m (by omega) i k hi hkP
    have t4 := h m (by omega) k k hkP hkP
    rw [hk] at t4
    omega
theorem rowTo_mono (k i : Nat) (f : Fm) (j : Nat) : ∀ n, LeF (rowTo k i f (j + n)) (rowTo k i f j)
  | 0 => LeF.refl _
  | n + 1 => by rw [← Nat.add_assoc, rowTo_succ]; exact (updF_le _ _ _ _).trans (rowTo_mono k i f j n)
theorem row_at (k i : Nat) (f : Fm) (j : Nat) : rowTo k i f (j + 1) i j ≤ f i k + f k j := by
  rw [rowTo_succ]
  unfold updF
  rw [if_pos ⟨rfl, rfl⟩]
  have h1 := rowTo_le k i f j i k
  have h2 := rowTo_le k i f j k j
  have := Int.min_le_left (rowTo k i f j i k + rowTo k i f j k j) (rowTo k i f j i j)
  omega
theorem phase_at (P k : Nat) (f : Fm) {i j : Nat} (hi : i ≤ P) (hj : j ≤ P) : phaseTo P k f (P + 1) i j ≤ f i k + f k j := by
  have h1 := phaseTo_mono P k f (i + 1) (P - i) i j
  rw [show i + 1 + (P - i) = P + 1 by omega, phaseTo_succ P k f i] at h1
  have h2 := rowTo_mono k i (phaseTo P k f i) (j + 1) (P - j) i j
  rw [show j + 1 + (P - j) = P + 1 by omega] at h2
  have h3 := row_at k i (phaseTo P k f i) j
  have h4 := phaseTo_le P k f i i k
  have h5 := phaseTo_le P k f i k j
  omega
/-- **where no pipe is lower than itself no bound is greater than by way of any node** -/
theorem fw_tri (P : Nat) (f : Fm) (hd : ∀ i, i ≤ P → f i i = 0) (hfin : ∀ p, p < P → 0 ≤ fwTo P f (P + 1) p p) : TriF P (P + 1) (fwTo P f (P + 1)) ∧ ∀ i, i ≤ P → fwTo P f (P + 1) i i = 0 := by
  have hz : ∀ k, k < P + 1 → ∀ p, p < P → fwTo P f k p p = 0 := fun k hk p hp => by
    have h1 := fwTo_le P f k p p
    have h2 := fwTo_mono P f k (P + 1 - k) p p
    rw [show k + (P + 1 - k) = P + 1 by omega] at h2
    have := hd p (by omega)
    have := hfin p hp
    omega
  have htri : ∀ k, k ≤ P → TriF P k (fwTo P f k) := by
    intro k
    induction k with
    | zero => intro _ m hm; omega
    | succ k ih => intro hk; rw [fwTo_succ]; exact tri_step P k _ (hz k (by omega) k (by omega)) (by omega) (ih (by omega))
  have hneg : ∀ k, k ≤ P → fwTo P f k P P < 0 → ∃ m, m < k ∧ fwTo P f k P m + fwTo P f k m P < 0 := by
    intro k
    induction k with
    | zero => intro _ h; rw [fwTo_zero, hd P (Nat.le_refl _)] at h; omega
    | succ k ih =>
      intro hk h
      have hkk := hz k (by omega) k (by omega)
      have hle : LeF (fwTo P f (k + 1)) (fwTo P f k) := fwTo_mono P f k 1
      by_cases h0 : fwTo P f k P P < 0
      · obtain ⟨m, hm, hs⟩ := ih (by omega) h0
        have h1 := hle P m
        have h2 := hle m P
        exact ⟨m, by omega, by omega⟩
      · have e : fwTo P f (k + 1) P P = min (fwTo P f k P k + fwTo P f k k P) (fwTo P f k P P) := by
          rw [fwTo_succ, phase_zero P k _ hkk (by omega) (P + 1) P P (Nat.le_refl _), if_pos (by omega)]
        have h1 := hle P k
        have h2 := hle k P
        exact ⟨k, by omega, by omega⟩
  have hPP : fwTo P f P P P = 0 := by
    have h1 := fwTo_le P f P P P
    have := hd P (Nat.le_refl _)
    rcases Int.lt_or_le (fwTo P f P P P) 0 with h | h
    · obtain ⟨m, hm, hs⟩ := hneg P (Nat.le_refl _) h
      have h2 := phase_at P P (fwTo P f P) (i := m) (j := m) (by omega) (by omega)
      have h3 := hfin m hm
      rw [fwTo_succ] at h3
      omega
    · omega
  refine ⟨by rw [fwTo_succ]; exact tri_step P P _ hPP (Nat.le_refl _) (htri P (Nat.le_refl _)), fun i hi => ?_⟩
  by_cases e : i = P
  · subst e
    rw [fwTo_succ, phase_zero i i _ hPP (Nat.le_refl _) (i + 1) i i (Nat.le_refl _), if_pos (by omega), hPP]
    simp
  · have h1 := fwTo_le P f (P + 1) i i
    have := hd i hi
    have := hfin i (by omega)
    omega
end Go.Proofs.YthgfbokfaidklaaGreatDoor
set_option linter.all false
namespace Go.Proofs.YthgfbokfaidklaaGreatDoor
open Go.RowKit
set_option maxRecDepth 100000
set_option maxHeartbeats 400000

def inB (n l h : Int) : Bool := decide (l ≤ n) && decide (n ≤ h)
theorem isIn_any (n l h : Int) (w : World) : Calls Tryz.prog 72 #[.int .i64 n, .int .i64 l, .int .i64 h] w fun e w' => e = .returned (.bool (inB n l h)) ∧ w = w' := by
  by_cases h1 : l ≤ n
  · have h2 : decide (l ≤ n) = true := by simpa using h1
    have H : inB n l h = decide (n ≤ h) := by simp [inB, h1]
    rw [H]; clear H h1
    go_enter Tryz.func72, Tryz.ntmps72
    go_wp2
    go_ret
    exact ⟨rfl, rfl⟩
  · have h2 : decide (l ≤ n) = false := by simpa using h1
    have H : inB n l h = false := by simp [inB, h1]
    rw [H]; clear H h1
    go_enter Tryz.func72, Tryz.ntmps72
    go_wp2
    go_ret
    exact ⟨rfl, rfl⟩

theorem isNote_any (n : Int) (w : World) : Calls Tryz.prog 41 #[.int .i64 n] w fun e w' => e = .returned (.bool (inB n 0 40)) ∧ w = w' := by
  go_enter Tryz.func41, Tryz.ntmps41
  go_wp2_with (go_at_call 72; refine (isIn_any _ _ _ _).mono ?_; rintro e w' ⟨rfl, rfl⟩)
  go_ret
  exact ⟨rfl, rfl⟩

/-- the world behind: nothing that was there has turned -/
def Kept (w w' : World) : Prop := Below w.heap.size w w'

theorem isWeek_any (bs ts : Value) (wk n : Int) (w : World) (hk : 0 ≤ wk) (hk2 : wk ≤ 1000) : Calls Tryz.prog 40 #[.agg #[bs, .int .i64 wk, ts], .int .i64 n] w fun e w' => e = .returned (.bool (inB n 0 (wk - 1))) ∧ Kept w w' := by
  go_enter Tryz.func40, Tryz.ntmps40
  go_wp2_with (go_at_call 72; refine (isIn_any _ _ _ _).mono ?_; rintro e w' ⟨rfl, rfl⟩)
  go_ret
  refine ⟨rfl, ?_⟩
  unfold Kept
  exact (Below.refl _ _).alloc (Nat.le_refl _) _

theorem isBroken_any (a b c d f n0 n1 n2 n3 : Value) (n4 wk : Int) (w : World) : Calls Tryz.prog 75 #[.agg #[a, b, c, d, f, n0, n1, n2, n3, .int .i64 n4], .int .i64 wk] w fun e w' => e = .returned (.bool (decide (n4 ≤ wk))) ∧ Kept w w' := by
  go_enter Tryz.func75, Tryz.ntmps75
  go_wp2
  go_ret
  refine ⟨by simp, ?_⟩
  unfold Kept
  exact (Below.refl _ _).alloc (Nat.le_refl _) _

theorem just_any (n : Int) (w : World) : Calls Tryz.prog 45 #[.int .i64 n] w fun e w' => e = .returned (.agg #[.int .i64 n, .int .i64 n]) ∧ Kept w w' := by
  go_enter Tryz.func45, Tryz.ntmps45
  go_wp2
  refine bodyPost_ret (v := .agg #[.int .i64 n, .int .i64 n]) (by simp [results, Tryz.results45, go_sem]) rfl ⟨rfl, ?_⟩
  unfold Kept
  repeat (first | exact Below.refl _ _ | refine Below.alloc ?_ (Nat.le_refl _) _ | refine Below.setCell ?_ (by simp [Addr.add]; done) _ )

theorem isSpan_any (l h m : Int) (w : World) : Calls Tryz.prog 108 #[.agg #[.int .i64 l, .int .i64 h], .int .i64 m] w fun e w' => e = .returned (.bool (inB l 0 h && decide (h ≤ m))) ∧ Kept w w' := by
  rcases hb : inB l 0 h with _ | _
  · have H := Lib.hid hb; clear hb
    go_enter Tryz.func108, Tryz.ntmps108
    go_wp2_with (go_at_call 72; refine (isIn_any _ _ _ _).mono ?_; rintro e w' ⟨rfl, rfl⟩; rw [H.out])
    go_ret
    refine ⟨by simp, ?_⟩
    unfold Kept
    exact (Below.refl _ _).alloc (Nat.le_refl _) _
  · have H := Lib.hid hb; clear hb
    go_enter Tryz.func108, Tryz.ntmps108
    go_wp2_with (go_at_call 72; refine (isIn_any _ _ _ _).mono ?_; rintro e w' ⟨rfl, rfl⟩; rw [H.out])
    go_ret
    refine ⟨by simp, ?_⟩
    unfold Kept
    exact (Below.refl _ _).alloc (Nat.le_refl _) _

theorem least2 (n x : Int) (a : Addr) (w : World) (hc : w.cell? a = some (.int .i64 x)) : Calls Tryz.prog 102 #[.int .i64 n, .slice (some a) 1 1] w fun e w' => e = .returned (.int .i64 (min n x)) ∧ w = w' := by
  go_enter Tryz.func102, Tryz.ntmps102
  go_wp2
  go_loop [0, 9] (fun s i => ∃ k : Nat, k ≤ 1 ∧ i = .int .i64 k ∧ s = .int .i64 (if k = 0 then n else min n x)) (fun _ i => 1 - (intOf i).toNat)
  case atStart => exact ⟨0, by omega, rfl, rfl⟩
  case round =>
    obtain ⟨k, hk, rfl, rfl⟩ := hrel
    by_cases h0 : k = 0
    · subst h0
      have hc2 : w.cell? (a.add 0) = some (.int .i64 x) := by simpa [Addr.add] using hc
      by_cases hx : x < n
      · have hmin : min n x = x := by omega
        go_wp2
        go_round
        case rel => exact ⟨1, by omega, by go_num, by simp [hmin]⟩
        case measure => simp [intOf]
      · have hmin : min n x = n := by omega
        go_wp2
        go_round
        case rel => exact ⟨1, by omega, by go_num, by simp [hmin]⟩
        case measure => simp [intOf]
    · have h1 : k = 1 := by omega
      subst h1
      go_wp2
      go_ret
      exact ⟨by simp, rfl⟩

end Go.Proofs.YthgfbokfaidklaaGreatDoor
set_option linter.all false
namespace Go.Proofs.YthgfbokfaidklaaGreatDoor
open Go.RowKit
set_option maxRecDepth 100000
set_option maxHeartbeats 400000

def top (hi ga tu lo wk : Int) : Int := hi + min wk tu * ga - (wk - min wk tu) * lo

theorem mul_rng {x y : Int} (hx : 0 ≤ x ∧ x ≤ 100) (hy : 0 ≤ y ∧ y ≤ 100) : 0 ≤ x * y ∧ x * y ≤ 10000 :=
  ⟨Int.mul_nonneg hx.1 hy.1, by have := Int.mul_le_mul hx.2 hy.2 hy.1 (by omega); omega⟩

theorem below_drewN' {B : Nat} {a w : World} (h : Below B a w) (n : Nat) : Below B a (w.drewN n) := ⟨h.os, h.tape, h.output, h.size, h.block⟩

theorem highest_any (b o len cap : Nat) (k1 ts m : Value) (boy : Nat) (n0 n4 : Value) (n1 n2 n3 lo wk : Int) (w : World)
   (hb : boy < len) (hl : len ≤ 4) (hc : w.cell? ⟨b, o + boy * 11 + 8, none⟩ = some (.int .i64 lo)) (hin : b < w.heap.size)
   (h1 : 0 ≤ n1 ∧ n1 ≤ 100) (h2 : 0 ≤ n2 ∧ n2 ≤ 100) (h3 : 0 ≤ n3 ∧ n3 ≤ 100) (h4 : 0 ≤ wk ∧ wk ≤ 100) (h5 : 0 ≤ lo ∧ lo ≤ 100) :
   Calls Tryz.prog 76 #[.agg #[.slice (some ⟨b, o, none⟩) len cap, k1, ts, m, .int .i64 boy, n0, .int .i64 n1, .int .i64 n2, .int .i64 n3, n4], .int .i64 wk] w fun e w' => e = .returned (.int .i64 (top n1 n2 n3 lo wk)) ∧ Kept w w' := by
  have hr : 0 ≤ min wk n3 ∧ min wk n3 ≤ 100 := by omega
  have hr2 : 0 ≤ wk - min wk n3 ∧ wk - min wk n3 ≤ 100 := by omega
  have Htop : top n1 n2 n3 lo wk = n1 + min wk n3 * n2 - (wk - min wk n3) * lo := rfl
  rw [Htop]; clear Htop
  generalize hrr : min wk n3 = r at *
  have H := Lib.hid hrr; clear hrr
  go_enter Tryz.func76, Tryz.ntmps76
  go_wp2_with fail
  have hq : ((w.alloc
          (Obj.cells
            #[Value.slice (some ⟨b, o, none⟩) len cap, k1, ts, m, Value.int IntKind.i64 ↑boy, n0, Value.int IntKind.i64 n1,
              Value.int IntKind.i64 n2, Value.int IntKind.i64 n3, n4]
            100)).alloc
      (Obj.cells #[Value.int IntKind.i64 n3] 3)).cell? { block := w.heap.size + 1, off := 0 } = some (.int .i64 n3) := by go_simp
  refine (least2 wk n3 _ _ hq).mono ?_
  rintro e w' ⟨rfl, rfl⟩
  clear hq
  rw [H.out]
  have hp := mul_rng hr h2
  have hp2 := mul_rng hr2 h5
  have e1 : IntKind.i64.wrap (r * n2) = r * n2 := IntWalk.i64_in _ (by omega)
  have e2 : IntKind.i64.wrap (n1 + r * n2) = n1 + r * n2 := IntWalk.i64_in _ (by omega)
  have e3 : IntKind.i64.wrap (wk - r) = wk - r := IntWalk.i64_in _ (by omega)
  have e4 : IntKind.i64.wrap ((wk - r) * lo) = (wk - r) * lo := IntWalk.i64_in _ (by omega)
  have e5 : IntKind.i64.wrap (n1 + r * n2 - (wk - r) * lo) = n1 + r * n2 - (wk - r) * lo := IntWalk.i64_in _ (by omega)
  have hb2 : (boy : Int) < len := by omega
  have hb3 : (0 : Int) ≤ boy := by omega
  go_wp2_with fail
  go_quiet (fail)
  go_wp2_with fail
  go_ret
  refine ⟨rfl, ?_⟩
  unfold Kept
  exact below_drewN' (((Below.refl _ _).alloc (Nat.le_refl _) _).alloc (by simp) _) _
end Go.Proofs.YthgfbokfaidklaaGreatDoor
set_option linter.all false
namespace Go.Proofs.YthgfbokfaidklaaGreatDoor
open Go.RowKit Go.Sort
set_option maxRecDepth 100000
set_option maxHeartbeats 400000

theorem bcell {W w1 : World} (hb : Kept W w1) : (∀ b o, b < W.heap.size → w1.cell? ⟨b, o, none⟩ = W.cell? ⟨b, o, none⟩) ∧ (∀ b o, b < W.heap.size → w1.frozen? ⟨b, o, none⟩ = W.frozen? ⟨b, o, none⟩) ∧ W.heap.size ≤ w1.heap.size :=
  ⟨fun b o h => hb.cell (p := ⟨b, o, none⟩) h, fun b o h => hb.frozen (p := ⟨b, o, none⟩) h, hb.size⟩

theorem kept_drew {a w : World} (h : Kept a w) : Kept a w.drew := by unfold Kept at *; exact ⟨h.os, h.tape, h.output, h.size, h.block⟩
theorem kept_alloc {a w : World} (h : Kept a w) (x : Obj) : Kept a (w.alloc x) := by unfold Kept at *; exact Below.alloc h h.size x
theorem kept_refl (a : World) : Kept a a := Below.refl _ _
theorem kept_trans {a b c : World} (h : Kept a b) (k : Kept b c) : Kept a c := by unfold Kept at *; exact h.trans (k.mono h.size)


/-- a truth broken in the week does not sing -/
theorem sings_broken (k0 k1 ts m by' : Value) (n0 n1 n2 n3 : Value) (n4 lo hi wk : Int) (w : World) (hbr : n4 ≤ wk) :
   Calls Tryz.prog 44 #[.agg #[k0, k1, ts, m, by', n0, n1, n2, n3, .int .i64 n4], .int .i64 wk, .agg #[.int .i64 lo, .int .i64 hi]] w fun e w' => e = .returned (.bool false) ∧ Kept w w' := by
  have hd : decide (n4 ≤ wk) = true := by simpa using hbr
  have c0 : ∀ d os, (grow (redrawn ((w.alloc (Obj.cells #[k0, k1, ts, m, by', n0, n1, n2, n3, Value.int IntKind.i64 n4] 100)).alloc (Obj.cells #[Value.int IntKind.i64 lo, Value.int IntKind.i64 hi] 35)) d) os).cell? ⟨w.heap.size, 0, none⟩ = some (k0) := cell_regrown (by go_simp)
  have c1 : ∀ d os, (grow (redrawn ((w.alloc (Obj.cells #[k0, k1, ts, m, by', n0, n1, n2, n3, Value.int IntKind.i64 n4] 100)).alloc (Obj.cells #[Value.int IntKind.i64 lo, Value.int IntKind.i64 hi] 35)) d) os).cell? ⟨w.heap.size, 1, none⟩ = some (k1) := cell_regrown (by go_simp)
  have c2 : ∀ d os, (grow (redrawn ((w.alloc (Obj.cells #[k0, k1, ts, m, by', n0, n1, n2, n3, Value.int IntKind.i64 n4] 100)).alloc (Obj.cells #[Value.int IntKind.i64 lo, Value.int IntKind.i64 hi] 35)) d) os).cell? ⟨w.heap.size, 2, none⟩ = some (ts) := cell_regrown (by go_simp)
  have c3 : ∀ d os, (grow (redrawn ((w.alloc (Obj.cells #[k0, k1, ts, m, by', n0, n1, n2, n3, Value.int IntKind.i64 n4] 100)).alloc (Obj.cells #[Value.int IntKind.i64 lo, Value.int IntKind.i64 hi] 35)) d) os).cell? ⟨w.heap.size, 3, none⟩ = some (m) := cell_regrown (by go_simp)
  have c4 : ∀ d os, (grow (redrawn ((w.alloc (Obj.cells #[k0, k1, ts, m, by', n0, n1, n2, n3, Value.int IntKind.i64 n4] 100)).alloc (Obj.cells #[Value.int IntKind.i64 lo, Value.int IntKind.i64 hi] 35)) d) os).cell? ⟨w.heap.size, 4, none⟩ = some (by') := cell_regrown (by go_simp)
  have c5 : ∀ d os, (grow (redrawn ((w.alloc (Obj.cells #[k0, k1, ts, m, by', n0, n1, n2, n3, Value.int IntKind.i64 n4] 100)).alloc (Obj.cells #[Value.int IntKind.i64 lo, Value.int IntKind.i64 hi] 35)) d) os).cell? ⟨w.heap.size, 5, none⟩ = some (n0) := cell_regrown (by go_simp)
  have c6 : ∀ d os, (grow (redrawn ((w.alloc (Obj.cells #[k0, k1, ts, m, by', n0, n1, n2, n3, Value.int IntKind.i64 n4] 100)).alloc (Obj.cells #[Value.int IntKind.i64 lo, Value.int IntKind.i64 hi] 35)) d) os).cell? ⟨w.heap.size, 6, none⟩ = some (n1) := cell_regrown (by go_simp)
  have c7 : ∀ d os, (grow (redrawn ((w.alloc (Obj.cells #[k0, k1, ts, m, by', n0, n1, n2, n3, Value.int IntKind.i64 n4] 100)).alloc (Obj.cells #[Value.int IntKind.i64 lo, Value.int IntKind.i64 hi] 35)) d) os).cell? ⟨w.heap.size, 7, none⟩ = some (n2) := cell_regrown (by go_simp)
  have c8 : ∀ d os, (grow (redrawn ((w.alloc (Obj.cells #[k0, k1, ts, m, by', n0, n1, n2, n3, Value.int IntKind.i64 n4] 100)).alloc (Obj.cells #[Value.int IntKind.i64 lo, Value.int IntKind.i64 hi] 35)) d) os).cell? ⟨w.heap.size, 8, none⟩ = some (n3) := cell_regrown (by go_simp)
  have c9 : ∀ d os, (grow (redrawn ((w.alloc (Obj.cells #[k0, k1, ts, m, by', n0, n1, n2, n3, Value.int IntKind.i64 n4] 100)).alloc (Obj.cells #[Value.int IntKind.i64 lo, Value.int IntKind.i64 hi] 35)) d) os).cell? ⟨w.heap.size, 9, none⟩ = some (.int .i64 n4) := cell_regrown (by go_simp)
  have c10 : ∀ d os, (grow (redrawn ((w.alloc (Obj.cells #[k0, k1, ts, m, by', n0, n1, n2, n3, Value.int IntKind.i64 n4] 100)).alloc (Obj.cells #[Value.int IntKind.i64 lo, Value.int IntKind.i64 hi] 35)) d) os).cell? ⟨w.heap.size + 1, 0, none⟩ = some (.int .i64 lo) := cell_regrown (by go_simp)
  have c11 : ∀ d os, (grow (redrawn ((w.alloc (Obj.cells #[k0, k1, ts, m, by', n0, n1, n2, n3, Value.int IntKind.i64 n4] 100)).alloc (Obj.cells #[Value.int IntKind.i64 lo, Value.int IntKind.i64 hi] 35)) d) os).cell? ⟨w.heap.size + 1, 1, none⟩ = some (.int .i64 hi) := cell_regrown (by go_simp)
  have kW : Kept w ((w.alloc (Obj.cells #[k0, k1, ts, m, by', n0, n1, n2, n3, Value.int IntKind.i64 n4] 100)).alloc (Obj.cells #[Value.int IntKind.i64 lo, Value.int IntKind.i64 hi] 35)) := kept_alloc (kept_alloc (kept_refl _) _) _
  go_enter Tryz.func44, Tryz.ntmps44
  go_wp2_with fail
  generalize (w.alloc (Obj.cells #[k0, k1, ts, m, by', n0, n1, n2, n3, Value.int IntKind.i64 n4] 100)).alloc (Obj.cells #[Value.int IntKind.i64 lo, Value.int IntKind.i64 hi] 35) = W at *
  refine wp_region_quiet_below (by kernel_rfl) (by kernel_rfl) ?_
  repeat (any_goals (quiet_step (first | exact Calls.regrown_of (isBroken_any _ _ _ _ _ _ _ _ _ _ _ _))))
  refine wpQuiet_nil ?_
  intro _ hw'
  obtain ⟨⟨dq, osq⟩, hw''⟩ := hw'
  subst hw''
  have kW2 := kept_trans kW (below_regrown W dq osq)
  go_wp2_with fail
  go_ret
  exact ⟨rfl, kW2⟩
end Go.Proofs.YthgfbokfaidklaaGreatDoor
set_option linter.all false
namespace Go.Proofs.YthgfbokfaidklaaGreatDoor
open Go.RowKit Go.Sort
set_option maxRecDepth 100000

set_option maxHeartbeats 1000000 in
theorem sings_low (b o len cap : Nat) (k1 ts m : Value) (boy : Nat) (n0 n1 n2 n3 n4 loss lo hi wk : Int) (w : World)
   (hb : boy < len) (hl : len ≤ 4) (hc : w.cell? ⟨b, o + boy * 11 + 8, none⟩ = some (.int .i64 loss)) (hin : b < w.heap.size)
   (h1 : 0 ≤ n1 ∧ n1 ≤ 100) (h2 : 0 ≤ n2 ∧ n2 ≤ 100) (h3 : 0 ≤ n3 ∧ n3 ≤ 100) (h4 : 0 ≤ wk ∧ wk ≤ 100) (h5 : 0 ≤ loss ∧ loss ≤ 100) (hbr : wk < n4) (hlo : lo < n0) :
   Calls Tryz.prog 44 #[.agg #[Value.slice (some ⟨b, o, none⟩) len cap, k1, ts, m, Value.int IntKind.i64 ↑boy, Value.int IntKind.i64 n0, Value.int IntKind.i64 n1, Value.int IntKind.i64 n2, Value.int IntKind.i64 n3, Value.int IntKind.i64 n4], .int .i64 wk, .agg #[.int .i64 lo, .int .i64 hi]] w fun e w' => e = .returned (.bool (false)) ∧ Kept w w' := by
  have hd : decide (n4 ≤ wk) = false := by simpa using hbr
  have hd2 : decide (n0 ≤ lo) = false := by simpa using hlo
  have c0 : ∀ d os, (grow (redrawn ((w.alloc (Obj.cells #[Value.slice (some ⟨b, o, none⟩) len cap, k1, ts, m, Value.int IntKind.i64 ↑boy, Value.int IntKind.i64 n0, Value.int IntKind.i64 n1, Value.int IntKind.i64 n2, Value.int IntKind.i64 n3, Value.int IntKind.i64 n4] 100)).alloc (Obj.cells #[Value.int IntKind.i64 lo, Value.int IntKind.i64 hi] 35)) d) os).cell? ⟨w.heap.size, 0, none⟩ = some (Value.slice (some ⟨b, o, none⟩) len cap) := cell_regrown (by go_simp)
  have c1 : ∀ d os, (grow (redrawn ((w.alloc (Obj.cells #[Value.slice (some ⟨b, o, none⟩) len cap, k1, ts, m, Value.int IntKind.i64 ↑boy, Value.int IntKind.i64 n0, Value.int IntKind.i64 n1, Value.int IntKind.i64 n2, Value.int IntKind.i64 n3, Value.int IntKind.i64 n4] 100)).alloc (Obj.cells #[Value.int IntKind.i64 lo, Value.int IntKind.i64 hi] 35)) d) os).cell? ⟨w.heap.size, 1, none⟩ = some (k1) := cell_regrown (by go_simp)
  have c2 : ∀ d os, (grow (redrawn ((w.alloc (Obj.cells #[Value.slice (some ⟨b, o, none⟩) len cap, k1, ts, m, Value.int IntKind.i64 ↑boy, Value.int IntKind.i64 n0, Value.int IntKind.i64 n1, Value.int IntKind.i64 n2, Value.int IntKind.i64 n3, Value.int IntKind.i64 n4] 100)).alloc (Obj.cells #[Value.int IntKind.i64 lo, Value.int IntKind.i64 hi] 35)) d) os).cell? ⟨w.heap.size, 2, none⟩ = some (ts) := cell_regrown (by go_simp)
  have c3 : ∀ d os, (grow (redrawn ((w.alloc (Obj.cells #[Value.slice (some ⟨b, o, none⟩) len cap, k1, ts, m, Value.int IntKind.i64 ↑boy, Value.int IntKind.i64 n0, Value.int IntKind.i64 n1, Value.int IntKind.i64 n2, Value.int IntKind.i64 n3, Value.int IntKind.i64 n4] 100)).alloc (Obj.cells #[Value.int IntKind.i64 lo, Value.int IntKind.i64 hi] 35)) d) os).cell? ⟨w.heap.size, 3, none⟩ = some (m) := cell_regrown (by go_simp)
  have c4 : ∀ d os, (grow (redrawn ((w.alloc (Obj.cells #[Value.slice (some ⟨b, o, none⟩) len cap, k1, ts, m, Value.int IntKind.i64 ↑boy, Value.int IntKind.i64 n0, Value.int IntKind.i64 n1, Value.int IntKind.i64 n2, Value.int IntKind.i64 n3, Value.int IntKind.i64 n4] 100)).alloc (Obj.cells #[Value.int IntKind.i64 lo, Value.int IntKind.i64 hi] 35)) d) os).cell? ⟨w.heap.size, 4, none⟩ = some (Value.int IntKind.i64 ↑boy) := cell_regrown (by go_simp)
  have c5 : ∀ d os, (grow (redrawn ((w.alloc (Obj.cells #[Value.slice (some ⟨b, o, none⟩) len cap, k1, ts, m, Value.int IntKind.i64 ↑boy, Value.int IntKind.i64 n0, Value.int IntKind.i64 n1, Value.int IntKind.i64 n2, Value.int IntKind.i64 n3, Value.int IntKind.i64 n4] 100)).alloc (Obj.cells #[Value.int IntKind.i64 lo, Value.int IntKind.i64 hi] 35)) d) os).cell? ⟨w.heap.size, 5, none⟩ = some (Value.int IntKind.i64 n0) := cell_regrown (by go_simp)
  have c6 : ∀ d os, (grow (redrawn ((w.alloc (Obj.cells #[Value.slice (some ⟨b, o, none⟩) len cap, k1, ts, m, Value.int IntKind.i64 ↑boy, Value.int IntKind.i64 n0, Value.int IntKind.i64 n1, Value.int IntKind.i64 n2, Value.int IntKind.i64 n3, Value.int IntKind.i64 n4] 100)).alloc (Obj.cells #[Value.int IntKind.i64 lo, Value.int IntKind.i64 hi] 35)) d) os).cell? ⟨w.heap.size, 6, none⟩ = some (Value.int IntKind.i64 n1) := cell_regrown (by go_simp)
  have c7 : ∀ d os, (grow (redrawn ((w.alloc (Obj.cells #[Value.slice (some ⟨b, o, none⟩) len cap, k1, ts, m, Value.int IntKind.i64 ↑boy, Value.int IntKind.i64 n0, Value.int IntKind.i64 n1, Value.int IntKind.i64 n2, Value.int IntKind.i64 n3, Value.int IntKind.i64 n4] 100)).alloc (Obj.cells #[Value.int IntKind.i64 lo, Value.int IntKind.i64 hi] 35)) d) os).cell? ⟨w.heap.size, 7, none⟩ = some (Value.int IntKind.i64 n2) := cell_regrown (by go_simp)
  have c8 : ∀ d os, (grow (redrawn ((w.alloc (Obj.cells #[Value.slice (some ⟨b, o, none⟩) len cap, k1, ts, m, Value.int IntKind.i64 ↑boy, Value.int IntKind.i64 n0, Value.int IntKind.i64 n1, Value.int IntKind.i64 n2, Value.int IntKind.i64 n3, Value.int IntKind.i64 n4] 100)).alloc (Obj.cells #[Value.int IntKind.i64 lo, Value.int IntKind.i64 hi] 35)) d) os).cell? ⟨w.heap.size, 8, none⟩ = some (Value.int IntKind.i64 n3) := cell_regrown (by go_simp)
  have c9 : ∀ d os, (grow (redrawn ((w.alloc (Obj.cells #[Value.slice (some ⟨b, o, none⟩) len cap, k1, ts, m, Value.int IntKind.i64 ↑boy, Value.int IntKind.i64 n0, Value.int IntKind.i64 n1, Value.int IntKind.i64 n2, Value.int IntKind.i64 n3, Value.int IntKind.i64 n4] 100)).alloc (Obj.cells #[Value.int IntKind.i64 lo, Value.int IntKind.i64 hi] 35)) d) os).cell? ⟨w.heap.size, 9, none⟩ = some (Value.int IntKind.i64 n4) := cell_regrown (by go_simp)
  have c10 : ∀ d os, (grow (redrawn ((w.alloc (Obj.cells #[Value.slice (some ⟨b, o, none⟩) len cap, k1, ts, m, Value.int IntKind.i64 ↑boy, Value.int IntKind.i64 n0, Value.int IntKind.i64 n1, Value.int IntKind.i64 n2, Value.int IntKind.i64 n3, Value.int IntKind.i64 n4] 100)).alloc (Obj.cells #[Value.int IntKind.i64 lo, Value.int IntKind.i64 hi] 35)) d) os).cell? ⟨w.heap.size + 1, 0, none⟩ = some (Value.int IntKind.i64 lo) := cell_regrown (by go_simp)
  have c11 : ∀ d os, (grow (redrawn ((w.alloc (Obj.cells #[Value.slice (some ⟨b, o, none⟩) len cap, k1, ts, m, Value.int IntKind.i64 ↑boy, Value.int IntKind.i64 n0, Value.int IntKind.i64 n1, Value.int IntKind.i64 n2, Value.int IntKind.i64 n3, Value.int IntKind.i64 n4] 100)).alloc (Obj.cells #[Value.int IntKind.i64 lo, Value.int IntKind.i64 hi] 35)) d) os).cell? ⟨w.heap.size + 1, 1, none⟩ = some (Value.int IntKind.i64 hi) := cell_regrown (by go_simp)
  have kW : Kept w ((w.alloc (Obj.cells #[Value.slice (some ⟨b, o, none⟩) len cap, k1, ts, m, Value.int IntKind.i64 ↑boy, Value.int IntKind.i64 n0, Value.int IntKind.i64 n1, Value.int IntKind.i64 n2, Value.int IntKind.i64 n3, Value.int IntKind.i64 n4] 100)).alloc (Obj.cells #[Value.int IntKind.i64 lo, Value.int IntKind.i64 hi] 35)) := kept_alloc (kept_alloc (kept_refl _) _) _
  have cL : ∀ d os, (grow (redrawn ((w.alloc (Obj.cells #[Value.slice (some ⟨b, o, none⟩) len cap, k1, ts, m, Value.int IntKind.i64 ↑boy, Value.int IntKind.i64 n0, Value.int IntKind.i64 n1, Value.int IntKind.i64 n2, Value.int IntKind.i64 n3, Value.int IntKind.i64 n4] 100)).alloc (Obj.cells #[Value.int IntKind.i64 lo, Value.int IntKind.i64 hi] 35)) d) os).cell? ⟨b, o + boy * 11 + 8, none⟩ = some (.int .i64 loss) := cell_regrown (((bcell kW).1 b _ hin).trans hc)
  have sW : w.heap.size ≤ ((w.alloc (Obj.cells #[Value.slice (some ⟨b, o, none⟩) len cap, k1, ts, m, Value.int IntKind.i64 ↑boy, Value.int IntKind.i64 n0, Value.int IntKind.i64 n1, Value.int IntKind.i64 n2, Value.int IntKind.i64 n3, Value.int IntKind.i64 n4] 100)).alloc (Obj.cells #[Value.int IntKind.i64 lo, Value.int IntKind.i64 hi] 35)).heap.size := by simp; omega
  go_enter Tryz.func44, Tryz.ntmps44
  go_wp2_with fail
  generalize (w.alloc (Obj.cells #[Value.slice (some ⟨b, o, none⟩) len cap, k1, ts, m, Value.int IntKind.i64 ↑boy, Value.int IntKind.i64 n0, Value.int IntKind.i64 n1, Value.int IntKind.i64 n2, Value.int IntKind.i64 n3, Value.int IntKind.i64 n4] 100)).alloc (Obj.cells #[Value.int IntKind.i64 lo, Value.int IntKind.i64 hi] 35) = W at *
  have zL : ∀ d os, b < (grow (redrawn W d) os).heap.size := fun d os => Nat.lt_of_lt_of_le (Nat.lt_of_lt_of_le hin sW) (below_regrown W d os).size
  have HL := Lib.hid cL
  have HZ := Lib.hid zL
  clear cL zL hc
  refine wp_region_quiet_below (by kernel_rfl) (by kernel_rfl) ?_
  repeat (any_goals (quiet_step (first | exact Calls.regrown_of (isBroken_any _ _ _ _ _ _ _ _ _ _ _ _))))
  refine wpQuiet_nil ?_
  intro _ hw'
  obtain ⟨⟨dq, osq⟩, hw''⟩ := hw'
  subst hw''
  have kW2 := kept_trans kW (below_regrown W dq osq)
  go_wp2_with fail
  go_ret
  exact ⟨by simp, kW2⟩

set_option maxHeartbeats 1000000 in
theorem sings_top (b o len cap : Nat) (k1 ts m : Value) (boy : Nat) (n0 n1 n2 n3 n4 loss lo hi wk : Int) (w : World)
   (hb : boy < len) (hl : len ≤ 4) (hc : w.cell? ⟨b, o + boy * 11 + 8, none⟩ = some (.int .i64 loss)) (hin : b < w.heap.size)
   (h1 : 0 ≤ n1 ∧ n1 ≤ 100) (h2 : 0 ≤ n2 ∧ n2 ≤ 100) (h3 : 0 ≤ n3 ∧ n3 ≤ 100) (h4 : 0 ≤ wk ∧ wk ≤ 100) (h5 : 0 ≤ loss ∧ loss ≤ 100) (hbr : wk < n4) (hlo : n0 ≤ lo) :
   Calls Tryz.prog 44 #[.agg #[Value.slice (some ⟨b, o, none⟩) len cap, k1, ts, m, Value.int IntKind.i64 ↑boy, Value.int IntKind.i64 n0, Value.int IntKind.i64 n1, Value.int IntKind.i64 n2, Value.int IntKind.i64 n3, Value.int IntKind.i64 n4], .int .i64 wk, .agg #[.int .i64 lo, .int .i64 hi]] w fun e w' => e = .returned (.bool (decide (hi ≤ top n1 n2 n3 loss wk))) ∧ Kept w w' := by
  have hd : decide (n4 ≤ wk) = false := by simpa using hbr
  have hd2 : decide (n0 ≤ lo) = true := by simpa using hlo
  have c0 : ∀ d os, (grow (redrawn ((w.alloc (Obj.cells #[Value.slice (some ⟨b, o, none⟩) len cap, k1, ts, m, Value.int IntKind.i64 ↑boy, Value.int IntKind.i64 n0, Value.int IntKind.i64 n1, Value.int IntKind.i64 n2, Value.int IntKind.i64 n3, Value.int IntKind.i64 n4] 100)).alloc (Obj.cells #[Value.int IntKind.i64 lo, Value.int IntKind.i64 hi] 35)) d) os).cell? ⟨w.heap.size, 0, none⟩ = some (Value.slice (some ⟨b, o, none⟩) len cap) := cell_regrown (by go_simp)
  have c1 : ∀ d os, (grow (redrawn ((w.alloc (Obj.cells #[Value.slice (some ⟨b, o, none⟩) len cap, k1, ts, m, Value.int IntKind.i64 ↑boy, Value.int IntKind.i64 n0, Value.int IntKind.i64 n1, Value.int IntKind.i64 n2, Value.int IntKind.i64 n3, Value.int IntKind.i64 n4] 100)).alloc (Obj.cells #[Value.int IntKind.i64 lo, Value.int IntKind.i64 hi] 35)) d) os).cell? ⟨w.heap.size, 1, none⟩ = some (k1) := cell_regrown (by go_simp)
  have c2 : ∀ d os, (grow (redrawn ((w.alloc (Obj.cells #[Value.slice (some ⟨b, o, none⟩) len cap, k1, ts, m, Value.int IntKind.i64 ↑boy, Value.int IntKind.i64 n0, Value.int IntKind.i64 n1, Value.int IntKind.i64 n2, Value.int IntKind.i64 n3, Value.int IntKind.i64 n4] 100)).alloc (Obj.cells #[Value.int IntKind.i64 lo, Value.int IntKind.i64 hi] 35)) d) os).cell? ⟨w.heap.size, 2, none⟩ = some (ts) := cell_regrown (by go_simp)
  have c3 : ∀ d os, (grow (redrawn ((w.alloc (Obj.cells #[Value.slice (some ⟨b, o, none⟩) len cap, k1, ts, m, Value.int IntKind.i64 ↑boy, Value.int IntKind.i64 n0, Value.int IntKind.i64 n1, Value.int IntKind.i64 n2, Value.int IntKind.i64 n3, Value.int IntKind.i64 n4] 100)).alloc (Obj.cells #[Value.int IntKind.i64 lo, Value.int IntKind.i64 hi] 35)) d) os).cell? ⟨w.heap.size, 3, none⟩ = some (m) := cell_regrown (by go_simp)
  have c4 : ∀ d os, (grow (redrawn ((w.alloc (Obj.cells #[Value.slice (some ⟨b, o, none⟩) len cap, k1, ts, m, Value.int IntKind.i64 ↑boy, Value.int IntKind.i64 n0, Value.int IntKind.i64 n1, Value.int IntKind.i64 n2, Value.int IntKind.i64 n3, Value.int IntKind.i64 n4] 100)).alloc (Obj.cells #[Value.int IntKind.i64 lo, Value.int IntKind.i64 hi] 35)) d) os).cell? ⟨w.heap.size, 4, none⟩ = some (Value.int IntKind.i64 ↑boy) := cell_regrown (by go_simp)
  have c5 : ∀ d os, (grow (redrawn ((w.alloc (Obj.cells #[Value.slice (some ⟨b, o, none⟩) len cap, k1, ts, m, Value.int IntKind.i64 ↑boy, Value.int IntKind.i64 n0, Value.int IntKind.i64 n1, Value.int IntKind.i64 n2, Value.int IntKind.i64 n3, Value.int IntKind.i64 n4] 100)).alloc (Obj.cells #[Value.int IntKind.i64 lo, Value.int IntKind.i64 hi] 35)) d) os).cell? ⟨w.heap.size, 5, none⟩ = some (Value.int IntKind.i64 n0) := cell_regrown (by go_simp)
  have c6 : ∀ d os, (grow (redrawn ((w.alloc (Obj.cells #[Value.slice (some ⟨b, o, none⟩) len cap, k1, ts, m, Value.int IntKind.i64 ↑boy, Value.int IntKind.i64 n0, Value.int IntKind.i64 n1, Value.int IntKind.i64 n2, Value.int IntKind.i64 n3, Value.int IntKind.i64 n4] 100)).alloc (Obj.cells #[Value.int IntKind.i64 lo, Value.int IntKind.i64 hi] 35)) d) os).cell? ⟨w.heap.size, 6, none⟩ = some (Value.int IntKind.i64 n1) := cell_regrown (by go_simp)
  have c7 : ∀ d os, (grow (redrawn ((w.alloc (Obj.cells #[Value.slice (some ⟨b, o, none⟩) len cap, k1, ts, m, Value.int IntKind.i64 ↑boy, Value.int IntKind.i64 n0, Value.int IntKind.i64 n1, Value.int IntKind.i64 n2, Value.int IntKind.i64 n3, Value.int IntKind.i64 n4] 100)).alloc (Obj.cells #[Value.int IntKind.i64 lo, Value.int IntKind.i64 hi] 35)) d) os).cell? ⟨w.heap.size, 7, none⟩ = some (Value.int IntKind.i64 n2) := cell_regrown (by go_simp)
  have c8 : ∀ d os, (grow (redrawn ((w.alloc (Obj.cells #[Value.slice (some ⟨b, o, none⟩) len cap, k1, ts, m, Value.int IntKind.i64 ↑boy, Value.int IntKind.i64 n0, Value.int IntKind.i64 n1, Value.int IntKind.i64 n2, Value.int IntKind.i64 n3, Value.int IntKind.i64 n4] 100)).alloc (Obj.cells #[Value.int IntKind.i64 lo, Value.int IntKind.i64 hi] 35)) d) os).cell? ⟨w.heap.size, 8, none⟩ = some (Value.int IntKind.i64 n3) := cell_regrown (by go_simp)
  have c9 : ∀ d os, (grow (redrawn ((w.alloc (Obj.cells #[Value.slice (some ⟨b, o, none⟩) len cap, k1, ts, m, Value.int IntKind.i64 ↑boy, Value.int IntKind.i64 n0, Value.int IntKind.i64 n1, Value.int IntKind.i64 n2, Value.int IntKind.i64 n3, Value.int IntKind.i64 n4] 100)).alloc (Obj.cells #[Value.int IntKind.i64 lo, Value.int IntKind.i64 hi] 35)) d) os).cell? ⟨w.heap.size, 9, none⟩ = some (Value.int IntKind.i64 n4) := cell_regrown (by go_simp)
  have c10 : ∀ d os, (grow (redrawn ((w.alloc (Obj.cells #[Value.slice (some ⟨b, o, none⟩) len cap, k1, ts, m, Value.int IntKind.i64 ↑boy, Value.int IntKind.i64 n0, Value.int IntKind.i64 n1, Value.int IntKind.i64 n2, Value.int IntKind.i64 n3, Value.int IntKind.i64 n4] 100)).alloc (Obj.cells #[Value.int IntKind.i64 lo, Value.int IntKind.i64 hi] 35)) d) os).cell? ⟨w.heap.size + 1, 0, none⟩ = some (Value.int IntKind.i64 lo) := cell_regrown (by go_simp)
  have c11 : ∀ d os, (grow (redrawn ((w.alloc (Obj.cells #[Value.slice (some ⟨b, o, none⟩) len cap, k1, ts, m, Value.int IntKind.i64 ↑boy, Value.int IntKind.i64 n0, Value.int IntKind.i64 n1, Value.int IntKind.i64 n2, Value.int IntKind.i64 n3, Value.int IntKind.i64 n4] 100)).alloc (Obj.cells #[Value.int IntKind.i64 lo, Value.int IntKind.i64 hi] 35)) d) os).cell? ⟨w.heap.size + 1, 1, none⟩ = some (Value.int IntKind.i64 hi) := cell_regrown (by go_simp)
  have kW : Kept w ((w.alloc (Obj.cells #[Value.slice (some ⟨b, o, none⟩) len cap, k1, ts, m, Value.int IntKind.i64 ↑boy, Value.int IntKind.i64 n0, Value.int IntKind.i64 n1, Value.int IntKind.i64 n2, Value.int IntKind.i64 n3, Value.int IntKind.i64 n4] 100)).alloc (Obj.cells #[Value.int IntKind.i64 lo, Value.int IntKind.i64 hi] 35)) := kept_alloc (kept_alloc (kept_refl _) _) _
  have cL : ∀ d os, (grow (redrawn ((w.alloc (Obj.cells #[Value.slice (some ⟨b, o, none⟩) len cap, k1, ts, m, Value.int IntKind.i64 ↑boy, Value.int IntKind.i64 n0, Value.int IntKind.i64 n1, Value.int IntKind.i64 n2, Value.int IntKind.i64 n3, Value.int IntKind.i64 n4] 100)).alloc (Obj.cells #[Value.int IntKind.i64 lo, Value.int IntKind.i64 hi] 35)) d) os).cell? ⟨b, o + boy * 11 + 8, none⟩ = some (.int .i64 loss) := cell_regrown (((bcell kW).1 b _ hin).trans hc)
  have sW : w.heap.size ≤ ((w.alloc (Obj.cells #[Value.slice (some ⟨b, o, none⟩) len cap, k1, ts, m, Value.int IntKind.i64 ↑boy, Value.int IntKind.i64 n0, Value.int IntKind.i64 n1, Value.int IntKind.i64 n2, Value.int IntKind.i64 n3, Value.int IntKind.i64 n4] 100)).alloc (Obj.cells #[Value.int IntKind.i64 lo, Value.int IntKind.i64 hi] 35)).heap.size := by simp; omega
  go_enter Tryz.func44, Tryz.ntmps44
  go_wp2_with fail
  generalize (w.alloc (Obj.cells #[Value.slice (some ⟨b, o, none⟩) len cap, k1, ts, m, Value.int IntKind.i64 ↑boy, Value.int IntKind.i64 n0, Value.int IntKind.i64 n1, Value.int IntKind.i64 n2, Value.int IntKind.i64 n3, Value.int IntKind.i64 n4] 100)).alloc (Obj.cells #[Value.int IntKind.i64 lo, Value.int IntKind.i64 hi] 35) = W at *
  have zL : ∀ d os, b < (grow (redrawn W d) os).heap.size := fun d os => Nat.lt_of_lt_of_le (Nat.lt_of_lt_of_le hin sW) (below_regrown W d os).size
  have HL := Lib.hid cL
  have HZ := Lib.hid zL
  clear cL zL hc
  refine wp_region_quiet_below (by kernel_rfl) (by kernel_rfl) ?_
  repeat (any_goals (quiet_step (first | exact Calls.regrown_of (isBroken_any _ _ _ _ _ _ _ _ _ _ _ _) | exact Calls.regrown_of (highest_any _ _ _ _ _ _ _ _ _ _ _ _ _ _ _ _ hb hl (HL.out _ _) (HZ.out _ _) h1 h2 h3 h4 h5))))
  refine wpQuiet_nil ?_
  intro _ hw'
  obtain ⟨⟨dq, osq⟩, hw''⟩ := hw'
  subst hw''
  have kW2 := kept_trans kW (below_regrown W dq osq)
  go_wp2_with fail
  go_ret
  exact ⟨by simp, kW2⟩
end Go.Proofs.YthgfbokfaidklaaGreatDoor
set_option linter.all false
namespace Go.Proofs.YthgfbokfaidklaaGreatDoor
open Go.RowKit Go.Sort
set_option maxRecDepth 100000

def singsB (n0 n1 n2 n3 n4 loss wk lo hi : Int) : Bool := decide (wk < n4) && decide (n0 ≤ lo) && decide (hi ≤ top n1 n2 n3 loss wk)

theorem sings_any (b o len cap : Nat) (k1 ts m : Value) (boy : Nat) (n0 n1 n2 n3 n4 loss lo hi wk : Int) (w : World)
   (hb : boy < len) (hl : len ≤ 4) (hc : w.cell? ⟨b, o + boy * 11 + 8, none⟩ = some (.int .i64 loss)) (hin : b < w.heap.size)
   (h1 : 0 ≤ n1 ∧ n1 ≤ 100) (h2 : 0 ≤ n2 ∧ n2 ≤ 100) (h3 : 0 ≤ n3 ∧ n3 ≤ 100) (h4 : 0 ≤ wk ∧ wk ≤ 100) (h5 : 0 ≤ loss ∧ loss ≤ 100) :
   Calls Tryz.prog 44 #[.agg #[Value.slice (some ⟨b, o, none⟩) len cap, k1, ts, m, Value.int IntKind.i64 ↑boy, Value.int IntKind.i64 n0, Value.int IntKind.i64 n1, Value.int IntKind.i64 n2, Value.int IntKind.i64 n3, Value.int IntKind.i64 n4], .int .i64 wk, .agg #[.int .i64 lo, .int .i64 hi]] w fun e w' => e = .returned (.bool (singsB n0 n1 n2 n3 n4 loss wk lo hi)) ∧ Kept w w' := by
  unfold singsB
  by_cases hbr : wk < n4
  · by_cases hlo : n0 ≤ lo
    · simpa [hbr, hlo] using sings_top b o len cap k1 ts m boy n0 n1 n2 n3 n4 loss lo hi wk w hb hl hc hin h1 h2 h3 h4 h5 hbr hlo
    · simpa [hbr, hlo] using sings_low b o len cap k1 ts m boy n0 n1 n2 n3 n4 loss lo hi wk w hb hl hc hin h1 h2 h3 h4 h5 hbr (by omega)
  · simpa [hbr] using sings_broken _ _ _ _ _ _ _ _ _ n4 lo hi wk w (by omega)

def beliesB (n0 n1 n2 n3 n4 loss wk note sang : Int) : Bool := singsB n0 n1 n2 n3 n4 loss wk note note != (sang == 1)

set_option maxHeartbeats 1000000 in
theorem belies_any (b o len cap : Nat) (k1 ts m : Value) (boy : Nat) (n0 n1 n2 n3 n4 loss tb wk note sang : Int) (w : World)
   (hb : boy < len) (hl : len ≤ 4) (hc : w.cell? ⟨b, o + boy * 11 + 8, none⟩ = some (.int .i64 loss)) (hin : b < w.heap.size)
   (h1 : 0 ≤ n1 ∧ n1 ≤ 100) (h2 : 0 ≤ n2 ∧ n2 ≤ 100) (h3 : 0 ≤ n3 ∧ n3 ≤ 100) (h4 : 0 ≤ wk ∧ wk ≤ 100) (h5 : 0 ≤ loss ∧ loss ≤ 100) :
   Calls Tryz.prog 120 #[.agg #[Value.slice (some ⟨b, o, none⟩) len cap, k1, ts, m, Value.int IntKind.i64 ↑boy, Value.int IntKind.i64 n0, Value.int IntKind.i64 n1, Value.int IntKind.i64 n2, Value.int IntKind.i64 n3, Value.int IntKind.i64 n4], .agg #[Value.int IntKind.i64 tb, Value.int IntKind.i64 wk, Value.int IntKind.i64 note, Value.int IntKind.i64 sang]] w fun e w' => e = .returned (.bool (beliesB n0 n1 n2 n3 n4 loss wk note sang)) ∧ Kept w w' := by
  have c0 : ∀ d os, (grow (redrawn ((w.alloc (Obj.cells #[Value.slice (some ⟨b, o, none⟩) len cap, k1, ts, m, Value.int IntKind.i64 ↑boy, Value.int IntKind.i64 n0, Value.int IntKind.i64 n1, Value.int IntKind.i64 n2, Value.int IntKind.i64 n3, Value.int IntKind.i64 n4] 100)).alloc (Obj.cells #[Value.int IntKind.i64 tb, Value.int IntKind.i64 wk, Value.int IntKind.i64 note, Value.int IntKind.i64 sang] 143)) d) os).cell? ⟨w.heap.size, 0, none⟩ = some (Value.slice (some ⟨b, o, none⟩) len cap) := cell_regrown (by go_simp)
  have c1 : ∀ d os, (grow (redrawn ((w.alloc (Obj.cells #[Value.slice (some ⟨b, o, none⟩) len cap, k1, ts, m, Value.int IntKind.i64 ↑boy, Value.int IntKind.i64 n0, Value.int IntKind.i64 n1, Value.int IntKind.i64 n2, Value.int IntKind.i64 n3, Value.int IntKind.i64 n4] 100)).alloc (Obj.cells #[Value.int IntKind.i64 tb, Value.int IntKind.i64 wk, Value.int IntKind.i64 note, Value.int IntKind.i64 sang] 143)) d) os).cell? ⟨w.heap.size, 1, none⟩ = some (k1) := cell_regrown (by go_simp)
  have c2 : ∀ d os, (grow (redrawn ((w.alloc (Obj.cells #[Value.slice (some ⟨b, o, none⟩) len cap, k1, ts, m, Value.int IntKind.i64 ↑boy, Value.int IntKind.i64 n0, Value.int IntKind.i64 n1, Value.int IntKind.i64 n2, Value.int IntKind.i64 n3, Value.int IntKind.i64 n4] 100)).alloc (Obj.cells #[Value.int IntKind.i64 tb, Value.int IntKind.i64 wk, Value.int IntKind.i64 note, Value.int IntKind.i64 sang] 143)) d) os).cell? ⟨w.heap.size, 2, none⟩ = some (ts) := cell_regrown (by go_simp)
  have c3 : ∀ d os, (grow (redrawn ((w.alloc (Obj.cells #[Value.slice (some ⟨b, o, none⟩) len cap, k1, ts, m, Value.int IntKind.i64 ↑boy, Value.int IntKind.i64 n0, Value.int IntKind.i64 n1, Value.int IntKind.i64 n2, Value.int IntKind.i64 n3, Value.int IntKind.i64 n4] 100)).alloc (Obj.cells #[Value.int IntKind.i64 tb, Value.int IntKind.i64 wk, Value.int IntKind.i64 note, Value.int IntKind.i64 sang] 143)) d) os).cell? ⟨w.heap.size, 3, none⟩ = some (m) := cell_regrown (by go_simp)
  have c4 : ∀ d os, (grow (redrawn ((w.alloc (Obj.cells #[Value.slice (some ⟨b, o, none⟩) len cap, k1, ts, m, Value.int IntKind.i64 ↑boy, Value.int IntKind.i64 n0, Value.int IntKind.i64 n1, Value.int IntKind.i64 n2, Value.int IntKind.i64 n3, Value.int IntKind.i64 n4] 100)).alloc (Obj.cells #[Value.int IntKind.i64 tb, Value.int IntKind.i64 wk, Value.int IntKind.i64 note, Value.int IntKind.i64 sang] 143)) d) os).cell? ⟨w.heap.size, 4, none⟩ = some (Value.int IntKind.i64 ↑boy) := cell_regrown (by go_simp)
  have c5 : ∀ d os, (grow (redrawn ((w.alloc (Obj.cells #[Value.slice (some ⟨b, o, none⟩) len cap, k1, ts, m, Value.int IntKind.i64 ↑boy, Value.int IntKind.i64 n0, Value.int IntKind.i64 n1, Value.int IntKind.i64 n2, Value.int IntKind.i64 n3, Value.int IntKind.i64 n4] 100)).alloc (Obj.cells #[Value.int IntKind.i64 tb, Value.int IntKind.i64 wk, Value.int IntKind.i64 note, Value.int IntKind.i64 sang] 143)) d) os).cell? ⟨w.heap.size, 5, none⟩ = some (Value.int IntKind.i64 n0) := cell_regrown (by go_simp)
  have c6 : ∀ d os, (grow (redrawn ((w.alloc (Obj.cells #[Value.slice (some ⟨b, o, none⟩) len cap, k1, ts, m, Value.int IntKind.i64 ↑boy, Value.int IntKind.i64 n0, Value.int IntKind.i64 n1, Value.int IntKind.i64 n2, Value.int IntKind.i64 n3, Value.int IntKind.i64 n4] 100)).alloc (Obj.cells #[Value.int IntKind.i64 tb, Value.int IntKind.i64 wk, Value.int IntKind.i64 note, Value.int IntKind.i64 sang] 143)) d) os).cell? ⟨w.heap.size, 6, none⟩ = some (Value.int IntKind.i64 n1) := cell_regrown (by go_simp)
  have c7 : ∀ d os, (grow (redrawn ((w.alloc (Obj.cells #[Value.slice (some ⟨b, o, none⟩) len cap, k1, ts, m, Value.int IntKind.i64 ↑boy, Value.int IntKind.i64 n0, Value.int IntKind.i64 n1, Value.int IntKind.i64 n2, Value.int IntKind.i64 n3, Value.int IntKind.i64 n4] 100)).alloc (Obj.cells #[Value.int IntKind.i64 tb, Value.int IntKind.i64 wk, Value.int IntKind.i64 note, Value.int IntKind.i64 sang] 143)) d) os).cell? ⟨w.heap.size, 7, none⟩ = some (Value.int IntKind.i64 n2) := cell_regrown (by go_simp)
  have c8 : ∀ d os, (grow (redrawn ((w.alloc (Obj.cells #[Value.slice (some ⟨b, o, none⟩) len cap, k1, ts, m, Value.int IntKind.i64 ↑boy, Value.int IntKind.i64 n0, Value.int IntKind.i64 n1, Value.int IntKind.i64 n2, Value.int IntKind.i64 n3, Value.int IntKind.i64 n4] 100)).alloc (Obj.cells #[Value.int IntKind.i64 tb, Value.int IntKind.i64 wk, Value.int IntKind.i64 note, Value.int IntKind.i64 sang] 143)) d) os).cell? ⟨w.heap.size, 8, none⟩ = some (Value.int IntKind.i64 n3) := cell_regrown (by go_simp)
  have c9 : ∀ d os, (grow (redrawn ((w.alloc (Obj.cells #[Value.slice (some ⟨b, o, none⟩) len cap, k1, ts, m, Value.int IntKind.i64 ↑boy, Value.int IntKind.i64 n0, Value.int IntKind.i64 n1, Value.int IntKind.i64 n2, Value.int IntKind.i64 n3, Value.int IntKind.i64 n4] 100)).alloc (Obj.cells #[Value.int IntKind.i64 tb, Value.int IntKind.i64 wk, Value.int IntKind.i64 note, Value.int IntKind.i64 sang] 143)) d) os).cell? ⟨w.heap.size, 9, none⟩ = some (Value.int IntKind.i64 n4) := cell_regrown (by go_simp)
  have c10 : ∀ d os, (grow (redrawn ((w.alloc (Obj.cells #[Value.slice (some ⟨b, o, none⟩) len cap, k1, ts, m, Value.int IntKind.i64 ↑boy, Value.int IntKind.i64 n0, Value.int IntKind.i64 n1, Value.int IntKind.i64 n2, Value.int IntKind.i64 n3, Value.int IntKind.i64 n4] 100)).alloc (Obj.cells #[Value.int IntKind.i64 tb, Value.int IntKind.i64 wk, Value.int IntKind.i64 note, Value.int IntKind.i64 sang] 143)) d) os).cell? ⟨w.heap.size + 1, 0, none⟩ = some (Value.int IntKind.i64 tb) := cell_regrown (by go_simp)
  have c11 : ∀ d os, (grow (redrawn ((w.alloc (Obj.cells #[Value.slice (some ⟨b, o, none⟩) len cap, k1, ts, m, Value.int IntKind.i64 ↑boy, Value.int IntKind.i64 n0, Value.int IntKind.i64 n1, Value.int IntKind.i64 n2, Value.int IntKind.i64 n3, Value.int IntKind.i64 n4] 100)).alloc (Obj.cells #[Value.int IntKind.i64 tb, Value.int IntKind.i64 wk, Value.int IntKind.i64 note, Value.int IntKind.i64 sang] 143)) d) os).cell? ⟨w.heap.size + 1, 1, none⟩ = some (Value.int IntKind.i64 wk) := cell_regrown (by go_simp)
  have c12 : ∀ d os, (grow (redrawn ((w.alloc (Obj.cells #[Value.slice (some ⟨b, o, none⟩) len cap, k1, ts, m, Value.int IntKind.i64 ↑boy, Value.int IntKind.i64 n0, Value.int IntKind.i64 n1, Value.int IntKind.i64 n2, Value.int IntKind.i64 n3, Value.int IntKind.i64 n4] 100)).alloc (Obj.cells #[Value.int IntKind.i64 tb, Value.int IntKind.i64 wk, Value.int IntKind.i64 note, Value.int IntKind.i64 sang] 143)) d) os).cell? ⟨w.heap.size + 1, 2, none⟩ = some (Value.int IntKind.i64 note) := cell_regrown (by go_simp)
  have c13 : ∀ d os, (grow (redrawn ((w.alloc (Obj.cells #[Value.slice (some ⟨b, o, none⟩) len cap, k1, ts, m, Value.int IntKind.i64 ↑boy, Value.int IntKind.i64 n0, Value.int IntKind.i64 n1, Value.int IntKind.i64 n2, Value.int IntKind.i64 n3, Value.int IntKind.i64 n4] 100)).alloc (Obj.cells #[Value.int IntKind.i64 tb, Value.int IntKind.i64 wk, Value.int IntKind.i64 note, Value.int IntKind.i64 sang] 143)) d) os).cell? ⟨w.heap.size + 1, 3, none⟩ = some (Value.int IntKind.i64 sang) := cell_regrown (by go_simp)
  have kW : Kept w ((w.alloc (Obj.cells #[Value.slice (some ⟨b, o, none⟩) len cap, k1, ts, m, Value.int IntKind.i64 ↑boy, Value.int IntKind.i64 n0, Value.int IntKind.i64 n1, Value.int IntKind.i64 n2, Value.int IntKind.i64 n3, Value.int IntKind.i64 n4] 100)).alloc (Obj.cells #[Value.int IntKind.i64 tb, Value.int IntKind.i64 wk, Value.int IntKind.i64 note, Value.int IntKind.i64 sang] 143)) := kept_alloc (kept_alloc (kept_refl _) _) _
  have cL : ∀ d os, (grow (redrawn ((w.alloc (Obj.cells #[Value.slice (some ⟨b, o, none⟩) len cap, k1, ts, m, Value.int IntKind.i64 ↑boy, Value.int IntKind.i64 n0, Value.int IntKind.i64 n1, Value.int IntKind.i64 n2, Value.int IntKind.i64 n3, Value.int IntKind.i64 n4] 100)).alloc (Obj.cells #[Value.int IntKind.i64 tb, Value.int IntKind.i64 wk, Value.int IntKind.i64 note, Value.int IntKind.i64 sang] 143)) d) os).cell? ⟨b, o + boy * 11 + 8, none⟩ = some (.int .i64 loss) := cell_regrown (((bcell kW).1 b _ hin).trans hc)
  have sW : w.heap.size ≤ ((w.alloc (Obj.cells #[Value.slice (some ⟨b, o, none⟩) len cap, k1, ts, m, Value.int IntKind.i64 ↑boy, Value.int IntKind.i64 n0, Value.int IntKind.i64 n1, Value.int IntKind.i64 n2, Value.int IntKind.i64 n3, Value.int IntKind.i64 n4] 100)).alloc (Obj.cells #[Value.int IntKind.i64 tb, Value.int IntKind.i64 wk, Value.int IntKind.i64 note, Value.int IntKind.i64 sang] 143)).heap.size := by simp; omega
  go_enter Tryz.func120, Tryz.ntmps120
  go_wp2_with fail
  generalize (w.alloc (Obj.cells #[Value.slice (some ⟨b, o, none⟩) len cap, k1, ts, m, Value.int IntKind.i64 ↑boy, Value.int IntKind.i64 n0, Value.int IntKind.i64 n1, Value.int IntKind.i64 n2, Value.int IntKind.i64 n3, Value.int IntKind.i64 n4] 100)).alloc (Obj.cells #[Value.int IntKind.i64 tb, Value.int IntKind.i64 wk, Value.int IntKind.i64 note, Value.int IntKind.i64 sang] 143) = W at *
  have zL : ∀ d os, b < (grow (redrawn W d) os).heap.size := fun d os => Nat.lt_of_lt_of_le (Nat.lt_of_lt_of_le hin sW) (below_regrown W d os).size
  have HL := Lib.hid cL
  have HZ := Lib.hid zL
  clear cL zL hc
  refine wp_region_quiet_below (by kernel_rfl) (by kernel_rfl) ?_
  repeat (any_goals (quiet_step (first | exact Calls.regrown_of (just_any _ _) | exact Calls.regrown_of (sings_any _ _ _ _ _ _ _ _ _ _ _ _ _ _ _ _ _ _ hb hl (HL.out _ _) (HZ.out _ _) h1 h2 h3 h4 h5))))
  refine wpQuiet_nil ?_
  intro _ hw'
  obtain ⟨⟨dq, osq⟩, hw''⟩ := hw'
  subst hw''
  have kW2 := kept_trans kW (below_regrown W dq osq)
  go_wp2_with fail
  go_ret
  exact ⟨rfl, kW2⟩
end Go.Proofs.YthgfbokfaidklaaGreatDoor
set_option linter.all false
namespace Go.Proofs.YthgfbokfaidklaaGreatDoor
open Go.RowKit Go.Sort
set_option maxRecDepth 100000

theorem forbids_other (k0 k1 ts m n1 n2 n3 : Value) (boy n0 n4 tb wk note sang which : Int) (w : World) (h0 : ¬ tb = boy) :
   Calls Tryz.prog 115 #[.agg #[k0, k1, ts, m, Value.int IntKind.i64 boy, Value.int IntKind.i64 n0, n1, n2, n3, Value.int IntKind.i64 n4], .agg #[Value.int IntKind.i64 tb, Value.int IntKind.i64 wk, Value.int IntKind.i64 note, Value.int IntKind.i64 sang], .int .i64 which] w fun e w' => e = .returned (.bool (false)) ∧ Kept w w' := by
  have p1 : (tb != boy) = true := by simpa using h0
  have q1 : (tb == boy) = false := by simpa using h0

  go_enter Tryz.func115, Tryz.ntmps115
  go_wp2_with (first | (go_at_call 75; refine (isBroken_any _ _ _ _ _ _ _ _ _ _ _ _).mono ?_; rintro e w' ⟨rfl, hkk⟩))
  go_ret
  refine ⟨by simp, ?_⟩
  first | exact kept_alloc (kept_alloc (kept_refl _) _) _ | exact kept_trans (kept_alloc (kept_alloc (kept_refl _) _) _) hkk

theorem forbids_silent (k0 k1 ts m n1 n2 n3 : Value) (boy n0 n4 tb wk note sang which : Int) (w : World) (h0 : tb = boy) (h1 : sang = 0) :
   Calls Tryz.prog 115 #[.agg #[k0, k1, ts, m, Value.int IntKind.i64 boy, Value.int IntKind.i64 n0, n1, n2, n3, Value.int IntKind.i64 n4], .agg #[Value.int IntKind.i64 tb, Value.int IntKind.i64 wk, Value.int IntKind.i64 note, Value.int IntKind.i64 sang], .int .i64 which] w fun e w' => e = .returned (.bool (false)) ∧ Kept w w' := by
  have p1 : (tb != boy) = false := by simpa using h0
  have q1 : (tb == boy) = true := by simpa using h0
  have p2 : (sang != 0) = false := by simpa using h1
  have q2 : (sang == 0) = true := by simpa using h1

  go_enter Tryz.func115, Tryz.ntmps115
  go_wp2_with (first | (go_at_call 75; refine (isBroken_any _ _ _ _ _ _ _ _ _ _ _ _).mono ?_; rintro e w' ⟨rfl, hkk⟩))
  go_ret
  refine ⟨by simp, ?_⟩
  first | exact kept_alloc (kept_alloc (kept_refl _) _) _ | exact kept_trans (kept_alloc (kept_alloc (kept_refl _) _) _) hkk

theorem forbids_low (k0 k1 ts m n1 n2 n3 : Value) (boy n0 n4 tb wk note sang which : Int) (w : World) (h0 : tb = boy) (h1 : ¬ sang = 0) (h2 : which = 0) (h3 : note < n0) :
   Calls Tryz.prog 115 #[.agg #[k0, k1, ts, m, Value.int IntKind.i64 boy, Value.int IntKind.i64 n0, n1, n2, n3, Value.int IntKind.i64 n4], .agg #[Value.int IntKind.i64 tb, Value.int IntKind.i64 wk, Value.int IntKind.i64 note, Value.int IntKind.i64 sang], .int .i64 which] w fun e w' => e = .returned (.bool (true)) ∧ Kept w w' := by
  have p1 : (tb != boy) = false := by simpa using h0
  have q1 : (tb == boy) = true := by simpa using h0
  have p2 : (sang != 0) = true := by simpa using h1
  have q2 : (sang == 0) = false := by simpa using h1
  have p3 : (which != 0) = false := by simpa using h2
  have q3 : (which == 0) = true := by simpa using h2
  have q4 : decide (note < n0) = true := by simpa using h3

  go_enter Tryz.func115, Tryz.ntmps115
  go_wp2_with (first | (go_at_call 75; refine (isBroken_any _ _ _ _ _ _ _ _ _ _ _ _).mono ?_; rintro e w' ⟨rfl, hkk⟩))
  go_ret
  refine ⟨by simp, ?_⟩
  first | exact kept_alloc (kept_alloc (kept_refl _) _) _ | exact kept_trans (kept_alloc (kept_alloc (kept_refl _) _) _) hkk

theorem forbids_lowno (k0 k1 ts m n1 n2 n3 : Value) (boy n0 n4 tb wk note sang which : Int) (w : World) (h0 : tb = boy) (h1 : ¬ sang = 0) (h2 : which = 0) (h3 : ¬ note < n0) :
   Calls Tryz.prog 115 #[.agg #[k0, k1, ts, m, Value.int IntKind.i64 boy, Value.int IntKind.i64 n0, n1, n2, n3, Value.int IntKind.i64 n4], .agg #[Value.int IntKind.i64 tb, Value.int IntKind.i64 wk, Value.int IntKind.i64 note, Value.int IntKind.i64 sang], .int .i64 which] w fun e w' => e = .returned (.bool (false)) ∧ Kept w w' := by
  have p1 : (tb != boy) = false := by simpa using h0
  have q1 : (tb == boy) = true := by simpa using h0
  have p2 : (sang != 0) = true := by simpa using h1
  have q2 : (sang == 0) = false := by simpa using h1
  have p3 : (which != 0) = false := by simpa using h2
  have q3 : (which == 0) = true := by simpa using h2
  have q4 : decide (note < n0) = false := by simpa using h3
  have h24 : ¬ which = 4 := by omega
  have p5 : (which != 4) = true := by simpa using h24
  have q5 : (which == 4) = false := by simpa using h24

  go_enter Tryz.func115, Tryz.ntmps115
  go_wp2_with (first | (go_at_call 75; refine (isBroken_any _ _ _ _ _ _ _ _ _ _ _ _).mono ?_; rintro e w' ⟨rfl, hkk⟩))
  go_ret
  refine ⟨by simp, ?_⟩
  first | exact kept_alloc (kept_alloc (kept_refl _) _) _ | exact kept_trans (kept_alloc (kept_alloc (kept_refl _) _) _) hkk

theorem forbids_broken (k0 k1 ts m n1 n2 n3 : Value) (boy n0 n4 tb wk note sang which : Int) (w : World) (h0 : tb = boy) (h1 : ¬ sang = 0) (h2 : ¬ which = 0) (h3 : which = 4) :
   Calls Tryz.prog 115 #[.agg #[k0, k1, ts, m, Value.int IntKind.i64 boy, Value.int IntKind.i64 n0, n1, n2, n3, Value.int IntKind.i64 n4], .agg #[Value.int IntKind.i64 tb, Value.int IntKind.i64 wk, Value.int IntKind.i64 note, Value.int IntKind.i64 sang], .int .i64 which] w fun e w' => e = .returned (.bool (decide (n4 ≤ wk))) ∧ Kept w w' := by
  have p1 : (tb != boy) = false := by simpa using h0
  have q1 : (tb == boy) = true := by simpa using h0
  have p2 : (sang != 0) = true := by simpa using h1
  have q2 : (sang == 0) = false := by simpa using h1
  have p3 : (which != 0) = true := by simpa using h2
  have q3 : (which == 0) = false := by simpa using h2
  have p4 : (which != 4) = false := by simpa using h3
  have q4 : (which == 4) = true := by simpa using h3

  go_enter Tryz.func115, Tryz.ntmps115
  go_wp2_with (first | (go_at_call 75; refine (isBroken_any _ _ _ _ _ _ _ _ _ _ _ _).mono ?_; rintro e w' ⟨rfl, hkk⟩))
  go_ret
  refine ⟨by simp, ?_⟩
  first | exact kept_alloc (kept_alloc (kept_refl _) _) _ | exact kept_trans (kept_alloc (kept_alloc (kept_refl _) _) _) hkk

theorem forbids_none (k0 k1 ts m n1 n2 n3 : Value) (boy n0 n4 tb wk note sang which : Int) (w : World) (h0 : tb = boy) (h1 : ¬ sang = 0) (h2 : ¬ which = 0) (h3 : ¬ which = 4) :
   Calls Tryz.prog 115 #[.agg #[k0, k1, ts, m, Value.int IntKind.i64 boy, Value.int IntKind.i64 n0, n1, n2, n3, Value.int IntKind.i64 n4], .agg #[Value.int IntKind.i64 tb, Value.int IntKind.i64 wk, Value.int IntKind.i64 note, Value.int IntKind.i64 sang], .int .i64 which] w fun e w' => e = .returned (.bool (false)) ∧ Kept w w' := by
  have p1 : (tb != boy) = false := by simpa using h0
  have q1 : (tb == boy) = true := by simpa using h0
  have p2 : (sang != 0) = true := by simpa using h1
  have q2 : (sang == 0) = false := by simpa using h1
  have p3 : (which != 0) = true := by simpa using h2
  have q3 : (which == 0) = false := by simpa using h2
  have p4 : (which != 4) = true := by simpa using h3
  have q4 : (which == 4) = false := by simpa using h3

  go_enter Tryz.func115, Tryz.ntmps115
  go_wp2_with (first | (go_at_call 75; refine (isBroken_any _ _ _ _ _ _ _ _ _ _ _ _).mono ?_; rintro e w' ⟨rfl, hkk⟩))
  go_ret
  refine ⟨by simp, ?_⟩
  first | exact kept_alloc (kept_alloc (kept_refl _) _) _ | exact kept_trans (kept_alloc (kept_alloc (kept_refl _) _) _) hkk

def forbidsB (boy n0 n4 tb wk note sang which : Int) : Bool := decide (tb = boy) && decide (¬ sang = 0) && (decide (which = 0) && decide (note < n0) || decide (which = 4) && decide (n4 ≤ wk))
theorem forbids_any (k0 k1 ts m n1 n2 n3 : Value) (boy n0 n4 tb wk note sang which : Int) (w : World) :
   Calls Tryz.prog 115 #[.agg #[k0, k1, ts, m, Value.int IntKind.i64 boy, Value.int IntKind.i64 n0, n1, n2, n3, Value.int IntKind.i64 n4], .agg #[Value.int IntKind.i64 tb, Value.int IntKind.i64 wk, Value.int IntKind.i64 note, Value.int IntKind.i64 sang], .int .i64 which] w fun e w' => e = .returned (.bool (forbidsB boy n0 n4 tb wk note sang which)) ∧ Kept w w' := by
  unfold forbidsB
  by_cases h0 : tb = boy
  · by_cases h1 : sang = 0
    · simpa [h1] using forbids_silent k0 k1 ts m n1 n2 n3 boy n0 n4 tb wk note sang which w h0 h1
    · by_cases h2 : which = 0
      · by_cases h3 : note < n0
        · simpa [h0, h1, h2, h3] using forbids_low k0 k1 ts m n1 n2 n3 boy n0 n4 tb wk note sang which w h0 h1 h2 h3
        · simpa [h0, h1, h2, h3] using forbids_lowno k0 k1 ts m n1 n2 n3 boy n0 n4 tb wk note sang which w h0 h1 h2 h3
      · by_cases h3 : which = 4
        · simpa [h0, h1, h2, h3] using forbids_broken k0 k1 ts m n1 n2 n3 boy n0 n4 tb wk note sang which w h0 h1 h2 h3
        · simpa [h0, h1, h2, h3] using forbids_none k0 k1 ts m n1 n2 n3 boy n0 n4 tb wk note sang which w h0 h1 h2 h3
  · simpa [h0] using forbids_other k0 k1 ts m n1 n2 n3 boy n0 n4 tb wk note sang which w h0
end Go.Proofs.YthgfbokfaidklaaGreatDoor
set_option linter.all false
namespace Go.Proofs.YthgfbokfaidklaaGreatDoor
open Go.RowKit Go.Sort
set_option maxRecDepth 100000

structure Trial where
  boy : Int
  week : Int
  note : Int
  sang : Int
  deriving Inhabited

def Trial.val (t : Trial) : Value := .agg #[.int .i64 t.boy, .int .i64 t.week, .int .i64 t.note, .int .i64 t.sang]

/-- trials that lie in memory, one behind the other -/
def TrialsAt (w : World) (b o : Nat) (l : List Trial) : Prop := b < w.heap.size ∧ ∀ i t, l[i]? = some t → w.cell? ⟨b, o + i * 4, none⟩ = some (.int .i64 t.boy) ∧ w.cell? ⟨b, o + i * 4 + 1, none⟩ = some (.int .i64 t.week) ∧ w.cell? ⟨b, o + i * 4 + 2, none⟩ = some (.int .i64 t.note) ∧ w.cell? ⟨b, o + i * 4 + 3, none⟩ = some (.int .i64 t.sang)

theorem TrialsAt.kept {w W : World} {b o : Nat} {l : List Trial} (h : TrialsAt w b o l) (k : Kept w W) : TrialsAt W b o l := by
  obtain ⟨hc, _, hz⟩ := bcell k
  refine ⟨Nat.lt_of_lt_of_le h.1 hz, fun i t hi => ?_⟩
  have := h.2 i t hi
  rw [hc _ _ h.1, hc _ _ h.1, hc _ _ h.1, hc _ _ h.1]
  exact this

def Told (P : Int → Prop) (w : World) (e : Ending) (w' : World) : Prop := ∃ r : Int, P r ∧ e = .returned (.int .i64 r) ∧ Kept w w'

def FirstP (l : List Trial) (f : Trial → Bool) (r : Int) : Prop := (0 ≤ r) ↔ l.any f = true

def TB (n0 n1 n2 n3 n4 loss : Int) (t : Trial) : Bool := beliesB n0 n1 n2 n3 n4 loss t.week t.note t.sang

set_option maxHeartbeats 1000000 in
theorem index_any (b o len cap bT oT capT : Nat) (k1 ts m : Value) (boy : Nat) (n0 n1 n2 n3 n4 loss : Int) (l : List Trial) (w : World)
   (hb : boy < len) (hl : len ≤ 4) (hc : w.cell? ⟨b, o + boy * 11 + 8, none⟩ = some (.int .i64 loss)) (hin : b < w.heap.size)
   (h1 : 0 ≤ n1 ∧ n1 ≤ 100) (h2 : 0 ≤ n2 ∧ n2 ≤ 100) (h3 : 0 ≤ n3 ∧ n3 ≤ 100) (h5 : 0 ≤ loss ∧ loss ≤ 100) (hT : TrialsAt w bT oT l) (hn : l.length ≤ 6) (hr : ∀ t, t ∈ l → 0 ≤ t.week ∧ t.week ≤ 100) :
   Calls Tryz.prog 121 #[.slice (some ⟨bT, oT, none⟩) l.length capT, .func (.func 120) #[.agg #[Value.slice (some ⟨b, o, none⟩) len cap, k1, ts, m, Value.int IntKind.i64 ↑boy, Value.int IntKind.i64 n0, Value.int IntKind.i64 n1, Value.int IntKind.i64 n2, Value.int IntKind.i64 n3, Value.int IntKind.i64 n4]] #[]] w (Told (FirstP l (TB n0 n1 n2 n3 n4 loss)) w) := by
  go_enter Tryz.func121, Tryz.ntmps121
  go_wp2_with fail
  go_loopw [8] (fun i W => ∃ k : Nat, k ≤ l.length ∧ i = .int .i64 k ∧ (∀ j t, j < k → l[j]? = some t → TB n0 n1 n2 n3 n4 loss t = false) ∧ Kept w W) (fun i W => l.length - (intOf i).toNat)
  case atStart => exact ⟨0, by omega, rfl, fun j t hj => by omega, kept_refl _⟩
  case round =>
    obtain ⟨k, hk, rfl, hno, hkW⟩ := hrel
    rename_i W
    have HNO := Lib.hid hno; clear hno
    by_cases hlt : k < l.length
    · have hget : l[k]? = some l[k] := List.getElem?_eq_getElem hlt
      have hmem : l[k] ∈ l := List.getElem_mem hlt
      generalize l[k] = t at *
      obtain ⟨c0, c1, c2, c3⟩ := (hT.kept hkW).2 k t hget
      have h4 := hr t hmem
      have hcW := ((bcell hkW).1 b (o + boy * 11 + 8) hin).trans hc
      have hinW := Nat.lt_of_lt_of_le hin (bcell hkW).2.2
      have HG := Lib.hid hget; clear hget
      have HC := Lib.hid hcW; clear hcW hc
      go_wp2_with fail
      refine (belies_any _ _ _ _ _ _ _ _ _ _ _ _ _ _ t.boy t.week t.note t.sang wr hb hl HC.out hinW h1 h2 h3 h4 h5).mono ?_
      rintro e w' ⟨rfl, hk2⟩
      have hkW2 := kept_trans hkW hk2
      have HB : TB n0 n1 n2 n3 n4 loss t = beliesB n0 n1 n2 n3 n4 loss t.week t.note t.sang := rfl
      rw [← HB]; clear HB
      rcases hv : TB n0 n1 n2 n3 n4 loss t with _ | _
      · have HV := Lib.hid hv; clear hv
        have HNEW : Hid (∀ (j : Nat) (t : Trial), j < k + 1 → l[j]? = some t → TB n0 n1 n2 n3 n4 loss t = false) := Lib.hid (by
          intro j t' hj hg
          by_cases e : j = k
          · subst e; rw [HG.out] at hg; cases hg; exact HV.out
          · exact HNO.out j t' (by omega) hg)
        go_wp2_with fail
        go_roundw
        case rel => exact ⟨k + 1, by omega, by go_num, HNEW.out, hkW2⟩
        case measure => simp [intOf]; omega
      · have HV := Lib.hid hv; clear hv
        have hkz : (0 : Int) ≤ k := by omega
        have HP : Hid (l.any (TB n0 n1 n2 n3 n4 loss) = true) := Lib.hid (List.any_eq_true.2 ⟨t, hmem, HV.out⟩)
        go_wp2_with fail
        go_ret
        exact ⟨k, (show FirstP _ _ _ from ⟨fun _ => HP.out, fun _ => hkz⟩), rfl, hkW2⟩
    · have hkl : k = l.length := by omega
      have HP : Hid (l.any (TB n0 n1 n2 n3 n4 loss) = false) := Lib.hid (by
        rw [List.any_eq_false]
        intro t ht
        obtain ⟨j, hj, rfl⟩ := List.getElem_of_mem ht
        rw [HNO.out j l[j] (by omega) (List.getElem?_eq_getElem hj)]; simp)
      have hd : decide ((k : Int) < (l.length : Int)) = false := by simp; omega
      have hlt2 : ¬ (k : Int) < l.length := by omega
      clear hkl
      go_wp2_with fail
      go_ret
      exact ⟨-1, (show FirstP _ _ _ from ⟨fun h => by omega, fun h => by rw [HP.out] at h; cases h⟩), rfl, hkW⟩
end Go.Proofs.YthgfbokfaidklaaGreatDoor
set_option linter.all false
namespace Go.Proofs.YthgfbokfaidklaaGreatDoor
open Go.RowKit Go.Sort
set_option maxRecDepth 100000

/-- a slice value that reads as these trials -/
def SliceIs (w : World) (v : Value) (l : List Trial) : Prop := (v = .slice none 0 0 ∧ l = []) ∨ ∃ b o cap, v = .slice (some ⟨b, o, none⟩) l.length cap ∧ TrialsAt w b o l
theorem SliceIs.kept {w W : World} {v : Value} {l : List Trial} (h : SliceIs w v l) (k : Kept w W) : SliceIs W v l := by
  rcases h with h | ⟨b, o, cap, h, ht⟩
  · exact .inl h
  · exact .inr ⟨b, o, cap, h, ht.kept k⟩

theorem index_nil (f : Value) (w : World) : Calls Tryz.prog 121 #[.slice none 0 0, f] w fun e w' => e = .returned (.int .i64 (-1)) ∧ w = w' := by
  go_enter Tryz.func121, Tryz.ntmps121
  go_wp2_with fail
  go_loop [8] (fun i => i = .int .i64 0) (fun i => 0)
  case atStart => rfl
  case round =>
    obtain rfl := hrel
    go_wp2_with fail
    go_ret
    exact ⟨rfl, rfl⟩

theorem contains_any (b o len cap : Nat) (k1 ts m : Value) (boy : Nat) (n0 n1 n2 n3 n4 loss : Int) (l : List Trial) (v : Value) (w : World)
   (hb : boy < len) (hl : len ≤ 4) (hc : w.cell? ⟨b, o + boy * 11 + 8, none⟩ = some (.int .i64 loss)) (hin : b < w.heap.size)
   (h1 : 0 ≤ n1 ∧ n1 ≤ 100) (h2 : 0 ≤ n2 ∧ n2 ≤ 100) (h3 : 0 ≤ n3 ∧ n3 ≤ 100) (h5 : 0 ≤ loss ∧ loss ≤ 100) (hT : SliceIs w v l) (hn : l.length ≤ 6) (hr : ∀ t, t ∈ l → 0 ≤ t.week ∧ t.week ≤ 100) :
   Calls Tryz.prog 119 #[v, .func (.func 120) #[.agg #[Value.slice (some ⟨b, o, none⟩) len cap, k1, ts, m, Value.int IntKind.i64 ↑boy, Value.int IntKind.i64 n0, Value.int IntKind.i64 n1, Value.int IntKind.i64 n2, Value.int IntKind.i64 n3, Value.int IntKind.i64 n4]] #[]] w fun e w' => e = .returned (.bool (l.any (TB n0 n1 n2 n3 n4 loss))) ∧ Kept w w' := by
  rcases hT with ⟨rfl, rfl⟩ | ⟨bT, oT, capT, rfl, hT⟩
  · go_enter Tryz.func119, Tryz.ntmps119
    go_wp2_with fail
    refine (index_nil _ w).mono ?_
    rintro e w' ⟨rfl, rfl⟩
    go_wp2_with fail
    go_ret
    exact ⟨by simp, kept_refl _⟩
  · generalize hg : l.any (TB n0 n1 n2 n3 n4 loss) = g
    have HG := Lib.hid hg; clear hg
    go_enter Tryz.func119, Tryz.ntmps119
    go_wp2_with fail
    refine (index_any b o len cap bT oT capT k1 ts m boy n0 n1 n2 n3 n4 loss l w hb hl hc hin h1 h2 h3 h5 hT hn hr).mono ?_
    rintro e w' ⟨r, hr1, rfl, hk⟩
    have HR := Lib.hid hr1; clear hr1
    go_wp2_with fail
    go_ret
    refine ⟨?_, hk⟩
    have h : FirstP l (TB n0 n1 n2 n3 n4 loss) r := HR.out
    unfold FirstP at h
    rw [HG.out] at h
    have e : decide (0 ≤ r) = g := by cases g <;> simp_all
    simpa using e

end Go.Proofs.YthgfbokfaidklaaGreatDoor
set_option linter.all false
namespace Go.Proofs.YthgfbokfaidklaaGreatDoor
open Go.RowKit Go.Sort
set_option maxRecDepth 100000

/-- what a map of trials by boy and week tells at a key, now and behind whatever is laid -/
def LooksAt (w : World) (m : Value) (boy wk : Nat) (l : List Trial) : Prop :=
  ∃ v, (∀ W, Kept w W → (Instr.lookup 90 m (.agg #[.int .i64 boy, .int .i64 wk]) false).run Tryz.prog W = .ok v W) ∧ SliceIs w v l

def ToldB (P : Bool → Prop) (w : World) (e : Ending) (w' : World) : Prop := ∃ r : Bool, P r ∧ e = .returned (.bool r) ∧ Kept w w'
def KeepsP (wks : Nat) (ls : Nat → List Trial) (f : Trial → Bool) (r : Bool) : Prop := r = true ↔ ∀ k, k < wks → (ls k).any f = false

set_option maxHeartbeats 1000000 in
theorem keeps_any (b o len cap : Nat) (ts m : Value) (wks boy : Nat) (n0 n1 n2 n3 n4 loss : Int) (ls : Nat → List Trial) (w : World)
   (hb : boy < len) (hl : len ≤ 4) (hc : w.cell? ⟨b, o + boy * 11 + 8, none⟩ = some (.int .i64 loss)) (hin : b < w.heap.size)
   (h1 : 0 ≤ n1 ∧ n1 ≤ 100) (h2 : 0 ≤ n2 ∧ n2 ≤ 100) (h3 : 0 ≤ n3 ∧ n3 ≤ 100) (h5 : 0 ≤ loss ∧ loss ≤ 100) (hw : wks ≤ 6) (hT : ∀ k, k < wks → LooksAt w m boy k (ls k)) (hn : ∀ k, k < wks → (ls k).length ≤ 6) (hr : ∀ k, k < wks → ∀ t, t ∈ ls k → 0 ≤ t.week ∧ t.week ≤ 100) :
   Calls Tryz.prog 114 #[.agg #[Value.slice (some ⟨b, o, none⟩) len cap, Value.int IntKind.i64 ↑wks, ts, m, Value.int IntKind.i64 ↑boy, Value.int IntKind.i64 n0, Value.int IntKind.i64 n1, Value.int IntKind.i64 n2, Value.int IntKind.i64 n3, Value.int IntKind.i64 n4]] w (ToldB (KeepsP wks ls (TB n0 n1 n2 n3 n4 loss)) w) := by
  have HT := Lib.hid hT; clear hT
  have HN := Lib.hid hn; clear hn
  have HR := Lib.hid hr; clear hr
  have hk0 : Kept w (w.alloc (Obj.cells #[Value.slice (some ⟨b, o, none⟩) len cap, Value.int IntKind.i64 ↑wks, ts, m, Value.int IntKind.i64 ↑boy, Value.int IntKind.i64 n0, Value.int IntKind.i64 n1, Value.int IntKind.i64 n2, Value.int IntKind.i64 n3, Value.int IntKind.i64 n4] 100)) := kept_alloc (kept_refl _) _
  go_enter Tryz.func114, Tryz.ntmps114
  go_wp2_with fail
  go_loopw [8] (fun i W => ∃ k : Nat, k ≤ wks ∧ i = .int .i64 k ∧ (∀ j, j < k → (ls j).any (TB n0 n1 n2 n3 n4 loss) = false) ∧ Kept (w.alloc (Obj.cells #[Value.slice (some ⟨b, o, none⟩) len cap, Value.int IntKind.i64 ↑wks, ts, m, Value.int IntKind.i64 ↑boy, Value.int IntKind.i64 n0, Value.int IntKind.i64 n1, Value.int IntKind.i64 n2, Value.int IntKind.i64 n3, Value.int IntKind.i64 n4] 100)) W) (fun i W => wks - (intOf i).toNat)
  case atStart => exact ⟨0, by omega, rfl, fun j hj => by omega, kept_refl _⟩
  case round =>
    obtain ⟨k, hk, rfl, hno, hkW⟩ := hrel
    have HNO := Lib.hid hno; clear hno
    have hkw := kept_trans hk0 hkW
    by_cases hlt : k < wks
    · have hltI : (k : Int) < wks := by omega
      have c0 : ∀ d os, (grow (redrawn wr d) os).cell? ⟨w.heap.size, 0, none⟩ = some (Value.slice (some ⟨b, o, none⟩) len cap) := cell_regrown (((bcell hkW).1 _ _ (by simp)).trans (by go_simp))
      have c1 : ∀ d os, (grow (redrawn wr d) os).cell? ⟨w.heap.size, 1, none⟩ = some (Value.int IntKind.i64 ↑wks) := cell_regrown (((bcell hkW).1 _ _ (by simp)).trans (by go_simp))
      have c2 : ∀ d os, (grow (redrawn wr d) os).cell? ⟨w.heap.size, 2, none⟩ = some (ts) := cell_regrown (((bcell hkW).1 _ _ (by simp)).trans (by go_simp))
      have c3 : ∀ d os, (grow (redrawn wr d) os).cell? ⟨w.heap.size, 3, none⟩ = some (m) := cell_regrown (((bcell hkW).1 _ _ (by simp)).trans (by go_simp))
      have c4 : ∀ d os, (grow (redrawn wr d) os).cell? ⟨w.heap.size, 4, none⟩ = some (Value.int IntKind.i64 ↑boy) := cell_regrown (((bcell hkW).1 _ _ (by simp)).trans (by go_simp))
      have c5 : ∀ d os, (grow (redrawn wr d) os).cell? ⟨w.heap.size, 5, none⟩ = some (Value.int IntKind.i64 n0) := cell_regrown (((bcell hkW).1 _ _ (by simp)).trans (by go_simp))
      have c6 : ∀ d os, (grow (redrawn wr d) os).cell? ⟨w.heap.size, 6, none⟩ = some (Value.int IntKind.i64 n1) := cell_regrown (((bcell hkW).1 _ _ (by simp)).trans (by go_simp))
      have c7 : ∀ d os, (grow (redrawn wr d) os).cell? ⟨w.heap.size, 7, none⟩ = some (Value.int IntKind.i64 n2) := cell_regrown (((bcell hkW).1 _ _ (by simp)).trans (by go_simp))
      have c8 : ∀ d os, (grow (redrawn wr d) os).cell? ⟨w.heap.size, 8, none⟩ = some (Value.int IntKind.i64 n3) := cell_regrown (((bcell hkW).1 _ _ (by simp)).trans (by go_simp))
      have c9 : ∀ d os, (grow (redrawn wr d) os).cell? ⟨w.heap.size, 9, none⟩ = some (Value.int IntKind.i64 n4) := cell_regrown (((bcell hkW).1 _ _ (by simp)).trans (by go_simp))
      obtain ⟨v, hlook, hs⟩ := HT.out k hlt
      have hlk : ∀ d os, (Instr.lookup 90 m (.agg #[.int .i64 boy, .int .i64 k]) false).run Tryz.prog (grow (redrawn wr d) os) = .ok v (grow (redrawn wr d) os) := fun d os => hlook _ (kept_trans hkw (below_regrown wr d os))
      clear hlook
      have hca : ∀ d os, Calls Tryz.prog 119 #[v, .func (.func 120) #[.agg #[Value.slice (some ⟨b, o, none⟩) len cap, Value.int IntKind.i64 ↑wks, ts, m, Value.int IntKind.i64 ↑boy, Value.int IntKind.i64 n0, Value.int IntKind.i64 n1, Value.int IntKind.i64 n2, Value.int IntKind.i64 n3, Value.int IntKind.i64 n4]] #[]] (grow (redrawn wr d) os) fun e w'' => e = .returned (.bool ((ls k).any (TB n0 n1 n2 n3 n4 loss))) ∧ ∃ p : Regrown, w'' = grow (redrawn wr p.d) p.os := by
        intro d os
        have hkx := kept_trans hkw (below_regrown wr d os)
        exact Calls.regrown_of (contains_any b o len cap _ ts m boy n0 n1 n2 n3 n4 loss (ls k) v _ hb hl (((bcell hkx).1 b (o + boy * 11 + 8) hin).trans hc) (Nat.lt_of_lt_of_le hin (bcell hkx).2.2) h1 h2 h3 h5 (hs.kept hkx) (HN.out k hlt) (HR.out k hlt))
      have HCA := Lib.hid hca; clear hca
      clear hc
      go_wp2_with fail
      refine wp_region_quiet_below (by kernel_rfl) (by kernel_rfl) ?_
      repeat (any_goals (quiet_step (first | exact HCA.out _ _)))
      refine wpQuiet_nil ?_
      intro _ hw'
      obtain ⟨⟨dq, osq⟩, hw''⟩ := hw'
      subst hw''
      have hkW2 := kept_trans hkW (below_regrown wr dq osq)
      have hkw2 := kept_trans hkw (below_regrown wr dq osq)
      clear c0 c1 c2 c3 c4 c5 c6 c7 c8 c9 hlk
      rcases hv : (ls k).any (TB n0 n1 n2 n3 n4 loss) with _ | _
      · have HNEW : Hid (∀ j, j < k + 1 → (ls j).any (TB n0 n1 n2 n3 n4 loss) = false) := Lib.hid (by
          intro j hj
          by_cases e : j = k
          · subst e; exact hv
          · exact HNO.out j (by omega))
        clear hv
        go_wp2_with fail
        go_roundw
        case rel => exact ⟨k + 1, by omega, by go_num, HNEW.out, hkW2⟩
        case measure => simp [intOf]; omega
      · have HP : Hid ((ls k).any (TB n0 n1 n2 n3 n4 loss) = true) := Lib.hid hv
        clear hv
        go_wp2_with fail
        go_ret
        exact ⟨false, (show KeepsP _ _ _ _ from ⟨(fun h => by cases h), (fun h => by have := h k hlt; rw [HP.out] at this; cases this)⟩), rfl, hkw2⟩
    · have hkl : wks ≤ k := by omega
      have HP : Hid (∀ j, j < wks → (ls j).any (TB n0 n1 n2 n3 n4 loss) = false) := Lib.hid (fun j hj => HNO.out j (by omega))
      have hltI : ¬ (k : Int) < wks := by omega
      go_wp2_with fail
      go_ret
      exact ⟨true, (show KeepsP _ _ _ _ from ⟨fun _ => HP.out, fun _ => rfl⟩), rfl, hkw⟩
end Go.Proofs.YthgfbokfaidklaaGreatDoor
set_option linter.all false
namespace Go.Proofs.YthgfbokfaidklaaGreatDoor
open Go.RowKit Go.Sort
set_option maxRecDepth 100000

theorem isBoy_any (p : Option Addr) (len cap : Nat) (k1 ts : Value) (n : Int) (w : World) (hl : len ≤ 140737488355328) : Calls Tryz.prog 39 #[.agg #[.slice p len cap, k1, ts], .int .i64 n] w fun e w' => e = .returned (.bool (inB n 0 (len - 1))) ∧ Kept w w' := by
  go_enter Tryz.func39, Tryz.ntmps39
  go_wp2_with (go_at_call 72; refine (isIn_any _ _ _ _).mono ?_; rintro e w' ⟨rfl, rfl⟩)
  go_ret
  exact ⟨rfl, kept_alloc (kept_refl _) _⟩

def validTrialB (len wks : Nat) (t : Trial) : Bool := inB t.boy 0 (len - 1) && inB t.week 0 (wks - 1) && inB t.note 0 40 && inB t.sang 0 1

theorem vt_a (p : Option Addr) (len cap wks : Nat) (ts : Value) (t : Trial) (w : World) (hl : len ≤ 140737488355328) (hw : wks ≤ 1000) (ha : inB t.boy 0 (len - 1) = false) :
   Calls Tryz.prog 86 #[.agg #[.slice p len cap, .int .i64 wks, ts], .agg #[.int .i64 t.boy, .int .i64 t.week, .int .i64 t.note, .int .i64 t.sang]] w fun e w' => e = .returned (.bool (false)) ∧ Kept w w' := by
  have HA := Lib.hid ha; clear ha
  have hk0 : Kept w ((w.alloc (Obj.cells #[.slice p len cap, .int .i64 wks, ts] 27)).alloc (Obj.cells #[.int .i64 t.boy, .int .i64 t.week, .int .i64 t.note, .int .i64 t.sang] 143)) := kept_alloc (kept_alloc (kept_refl _) _) _
  go_enter Tryz.func86, Tryz.ntmps86
  go_wp2_with fail
  refine (isBoy_any _ _ _ _ _ _ _ hl).mono ?_
  rintro e w1 ⟨rfl, hk1⟩
  obtain ⟨hc1, hf1, hz1⟩ := bcell hk1
  have hk1' := kept_trans hk0 hk1
  have hs1 : w.heap.size + 1 < w1.heap.size := by simp at hz1; omega
  clear hz1
  rw [HA.out]
  go_wp2_with fail
  go_ret
  exact ⟨by simp, hk1'⟩

theorem vt_b (p : Option Addr) (len cap wks : Nat) (ts : Value) (t : Trial) (w : World) (hl : len ≤ 140737488355328) (hw : wks ≤ 1000) (ha : inB t.boy 0 (len - 1) = true) (hb : inB t.week 0 (wks - 1) = false) :
   Calls Tryz.prog 86 #[.agg #[.slice p len cap, .int .i64 wks, ts], .agg #[.int .i64 t.boy, .int .i64 t.week, .int .i64 t.note, .int .i64 t.sang]] w fun e w' => e = .returned (.bool (false)) ∧ Kept w w' := by
  have HA := Lib.hid ha; clear ha
  have HB := Lib.hid hb; clear hb
  have hk0 : Kept w ((w.alloc (Obj.cells #[.slice p len cap, .int .i64 wks, ts] 27)).alloc (Obj.cells #[.int .i64 t.boy, .int .i64 t.week, .int .i64 t.note, .int .i64 t.sang] 143)) := kept_alloc (kept_alloc (kept_refl _) _) _
  go_enter Tryz.func86, Tryz.ntmps86
  go_wp2_with fail
  refine (isBoy_any _ _ _ _ _ _ _ hl).mono ?_
  rintro e w1 ⟨rfl, hk1⟩
  obtain ⟨hc1, hf1, hz1⟩ := bcell hk1
  have hk1' := kept_trans hk0 hk1
  have hs1 : w.heap.size + 1 < w1.heap.size := by simp at hz1; omega
  clear hz1
  rw [HA.out]
  go_wp2_with fail
  refine (isWeek_any _ _ _ _ _ (by omega) (by omega)).mono ?_
  rintro e w2 ⟨rfl, hk2⟩
  obtain ⟨hc2, hf2, hz2⟩ := bcell hk2
  have hk2' := kept_trans hk1' hk2
  have hs2 : w.heap.size + 1 < w2.heap.size := by omega
  rw [HB.out]
  go_wp2_with fail
  go_ret
  exact ⟨by simp, hk2'⟩

theorem vt_c (p : Option Addr) (len cap wks : Nat) (ts : Value) (t : Trial) (w : World) (hl : len ≤ 140737488355328) (hw : wks ≤ 1000) (ha : inB t.boy 0 (len - 1) = true) (hb : inB t.week 0 (wks - 1) = true) (hc : inB t.note 0 40 = false) :
   Calls Tryz.prog 86 #[.agg #[.slice p len cap, .int .i64 wks, ts], .agg #[.int .i64 t.boy, .int .i64 t.week, .int .i64 t.note, .int .i64 t.sang]] w fun e w' => e = .returned (.bool (false)) ∧ Kept w w' := by
  have HA := Lib.hid ha; clear ha
  have HB := Lib.hid hb; clear hb
  have HC := Lib.hid hc; clear hc
  have hk0 : Kept w ((w.alloc (Obj.cells #[.slice p len cap, .int .i64 wks, ts] 27)).alloc (Obj.cells #[.int .i64 t.boy, .int .i64 t.week, .int .i64 t.note, .int .i64 t.sang] 143)) := kept_alloc (kept_alloc (kept_refl _) _) _
  go_enter Tryz.func86, Tryz.ntmps86
  go_wp2_with fail
  refine (isBoy_any _ _ _ _ _ _ _ hl).mono ?_
  rintro e w1 ⟨rfl, hk1⟩
  obtain ⟨hc1, hf1, hz1⟩ := bcell hk1
  have hk1' := kept_trans hk0 hk1
  have hs1 : w.heap.size + 1 < w1.heap.size := by simp at hz1; omega
  clear hz1
  rw [HA.out]
  go_wp2_with fail
  refine (isWeek_any _ _ _ _ _ (by omega) (by omega)).mono ?_
  rintro e w2 ⟨rfl, hk2⟩
  obtain ⟨hc2, hf2, hz2⟩ := bcell hk2
  have hk2' := kept_trans hk1' hk2
  have hs2 : w.heap.size + 1 < w2.heap.size := by omega
  rw [HB.out]
  go_wp2_with fail
  refine (isNote_any _ _).mono ?_
  rintro e w3 ⟨rfl, rfl⟩
  rw [HC.out]
  go_wp2_with fail
  go_ret
  exact ⟨by simp, hk2'⟩

theorem vt_d (p : Option Addr) (len cap wks : Nat) (ts : Value) (t : Trial) (w : World) (hl : len ≤ 140737488355328) (hw : wks ≤ 1000) (ha : inB t.boy 0 (len - 1) = true) (hb : inB t.week 0 (wks - 1) = true) (hc : inB t.note 0 40 = true) :
   Calls Tryz.prog 86 #[.agg #[.slice p len cap, .int .i64 wks, ts], .agg #[.int .i64 t.boy, .int .i64 t.week, .int .i64 t.note, .int .i64 t.sang]] w fun e w' => e = .returned (.bool (inB t.sang 0 1)) ∧ Kept w w' := by
  have HA := Lib.hid ha; clear ha
  have HB := Lib.hid hb; clear hb
  have HC := Lib.hid hc; clear hc
  have hk0 : Kept w ((w.alloc (Obj.cells #[.slice p len cap, .int .i64 wks, ts] 27)).alloc (Obj.cells #[.int .i64 t.boy, .int .i64 t.week, .int .i64 t.note, .int .i64 t.sang] 143)) := kept_alloc (kept_alloc (kept_refl _) _) _
  go_enter Tryz.func86, Tryz.ntmps86
  go_wp2_with fail
  refine (isBoy_any _ _ _ _ _ _ _ hl).mono ?_
  rintro e w1 ⟨rfl, hk1⟩
  obtain ⟨hc1, hf1, hz1⟩ := bcell hk1
  have hk1' := kept_trans hk0 hk1
  have hs1 : w.heap.size + 1 < w1.heap.size := by simp at hz1; omega
  clear hz1
  rw [HA.out]
  go_wp2_with fail
  refine (isWeek_any _ _ _ _ _ (by omega) (by omega)).mono ?_
  rintro e w2 ⟨rfl, hk2⟩
  obtain ⟨hc2, hf2, hz2⟩ := bcell hk2
  have hk2' := kept_trans hk1' hk2
  have hs2 : w.heap.size + 1 < w2.heap.size := by omega
  rw [HB.out]
  go_wp2_with fail
  refine (isNote_any _ _).mono ?_
  rintro e w3 ⟨rfl, rfl⟩
  rw [HC.out]
  go_wp2_with fail
  refine (isIn_any _ _ _ _).mono ?_
  rintro e w4 ⟨rfl, rfl⟩
  go_wp2_with fail
  go_ret
  exact ⟨by simp, hk2'⟩

theorem validTrial_any (p : Option Addr) (len cap wks : Nat) (ts : Value) (t : Trial) (w : World) (hl : len ≤ 140737488355328) (hw : wks ≤ 1000) :
   Calls Tryz.prog 86 #[.agg #[.slice p len cap, .int .i64 wks, ts], .agg #[.int .i64 t.boy, .int .i64 t.week, .int .i64 t.note, .int .i64 t.sang]] w fun e w' => e = .returned (.bool (validTrialB len wks t)) ∧ Kept w w' := by
  unfold validTrialB
  cases ha : inB t.boy 0 (len - 1)
  · exact vt_a p len cap wks ts t w hl hw ha
  · cases hb : inB t.week 0 (wks - 1)
    · exact vt_b p len cap wks ts t w hl hw ha hb
    · cases hc : inB t.note 0 40
      · exact vt_c p len cap wks ts t w hl hw ha hb hc
      · simpa using vt_d p len cap wks ts t w hl hw ha hb hc
end Go.Proofs.YthgfbokfaidklaaGreatDoor
set_option linter.all false
namespace Go.Proofs.YthgfbokfaidklaaGreatDoor
open Go.RowKit Go.Sort
set_option maxRecDepth 100000

theorem known_any (l0 l1 h0 h1 g0 g1 t0 t1 ls b0 b1 : Int) (w : World) : Calls Tryz.prog 107 #[.agg #[.int .i64 l0, .int .i64 l1, .int .i64 h0, .int .i64 h1, .int .i64 g0, .int .i64 g1, .int .i64 t0, .int .i64 t1, .int .i64 ls, .int .i64 b0, .int .i64 b1]] w fun e w' => e = .returned (.agg #[.int .i64 l0, .int .i64 l1, .int .i64 h0, .int .i64 h1, .int .i64 g0, .int .i64 g1, .int .i64 t0, .int .i64 t1, .int .i64 b0, .int .i64 b1]) ∧ Kept w w' := by
  go_enter Tryz.func107, Tryz.ntmps107
  go_wp2
  refine bodyPost_ret (v := .agg #[.int .i64 l0, .int .i64 l1, .int .i64 h0, .int .i64 h1, .int .i64 g0, .int .i64 g1, .int .i64 t0, .int .i64 t1, .int .i64 b0, .int .i64 b1]) (by simp [results, Tryz.results107, go_sem]) rfl ⟨rfl, ?_⟩
  unfold Kept
  repeat (first | exact Below.refl _ _ | refine Below.alloc ?_ (by simp) _ | refine Below.setCell ?_ (by simp [Addr.add]; done) _ )

end Go.Proofs.YthgfbokfaidklaaGreatDoor
set_option linter.all false
namespace Go.Proofs.YthgfbokfaidklaaGreatDoor
open Go.RowKit Go.Sort
set_option maxRecDepth 100000
theorem idx0 (a0 a1 a2 a3 a4 a5 a6 a7 a8 a9 : Value) (w : World) : (Instr.index 162 (.agg #[a0, a1, a2, a3, a4, a5, a6, a7, a8, a9]) (.int .i64 0)).run Tryz.prog w = .ok (.agg #[a0, a1]) w := by kernel_rfl
theorem idx1 (a0 a1 a2 a3 a4 a5 a6 a7 a8 a9 : Value) (w : World) : (Instr.index 162 (.agg #[a0, a1, a2, a3, a4, a5, a6, a7, a8, a9]) (.int .i64 1)).run Tryz.prog w = .ok (.agg #[a2, a3]) w := by kernel_rfl
theorem idx2 (a0 a1 a2 a3 a4 a5 a6 a7 a8 a9 : Value) (w : World) : (Instr.index 162 (.agg #[a0, a1, a2, a3, a4, a5, a6, a7, a8, a9]) (.int .i64 2)).run Tryz.prog w = .ok (.agg #[a4, a5]) w := by kernel_rfl
theorem idx3 (a0 a1 a2 a3 a4 a5 a6 a7 a8 a9 : Value) (w : World) : (Instr.index 162 (.agg #[a0, a1, a2, a3, a4, a5, a6, a7, a8, a9]) (.int .i64 3)).run Tryz.prog w = .ok (.agg #[a6, a7]) w := by kernel_rfl
theorem idx4 (a0 a1 a2 a3 a4 a5 a6 a7 a8 a9 : Value) (w : World) : (Instr.index 162 (.agg #[a0, a1, a2, a3, a4, a5, a6, a7, a8, a9]) (.int .i64 4)).run Tryz.prog w = .ok (.agg #[a8, a9]) w := by kernel_rfl
end Go.Proofs.YthgfbokfaidklaaGreatDoor
set_option linter.all false
namespace Go.Proofs.YthgfbokfaidklaaGreatDoor
open Go.RowKit Go.Sort
set_option maxRecDepth 100000
attribute [local go_sem] idx0 idx1 idx2 idx3 idx4

theorem isSpan_eq (l h m : Int) {g : Bool} (w : World) (hg : (inB l 0 h && decide (h ≤ m)) = g) : Calls Tryz.prog 108 #[.agg #[.int .i64 l, .int .i64 h], .int .i64 m] w fun e w' => e = .returned (.bool g) ∧ Kept w w' := by
  subst hg; exact isSpan_any l h m w

def spanB (l h m a : Int) : Bool := (inB l 0 h && decide (h ≤ m)) && !decide (a < h - l)
def spanAt (l0 l1 h0 h1 g0 g1 t0 t1 ls b0 b1 : Int) : Nat → Bool
  | 0 => spanB l0 l1 40 2
  | 1 => spanB h0 h1 40 2
  | 2 => spanB g0 g1 2 1
  | 3 => spanB t0 t1 6 2
  | 4 => spanB b0 b1 9 3
  | _ => true

def ValidP (f : Nat → Bool) (g : Bool) (r : Bool) : Prop := r = true ↔ (∀ j, j < 5 → f j = true) ∧ g = true

set_option maxHeartbeats 6000000 in
theorem validBoy_any (l0 l1 h0 h1 g0 g1 t0 t1 ls b0 b1 : Int) (w : World) (hz : 2 < w.heap.size) (hG : w.cell? ⟨2, 0, none⟩ = some (.int .i64 40) ∧ w.cell? ⟨2, 1, none⟩ = some (.int .i64 2) ∧ w.cell? ⟨2, 2, none⟩ = some (.int .i64 40) ∧ w.cell? ⟨2, 3, none⟩ = some (.int .i64 2) ∧ w.cell? ⟨2, 4, none⟩ = some (.int .i64 2) ∧ w.cell? ⟨2, 5, none⟩ = some (.int .i64 1) ∧ w.cell? ⟨2, 6, none⟩ = some (.int .i64 6) ∧ w.cell? ⟨2, 7, none⟩ = some (.int .i64 2) ∧ w.cell? ⟨2, 8, none⟩ = some (.int .i64 9) ∧ w.cell? ⟨2, 9, none⟩ = some (.int .i64 3)) : Calls Tryz.prog 85 #[.agg #[.int .i64 l0, .int .i64 l1, .int .i64 h0, .int .i64 h1, .int .i64 g0, .int .i64 g1, .int .i64 t0, .int .i64 t1, .int .i64 ls, .int .i64 b0, .int .i64 b1]] w (ToldB (ValidP (spanAt l0 l1 h0 h1 g0 g1 t0 t1 ls b0 b1) (inB ls 0 2)) w) := by
  obtain ⟨G0, G1, G2, G3, G4, G5, G6, G7, G8, G9⟩ := hG
  have HG0 := Lib.hid G0; clear G0
  have HG1 := Lib.hid G1; clear G1
  have HG2 := Lib.hid G2; clear G2
  have HG3 := Lib.hid G3; clear G3
  have HG4 := Lib.hid G4; clear G4
  have HG5 := Lib.hid G5; clear G5
  have HG6 := Lib.hid G6; clear G6
  have HG7 := Lib.hid G7; clear G7
  have HG8 := Lib.hid G8; clear G8
  have HG9 := Lib.hid G9; clear G9
  have hk0 : Kept w (w.alloc (Obj.cells #[.int .i64 l0, .int .i64 l1, .int .i64 h0, .int .i64 h1, .int .i64 g0, .int .i64 g1, .int .i64 t0, .int .i64 t1, .int .i64 ls, .int .i64 b0, .int .i64 b1] 140)) := kept_alloc (kept_refl _) _
  go_enter Tryz.func85, Tryz.ntmps85
  go_wp2_with fail
  refine (known_any _ _ _ _ _ _ _ _ _ _ _ _).mono ?_
  rintro e w1 ⟨rfl, hk1'⟩
  have hk1 := kept_trans hk0 hk1'
  have hls : w1.cell? ⟨w.heap.size, 8, none⟩ = some (.int .i64 ls) := ((bcell hk1').1 _ _ (by simp)).trans (by go_simp)
  have hlz : w.heap.size < w1.heap.size := by have := (bcell hk1').2.2; simp at this; omega
  clear hk1'
  have HLS := Lib.hid hls; clear hls
  go_wp2_with fail
  go_loopw [7] (fun i W => ∃ k : Nat, k ≤ 5 ∧ i = .int .i64 k ∧ (∀ j, j < k → spanAt l0 l1 h0 h1 g0 g1 t0 t1 ls b0 b1 j = true) ∧ Kept w1 W) (fun i W => 5 - (intOf i).toNat)
  case atStart => exact ⟨0, by omega, rfl, fun j hj => by omega, kept_refl _⟩
  case round =>
    obtain ⟨k, hk, rfl, hno, hkW⟩ := hrel
    have HNO := Lib.hid hno; clear hno
    rcases (show k = 0 ∨ k = 1 ∨ k = 2 ∨ k = 3 ∨ k = 4 ∨ k = 5 by omega) with rfl | rfl | rfl | rfl | rfl | rfl

    · have kA : Kept wr (wr.alloc (Obj.cells #[Value.int IntKind.i64 l0, Value.int IntKind.i64 l1] 35)) := kept_alloc (kept_refl _) _
      have kA1 := kept_trans hkW kA
      have kA2 := kept_trans hk1 kA1
      have c0 : ∀ d os, (grow (redrawn (wr.alloc (Obj.cells #[Value.int IntKind.i64 l0, Value.int IntKind.i64 l1] 35)) d) os).cell? ⟨wr.heap.size, 0, none⟩ = some (.int .i64 l0) := cell_regrown (by go_simp)
      have c1 : ∀ d os, (grow (redrawn (wr.alloc (Obj.cells #[Value.int IntKind.i64 l0, Value.int IntKind.i64 l1] 35)) d) os).cell? ⟨wr.heap.size, 1, none⟩ = some (.int .i64 l1) := cell_regrown (by go_simp)
      have c2 : ∀ d os, (grow (redrawn (wr.alloc (Obj.cells #[Value.int IntKind.i64 l0, Value.int IntKind.i64 l1] 35)) d) os).cell? ⟨2, 0, none⟩ = some (.int .i64 40) := cell_regrown (((bcell kA2).1 2 _ (by omega)).trans HG0.out)
      have c3 : ∀ d os, (grow (redrawn (wr.alloc (Obj.cells #[Value.int IntKind.i64 l0, Value.int IntKind.i64 l1] 35)) d) os).cell? ⟨2, 1, none⟩ = some (.int .i64 2) := cell_regrown (((bcell kA2).1 2 _ (by omega)).trans HG1.out)
      rcases hs : (inB l0 0 l1 && decide (l1 ≤ 40)) with _ | _
      · have HS := Lib.hid hs; clear hs
        have HF : Hid (spanAt l0 l1 h0 h1 g0 g1 t0 t1 ls b0 b1 0 = false) := Lib.hid (by have := HS.out; simp only [spanAt, spanB, this, Bool.false_and])
        go_wp2_with fail
        generalize wr.alloc (Obj.cells #[Value.int IntKind.i64 l0, Value.int IntKind.i64 l1] 35) = W at *
        have hca : ∀ d os, Calls Tryz.prog 108 #[.agg #[.int .i64 l0, .int .i64 l1], .int .i64 40] (grow (redrawn W d) os) fun e w'' => e = .returned (.bool false) ∧ ∃ p : Regrown, w'' = grow (redrawn W p.d) p.os := fun d os => Calls.regrown_of (isSpan_eq l0 l1 40 _ HS.out)
        have HCA := Lib.hid hca; clear hca
        refine wp_region_quiet_below (by kernel_rfl) (by kernel_rfl) ?_
        repeat (any_goals (first | go_big_quiet_skip | quiet_step (first | exact HCA.out _ _)))
        refine wpQuiet_nil ?_
        intro _ hw'
        obtain ⟨⟨dq, osq⟩, hw''⟩ := hw'
        subst hw''
        have kW2 := kept_trans kA2 (below_regrown W dq osq)
        clear c0 c1 c2 c3
        go_wp2_with fail
        go_ret
        exact ⟨false, (show ValidP _ _ _ from ⟨(fun h => by cases h), (fun h => by have := h.1 0 (by omega); rw [HF.out] at this; cases this)⟩), rfl, kW2⟩
      · have hb2 : 0 ≤ l0 ∧ l0 ≤ l1 ∧ l1 ≤ 40 := by simpa [inB, and_assoc] using hs
        have HS := Lib.hid hs; clear hs
        have e1 : IntKind.i64.wrap (l1 - l0) = l1 - l0 := IntWalk.i64_in _ (by omega)
        rcases hq : decide (2 < l1 - l0) with _ | _
        · have HF : Hid (spanAt l0 l1 h0 h1 g0 g1 t0 t1 ls b0 b1 0 = true) := Lib.hid (by have h1 := HS.out; have h2 := hq; simp only [spanAt, spanB, h1, h2, Bool.true_and, Bool.not_false])
          go_wp2_with fail
          generalize wr.alloc (Obj.cells #[Value.int IntKind.i64 l0, Value.int IntKind.i64 l1] 35) = W at *
          have hca : ∀ d os, Calls Tryz.prog 108 #[.agg #[.int .i64 l0, .int .i64 l1], .int .i64 40] (grow (redrawn W d) os) fun e w'' => e = .returned (.bool true) ∧ ∃ p : Regrown, w'' = grow (redrawn W p.d) p.os := fun d os => Calls.regrown_of (isSpan_eq l0 l1 40 _ HS.out)
          have HCA := Lib.hid hca; clear hca
          refine wp_region_quiet_below (by kernel_rfl) (by kernel_rfl) ?_
          repeat (any_goals (first | go_big_quiet_skip | quiet_step (first | exact HCA.out _ _)))
          refine wpQuiet_nil ?_
          intro _ hw'
          obtain ⟨⟨dq, osq⟩, hw''⟩ := hw'
          subst hw''
          have kW2 := kept_trans kA1 (below_regrown W dq osq)
          clear c0 c1 c2 c3 e1 hq
          have HNEW : Hid (∀ j, j < 0 + 1 → spanAt l0 l1 h0 h1 g0 g1 t0 t1 ls b0 b1 j = true) := Lib.hid (by
            intro j hj
            by_cases e : j = 0
            · subst e; exact HF.out
            · exact HNO.out j (by omega))
          go_wp2_with fail
          go_roundw
          case rel => exact ⟨0 + 1, by omega, by go_num, HNEW.out, kW2⟩
          case measure => simp [intOf]
        · have HF : Hid (spanAt l0 l1 h0 h1 g0 g1 t0 t1 ls b0 b1 0 = false) := Lib.hid (by have h1 := HS.out; have h2 := hq; simp only [spanAt, spanB, h1, h2, Bool.true_and, Bool.not_true])
          go_wp2_with fail
          generalize wr.alloc (Obj.cells #[Value.int IntKind.i64 l0, Value.int IntKind.i64 l1] 35) = W at *
          have hca : ∀ d os, Calls Tryz.prog 108 #[.agg #[.int .i64 l0, .int .i64 l1], .int .i64 40] (grow (redrawn W d) os) fun e w'' => e = .returned (.bool true) ∧ ∃ p : Regrown, w'' = grow (redrawn W p.d) p.os := fun d os => Calls.regrown_of (isSpan_eq l0 l1 40 _ HS.out)
          have HCA := Lib.hid hca; clear hca
          refine wp_region_quiet_below (by kernel_rfl) (by kernel_rfl) ?_
          repeat (any_goals (first | go_big_quiet_skip | quiet_step (first | exact HCA.out _ _)))
          refine wpQuiet_nil ?_
          intro _ hw'
          obtain ⟨⟨dq, osq⟩, hw''⟩ := hw'
          subst hw''
          have kW2 := kept_trans kA2 (below_regrown W dq osq)
          clear c0 c1 c2 c3 e1 hq
          go_wp2_with fail
          go_ret
          exact ⟨false, (show ValidP _ _ _ from ⟨(fun h => by cases h), (fun h => by have := h.1 0 (by omega); rw [HF.out] at this; cases this)⟩), rfl, kW2⟩
    · have kA : Kept wr (wr.alloc (Obj.cells #[Value.int IntKind.i64 h0, Value.int IntKind.i64 h1] 35)) := kept_alloc (kept_refl _) _
      have kA1 := kept_trans hkW kA
      have kA2 := kept_trans hk1 kA1
      have c0 : ∀ d os, (grow (redrawn (wr.alloc (Obj.cells #[Value.int IntKind.i64 h0, Value.int IntKind.i64 h1] 35)) d) os).cell? ⟨wr.heap.size, 0, none⟩ = some (.int .i64 h0) := cell_regrown (by go_simp)
      have c1 : ∀ d os, (grow (redrawn (wr.alloc (Obj.cells #[Value.int IntKind.i64 h0, Value.int IntKind.i64 h1] 35)) d) os).cell? ⟨wr.heap.size, 1, none⟩ = some (.int .i64 h1) := cell_regrown (by go_simp)
      have c2 : ∀ d os, (grow (redrawn (wr.alloc (Obj.cells #[Value.int IntKind.i64 h0, Value.int IntKind.i64 h1] 35)) d) os).cell? ⟨2, 2, none⟩ = some (.int .i64 40) := cell_regrown (((bcell kA2).1 2 _ (by omega)).trans HG2.out)
      have c3 : ∀ d os, (grow (redrawn (wr.alloc (Obj.cells #[Value.int IntKind.i64 h0, Value.int IntKind.i64 h1] 35)) d) os).cell? ⟨2, 3, none⟩ = some (.int .i64 2) := cell_regrown (((bcell kA2).1 2 _ (by omega)).trans HG3.out)
      rcases hs : (inB h0 0 h1 && decide (h1 ≤ 40)) with _ | _
      · have HS := Lib.hid hs; clear hs
        have HF : Hid (spanAt l0 l1 h0 h1 g0 g1 t0 t1 ls b0 b1 1 = false) := Lib.hid (by have := HS.out; simp only [spanAt, spanB, this, Bool.false_and])
        go_wp2_with fail
        generalize wr.alloc (Obj.cells #[Value.int IntKind.i64 h0, Value.int IntKind.i64 h1] 35) = W at *
        have hca : ∀ d os, Calls Tryz.prog 108 #[.agg #[.int .i64 h0, .int .i64 h1], .int .i64 40] (grow (redrawn W d) os) fun e w'' => e = .returned (.bool false) ∧ ∃ p : Regrown, w'' = grow (redrawn W p.d) p.os := fun d os => Calls.regrown_of (isSpan_eq h0 h1 40 _ HS.out)
        have HCA := Lib.hid hca; clear hca
        refine wp_region_quiet_below (by kernel_rfl) (by kernel_rfl) ?_
        repeat (any_goals (first | go_big_quiet_skip | quiet_step (first | exact HCA.out _ _)))
        refine wpQuiet_nil ?_
        intro _ hw'
        obtain ⟨⟨dq, osq⟩, hw''⟩ := hw'
        subst hw''
        have kW2 := kept_trans kA2 (below_regrown W dq osq)
        clear c0 c1 c2 c3
        go_wp2_with fail
        go_ret
        exact ⟨false, (show ValidP _ _ _ from ⟨(fun h => by cases h), (fun h => by have := h.1 1 (by omega); rw [HF.out] at this; cases this)⟩), rfl, kW2⟩
      · have hb2 : 0 ≤ h0 ∧ h0 ≤ h1 ∧ h1 ≤ 40 := by simpa [inB, and_assoc] using hs
        have HS := Lib.hid hs; clear hs
        have e1 : IntKind.i64.wrap (h1 - h0) = h1 - h0 := IntWalk.i64_in _ (by omega)
        rcases hq : decide (2 < h1 - h0) with _ | _
        · have HF : Hid (spanAt l0 l1 h0 h1 g0 g1 t0 t1 ls b0 b1 1 = true) := Lib.hid (by have h1 := HS.out; have h2 := hq; simp only [spanAt, spanB, h1, h2, Bool.true_and, Bool.not_false])
          go_wp2_with fail
          generalize wr.alloc (Obj.cells #[Value.int IntKind.i64 h0, Value.int IntKind.i64 h1] 35) = W at *
          have hca : ∀ d os, Calls Tryz.prog 108 #[.agg #[.int .i64 h0, .int .i64 h1], .int .i64 40] (grow (redrawn W d) os) fun e w'' => e = .returned (.bool true) ∧ ∃ p : Regrown, w'' = grow (redrawn W p.d) p.os := fun d os => Calls.regrown_of (isSpan_eq h0 h1 40 _ HS.out)
          have HCA := Lib.hid hca; clear hca
          refine wp_region_quiet_below (by kernel_rfl) (by kernel_rfl) ?_
          repeat (any_goals (first | go_big_quiet_skip | quiet_step (first | exact HCA.out _ _)))
          refine wpQuiet_nil ?_
          intro _ hw'
          obtain ⟨⟨dq, osq⟩, hw''⟩ := hw'
          subst hw''
          have kW2 := kept_trans kA1 (below_regrown W dq osq)
          clear c0 c1 c2 c3 e1 hq
          have HNEW : Hid (∀ j, j < 1 + 1 → spanAt l0 l1 h0 h1 g0 g1 t0 t1 ls b0 b1 j = true) := Lib.hid (by
            intro j hj
            by_cases e : j = 1
            · subst e; exact HF.out
            · exact HNO.out j (by omega))
          go_wp2_with fail
          go_roundw
          case rel => exact ⟨1 + 1, by omega, by go_num, HNEW.out, kW2⟩
          case measure => simp [intOf]
        · have HF : Hid (spanAt l0 l1 h0 h1 g0 g1 t0 t1 ls b0 b1 1 = false) := Lib.hid (by have h1 := HS.out; have h2 := hq; simp only [spanAt, spanB, h1, h2, Bool.true_and, Bool.not_true])
          go_wp2_with fail
          generalize wr.alloc (Obj.cells #[Value.int IntKind.i64 h0, Value.int IntKind.i64 h1] 35) = W at *
          have hca : ∀ d os, Calls Tryz.prog 108 #[.agg #[.int .i64 h0, .int .i64 h1], .int .i64 40] (grow (redrawn W d) os) fun e w'' => e = .returned (.bool true) ∧ ∃ p : Regrown, w'' = grow (redrawn W p.d) p.os := fun d os => Calls.regrown_of (isSpan_eq h0 h1 40 _ HS.out)
          have HCA := Lib.hid hca; clear hca
          refine wp_region_quiet_below (by kernel_rfl) (by kernel_rfl) ?_
          repeat (any_goals (first | go_big_quiet_skip | quiet_step (first | exact HCA.out _ _)))
          refine wpQuiet_nil ?_
          intro _ hw'
          obtain ⟨⟨dq, osq⟩, hw''⟩ := hw'
          subst hw''
          have kW2 := kept_trans kA2 (below_regrown W dq osq)
          clear c0 c1 c2 c3 e1 hq
          go_wp2_with fail
          go_ret
          exact ⟨false, (show ValidP _ _ _ from ⟨(fun h => by cases h), (fun h => by have := h.1 1 (by omega); rw [HF.out] at this; cases this)⟩), rfl, kW2⟩
    · have kA : Kept wr (wr.alloc (Obj.cells #[Value.int IntKind.i64 g0, Value.int IntKind.i64 g1] 35)) := kept_alloc (kept_refl _) _
      have kA1 := kept_trans hkW kA
      have kA2 := kept_trans hk1 kA1
      have c0 : ∀ d os, (grow (redrawn (wr.alloc (Obj.cells #[Value.int IntKind.i64 g0, Value.int IntKind.i64 g1] 35)) d) os).cell? ⟨wr.heap.size, 0, none⟩ = some (.int .i64 g0) := cell_regrown (by go_simp)
      have c1 : ∀ d os, (grow (redrawn (wr.alloc (Obj.cells #[Value.int IntKind.i64 g0, Value.int IntKind.i64 g1] 35)) d) os).cell? ⟨wr.heap.size, 1, none⟩ = some (.int .i64 g1) := cell_regrown (by go_simp)
      have c2 : ∀ d os, (grow (redrawn (wr.alloc (Obj.cells #[Value.int IntKind.i64 g0, Value.int IntKind.i64 g1] 35)) d) os).cell? ⟨2, 4, none⟩ = some (.int .i64 2) := cell_regrown (((bcell kA2).1 2 _ (by omega)).trans HG4.out)
      have c3 : ∀ d os, (grow (redrawn (wr.alloc (Obj.cells #[Value.int IntKind.i64 g0, Value.int IntKind.i64 g1] 35)) d) os).cell? ⟨2, 5, none⟩ = some (.int .i64 1) := cell_regrown (((bcell kA2).1 2 _ (by omega)).trans HG5.out)
      rcases hs : (inB g0 0 g1 && decide (g1 ≤ 2)) with _ | _
      · have HS := Lib.hid hs; clear hs
        have HF : Hid (spanAt l0 l1 h0 h1 g0 g1 t0 t1 ls b0 b1 2 = false) := Lib.hid (by have := HS.out; simp only [spanAt, spanB, this, Bool.false_and])
        go_wp2_with fail
        generalize wr.alloc (Obj.cells #[Value.int IntKind.i64 g0, Value.int IntKind.i64 g1] 35) = W at *
        have hca : ∀ d os, Calls Tryz.prog 108 #[.agg #[.int .i64 g0, .int .i64 g1], .int .i64 2] (grow (redrawn W d) os) fun e w'' => e = .returned (.bool false) ∧ ∃ p : Regrown, w'' = grow (redrawn W p.d) p.os := fun d os => Calls.regrown_of (isSpan_eq g0 g1 2 _ HS.out)
        have HCA := Lib.hid hca; clear hca
        refine wp_region_quiet_below (by kernel_rfl) (by kernel_rfl) ?_
        repeat (any_goals (first | go_big_quiet_skip | quiet_step (first | exact HCA.out _ _)))
        refine wpQuiet_nil ?_
        intro _ hw'
        obtain ⟨⟨dq, osq⟩, hw''⟩ := hw'
        subst hw''
        have kW2 := kept_trans kA2 (below_regrown W dq osq)
        clear c0 c1 c2 c3
        go_wp2_with fail
        go_ret
        exact ⟨false, (show ValidP _ _ _ from ⟨(fun h => by cases h), (fun h => by have := h.1 2 (by omega); rw [HF.out] at this; cases this)⟩), rfl, kW2⟩
      · have hb2 : 0 ≤ g0 ∧ g0 ≤ g1 ∧ g1 ≤ 2 := by simpa [inB, and_assoc] using hs
        have HS := Lib.hid hs; clear hs
        have e1 : IntKind.i64.wrap (g1 - g0) = g1 - g0 := IntWalk.i64_in _ (by omega)
        rcases hq : decide (1 < g1 - g0) with _ | _
        · have HF : Hid (spanAt l0 l1 h0 h1 g0 g1 t0 t1 ls b0 b1 2 = true) := Lib.hid (by have h1 := HS.out; have h2 := hq; simp only [spanAt, spanB, h1, h2, Bool.true_and, Bool.not_false])
          go_wp2_with fail
          generalize wr.alloc (Obj.cells #[Value.int IntKind.i64 g0, Value.int IntKind.i64 g1] 35) = W at *
          have hca : ∀ d os, Calls Tryz.prog 108 #[.agg #[.int .i64 g0, .int .i64 g1], .int .i64 2] (grow (redrawn W d) os) fun e w'' => e = .returned (.bool true) ∧ ∃ p : Regrown, w'' = grow (redrawn W p.d) p.os := fun d os => Calls.regrown_of (isSpan_eq g0 g1 2 _ HS.out)
          have HCA := Lib.hid hca; clear hca
          refine wp_region_quiet_below (by kernel_rfl) (by kernel_rfl) ?_
          repeat (any_goals (first | go_big_quiet_skip | quiet_step (first | exact HCA.out _ _)))
          refine wpQuiet_nil ?_
          intro _ hw'
          obtain ⟨⟨dq, osq⟩, hw''⟩ := hw'
          subst hw''
          have kW2 := kept_trans kA1 (below_regrown W dq osq)
          clear c0 c1 c2 c3 e1 hq
          have HNEW : Hid (∀ j, j < 2 + 1 → spanAt l0 l1 h0 h1 g0 g1 t0 t1 ls b0 b1 j = true) := Lib.hid (by
            intro j hj
            by_cases e : j = 2
            · subst e; exact HF.out
            · exact HNO.out j (by omega))
          go_wp2_with fail
          go_roundw
          case rel => exact ⟨2 + 1, by omega, by go_num, HNEW.out, kW2⟩
          case measure => simp [intOf]
        · have HF : Hid (spanAt l0 l1 h0 h1 g0 g1 t0 t1 ls b0 b1 2 = false) := Lib.hid (by have h1 := HS.out; have h2 := hq; simp only [spanAt, spanB, h1, h2, Bool.true_and, Bool.not_true])
          go_wp2_with fail
          generalize wr.alloc (Obj.cells #[Value.int IntKind.i64 g0, Value.int IntKind.i64 g1] 35) = W at *
          have hca : ∀ d os, Calls Tryz.prog 108 #[.agg #[.int .i64 g0, .int .i64 g1], .int .i64 2] (grow (redrawn W d) os) fun e w'' => e = .returned (.bool true) ∧ ∃ p : Regrown, w'' = grow (redrawn W p.d) p.os := fun d os => Calls.regrown_of (isSpan_eq g0 g1 2 _ HS.out)
          have HCA := Lib.hid hca; clear hca
          refine wp_region_quiet_below (by kernel_rfl) (by kernel_rfl) ?_
          repeat (any_goals (first | go_big_quiet_skip | quiet_step (first | exact HCA.out _ _)))
          refine wpQuiet_nil ?_
          intro _ hw'
          obtain ⟨⟨dq, osq⟩, hw''⟩ := hw'
          subst hw''
          have kW2 := kept_trans kA2 (below_regrown W dq osq)
          clear c0 c1 c2 c3 e1 hq
          go_wp2_with fail
          go_ret
          exact ⟨false, (show ValidP _ _ _ from ⟨(fun h => by cases h), (fun h => by have := h.1 2 (by omega); rw [HF.out] at this; cases this)⟩), rfl, kW2⟩
    · have kA : Kept wr (wr.alloc (Obj.cells #[Value.int IntKind.i64 t0, Value.int IntKind.i64 t1] 35)) := kept_alloc (kept_refl _) _
      have kA1 := kept_trans hkW kA
      have kA2 := kept_trans hk1 kA1
      have c0 : ∀ d os, (grow (redrawn (wr.alloc (Obj.cells #[Value.int IntKind.i64 t0, Value.int IntKind.i64 t1] 35)) d) os).cell? ⟨wr.heap.size, 0, none⟩ = some (.int .i64 t0) := cell_regrown (by go_simp)
      have c1 : ∀ d os, (grow (redrawn (wr.alloc (Obj.cells #[Value.int IntKind.i64 t0, Value.int IntKind.i64 t1] 35)) d) os).cell? ⟨wr.heap.size, 1, none⟩ = some (.int .i64 t1) := cell_regrown (by go_simp)
      have c2 : ∀ d os, (grow (redrawn (wr.alloc (Obj.cells #[Value.int IntKind.i64 t0, Value.int IntKind.i64 t1] 35)) d) os).cell? ⟨2, 6, none⟩ = some (.int .i64 6) := cell_regrown (((bcell kA2).1 2 _ (by omega)).trans HG6.out)
      have c3 : ∀ d os, (grow (redrawn (wr.alloc (Obj.cells #[Value.int IntKind.i64 t0, Value.int IntKind.i64 t1] 35)) d) os).cell? ⟨2, 7, none⟩ = some (.int .i64 2) := cell_regrown (((bcell kA2).1 2 _ (by omega)).trans HG7.out)
      rcases hs : (inB t0 0 t1 && decide (t1 ≤ 6)) with _ | _
      · have HS := Lib.hid hs; clear hs
        have HF : Hid (spanAt l0 l1 h0 h1 g0 g1 t0 t1 ls b0 b1 3 = false) := Lib.hid (by have := HS.out; simp only [spanAt, spanB, this, Bool.false_and])
        go_wp2_with fail
        generalize wr.alloc (Obj.cells #[Value.int IntKind.i64 t0, Value.int IntKind.i64 t1] 35) = W at *
        have hca : ∀ d os, Calls Tryz.prog 108 #[.agg #[.int .i64 t0, .int .i64 t1], .int .i64 6] (grow (redrawn W d) os) fun e w'' => e = .returned (.bool false) ∧ ∃ p : Regrown, w'' = grow (redrawn W p.d) p.os := fun d os => Calls.regrown_of (isSpan_eq t0 t1 6 _ HS.out)
        have HCA := Lib.hid hca; clear hca
        refine wp_region_quiet_below (by kernel_rfl) (by kernel_rfl) ?_
        repeat (any_goals (first | go_big_quiet_skip | quiet_step (first | exact HCA.out _ _)))
        refine wpQuiet_nil ?_
        intro _ hw'
        obtain ⟨⟨dq, osq⟩, hw''⟩ := hw'
        subst hw''
        have kW2 := kept_trans kA2 (below_regrown W dq osq)
        clear c0 c1 c2 c3
        go_wp2_with fail
        go_ret
        exact ⟨false, (show ValidP _ _ _ from ⟨(fun h => by cases h), (fun h => by have := h.1 3 (by omega); rw [HF.out] at this; cases this)⟩), rfl, kW2⟩
      · have hb2 : 0 ≤ t0 ∧ t0 ≤ t1 ∧ t1 ≤ 6 := by simpa [inB, and_assoc] using hs
        have HS := Lib.hid hs; clear hs
        have e1 : IntKind.i64.wrap (t1 - t0) = t1 - t0 := IntWalk.i64_in _ (by omega)
        rcases hq : decide (2 < t1 - t0) with _ | _
        · have HF : Hid (spanAt l0 l1 h0 h1 g0 g1 t0 t1 ls b0 b1 3 = true) := Lib.hid (by have h1 := HS.out; have h2 := hq; simp only [spanAt, spanB, h1, h2, Bool.true_and, Bool.not_false])
          go_wp2_with fail
          generalize wr.alloc (Obj.cells #[Value.int IntKind.i64 t0, Value.int IntKind.i64 t1] 35) = W at *
          have hca : ∀ d os, Calls Tryz.prog 108 #[.agg #[.int .i64 t0, .int .i64 t1], .int .i64 6] (grow (redrawn W d) os) fun e w'' => e = .returned (.bool true) ∧ ∃ p : Regrown, w'' = grow (redrawn W p.d) p.os := fun d os => Calls.regrown_of (isSpan_eq t0 t1 6 _ HS.out)
          have HCA := Lib.hid hca; clear hca
          refine wp_region_quiet_below (by kernel_rfl) (by kernel_rfl) ?_
          repeat (any_goals (first | go_big_quiet_skip | quiet_step (first | exact HCA.out _ _)))
          refine wpQuiet_nil ?_
          intro _ hw'
          obtain ⟨⟨dq, osq⟩, hw''⟩ := hw'
          subst hw''
          have kW2 := kept_trans kA1 (below_regrown W dq osq)
          clear c0 c1 c2 c3 e1 hq
          have HNEW : Hid (∀ j, j < 3 + 1 → spanAt l0 l1 h0 h1 g0 g1 t0 t1 ls b0 b1 j = true) := Lib.hid (by
            intro j hj
            by_cases e : j = 3
            · subst e; exact HF.out
            · exact HNO.out j (by omega))
          go_wp2_with fail
          go_roundw
          case rel => exact ⟨3 + 1, by omega, by go_num, HNEW.out, kW2⟩
          case measure => simp [intOf]
        · have HF : Hid (spanAt l0 l1 h0 h1 g0 g1 t0 t1 ls b0 b1 3 = false) := Lib.hid (by have h1 := HS.out; have h2 := hq; simp only [spanAt, spanB, h1, h2, Bool.true_and, Bool.not_true])
          go_wp2_with fail
          generalize wr.alloc (Obj.cells #[Value.int IntKind.i64 t0, Value.int IntKind.i64 t1] 35) = W at *
          have hca : ∀ d os, Calls Tryz.prog 108 #[.agg #[.int .i64 t0, .int .i64 t1], .int .i64 6] (grow (redrawn W d) os) fun e w'' => e = .returned (.bool true) ∧ ∃ p : Regrown, w'' = grow (redrawn W p.d) p.os := fun d os => Calls.regrown_of (isSpan_eq t0 t1 6 _ HS.out)
          have HCA := Lib.hid hca; clear hca
          refine wp_region_quiet_below (by kernel_rfl) (by kernel_rfl) ?_
          repeat (any_goals (first | go_big_quiet_skip | quiet_step (first | exact HCA.out _ _)))
          refine wpQuiet_nil ?_
          intro _ hw'
          obtain ⟨⟨dq, osq⟩, hw''⟩ := hw'
          subst hw''
          have kW2 := kept_trans kA2 (below_regrown W dq osq)
          clear c0 c1 c2 c3 e1 hq
          go_wp2_with fail
          go_ret
          exact ⟨false, (show ValidP _ _ _ from ⟨(fun h => by cases h), (fun h => by have := h.1 3 (by omega); rw [HF.out] at this; cases this)⟩), rfl, kW2⟩
    · have kA : Kept wr (wr.alloc (Obj.cells #[Value.int IntKind.i64 b0, Value.int IntKind.i64 b1] 35)) := kept_alloc (kept_refl _) _
      have kA1 := kept_trans hkW kA
      have kA2 := kept_trans hk1 kA1
      have c0 : ∀ d os, (grow (redrawn (wr.alloc (Obj.cells #[Value.int IntKind.i64 b0, Value.int IntKind.i64 b1] 35)) d) os).cell? ⟨wr.heap.size, 0, none⟩ = some (.int .i64 b0) := cell_regrown (by go_simp)
      have c1 : ∀ d os, (grow (redrawn (wr.alloc (Obj.cells #[Value.int IntKind.i64 b0, Value.int IntKind.i64 b1] 35)) d) os).cell? ⟨wr.heap.size, 1, none⟩ = some (.int .i64 b1) := cell_regrown (by go_simp)
      have c2 : ∀ d os, (grow (redrawn (wr.alloc (Obj.cells #[Value.int IntKind.i64 b0, Value.int IntKind.i64 b1] 35)) d) os).cell? ⟨2, 8, none⟩ = some (.int .i64 9) := cell_regrown (((bcell kA2).1 2 _ (by omega)).trans HG8.out)
      have c3 : ∀ d os, (grow (redrawn (wr.alloc (Obj.cells #[Value.int IntKind.i64 b0, Value.int IntKind.i64 b1] 35)) d) os).cell? ⟨2, 9, none⟩ = some (.int .i64 3) := cell_regrown (((bcell kA2).1 2 _ (by omega)).trans HG9.out)
      rcases hs : (inB b0 0 b1 && decide (b1 ≤ 9)) with _ | _
      · have HS := Lib.hid hs; clear hs
        have HF : Hid (spanAt l0 l1 h0 h1 g0 g1 t0 t1 ls b0 b1 4 = false) := Lib.hid (by have := HS.out; simp only [spanAt, spanB, this, Bool.false_and])
        go_wp2_with fail
        generalize wr.alloc (Obj.cells #[Value.int IntKind.i64 b0, Value.int IntKind.i64 b1] 35) = W at *
        have hca : ∀ d os, Calls Tryz.prog 108 #[.agg #[.int .i64 b0, .int .i64 b1], .int .i64 9] (grow (redrawn W d) os) fun e w'' => e = .returned (.bool false) ∧ ∃ p : Regrown, w'' = grow (redrawn W p.d) p.os := fun d os => Calls.regrown_of (isSpan_eq b0 b1 9 _ HS.out)
        have HCA := Lib.hid hca; clear hca
        refine wp_region_quiet_below (by kernel_rfl) (by kernel_rfl) ?_
        repeat (any_goals (first | go_big_quiet_skip | quiet_step (first | exact HCA.out _ _)))
        refine wpQuiet_nil ?_
        intro _ hw'
        obtain ⟨⟨dq, osq⟩, hw''⟩ := hw'
        subst hw''
        have kW2 := kept_trans kA2 (below_regrown W dq osq)
        clear c0 c1 c2 c3
        go_wp2_with fail
        go_ret
        exact ⟨false, (show ValidP _ _ _ from ⟨(fun h => by cases h), (fun h => by have := h.1 4 (by omega); rw [HF.out] at this; cases this)⟩), rfl, kW2⟩
      · have hb2 : 0 ≤ b0 ∧ b0 ≤ b1 ∧ b1 ≤ 9 := by simpa [inB, and_assoc] using hs
        have HS := Lib.hid hs; clear hs
        have e1 : IntKind.i64.wrap (b1 - b0) = b1 - b0 := IntWalk.i64_in _ (by omega)
        rcases hq : decide (3 < b1 - b0) with _ | _
        · have HF : Hid (spanAt l0 l1 h0 h1 g0 g1 t0 t1 ls b0 b1 4 = true) := Lib.hid (by have h1 := HS.out; have h2 := hq; simp only [spanAt, spanB, h1, h2, Bool.true_and, Bool.not_false])
          go_wp2_with fail
          generalize wr.alloc (Obj.cells #[Value.int IntKind.i64 b0, Value.int IntKind.i64 b1] 35) = W at *
          have hca : ∀ d os, Calls Tryz.prog 108 #[.agg #[.int .i64 b0, .int .i64 b1], .int .i64 9] (grow (redrawn W d) os) fun e w'' => e = .returned (.bool true) ∧ ∃ p : Regrown, w'' = grow (redrawn W p.d) p.os := fun d os => Calls.regrown_of (isSpan_eq b0 b1 9 _ HS.out)
          have HCA := Lib.hid hca; clear hca
          refine wp_region_quiet_below (by kernel_rfl) (by kernel_rfl) ?_
          repeat (any_goals (first | go_big_quiet_skip | quiet_step (first | exact HCA.out _ _)))
          refine wpQuiet_nil ?_
          intro _ hw'
          obtain ⟨⟨dq, osq⟩, hw''⟩ := hw'
          subst hw''
          have kW2 := kept_trans kA1 (below_regrown W dq osq)
          clear c0 c1 c2 c3 e1 hq
          have HNEW : Hid (∀ j, j < 4 + 1 → spanAt l0 l1 h0 h1 g0 g1 t0 t1 ls b0 b1 j = true) := Lib.hid (by
            intro j hj
            by_cases e : j = 4
            · subst e; exact HF.out
            · exact HNO.out j (by omega))
          go_wp2_with fail
          go_roundw
          case rel => exact ⟨4 + 1, by omega, by go_num, HNEW.out, kW2⟩
          case measure => simp [intOf]
        · have HF : Hid (spanAt l0 l1 h0 h1 g0 g1 t0 t1 ls b0 b1 4 = false) := Lib.hid (by have h1 := HS.out; have h2 := hq; simp only [spanAt, spanB, h1, h2, Bool.true_and, Bool.not_true])
          go_wp2_with fail
          generalize wr.alloc (Obj.cells #[Value.int IntKind.i64 b0, Value.int IntKind.i64 b1] 35) = W at *
          have hca : ∀ d os, Calls Tryz.prog 108 #[.agg #[.int .i64 b0, .int .i64 b1], .int .i64 9] (grow (redrawn W d) os) fun e w'' => e = .returned (.bool true) ∧ ∃ p : Regrown, w'' = grow (redrawn W p.d) p.os := fun d os => Calls.regrown_of (isSpan_eq b0 b1 9 _ HS.out)
          have HCA := Lib.hid hca; clear hca
          refine wp_region_quiet_below (by kernel_rfl) (by kernel_rfl) ?_
          repeat (any_goals (first | go_big_quiet_skip | quiet_step (first | exact HCA.out _ _)))
          refine wpQuiet_nil ?_
          intro _ hw'
          obtain ⟨⟨dq, osq⟩, hw''⟩ := hw'
          subst hw''
          have kW2 := kept_trans kA2 (below_regrown W dq osq)
          clear c0 c1 c2 c3 e1 hq
          go_wp2_with fail
          go_ret
          exact ⟨false, (show ValidP _ _ _ from ⟨(fun h => by cases h), (fun h => by have := h.1 4 (by omega); rw [HF.out] at this; cases this)⟩), rfl, kW2⟩
    · have hls2 := ((bcell hkW).1 w.heap.size 8 hlz).trans HLS.out
      have kW2 := kept_trans hk1 hkW
      go_wp2_with fail
      refine (isIn_any _ _ _ _).mono ?_
      rintro e w4 ⟨rfl, rfl⟩
      go_wp2_with fail
      go_ret
      exact ⟨inB ls 0 2, (show ValidP _ _ _ from ⟨(fun h => ⟨HNO.out, h⟩), (fun h => h.2)⟩), rfl, kW2⟩
end Go.Proofs.YthgfbokfaidklaaGreatDoor
set_option linter.all false
namespace Go.Proofs.YthgfbokfaidklaaGreatDoor
open Go.RowKit Go.Sort
set_option maxRecDepth 100000

structure Boy where
  l0 : Int
  l1 : Int
  h0 : Int
  h1 : Int
  g0 : Int
  g1 : Int
  t0 : Int
  t1 : Int
  ls : Int
  b0 : Int
  b1 : Int
  deriving Inhabited

/-- the bounds of the program's own table lie in their variable -/
def Laid (w : World) : Prop := 2 < w.heap.size ∧ w.cell? ⟨2, 0, none⟩ = some (.int .i64 40) ∧ w.cell? ⟨2, 1, none⟩ = some (.int .i64 2) ∧ w.cell? ⟨2, 2, none⟩ = some (.int .i64 40) ∧ w.cell? ⟨2, 3, none⟩ = some (.int .i64 2) ∧ w.cell? ⟨2, 4, none⟩ = some (.int .i64 2) ∧ w.cell? ⟨2, 5, none⟩ = some (.int .i64 1) ∧ w.cell? ⟨2, 6, none⟩ = some (.int .i64 6) ∧ w.cell? ⟨2, 7, none⟩ = some (.int .i64 2) ∧ w.cell? ⟨2, 8, none⟩ = some (.int .i64 9) ∧ w.cell? ⟨2, 9, none⟩ = some (.int .i64 3)
theorem Laid.kept {w W : World} (h : Laid w) (k : Kept w W) : Laid W := by
  obtain ⟨hc, _, hz⟩ := bcell k
  obtain ⟨h5, h⟩ := h
  refine ⟨Nat.lt_of_lt_of_le h5 hz, ?_⟩
  rw [hc 2 0 (by omega), hc 2 1 (by omega), hc 2 2 (by omega), hc 2 3 (by omega), hc 2 4 (by omega), hc 2 5 (by omega), hc 2 6 (by omega), hc 2 7 (by omega), hc 2 8 (by omega), hc 2 9 (by omega)]
  exact h

def BoysAt (w : World) (b o : Nat) (l : List Boy) : Prop := b < w.heap.size ∧ ∀ i x, l[i]? = some x → w.cell? ⟨b, o + i * 11, none⟩ = some (.int .i64 x.l0) ∧ w.cell? ⟨b, o + i * 11 + 1, none⟩ = some (.int .i64 x.l1) ∧ w.cell? ⟨b, o + i * 11 + 2, none⟩ = some (.int .i64 x.h0) ∧ w.cell? ⟨b, o + i * 11 + 3, none⟩ = some (.int .i64 x.h1) ∧ w.cell? ⟨b, o + i * 11 + 4, none⟩ = some (.int .i64 x.g0) ∧ w.cell? ⟨b, o + i * 11 + 5, none⟩ = some (.int .i64 x.g1) ∧ w.cell? ⟨b, o + i * 11 + 6, none⟩ = some (.int .i64 x.t0) ∧ w.cell? ⟨b, o + i * 11 + 7, none⟩ = some (.int .i64 x.t1) ∧ w.cell? ⟨b, o + i * 11 + 8, none⟩ = some (.int .i64 x.ls) ∧ w.cell? ⟨b, o + i * 11 + 9, none⟩ = some (.int .i64 x.b0) ∧ w.cell? ⟨b, o + i * 11 + 10, none⟩ = some (.int .i64 x.b1)
theorem BoysAt.kept {w W : World} {b o : Nat} {l : List Boy} (h : BoysAt w b o l) (k : Kept w W) : BoysAt W b o l := by
  obtain ⟨hc, _, hz⟩ := bcell k
  refine ⟨Nat.lt_of_lt_of_le h.1 hz, fun i x hi => ?_⟩
  have := h.2 i x hi
  rw [hc _ _ h.1, hc _ _ h.1, hc _ _ h.1, hc _ _ h.1, hc _ _ h.1, hc _ _ h.1, hc _ _ h.1, hc _ _ h.1, hc _ _ h.1, hc _ _ h.1, hc _ _ h.1]
  exact this

def Boy.okB (x : Boy) : Bool := spanAt x.l0 x.l1 x.h0 x.h1 x.g0 x.g1 x.t0 x.t1 x.ls x.b0 x.b1 0 && spanAt x.l0 x.l1 x.h0 x.h1 x.g0 x.g1 x.t0 x.t1 x.ls x.b0 x.b1 1 && spanAt x.l0 x.l1 x.h0 x.h1 x.g0 x.g1 x.t0 x.t1 x.ls x.b0 x.b1 2 && spanAt x.l0 x.l1 x.h0 x.h1 x.g0 x.g1 x.t0 x.t1 x.ls x.b0 x.b1 3 && spanAt x.l0 x.l1 x.h0 x.h1 x.g0 x.g1 x.t0 x.t1 x.ls x.b0 x.b1 4 && inB x.ls 0 2

theorem validP_eq (x : Boy) (r : Bool) (h : ValidP (spanAt x.l0 x.l1 x.h0 x.h1 x.g0 x.g1 x.t0 x.t1 x.ls x.b0 x.b1) (inB x.ls 0 2) r) : r = x.okB := by
  unfold ValidP at h
  rw [Bool.eq_iff_iff, h]
  simp only [Boy.okB, Bool.and_eq_true]
  constructor
  · intro ⟨a, b⟩
    exact ⟨⟨⟨⟨⟨a 0 (by omega), a 1 (by omega)⟩, a 2 (by omega)⟩, a 3 (by omega)⟩, a 4 (by omega)⟩, b⟩
  · rintro ⟨⟨⟨⟨⟨a0, a1⟩, a2⟩, a3⟩, a4⟩, b⟩
    refine ⟨fun j hj => ?_, b⟩
    rcases (show j = 0 ∨ j = 1 ∨ j = 2 ∨ j = 3 ∨ j = 4 by omega) with rfl | rfl | rfl | rfl | rfl <;> assumption

theorem validBoy_eq (x : Boy) (w : World) (hL : Laid w) : Calls Tryz.prog 85 #[.agg #[.int .i64 x.l0, .int .i64 x.l1, .int .i64 x.h0, .int .i64 x.h1, .int .i64 x.g0, .int .i64 x.g1, .int .i64 x.t0, .int .i64 x.t1, .int .i64 x.ls, .int .i64 x.b0, .int .i64 x.b1]] w fun e w' => e = .returned (.bool x.okB) ∧ Kept w w' :=
  (validBoy_any x.l0 x.l1 x.h0 x.h1 x.g0 x.g1 x.t0 x.t1 x.ls x.b0 x.b1 w hL.1 hL.2).mono fun e w' ⟨r, hp, he, hk⟩ => ⟨by rw [he, validP_eq x r hp], hk⟩

theorem valid_few (p : Option Addr) (nb cap : Nat) (wks : Int) (ts : Value) (w : World) (hl : nb ≤ 140737488355328) (h : inB nb 1 4 = false) :
   Calls Tryz.prog 50 #[.agg #[.slice p nb cap, .int .i64 wks, ts]] w fun e w' => e = .returned (.bool false) ∧ Kept w w' := by
  have H := Lib.hid h; clear h
  go_enter Tryz.func50, Tryz.ntmps50
  go_wp2_with fail
  refine (isIn_any _ _ _ _).mono ?_
  rintro e w' ⟨rfl, rfl⟩
  rw [H.out]
  go_wp2_with fail
  go_ret
  exact ⟨rfl, kept_alloc (kept_refl _) _⟩

theorem valid_weeks (p : Option Addr) (nb cap : Nat) (wks : Int) (ts : Value) (w : World) (hl : nb ≤ 140737488355328) (h : inB nb 1 4 = true) (h2 : inB wks 1 6 = false) :
   Calls Tryz.prog 50 #[.agg #[.slice p nb cap, .int .i64 wks, ts]] w fun e w' => e = .returned (.bool false) ∧ Kept w w' := by
  have H := Lib.hid h; clear h
  have H2 := Lib.hid h2; clear h2
  go_enter Tryz.func50, Tryz.ntmps50
  go_wp2_with fail
  refine (isIn_any _ _ _ _).mono ?_
  rintro e w' ⟨rfl, rfl⟩
  rw [H.out]
  go_wp2_with fail
  refine (isIn_any _ _ _ _).mono ?_
  rintro e w' ⟨rfl, rfl⟩
  rw [H2.out]
  go_wp2_with fail
  go_ret
  exact ⟨rfl, kept_alloc (kept_refl _) _⟩

theorem valid_many (p q : Option Addr) (nb cap nt capt : Nat) (wks : Int) (w : World) (hl : nb ≤ 140737488355328) (ht : nt ≤ maxLen) (h : inB nb 1 4 = true) (h2 : inB wks 1 6 = true) (h3 : 6 < nt) :
   Calls Tryz.prog 50 #[.agg #[.slice p nb cap, .int .i64 wks, .slice q nt capt]] w fun e w' => e = .returned (.bool false) ∧ Kept w w' := by
  unfold maxLen at ht
  have H := Lib.hid h; clear h
  have H2 := Lib.hid h2; clear h2
  have hd : decide (6 < nt) = true := by simpa using h3
  have hdi : decide ((6 : Int) < nt) = true := by simp; omega
  go_enter Tryz.func50, Tryz.ntmps50
  go_wp2_with fail
  refine (isIn_any _ _ _ _).mono ?_
  rintro e w' ⟨rfl, rfl⟩
  rw [H.out]
  go_wp2_with fail
  refine (isIn_any _ _ _ _).mono ?_
  rintro e w' ⟨rfl, rfl⟩
  rw [H2.out]
  go_wp2_with fail
  go_ret
  exact ⟨rfl, kept_alloc (kept_refl _) _⟩
end Go.Proofs.YthgfbokfaidklaaGreatDoor
