/- A part of the proof: contracts of the program's functions for every input. No conditions. -/
import Derived.Test.YthkcgengohoboaaGreatDoorGE
import Derived.Test.YthkcgengohoboaaGreatDoorGD
import Derived.OwnWalkIn
import Derived.Test.YthkcgengohoboaaGreatDoorGC
set_option linter.all false
set_option linter.all false
namespace Go.Proofs.YthkcgengohoboaaGreatDoor
open Go.RowKit Go.Sort Go.Rg
set_option maxRecDepth 100000

/-- all boys who surely can sing each of the first so many notes -/
def ableL (B : Book) (week lo : Int) (k : Nat) : List Nat := (List.range B.boys.length).filter fun b => (List.range k).all fun i => surelyB B (singsN B week (lo + (i : Nat)) (lo + (i : Nat))) b
theorem mem_ableL {B : Book} {week lo : Int} {k b : Nat} : b ∈ ableL B week lo k ↔ b < B.boys.length ∧ ∀ i, i < k → surelyB B (singsN B week (lo + (i : Nat)) (lo + (i : Nat))) b = true := by
  simp [ableL, List.all_eq_true]
/-- the bits of a small set -/
def bitsL (s n : Nat) : List Nat := (List.range n).filter fun i => s.testBit i
end Go.Proofs.YthkcgengohoboaaGreatDoor
set_option linter.all false
namespace Go.Proofs.YthkcgengohoboaaGreatDoor
open Go.RowKit Go.Sort Go.Rg
set_option maxRecDepth 100000
attribute [local go_sem] Oper.semAt_some

set_option maxHeartbeats 2000000 in
theorem highest1_any (c : Choir) (boy : Nat) (wk n0 n1 n2 n3 n4 loss : Int) (bw : Nat) (w : World) (hwc : w.cell? ⟨bw, 0, none⟩ = some (.int .i64 wk))
   (hb : boy < c.B.boys.length) (hl : c.B.boys.length ≤ 4) (hc : w.cell? ⟨c.bb, c.ob + boy * 11 + 8, none⟩ = some (.int .i64 loss)) (hin : c.bb < w.heap.size)
   (h1 : 0 ≤ n1 ∧ n1 ≤ 100) (h2 : 0 ≤ n2 ∧ n2 ≤ 100) (h3 : 0 ≤ n3 ∧ n3 ≤ 100) (h4 : 0 ≤ wk ∧ wk ≤ 100) (h5 : 0 ≤ loss ∧ loss ≤ 100) :
    Calls Tryz.prog 72 #[encT c boy [n0, n1, n2, n3, n4], .pointer (some ⟨bw, 0, none⟩)] w fun e w' => e = .returned (.tuple #[.int .i64 (top n1 n2 n3 loss wk), .bool (!decide (n4 ≤ wk))]) ∧ Kept w w' := by
  simp only [encT, List.map_cons, List.map_nil, List.append_toArray, List.cons_append, List.nil_append, Choir.k0, Choir.k2, Choir.m]
  have hzw := Go.Ai.lt_of_cell hwc
  have c0 : ∀ d os, (grow (redrawn (w.alloc (Obj.cells #[Value.slice (some ⟨c.bb, c.ob, none⟩) c.B.boys.length c.capb, Value.int IntKind.i64 c.B.weeks, Value.slice c.q c.B.trials.length c.capt, Value.map (some c.bm), Value.int IntKind.i64 ↑boy, Value.int IntKind.i64 n0, Value.int IntKind.i64 n1, Value.int IntKind.i64 n2, Value.int IntKind.i64 n3, Value.int IntKind.i64 n4] 110)) d) os).cell? ⟨w.heap.size, 0, none⟩ = some (Value.slice (some ⟨c.bb, c.ob, none⟩) c.B.boys.length c.capb) := cell_regrown (by go_simp)
  have c1 : ∀ d os, (grow (redrawn (w.alloc (Obj.cells #[Value.slice (some ⟨c.bb, c.ob, none⟩) c.B.boys.length c.capb, Value.int IntKind.i64 c.B.weeks, Value.slice c.q c.B.trials.length c.capt, Value.map (some c.bm), Value.int IntKind.i64 ↑boy, Value.int IntKind.i64 n0, Value.int IntKind.i64 n1, Value.int IntKind.i64 n2, Value.int IntKind.i64 n3, Value.int IntKind.i64 n4] 110)) d) os).cell? ⟨w.heap.size, 1, none⟩ = some (Value.int IntKind.i64 c.B.weeks) := cell_regrown (by go_simp)
  have c2 : ∀ d os, (grow (redrawn (w.alloc (Obj.cells #[Value.slice (some ⟨c.bb, c.ob, none⟩) c.B.boys.length c.capb, Value.int IntKind.i64 c.B.weeks, Value.slice c.q c.B.trials.length c.capt, Value.map (some c.bm), Value.int IntKind.i64 ↑boy, Value.int IntKind.i64 n0, Value.int IntKind.i64 n1, Value.int IntKind.i64 n2, Value.int IntKind.i64 n3, Value.int IntKind.i64 n4] 110)) d) os).cell? ⟨w.heap.size, 2, none⟩ = some (Value.slice c.q c.B.trials.length c.capt) := cell_regrown (by go_simp)
  have c3 : ∀ d os, (grow (redrawn (w.alloc (Obj.cells #[Value.slice (some ⟨c.bb, c.ob, none⟩) c.B.boys.length c.capb, Value.int IntKind.i64 c.B.weeks, Value.slice c.q c.B.trials.length c.capt, Value.map (some c.bm), Value.int IntKind.i64 ↑boy, Value.int IntKind.i64 n0, Value.int IntKind.i64 n1, Value.int IntKind.i64 n2, Value.int IntKind.i64 n3, Value.int IntKind.i64 n4] 110)) d) os).cell? ⟨w.heap.size, 3, none⟩ = some (Value.map (some c.bm)) := cell_regrown (by go_simp)
  have c4 : ∀ d os, (grow (redrawn (w.alloc (Obj.cells #[Value.slice (some ⟨c.bb, c.ob, none⟩) c.B.boys.length c.capb, Value.int IntKind.i64 c.B.weeks, Value.slice c.q c.B.trials.length c.capt, Value.map (some c.bm), Value.int IntKind.i64 ↑boy, Value.int IntKind.i64 n0, Value.int IntKind.i64 n1, Value.int IntKind.i64 n2, Value.int IntKind.i64 n3, Value.int IntKind.i64 n4] 110)) d) os).cell? ⟨w.heap.size, 4, none⟩ = some (Value.int IntKind.i64 ↑boy) := cell_regrown (by go_simp)
  have c5 : ∀ d os, (grow (redrawn (w.alloc (Obj.cells #[Value.slice (some ⟨c.bb, c.ob, none⟩) c.B.boys.length c.capb, Value.int IntKind.i64 c.B.weeks, Value.slice c.q c.B.trials.length c.capt, Value.map (some c.bm), Value.int IntKind.i64 ↑boy, Value.int IntKind.i64 n0, Value.int IntKind.i64 n1, Value.int IntKind.i64 n2, Value.int IntKind.i64 n3, Value.int IntKind.i64 n4] 110)) d) os).cell? ⟨w.heap.size, 5, none⟩ = some (Value.int IntKind.i64 n0) := cell_regrown (by go_simp)
  have c6 : ∀ d os, (grow (redrawn (w.alloc (Obj.cells #[Value.slice (some ⟨c.bb, c.ob, none⟩) c.B.boys.length c.capb, Value.int IntKind.i64 c.B.weeks, Value.slice c.q c.B.trials.length c.capt, Value.map (some c.bm), Value.int IntKind.i64 ↑boy, Value.int IntKind.i64 n0, Value.int IntKind.i64 n1, Value.int IntKind.i64 n2, Value.int IntKind.i64 n3, Value.int IntKind.i64 n4] 110)) d) os).cell? ⟨w.heap.size, 6, none⟩ = some (Value.int IntKind.i64 n1) := cell_regrown (by go_simp)
  have c7 : ∀ d os, (grow (redrawn (w.alloc (Obj.cells #[Value.slice (some ⟨c.bb, c.ob, none⟩) c.B.boys.length c.capb, Value.int IntKind.i64 c.B.weeks, Value.slice c.q c.B.trials.length c.capt, Value.map (some c.bm), Value.int IntKind.i64 ↑boy, Value.int IntKind.i64 n0, Value.int IntKind.i64 n1, Value.int IntKind.i64 n2, Value.int IntKind.i64 n3, Value.int IntKind.i64 n4] 110)) d) os).cell? ⟨w.heap.size, 7, none⟩ = some (Value.int IntKind.i64 n2) := cell_regrown (by go_simp)
  have c8 : ∀ d os, (grow (redrawn (w.alloc (Obj.cells #[Value.slice (some ⟨c.bb, c.ob, none⟩) c.B.boys.length c.capb, Value.int IntKind.i64 c.B.weeks, Value.slice c.q c.B.trials.length c.capt, Value.map (some c.bm), Value.int IntKind.i64 ↑boy, Value.int IntKind.i64 n0, Value.int IntKind.i64 n1, Value.int IntKind.i64 n2, Value.int IntKind.i64 n3, Value.int IntKind.i64 n4] 110)) d) os).cell? ⟨w.heap.size, 8, none⟩ = some (Value.int IntKind.i64 n3) := cell_regrown (by go_simp)
  have c9 : ∀ d os, (grow (redrawn (w.alloc (Obj.cells #[Value.slice (some ⟨c.bb, c.ob, none⟩) c.B.boys.length c.capb, Value.int IntKind.i64 c.B.weeks, Value.slice c.q c.B.trials.length c.capt, Value.map (some c.bm), Value.int IntKind.i64 ↑boy, Value.int IntKind.i64 n0, Value.int IntKind.i64 n1, Value.int IntKind.i64 n2, Value.int IntKind.i64 n3, Value.int IntKind.i64 n4] 110)) d) os).cell? ⟨w.heap.size, 9, none⟩ = some (Value.int IntKind.i64 n4) := cell_regrown (by go_simp)
  have kW : Kept w (w.alloc (Obj.cells #[Value.slice (some ⟨c.bb, c.ob, none⟩) c.B.boys.length c.capb, Value.int IntKind.i64 c.B.weeks, Value.slice c.q c.B.trials.length c.capt, Value.map (some c.bm), Value.int IntKind.i64 ↑boy, Value.int IntKind.i64 n0, Value.int IntKind.i64 n1, Value.int IntKind.i64 n2, Value.int IntKind.i64 n3, Value.int IntKind.i64 n4] 110)) := kept_alloc (kept_refl _) _
  have cw : ∀ d os, (grow (redrawn (w.alloc (Obj.cells #[Value.slice (some ⟨c.bb, c.ob, none⟩) c.B.boys.length c.capb, Value.int IntKind.i64 c.B.weeks, Value.slice c.q c.B.trials.length c.capt, Value.map (some c.bm), Value.int IntKind.i64 ↑boy, Value.int IntKind.i64 n0, Value.int IntKind.i64 n1, Value.int IntKind.i64 n2, Value.int IntKind.i64 n3, Value.int IntKind.i64 n4] 110)) d) os).cell? ⟨bw, 0, none⟩ = some (.int .i64 wk) := cell_regrown (((bcell kW).1 bw _ hzw).trans hwc)
  have cL : ∀ d os, (grow (redrawn (w.alloc (Obj.cells #[Value.slice (some ⟨c.bb, c.ob, none⟩) c.B.boys.length c.capb, Value.int IntKind.i64 c.B.weeks, Value.slice c.q c.B.trials.length c.capt, Value.map (some c.bm), Value.int IntKind.i64 ↑boy, Value.int IntKind.i64 n0, Value.int IntKind.i64 n1, Value.int IntKind.i64 n2, Value.int IntKind.i64 n3, Value.int IntKind.i64 n4] 110)) d) os).cell? ⟨c.bb, c.ob + boy * 11 + 8, none⟩ = some (.int .i64 loss) := cell_regrown (((bcell kW).1 c.bb _ hin).trans hc)
  have sW : w.heap.size ≤ (w.alloc (Obj.cells #[Value.slice (some ⟨c.bb, c.ob, none⟩) c.B.boys.length c.capb, Value.int IntKind.i64 c.B.weeks, Value.slice c.q c.B.trials.length c.capt, Value.map (some c.bm), Value.int IntKind.i64 ↑boy, Value.int IntKind.i64 n0, Value.int IntKind.i64 n1, Value.int IntKind.i64 n2, Value.int IntKind.i64 n3, Value.int IntKind.i64 n4] 110)).heap.size := by simp
  go_enter Tryz.func72, Tryz.ntmps72
  go_wp2_with fail
  generalize w.alloc (Obj.cells #[Value.slice (some ⟨c.bb, c.ob, none⟩) c.B.boys.length c.capb, Value.int IntKind.i64 c.B.weeks, Value.slice c.q c.B.trials.length c.capt, Value.map (some c.bm), Value.int IntKind.i64 ↑boy, Value.int IntKind.i64 n0, Value.int IntKind.i64 n1, Value.int IntKind.i64 n2, Value.int IntKind.i64 n3, Value.int IntKind.i64 n4] 110) = W at *
  have zL : ∀ d os, c.bb < (grow (redrawn W d) os).heap.size := fun d os => Nat.lt_of_lt_of_le (Nat.lt_of_lt_of_le hin sW) (below_regrown W d os).size
  have HL := Lib.hid cL
  have HZ := Lib.hid zL
  clear cL zL hc hwc
  refine wp_region_quiet_below (by kernel_rfl) (by kernel_rfl) ?_
  repeat (any_goals (quiet_step (first | exact Calls.regrown_of (isBroken_any _ _ _ _ _ _ _ _ _ _ _ _) | exact Calls.regrown_of (highest_any _ _ _ _ _ _ _ _ _ _ _ _ _ _ _ _ hb hl (HL.out _ _) (HZ.out _ _) h1 h2 h3 h4 h5))))
  refine wpQuiet_nil ?_
  intro _ hw'
  obtain ⟨⟨dq, osq⟩, hw''⟩ := hw'
  subst hw''
  have kW2 := kept_trans kW (below_regrown W dq osq)
  go_wp2_with fail
  refine bodyPost_ret (v := .tuple #[.int .i64 (top n1 n2 n3 loss wk), .bool (!decide (n4 ≤ wk))]) (by simp [results, Tryz.results72, go_sem]) rfl ?_
  exact ⟨rfl, kW2⟩

theorem highest_tells (S : Nat → Prop) (c : Choir) (boy : Nat) (wk : Int) (x : Boy) (hx : c.B.boys[boy]? = some x) (bw : Nat) (W : World) (hat : ChoirAt S W c) (h4 : 0 ≤ wk ∧ wk ≤ 100) (hwc : W.cell? ⟨bw, 0, none⟩ = some (.int .i64 wk)) :
    Tells c boy x W 72 #[.pointer (some ⟨bw, 0, none⟩)] (hiF c.B boy wk) := by
  have hok := hat.ok
  have hlen : c.B.boys.length ≤ 4 := by
    have := hok
    simp only [Book.okB, inB, Bool.and_eq_true, decide_eq_true_eq] at this
    omega
  have hbl : boy < c.B.boys.length := (List.getElem?_eq_some_iff.1 hx).1
  have hxok : x.okB = true := by
    simp only [Book.okB, Bool.and_eq_true, List.all_eq_true] at hok
    exact hok.1.2 x (List.mem_of_getElem? hx)
  obtain ⟨hsp, hls⟩ := spanAt_ok x hxok
  refine ⟨enters_of Tryz.func72 (by kernel_rfl) rfl, fun A n hA hn => ?_⟩
  obtain ⟨_, _, _, _, _, _, _, _, c8, _⟩ := hat.boys.2 boy x hx
  have hr := truths_rng hn
  obtain ⟨n0, n1, n2, n3, n4, rfl⟩ := truths_len hn
  have r1 := hr 1 n1 rfl
  have r2 := hr 2 n2 rfl
  have r3 := hr 3 n3 rfl
  have s1 := hsp 1 (by omega)
  have s2 := hsp 2 (by omega)
  have s3 := hsp 3 (by omega)
  have := highest1_any c boy wk n0 n1 n2 n3 n4 x.ls bw A (kcell hA hwc) hbl hlen (kcell hA c8) (Nat.lt_of_lt_of_le hat.boys.1 hA.size) (by omega) (by omega) (by omega) h4 (by omega)
  have e : (!decide (n4 ≤ wk)) = decide (wk < n4) := by rw [← decide_not]; simp
  rw [e] at this
  simpa [hiF, lossOf, hx] using this

/-- the highest note in a week, at least and at most, or that there is none, or the error of trials that cannot all be right -/
def HighP (B : Book) (boy : Nat) (week : Int) (W : World) (e : Ending) (C : World) : Prop :=
  ∃ lo hi err, e = .returned (.tuple #[.agg #[.int .i64 lo, .int .i64 hi], .int .i64 err]) ∧ Kept W C ∧
    ((Can B ∧ ∃ x fd, B.boys[boy]? = some x ∧ spanOf (hiF B boy week) (B.truths boy x) = (lo, hi, fd) ∧ err = if fd then 0 else 4) ∨ (err = 22 ∧ ¬ Can B ∧ lo = 0 ∧ hi = 0))

set_option maxHeartbeats 4000000 in
theorem highest_all (p q : Option Addr) (cap capt : Nat) (B : Book) (boy : Nat) (week : Int) (W : World) (h : BookAt W p q cap capt B) (hg : Nothing W) (hok0 : B.okB = true) (hb : boy < B.boys.length) (hwk0 : 0 ≤ week ∧ week < B.weeks) :
    Calls Tryz.prog 16 #[B.val p q cap capt, .int .i64 (boy : Int), .int .i64 week] W (HighP B boy week W) := by
  have hwk : 0 ≤ B.weeks ∧ B.weeks ≤ 1000 := by
    have := hok0
    simp only [Book.okB, inB, Bool.and_eq_true, decide_eq_true_eq] at this
    omega
  have hwk1 : 0 ≤ week ∧ week ≤ 100 := by
    have := hok0
    simp only [Book.okB, inB, Bool.and_eq_true, decide_eq_true_eq] at this
    omega
  have hnb := h.nb
  have hboyT : inB (boy : Int) 0 (B.boys.length - 1) = true := by simp [inB]; omega
  have hweekT : inB week 0 (B.weeks - 1) = true := by simp [inB]; omega
  refine callsIn_wide.1 (callsIn_of_wp (n := 0) Tryz.func16 rfl trivial ?_ rfl)
  simp only [Tryz.ntmps16, List.size_toArray, List.length_cons, List.length_nil, Nat.reduceAdd, Nat.reduceSub, Array.replicate_succ, Array.replicate_zero, List.push_toArray, List.append_toArray, List.nil_append, List.cons_append]
  unfold Book.val
  gi_wp2_with fail
  have hk0 : Kept W (((W.alloc (Obj.cells #[.slice p B.boys.length cap, .int .i64 B.weeks, .slice q B.trials.length capt] 25)).alloc (Obj.cells #[.int .i64 week] 3)).alloc (Obj.cells #[.int .i64 0, .int .i64 0] 32)) := kept_alloc (kept_alloc (kept_alloc (kept_refl _) _) _) _
  have a0c : (((W.alloc (Obj.cells #[.slice p B.boys.length cap, .int .i64 B.weeks, .slice q B.trials.length capt] 25)).alloc (Obj.cells #[.int .i64 week] 3)).alloc (Obj.cells #[.int .i64 0, .int .i64 0] 32)).cell? ⟨W.heap.size, 0, none⟩ = some (.slice p B.boys.length cap) := by go_simp
  have a1c : (((W.alloc (Obj.cells #[.slice p B.boys.length cap, .int .i64 B.weeks, .slice q B.trials.length capt] 25)).alloc (Obj.cells #[.int .i64 week] 3)).alloc (Obj.cells #[.int .i64 0, .int .i64 0] 32)).cell? ⟨W.heap.size, 1, none⟩ = some (.int .i64 B.weeks) := by go_simp
  have a2c : (((W.alloc (Obj.cells #[.slice p B.boys.length cap, .int .i64 B.weeks, .slice q B.trials.length capt] 25)).alloc (Obj.cells #[.int .i64 week] 3)).alloc (Obj.cells #[.int .i64 0, .int .i64 0] 32)).cell? ⟨W.heap.size, 2, none⟩ = some (.slice q B.trials.length capt) := by go_simp
  have wc : (((W.alloc (Obj.cells #[.slice p B.boys.length cap, .int .i64 B.weeks, .slice q B.trials.length capt] 25)).alloc (Obj.cells #[.int .i64 week] 3)).alloc (Obj.cells #[.int .i64 0, .int .i64 0] 32)).cell? ⟨W.heap.size + 1, 0, none⟩ = some (.int .i64 week) := by go_simp
  have s0c : (((W.alloc (Obj.cells #[.slice p B.boys.length cap, .int .i64 B.weeks, .slice q B.trials.length capt] 25)).alloc (Obj.cells #[.int .i64 week] 3)).alloc (Obj.cells #[.int .i64 0, .int .i64 0] 32)).cell? ⟨W.heap.size + 1 + 1, 0, none⟩ = some (.int .i64 0) := by go_simp
  have s1c : (((W.alloc (Obj.cells #[.slice p B.boys.length cap, .int .i64 B.weeks, .slice q B.trials.length capt] 25)).alloc (Obj.cells #[.int .i64 week] 3)).alloc (Obj.cells #[.int .i64 0, .int .i64 0] 32)).cell? ⟨W.heap.size + 1 + 1, 1, none⟩ = some (.int .i64 0) := by go_simp
  have sf : ∀ i, (((W.alloc (Obj.cells #[.slice p B.boys.length cap, .int .i64 B.weeks, .slice q B.trials.length capt] 25)).alloc (Obj.cells #[.int .i64 week] 3)).alloc (Obj.cells #[.int .i64 0, .int .i64 0] 32)).frozen? ⟨W.heap.size + 1 + 1, i, none⟩ = false := by intro i; go_simp
  generalize (((W.alloc (Obj.cells #[.slice p B.boys.length cap, .int .i64 B.weeks, .slice q B.trials.length capt] 25)).alloc (Obj.cells #[.int .i64 week] 3)).alloc (Obj.cells #[.int .i64 0, .int .i64 0] 32)) = W0 at *
  refine wpIn_region_invL (StO 9 (fun j => match j with | 0 => (.agg #[.slice p B.boys.length cap, .int .i64 B.weeks, .slice q B.trials.length capt]) | 1 => (.agg #[.slice p B.boys.length cap, .int .i64 B.weeks, .slice q B.trials.length capt]) | 2 => .int .i64 (boy : Int) | 5 => (.agg #[.slice p B.boys.length cap, .int .i64 B.weeks, .slice q B.trials.length capt]) | 6 => .int .i64 week | _ => .bool true) W0 B true) (by kernel_rfl) (by kernel_rfl) StO.start ?hop ?hend
  case hop =>
    rintro i o listed a w hl ho h1 h2 hcl ⟨v, err, pp, ha, hw⟩
    have hi11 : i < 16 := (List.getElem?_eq_some_iff.1 ho).1
    match i, ho with
    | 0, ho =>
      have st := StO.same (by kernel_rfl) ha hw ho h1 (by omega) (by omega) (by omega) (kept_refl w)
      have ST := Lib.hid st; clear st
      cases ho
      rw [if_pos (by rfl)]
      have t3 := ha.old 3 (by kernel_rfl)
      simp at t3
      have r0 := kcell hw.kept a0c
      have r1 := kcell hw.kept a1c
      have r2 := kcell hw.kept a2c
      go_simp
      exact ST.out
    | 1, ho =>
      have st := StO.same (by kernel_rfl) ha hw ho h1 (by omega) (by omega) (by omega) (kept_refl w)
      have ST := Lib.hid st; clear st
      cases ho
      rw [if_pos (by rfl)]
      have t3 := ha.old 3 (by kernel_rfl)
      simp at t3
      have r0 := kcell hw.kept a0c
      have r1 := kcell hw.kept a1c
      have r2 := kcell hw.kept a2c
      go_simp
      exact ST.out
    | 2, ho =>
      have st := StO.same (by kernel_rfl) ha hw ho h1 (by omega) (by omega) (by omega) (kept_refl w)
      have ST := Lib.hid st; clear st
      cases ho
      rw [if_pos (by rfl)]
      have t1 := ha.old 1 (by kernel_rfl)
      simp at t1
      go_simp
      exact ST.out
    | 3, ho =>
      have st := fun w' (k : Kept w w') => StO.same (by kernel_rfl) ha hw ho h1 (by omega) (by omega) (by omega) k
      have ST := Lib.hid st; clear st
      cases ho
      rw [if_pos (by rfl)]
      have t15 := ha.new 1 (h2 ⟨1, .data⟩ (by simp) rfl) (d := 15) rfl rfl (by simp)
      simp [openVs] at t15
      have t16 := ha.new 2 (h2 ⟨2, .data⟩ (by simp) rfl) (d := 16) rfl rfl (by simp)
      simp [openVs] at t16
      have hcall := isBoy_any p B.boys.length cap (.int .i64 B.weeks) (.slice q B.trials.length capt) (boy : Int) w hnb
      rw [hboyT] at hcall
      go_simp
      refine ⟨trivial, rfl, (callsIn_wide.2 hcall).mono ?_⟩
      rintro e w' ⟨rfl, hk⟩
      exact ST.out _ hk
    | 4, ho =>
      have st := StO.same (by kernel_rfl) ha hw ho h1 (by omega) (by omega) (by omega) (kept_refl w)
      have ST := Lib.hid st; clear st
      cases ho
      rw [if_pos (by rfl)]
      have t17 := ha.new 3 (h2 ⟨3, .data⟩ (by simp) rfl) (d := 17) rfl rfl (by simp)
      simp [openVs] at t17
      go_simp
      exact ST.out
    | 5, ho =>
      have st := StO.same (by kernel_rfl) ha hw ho h1 (by omega) (by omega) (by omega) (kept_refl w)
      have ST := Lib.hid st; clear st
      cases ho
      have t18 := ha.new 4 (h2 ⟨4, .guard⟩ (by simp) rfl) (d := 18) rfl rfl (by simp)
      simp [openVs] at t18
      rw [if_pos (by simp [Region.wanted, yielded, getD_bool t18])]
      have t3 := ha.old 3 (by kernel_rfl)
      simp at t3
      have r0 := kcell hw.kept a0c
      have r1 := kcell hw.kept a1c
      have r2 := kcell hw.kept a2c
      go_simp
      exact ST.out
    | 6, ho =>
      have st := StO.same (by kernel_rfl) ha hw ho h1 (by omega) (by omega) (by omega) (kept_refl w)
      have ST := Lib.hid st; clear st
      cases ho
      have t18 := ha.new 4 (h2 ⟨4, .guard⟩ (by simp) rfl) (d := 18) rfl rfl (by simp)
      simp [openVs] at t18
      rw [if_pos (by simp [Region.wanted, yielded, getD_bool t18])]
      have t5 := ha.old 5 (by kernel_rfl)
      simp at t5
      have rw0 := kcell hw.kept wc
      go_simp
      exact ST.out
    | 7, ho =>
      have st := fun w' (k : Kept w w') => StO.same (by kernel_rfl) ha hw ho h1 (by omega) (by omega) (by omega) k
      have ST := Lib.hid st; clear st
      cases ho
      have t18 := ha.new 4 (h2 ⟨4, .guard⟩ (by simp) rfl) (d := 18) rfl rfl (by simp)
      simp [openVs] at t18
      rw [if_pos (by simp [Region.wanted, yielded, getD_bool t18])]
      have t19 := ha.new 5 (h2 ⟨5, .data⟩ (by simp) rfl) (d := 19) rfl rfl (by simp)
      simp [openVs] at t19
      have t20 := ha.new 6 (h2 ⟨6, .data⟩ (by simp) rfl) (d := 20) rfl rfl (by simp)
      simp [openVs] at t20
      have hcall := isWeek_any (.slice p B.boys.length cap) (.slice q B.trials.length capt) B.weeks week w hwk.1 hwk.2
      rw [hweekT] at hcall
      go_simp
      refine ⟨trivial, rfl, (callsIn_wide.2 hcall).mono ?_⟩
      rintro e w' ⟨rfl, hk⟩
      exact ST.out _ hk
    | 8, ho =>
      have st := StO.same (by kernel_rfl) ha hw ho h1 (by omega) (by omega) (by omega) (kept_refl w)
      have ST := Lib.hid st; clear st
      cases ho
      rw [if_pos (by rfl)]
      have t18 := ha.new 4 (h2 ⟨4, .data⟩ (by simp) rfl) (d := 18) rfl rfl (by simp)
      simp [openVs] at t18
      have t21 := ha.new 7 (h2 ⟨7, .data⟩ (by simp) rfl) (d := 21) rfl rfl (by simp)
      simp [openVs] at t21
      go_simp
      exact ST.out
    | 9, ho =>
      obtain ⟨n5, n6, n7, n9, n10⟩ := open_first hcl h1 ⟨_, rfl, ⟨9, .data⟩, by simp, rfl, rfl⟩ ⟨_, rfl, ⟨10, .data⟩, by simp, rfl, rfl⟩ ⟨_, rfl, ⟨10, .data⟩, by simp, rfl, rfl⟩ ⟨_, rfl, ⟨11, .data⟩, by simp, rfl, rfl⟩ ⟨_, rfl, ⟨12, .data⟩, by simp, rfl, rfl⟩
      have st := fun v' err' w' (k : OpenReg W0 B true v' err' pp true (on listed 13) (on listed 14) w') => StO.opened (by kernel_rfl) ha hl ho h1 n5 n6 n7 n9 n10 k
      have ST := Lib.hid st; clear st
      cases ho
      rw [if_pos (by rfl)]
      have t14 := ha.new 0 (h2 ⟨0, .data⟩ (by simp) rfl) (d := 14) rfl rfl (by simp)
      simp [openVs] at t14
      have t22 := ha.new 8 (h2 ⟨8, .data⟩ (by simp) rfl) (d := 22) rfl rfl (by simp)
      simp [openVs] at t22
      have hcall := open_any p q cap capt B true W w h (kept_trans hk0 hw.kept) (hg.kept (kept_trans hk0 hw.kept))
      unfold Book.val at hcall
      have HOP := Lib.hid (fun e w' => hw.opened (e := e) (w' := w') W.heap.size hk0.size n9)
      go_simp
      refine ⟨trivial, rfl, (callsIn_wide.2 hcall).mono ?_⟩
      intro e w' hop
      obtain ⟨v', err', rfl, hr⟩ := HOP.out e w' hop
      exact ST.out v' err' w' hr
    | 10, ho =>
      have st := StO.same (by kernel_rfl) ha hw ho h1 (by omega) (by omega) (by omega) (kept_refl w)
      have ST := Lib.hid st; clear st
      cases ho
      rw [if_pos (by rfl)]
      have t23 := ha.new 9 (h2 ⟨9, .data⟩ (by simp) rfl) (d := 23) rfl rfl (by simp)
      simp [openVs] at t23
      go_simp
      exact ST.out
    | 11, ho =>
      have st := StO.same (by kernel_rfl) ha hw ho h1 (by omega) (by omega) (by omega) (kept_refl w)
      have ST := Lib.hid st; clear st
      cases ho
      rw [if_pos (by rfl)]
      have t13 := ha.new 10 (h2 ⟨10, .data⟩ (by simp) rfl) (d := 13) rfl rfl (by simp)
      simp [openVs] at t13
      go_simp
      exact ST.out
    | 12, ho =>
      have st := StO.same (by kernel_rfl) ha hw ho h1 (by omega) (by omega) (by omega) (kept_refl w)
      have ST := Lib.hid st; clear st
      cases ho
      rw [if_pos (by rfl)]
      have t13 := ha.new 10 (h2 ⟨10, .data⟩ (by simp) rfl) (d := 13) rfl rfl (by simp)
      simp [openVs] at t13
      go_simp
      exact ST.out
    | 13, ho =>
      have n9 : on listed 14 = false := by
        cases hb : on listed 14 with
        | false => rfl
        | true => have := hcl 14 _ rfl hb ⟨13, .data⟩ (by simp) rfl; rw [on_no h1] at this; cases this
      have st := StO.boxed (by kernel_rfl) ha hw hl ho h1 n9
      have ST := Lib.hid st; clear st
      cases ho
      rw [if_pos (by rfl)]
      go_simp
      exact ST.out
    | 14, ho =>
      have y8 : on listed 13 = true := h2 ⟨13, .data⟩ (by cases ho; simp) rfl
      have y4 : on listed 9 = true := h2 ⟨9, .chain⟩ (by cases ho; simp) rfl
      have t8 := ha.new 13 y8 (d := 8) rfl rfl (by simp)
      simp [openVs] at t8
      have t24 := ha.new 11 (h2 ⟨11, .data⟩ (by cases ho; simp) rfl) (d := 24) rfl rfl (by simp)
      simp [openVs] at t24
      obtain ⟨hbp, ⟨f0, f1, f2, f3, b0, b1, b2, b3⟩, hbf⟩ := hw.box y8
      have bf0 := hbf 0
      have bf1 := hbf 1
      have bf2 := hbf 2
      have bf3 := hbf 3
      rcases hw.res y4 with ⟨_, _, _, _, c, S, hcB, rfl, _⟩ | ⟨rfl, _⟩
      · clear hcB
        have st := StO.stored (by kernel_rfl) ha hw hl ho (by cases ho; rfl) h1 y8 (show c.val = _ from rfl)
        have ST := Lib.hid st; clear st
        cases ho
        rw [if_pos (by rfl)]
        unfold Choir.val at t24
        clear hbf
        go_simp
        exact ST.out
      · have st := StO.stored (by kernel_rfl) ha hw hl ho (by cases ho; rfl) h1 y8 (show zeroChoir = _ from rfl)
        have ST := Lib.hid st; clear st
        cases ho
        rw [if_pos (by rfl)]
        unfold zeroChoir at t24
        clear hbf
        go_simp
        exact ST.out
    | 15, ho =>
      have st := StO.same (by kernel_rfl) ha hw ho h1 (by omega) (by omega) (by omega) (kept_refl w)
      have ST := Lib.hid st; clear st
      cases ho
      rw [if_pos (by rfl)]
      have t25 := ha.new 12 (h2 ⟨12, .data⟩ (by simp) rfl) (d := 25) rfl rfl (by simp)
      simp [openVs] at t25
      go_simp
      exact ST.out

  case hend =>
    rintro listed a w hall ⟨v, err, pp, ha, hw⟩
    rw [show on listed 9 = true from hall 9 (by simp), show on listed 13 = true from hall 13 (by simp), show on listed 14 = true from hall 14 (by simp)] at hw
    obtain ⟨y, hy, hae⟩ := ha.lit (n := 43) rfl
    have y1 := (hy 1).symm.trans (ha.old 1 (by kernel_rfl))
    have y5 := (hy 5).symm.trans (ha.old 5 (by kernel_rfl))
    have y6 := (hy 6).symm.trans (ha.old 6 (by kernel_rfl))
    have y7 := (hy 7).symm.trans (ha.old 7 (by kernel_rfl))
    have y8 := (hy 8).symm.trans (ha.new 13 (hall 13 (by simp)) (d := 8) rfl rfl (by simp))
    have y9 := (hy 9).symm.trans (ha.new 15 (hall 15 (by simp)) (d := 9) rfl rfl (by simp))
    simp at y1 y5 y6 y7
    simp [openVs] at y8 y9
    simp only [List.range, List.range.loop, List.map] at hae
    rw [y1, y5, y6, y7, y8, y9] at hae
    subst hae
    clear ha hy y1 y5 y6 y7 y8 y9
    refine (by assumption : ∀ a w, Code.wpIn _ _ _ _ _ a w → _) _ w ?_
    have wk := kcell hw.kept wc
    have s0 := kcell hw.kept s0c
    have s1 := kcell hw.kept s1c
    have sf0 : w.frozen? ⟨W.heap.size + 1 + 1, 0, none⟩ = false := ((kturns hw.kept (fun _ => False)).frozen (Go.Ai.lt_of_cell s0c) (fun h => h)).trans (sf 0)
    have sf1 : w.frozen? ⟨W.heap.size + 1 + 1, 1, none⟩ = false := ((kturns hw.kept (fun _ => False)).frozen (Go.Ai.lt_of_cell s0c) (fun h => h)).trans (sf 1)
    obtain ⟨_, x0, x1, x2, x3, hv, b0, b1, b2, b3⟩ := hw.put rfl
    rcases hw.res rfl with ⟨rfl, hok, _, hcan, c, S, hcB, hvc, hch, hSz, hSp⟩ | ⟨rfl, herr⟩
    · subst hcB
      subst hvc
      have e4 := congrArg (fun u => match u with | Value.agg cs => cs.toList | _ => []) hv
      simp only [Choir.val, List.cons.injEq, and_true] at e4
      obtain ⟨rfl, rfl, rfl, rfl⟩ := e4
      have hzp := Go.Ai.lt_of_cell b0
      have hzw := Go.Ai.lt_of_cell wk
      have hx : c.B.boys[boy]? = some c.B.boys[boy] := List.getElem?_eq_getElem hb
      generalize c.B.boys[boy] = x at *
      generalize hBP : HighP c.B boy week W = PP at *
      gi_wp2_with fail
      have hk6 : Kept w (w.alloc (Obj.cells #[.func (.func 72) #[] #[.pointer (some ⟨W.heap.size + 1, 0, none⟩)]] 115)) := kept_alloc (kept_refl _) _
      have hch1 := hch.turns (kturns hk6 (fun _ => False)) (fun _ _ h => h)
      have hcall := span_any S c boy x hx (w.alloc (Obj.cells #[.func (.func 72) #[] #[.pointer (some ⟨W.heap.size + 1, 0, none⟩)]] 115)) hch1 (fun b hb => Nat.lt_of_lt_of_le (hSz b hb) hk6.size) _ _ _ (highest_tells S c boy week x hx (W.heap.size + 1) _ hch1 hwk1 (kcell hk6 wk))
      unfold Choir.val at hcall
      generalize w.alloc (Obj.cells #[.func (.func 72) #[] #[.pointer (some ⟨W.heap.size + 1, 0, none⟩)]] 115) = w1 at *
      refine ⟨trivial, rfl, (callsIn_wide.2 hcall).mono ?_⟩
      rintro e w2 ⟨rfl, hk7⟩
      have hk8 := kept_trans hk6 hk7
      have s0 := kcell hk8 s0
      have s1 := kcell hk8 s1
      have sf0 : w2.frozen? ⟨W.heap.size + 1 + 1, 0, none⟩ = false := ((kturns hk8 (fun _ => False)).frozen (Go.Ai.lt_of_cell (kcell hw.kept s0c)) (fun h => h)).trans sf0
      have sf1 : w2.frozen? ⟨W.heap.size + 1 + 1, 1, none⟩ = false := ((kturns hk8 (fun _ => False)).frozen (Go.Ai.lt_of_cell (kcell hw.kept s0c)) (fun h => h)).trans sf1
      have hzs := Go.Ai.lt_of_cell s0
      generalize hsp : spanOf (hiF c.B boy week) (c.B.truths boy x) = st at *
      obtain ⟨lo, hi, fd⟩ := st
      simp only
      clear hcall
      have hk9 : Kept w2 (w2.alloc (Obj.cells #[.int .i64 lo, .int .i64 hi] 32)) := kept_alloc (kept_refl _) _
      have HSP := Lib.hid hsp; clear hsp
      cases fd with
      | false =>
        gi_wp2_with fail
        have hT := Turns.setCell (T := fun b => b = W.heap.size + 1 + 1) (Turns.setCell (T := fun b => b = W.heap.size + 1 + 1) (Turns.refl _ w2) rfl 0 (.int .i64 0)) rfl 1 (.int .i64 0)
        have v0 := (cell_set_ne (W := w2.setCell ⟨W.heap.size + 1 + 1, 0, none⟩ (.int .i64 0)) (b := W.heap.size + 1 + 1) (o := 1) (o' := 0) (v := .int .i64 0) (by omega)).trans (cell_set_eq s0)
        have v1 := cell_set_eq (v := .int .i64 0) ((cell_set_ne (W := w2) (b := W.heap.size + 1 + 1) (o := 0) (o' := 1) (v := .int .i64 0) (by omega)).trans s1)
        have hk9 : Kept ((w2.setCell ⟨W.heap.size + 1 + 1, 0, none⟩ (.int .i64 0)).setCell ⟨W.heap.size + 1 + 1, 1, none⟩ (.int .i64 0)) (((w2.setCell ⟨W.heap.size + 1 + 1, 0, none⟩ (.int .i64 0)).setCell ⟨W.heap.size + 1 + 1, 1, none⟩ (.int .i64 0)).alloc (Obj.cells #[.int .i64 lo, .int .i64 hi] 32)) := kept_alloc (kept_refl _) _
        have u0 := kcell hk9 v0
        have u1 := kcell hk9 v1
        refine bodyPost_ret (v := .tuple #[.agg #[.int .i64 0, .int .i64 0], .int .i64 4]) (by simp only [results, Tryz.results16]; generalize ((w2.setCell ⟨W.heap.size + 1 + 1, 0, none⟩ (.int .i64 0)).setCell ⟨W.heap.size + 1 + 1, 1, none⟩ (.int .i64 0)).alloc (Obj.cells #[.int .i64 lo, .int .i64 hi] 32) = w9 at *; simp [go_sem, u0, u1]) rfl ?_
        rw [← hBP]
        have hz0 := (kept_trans hk0 hw.kept).size
        have hz8 := hk8.size
        have hkE := Below.trans (Below.trans (kept_trans (kept_trans hk0 hw.kept) hk8) (hT.toBelow (n := W.heap.size) (by rintro b rfl; omega) (by omega))) ⟨hk9.os, hk9.tape, hk9.output, hk9.size, fun k hk => hk9.block k (by have := hT.size; omega)⟩
        have hz : lo = 0 ∧ hi = 0 := by
          by_cases hc : ∃ n ∈ c.B.truths boy x, (hiF c.B boy week n).2 = true
          · obtain ⟨_, _, e, _⟩ := spanOf_some _ _ hc
            rw [HSP.out] at e; cases e
          · have e := spanOf_none (hiF c.B boy week) (c.B.truths boy x) (fun n hn => by
              cases hh : (hiF c.B boy week n).2 with
              | false => rfl
              | true => exact absurd ⟨n, hn, hh⟩ hc)
            rw [HSP.out] at e; cases e; exact ⟨rfl, rfl⟩
        obtain ⟨rfl, rfl⟩ := hz
        exact ⟨0, 0, 4, rfl, hkE, .inl ⟨hcan, x, false, hx, HSP.out, rfl⟩⟩
      | true =>
        gi_wp2_with fail
        have hT := Turns.setCell (T := fun b => b = W.heap.size + 1 + 1) (Turns.setCell (T := fun b => b = W.heap.size + 1 + 1) (Turns.refl _ w2) rfl 0 (.int .i64 lo)) rfl 1 (.int .i64 hi)
        have v0 := (cell_set_ne (W := w2.setCell ⟨W.heap.size + 1 + 1, 0, none⟩ (.int .i64 lo)) (b := W.heap.size + 1 + 1) (o := 1) (o' := 0) (v := .int .i64 hi) (by omega)).trans (cell_set_eq s0)
        have v1 := cell_set_eq (v := .int .i64 hi) ((cell_set_ne (W := w2) (b := W.heap.size + 1 + 1) (o := 0) (o' := 1) (v := .int .i64 lo) (by omega)).trans s1)
        have hk9 : Kept ((w2.setCell ⟨W.heap.size + 1 + 1, 0, none⟩ (.int .i64 lo)).setCell ⟨W.heap.size + 1 + 1, 1, none⟩ (.int .i64 hi)) (((w2.setCell ⟨W.heap.size + 1 + 1, 0, none⟩ (.int .i64 lo)).setCell ⟨W.heap.size + 1 + 1, 1, none⟩ (.int .i64 hi)).alloc (Obj.cells #[.int .i64 lo, .int .i64 hi] 32)) := kept_alloc (kept_refl _) _
        have u0 := kcell hk9 v0
        have u1 := kcell hk9 v1
        refine bodyPost_ret (v := .tuple #[.agg #[.int .i64 lo, .int .i64 hi], .int .i64 0]) (by simp only [results, Tryz.results16]; generalize ((w2.setCell ⟨W.heap.size + 1 + 1, 0, none⟩ (.int .i64 lo)).setCell ⟨W.heap.size + 1 + 1, 1, none⟩ (.int .i64 hi)).alloc (Obj.cells #[.int .i64 lo, .int .i64 hi] 32) = w9 at *; simp [go_sem, u0, u1]) rfl ?_
        rw [← hBP]
        have hz0 := (kept_trans hk0 hw.kept).size
        have hz8 := hk8.size
        have hkE := Below.trans (Below.trans (kept_trans (kept_trans hk0 hw.kept) hk8) (hT.toBelow (n := W.heap.size) (by rintro b rfl; omega) (by omega))) ⟨hk9.os, hk9.tape, hk9.output, hk9.size, fun k hk => hk9.block k (by have := hT.size; omega)⟩
        exact ⟨lo, hi, 0, rfl, hkE, .inl ⟨hcan, x, true, hx, HSP.out, rfl⟩⟩
    · rcases herr with ⟨_, he⟩ | ⟨_, _, he⟩ | ⟨rfl, _, _, hnc⟩
      · rw [hok0] at he; cases he
      · cases he
      gi_wp2_with fail
      have hT := Turns.setCell (T := fun b => b = W.heap.size + 1 + 1) (Turns.setCell (T := fun b => b = W.heap.size + 1 + 1) (Turns.refl _ w) rfl 0 (.int .i64 0)) rfl 1 (.int .i64 0)
      have v0 := (cell_set_ne (W := w.setCell ⟨W.heap.size + 1 + 1, 0, none⟩ (.int .i64 0)) (b := W.heap.size + 1 + 1) (o := 1) (o' := 0) (v := .int .i64 0) (by omega)).trans (cell_set_eq s0)
      have v1 := cell_set_eq (v := .int .i64 0) ((cell_set_ne (W := w) (b := W.heap.size + 1 + 1) (o := 0) (o' := 1) (v := .int .i64 0) (by omega)).trans s1)
      refine bodyPost_ret (v := .tuple #[.agg #[.int .i64 0, .int .i64 0], .int .i64 22]) (by simp [results, Tryz.results16, go_sem, v0, v1]) rfl ?_
      refine ⟨0, 0, 22, rfl, ?_, .inr ⟨rfl, hnc, rfl, rfl⟩⟩
      exact Below.trans (kept_trans hk0 hw.kept) (hT.toBelow (n := W.heap.size) (by rintro b rfl; omega) (by have := (kept_trans hk0 hw.kept).size; omega))
end Go.Proofs.YthkcgengohoboaaGreatDoor
set_option linter.all false
namespace Go.Proofs.YthkcgengohoboaaGreatDoor
open Go.RowKit Go.Sort Go.Rg
set_option maxRecDepth 100000

end Go.Proofs.YthkcgengohoboaaGreatDoor
set_option linter.all false
namespace Go.Proofs.YthkcgengohoboaaGreatDoor
open Go.RowKit Go.Sort Go.Rg
set_option maxRecDepth 100000

theorem turn_big (n b : Int) (hb : 1 ≤ b) (hb2 : b ≤ 140737488355328) (w : World) : Calls Tryz.prog 35 #[.int .i64 n, .int .i64 b] w fun e w' => e = .returned (.int .i64 (turnI n b)) ∧ w = w' := by
  have hb0 : decide (b < 1) = false := by simp; omega
  have hbz : (b == 0) = false := by simp; omega
  obtain ⟨m1, m2⟩ := tmod_small n b hb
  by_cases hs : n.tmod b < 0
  · rw [show turnI n b = n.tmod b + b by simp [turnI, hs]]
    go_enter Tryz.func35, Tryz.ntmps35
    go_wp2_with fail
    all_goals go_ret
    all_goals first | exact ⟨rfl, rfl⟩ | (exfalso; omega)
  · rw [show turnI n b = n.tmod b by simp [turnI, hs]]
    go_enter Tryz.func35, Tryz.ntmps35
    go_wp2_with fail
    all_goals go_ret
    all_goals first | exact ⟨rfl, rfl⟩ | (exfalso; omega)
/-- numbers that can be read -/
def NumsAt (w : World) (v : Value) (l : List Int) : Prop :=
  ∃ p cap, v = .slice p l.length cap ∧ l.length ≤ 140737488355328 ∧ (l = [] ∨ ∃ b o, p = some ⟨b, o, none⟩ ∧ b < w.heap.size ∧ ∀ i x, l[i]? = some x → w.cell? ⟨b, o + i, none⟩ = some (.int .i64 x))
theorem NumsAt.kept {w w' : World} {v : Value} {l : List Int} (h : NumsAt w v l) (k : Kept w w') : NumsAt w' v l := by
  obtain ⟨p, cap, e, hl, h⟩ := h
  exact ⟨p, cap, e, hl, h.imp id fun ⟨b, o, e2, hb, hc⟩ => ⟨b, o, e2, Nat.lt_of_lt_of_le hb k.size, fun i x hx => kcell k (hc i x hx)⟩⟩
def nthI (l : List Int) (n : Int) : Int := if l = [] then 0 else l.getD (turnI n l.length).toNat 0
set_option maxHeartbeats 2000000 in
theorem nth_is (v : Value) (l : List Int) (n : Int) (w : World) (h : NumsAt w v l) : Calls Tryz.prog 100 #[v, .int .i64 n] w fun e w' => e = .returned (.int .i64 (nthI l n)) ∧ w = w' := by
  obtain ⟨p, cap, rfl, hl, h⟩ := h
  by_cases h0 : l = []
  · subst h0
    rw [show nthI [] n = 0 by simp [nthI]]
    go_enter Tryz.func100, Tryz.ntmps100
    go_wp2_with fail
    go_ret
    exact ⟨rfl, rfl⟩
  · obtain ⟨b, o, rfl, hb, hc⟩ := h.resolve_left h0
    have hpos := List.length_pos_iff.2 h0
    obtain ⟨k1, k2⟩ := turnI_lt n (l.length : Int) (by omega)
    have HT := Lib.hid (turn_big n (l.length : Int) (by omega) (by omega))
    have hlz : ((l.length : Int) == 0) = false := by simp; omega
    have hr : nthI l n = l.getD (turnI n l.length).toNat 0 := by unfold nthI; rw [if_neg h0]
    obtain ⟨j, hj⟩ := Int.eq_ofNat_of_zero_le k1
    rw [hj] at hr HT k2
    have hjl : j < l.length := by omega
    have hget : l[j]? = some l[j] := List.getElem?_eq_getElem hjl
    have hcj := hc j _ hget
    have hval : l.getD ((j : Int)).toNat 0 = l[j] := by simp [List.getD, hget]
    rw [hval] at hr
    rw [hr]
    generalize l[j] = x at *
    clear hc h h0 hr hval hj k1 hget
    go_enter Tryz.func100, Tryz.ntmps100
    go_wp2_with (go_at_call 35; refine (HT.out _).mono ?_; rintro e w' ⟨rfl, rfl⟩)
    go_ret
    exact ⟨rfl, rfl⟩
def drawI (lo hi n : Int) : Int := lo + turnI n (hi - lo + 1)
theorem drawI_in {lo hi n : Int} (h : lo ≤ hi) : lo ≤ drawI lo hi n ∧ drawI lo hi n ≤ hi := by
  obtain ⟨k1, k2⟩ := turnI_lt n (hi - lo + 1) (by omega)
  unfold drawI
  omega
set_option maxHeartbeats 2000000 in
theorem draw_is (lo hi n : Int) (h1 : lo ≤ hi) (h2 : 0 ≤ lo) (h3 : hi ≤ 100) (w : World) : Calls Tryz.prog 99 #[.agg #[.int .i64 lo, .int .i64 hi], .int .i64 n] w fun e w' => e = .returned (.int .i64 (drawI lo hi n)) ∧ Kept w w' := by
  have c0 : ∀ d os, (grow (redrawn (w.alloc (Obj.cells #[.int .i64 lo, .int .i64 hi] 32)) d) os).cell? ⟨w.heap.size, 0, none⟩ = some (.int .i64 lo) := cell_regrown (by go_simp)
  have c1 : ∀ d os, (grow (redrawn (w.alloc (Obj.cells #[.int .i64 lo, .int .i64 hi] 32)) d) os).cell? ⟨w.heap.size, 1, none⟩ = some (.int .i64 hi) := cell_regrown (by go_simp)
  have kW : Kept w (w.alloc (Obj.cells #[.int .i64 lo, .int .i64 hi] 32)) := kept_alloc (kept_refl _) _
  rw [show drawI lo hi n = lo + turnI n (hi - lo + 1) from rfl]
  have w1 : IntKind.i64.wrap (hi - lo) = hi - lo := IntWalk.i64_in _ (by omega)
  have w2 : IntKind.i64.wrap (hi - lo + 1) = hi - lo + 1 := IntWalk.i64_in _ (by omega)
  obtain ⟨k1, k2⟩ := turnI_lt n (hi - lo + 1) (by omega)
  have w3 : IntKind.i64.wrap (lo + turnI n (hi - lo + 1)) = lo + turnI n (hi - lo + 1) := IntWalk.i64_in _ (by omega)
  have ht : ∀ W d os, Calls Tryz.prog 35 #[.int .i64 n, .int .i64 (hi - lo + 1)] (grow (redrawn W d) os) fun e w'' => e = .returned (.int .i64 (turnI n (hi - lo + 1))) ∧ ∃ p : Regrown, w'' = grow (redrawn W p.d) p.os := fun W d os => Calls.regrown_of ((turn_is n (hi - lo + 1) (by omega) (by omega) _).mono (by rintro e w' ⟨rfl, rfl⟩; exact ⟨rfl, kept_refl _⟩))
  have HT := Lib.hid ht; clear ht
  generalize turnI n (hi - lo + 1) = r at *
  go_enter Tryz.func99, Tryz.ntmps99
  go_wp2_with fail
  generalize w.alloc (Obj.cells #[.int .i64 lo, .int .i64 hi] 32) = W at *
  refine wp_region_quiet_below (by kernel_rfl) (by kernel_rfl) ?_
  iterate 12 (any_goals (first | go_big_quiet_skip | quiet_step (first | with_reducible exact HT.out _ _ _)))
  refine wpQuiet_nil ?_
  intro _ hw'
  obtain ⟨⟨dq, osq⟩, hw''⟩ := hw'
  subst hw''
  go_wp2_with fail
  go_ret
  exact ⟨rfl, kept_trans kW (below_regrown W dq osq)⟩
theorem covers_is (lo hi n : Int) (w : World) : Calls Tryz.prog 36 #[.agg #[.int .i64 lo, .int .i64 hi], .int .i64 n] w fun e w' => e = .returned (.bool (inB n lo hi)) ∧ Kept w w' := by
  go_enter Tryz.func36, Tryz.ntmps36
  go_wp2_with (go_at_call 37; refine (lies_any _ _ _ _).mono ?_; rintro e w' ⟨rfl, rfl⟩)
  go_ret
  exact ⟨rfl, kept_alloc (kept_refl _) _⟩
end Go.Proofs.YthkcgengohoboaaGreatDoor
set_option linter.all false
namespace Go.Proofs.YthkcgengohoboaaGreatDoor
open Go.RowKit Go.Sort Go.Rg
set_option maxRecDepth 100000

/-- what is known while a region is carried out, in whatever order, of which one operation alone, number c, makes memory, and those behind it hand its answer on -/
def StC (c : Nat) (vs : Nat → Value) (R : Value → World → Prop) (V : World) (l : List Oper) (a0 : Act) (listed : Array Bool) (a : Act) (w : World) : Prop :=
  ∃ v, AtSt l.toArray (fun j => if j < c then vs j else v) a0 listed a ∧ Kept V w ∧ (on listed c = true → R v w)
section
variable {l : List Oper} {a0 a : Act} {c : Nat} {vs : Nat → Value} {R : Value → World → Prop} {V w w' : World} {listed : Array Bool} {v : Value} {i : Nat} {o : Oper}
theorem StC.start : StC c vs R V l a0 (Array.replicate l.length false) a0 V.drew := by
  have no : ∀ j, on (Array.replicate l.length false) j = false := fun j => by
    unfold on
    simp only [Array.getD_eq_getD_getElem?, Array.getElem?_replicate]
    split <;> simp
  refine ⟨undef, ⟨rfl, rfl, fun j o d hj => ?_, fun t _ => rfl⟩, kept_drew (kept_refl _), fun h => by rw [no] at h; cases h⟩
  have := no j
  unfold on at this
  rw [this] at hj; cases hj
theorem StC.pure (hd : distFrom l = true) (ha : AtSt l.toArray (fun j => if j < c then vs j else v) a0 listed a) (hk : Kept V w) (hR : on listed c = true → R v w) (ho : l[i]? = some o) (h1 : listed.getD i true = false) (ic : i ≠ c) :
    StC c vs R V l a0 (listed.setIfInBounds i true) (a.put o.dst (if i < c then vs i else v)) w :=
  ⟨v, ha.put (by simpa using ho) h1 (dist_arr hd), hk, by rw [on_set (Ne.symm ic)]; exact hR⟩
theorem StC.called (hd : distFrom l = true) (ha : AtSt l.toArray (fun j => if j < c then vs j else v) a0 listed a) (hl : listed.size = l.length) (ho : l[c]? = some o) (h1 : listed.getD c true = false) (hlater : ∀ j, c < j → on listed j = false) {v' : Value} (hk : Kept V w') (hr : R v' w') :
    StC c vs R V l a0 (listed.setIfInBounds c true) (a.put o.dst v') w' := by
  have hs : ∀ j, listed.getD j false = true → (fun j => if j < c then vs j else v) j = (fun j => if j < c then vs j else v') j := fun j hj => by
    by_cases hjc : j < c
    · simp [hjc]
    · by_cases e : j = c
      · subst e
        have h4 := on_no h1
        unfold on at h4
        rw [h4] at hj; cases hj
      · have h4 := hlater j (by omega)
        unfold on at h4
        rw [h4] at hj; cases hj
  have hz : c < listed.size := by rw [hl]; exact (List.getElem?_eq_some_iff.1 ho).1
  have := (ha.swap hs).put (i := c) (by simpa using ho) h1 (dist_arr hd)
  simp only [Nat.lt_irrefl, if_false] at this
  exact ⟨v', this, hk, fun _ => hr⟩
end
end Go.Proofs.YthkcgengohoboaaGreatDoor
set_option linter.all false
namespace Go.Proofs.YthkcgengohoboaaGreatDoor
open Go.RowKit Go.Sort Go.Rg
set_option maxRecDepth 100000

/-- an append of something onto a row that is owned, at one operation, in any frame -/
theorem wpIn_append_lies {F : Fence} {nF : Nat} {P : Program} (w : World) {o : Oper} {a : Act} {K : Act → World → Prop} {Q : Exit → Act → World → Prop} (s x : Operand) (t : TypeId)
    (ho : o.op = .call { callee := .builtin .append, args := #[s, x], argTypes := #[t, t] })
    (base : Nat) (e : TypeId) (i : TypeInfo) (z : Value) (size bytes : Nat) (ht : P.underlying t = some (.slice e)) (hi : P.info? e = some i) (hz : i.zero = some z)
    (hsize : i.size = size) (hby : i.bytes = bytes) (hzs : z.cells.size = size) (hsz : 0 < size)
    (v : Value) (n : Nat) (xs : List Value) (hs : a.eval s = v) (hown : w.ownsRow base e size v n xs)
    (ad : Addr) (m c : Nat) (news : List Value) (hx : a.eval x = .slice (some ad) m c) (hl : news.length = m * size) (hnews : ∀ j u, news[j]? = some u → w.cell? (ad.add j) = some u) (h1 : ∀ u ∈ news, u.oneCell' = true)
    (hm : 0 < m) (h63 : n + m ≤ maxLen) (hbytes : (n + m) * bytes ≤ 140737488355328) (hbase : base ≤ w.heap.size)
    (h : ∀ g cap w', w'.ownsRow base e size (.slice (some ⟨g, 0, none⟩) (n + m) cap) (n + m) (xs ++ news) → w.grownBy w' v.ownBlock → (v.ownBlock = some g ∨ g = w.heap.size) → g < w'.heap.size → K (a.put o.dst (.slice (some ⟨g, 0, none⟩) (n + m) cap)) w') : o.wpIn F nF P a w K Q := by
  obtain ⟨g, cap, w', hr, h2, h3, h4, h5⟩ := run_append_lies (P := P) w t o.type base e i z size bytes ht hi hz hsize hby hzs hsz v n xs hown ad m c news hl hnews h1 hm h63 hbytes hbase w.heap.size rfl
  unfold Oper.wpIn
  refine ⟨by simp [Oper.about, ho, resolve, Target.leads, Sem.run_pure], ?_⟩
  rw [Oper.semAt_plain F _ _ (by rw [ho]; intro c hc'; cases hc')]
  simp [execOp, ho, resolve, invoke, builtin, hs, hx, hr, Result.andThen]
  exact h g cap w' h2 h3 h4 h5

/-- what is known while a region is carried out, in whatever order, that makes one block (operation b), appends it (operation c) and stores the answer (operation s) -/
def StA (b c s : Nat) (pre : Nat → Value) (V WB : World) (R : Value → World → Prop) (X : Addr) (l : List Oper) (a0 : Act) (listed : Array Bool) (a : Act) (w : World) : Prop :=
  ∃ r, AtSt l.toArray (fun j => if j = c then r else pre j) a0 listed a ∧ (on listed c = false → w = if on listed b then WB else V.drew) ∧
    (on listed c = true → ∃ wc, R r wc ∧ w = if on listed s then wc.setCell X r else wc)
section
variable {l : List Oper} {a0 a : Act} {b c s : Nat} {pre : Nat → Value} {V WB w : World} {R : Value → World → Prop} {X : Addr} {listed : Array Bool} {i : Nat} {o : Oper} {r : Value}
theorem StA.start : StA b c s pre V WB R X l a0 (Array.replicate l.length false) a0 V.drew := by
  have no : ∀ j, on (Array.replicate l.length false) j = false := fun j => by
    unfold on
    simp only [Array.getD_eq_getD_getElem?, Array.getElem?_replicate]
    split <;> simp
  refine ⟨undef, ⟨rfl, rfl, fun j o d hj => ?_, fun t _ => rfl⟩, (fun _ => by rw [no]; rfl), fun h => by rw [no] at h; cases h⟩
  have := no j
  unfold on at this
  rw [this] at hj; cases hj
theorem StA.pure (hd : distFrom l = true) (ha : AtSt l.toArray (fun j => if j = c then r else pre j) a0 listed a) (hf : on listed c = false → w = if on listed b then WB else V.drew) (ht : on listed c = true → ∃ wc, R r wc ∧ w = if on listed s then wc.setCell X r else wc)
    (ho : l[i]? = some o) (h1 : listed.getD i true = false) (ib : i ≠ b) (ic : i ≠ c) (is : i ≠ s) : StA b c s pre V WB R X l a0 (listed.setIfInBounds i true) (a.put o.dst (pre i)) w := by
  have := ha.put (i := i) (by simpa using ho) h1 (dist_arr hd)
  simp only [if_neg ic] at this
  refine ⟨r, this, ?_, ?_⟩
  · rw [on_set (Ne.symm ic), on_set (Ne.symm ib)]; exact hf
  · rw [on_set (Ne.symm ic), on_set (Ne.symm is)]; exact ht
theorem StA.built (hd : distFrom l = true) (ha : AtSt l.toArray (fun j => if j = c then r else pre j) a0 listed a) (hf : on listed c = false → w = if on listed b then WB else V.drew) (hl : listed.size = l.length)
    (ho : l[b]? = some o) (h1 : listed.getD b true = false) (bc : b ≠ c) (hc : on listed c = false) : w = V.drew ∧ StA b c s pre V WB R X l a0 (listed.setIfInBounds b true) (a.put o.dst (pre b)) WB := by
  have hz : b < listed.size := by rw [hl]; exact (List.getElem?_eq_some_iff.1 ho).1
  have := ha.put (i := b) (by simpa using ho) h1 (dist_arr hd)
  simp only [if_neg bc] at this
  have hb := hf hc
  rw [on_no h1] at hb
  refine ⟨hb, r, this, ?_, ?_⟩
  · rw [on_self hz]; exact fun _ => rfl
  · rw [on_set (Ne.symm bc), hc]; intro h; cases h
theorem StA.appended (hd : distFrom l = true) (ha : AtSt l.toArray (fun j => if j = c then r else pre j) a0 listed a) (hf : on listed c = false → w = if on listed b then WB else V.drew) (hl : listed.size = l.length)
    (ho : l[c]? = some o) (h1 : listed.getD c true = false) (cs : c ≠ s) (hb : on listed b = true) (hs : on listed s = false) : w = WB ∧ ∀ r' wc, R r' wc → StA b c s pre V WB R X l a0 (listed.setIfInBounds c true) (a.put o.dst r') wc := by
  have hz : c < listed.size := by rw [hl]; exact (List.getElem?_eq_some_iff.1 ho).1
  have hcn := on_no h1
  have hw := hf hcn
  rw [hb] at hw
  refine ⟨hw, fun r' wc hr => ⟨r', ?_, ?_, ?_⟩⟩
  · have hsw : ∀ j, listed.getD j false = true → (fun j => if j = c then r else pre j) j = (fun j => if j = c then r' else pre j) j := fun j hj => by
      by_cases e : j = c
      · subst e; unfold on at hcn; rw [hcn] at hj; cases hj
      · simp [e]
    have := (ha.swap hsw).put (i := c) (by simpa using ho) h1 (dist_arr hd)
    simpa using this
  · rw [on_self hz]; intro h; cases h
  · intro _; exact ⟨wc, hr, by rw [on_set (Ne.symm cs), hs]; rfl⟩
theorem StA.stored (hd : distFrom l = true) (ha : AtSt l.toArray (fun j => if j = c then r else pre j) a0 listed a) (ht : on listed c = true → ∃ wc, R r wc ∧ w = if on listed s then wc.setCell X r else wc) (hl : listed.size = l.length)
    (ho : l[s]? = some o) (h1 : listed.getD s true = false) (hn : o.dst = none) (cs : c ≠ s) (hc : on listed c = true) : R r w ∧ StA b c s pre V WB R X l a0 (listed.setIfInBounds s true) a (w.setCell X r) := by
  have hz : s < listed.size := by rw [hl]; exact (List.getElem?_eq_some_iff.1 ho).1
  obtain ⟨wc, hr, hw⟩ := ht hc
  rw [on_no h1] at hw
  have hw : w = wc := hw
  subst hw
  have := ha.put (i := s) (by simpa using ho) h1 (dist_arr hd)
  rw [hn] at this
  refine ⟨hr, r, this, ?_, ?_⟩
  · rw [on_set cs, hc]; intro h; cases h
  · intro _; exact ⟨w, hr, by rw [on_self hz]; rfl⟩
end
end Go.Proofs.YthkcgengohoboaaGreatDoor
set_option linter.all false
namespace Go.Proofs.YthkcgengohoboaaGreatDoor
open Go.RowKit Go.Sort Go.Rg
set_option maxRecDepth 100000

theorem grown_cell {w w' : World} {row : Option Nat} (h : w.grownBy w' row) {b o : Nat} {u : Value} (hr : row ≠ some b) (hc : w.cell? ⟨b, o, none⟩ = some u) : w'.cell? ⟨b, o, none⟩ = some u :=
  (World.cell?_of_block (a := ⟨b, o, none⟩) (h.block b (Go.Ai.lt_of_cell hc) (Ne.symm hr))).trans hc

def trialC (t : Trial) : List Value := [.int .i64 t.boy, .int .i64 t.week, .int .i64 t.note, .int .i64 t.sang]
theorem trials_get : ∀ (l : List Trial) (i k : Nat) (x : Trial), l[i]? = some x → k < 4 → (l.flatMap trialC)[i * 4 + k]? = (trialC x)[k]?
  | y :: l, 0, k, x, h, hk => by
    simp only [List.getElem?_cons_zero, Option.some.injEq] at h
    subst h
    rw [List.flatMap_cons, List.getElem?_append_left (by show 0 * 4 + k < 4; omega)]
    simp
  | y :: l, i + 1, k, x, h, hk => by
    simp only [List.getElem?_cons_succ] at h
    rw [List.flatMap_cons, List.getElem?_append_right (by show 4 ≤ (i + 1) * 4 + k; omega)]
    have : (i + 1) * 4 + k - (trialC y).length = i * 4 + k := by show (i + 1) * 4 + k - 4 = _; omega
    rw [this]
    exact trials_get l i k x h hk
  | [], _, _, _, h, _ => by simp at h
/-- a row of trials that a call owns reads as these trials -/
theorem trialsAt_own {w : World} {base g cap : Nat} {l : List Trial} (h : w.ownsRow base 49 4 (.slice (some ⟨g, 0, none⟩) l.length cap) l.length (l.flatMap trialC)) : TrialsAt w g 0 l := by
  refine ⟨(h.lt g rfl).2, fun i x hx => ?_⟩
  have hi : i < l.length := (List.getElem?_eq_some_iff.1 hx).1
  have hc : ∀ k v, k < 4 → (trialC x)[k]? = some v → w.cell? ⟨g, 0 + i * 4 + k, none⟩ = some v := fun k v hk hv => by
    have h1 := h.cellAt (i * 4 + k) (by omega)
    rw [trials_get _ _ _ _ hx hk, hv] at h1
    simpa using h1
  exact ⟨hc 0 _ (by omega) rfl, hc 1 _ (by omega) rfl, hc 2 _ (by omega) rfl, hc 3 _ (by omega) rfl⟩
theorem ownsRow_set {w : World} {base : Nat} {e : TypeId} {size : Nat} {v : Value} {n : Nat} {xs : List Value} (h : w.ownsRow base e size v n xs) {a : Addr} (ha : a.block < base) (u : Value) : (w.setCell a u).ownsRow base e size v n xs := by
  obtain ⟨h1, h2⟩ := h
  refine ⟨h1, h2.imp id ?_⟩
  rintro ⟨g, cap, cur, e1, e2, e3, e4⟩
  exact ⟨g, cap, cur, e1, e2, (Below.heap_setCell _ _ _ _ (by omega)).trans e3, e4⟩

theorem getD_some {t : Array Value} {i : Nat} (h : i < t.size) : t.toList[i]? = some (t.getD i undef) := by simp [Array.getD_eq_getD_getElem?, h]
/-- a book at block xb whose trials, so far, are these: a row of its own -/
structure Gathers (V0 V : World) (xb : Nat) (p : Option Addr) (n cap : Nat) (weeks : Int) (v : Value) (ts : List Trial) : Prop where
  kept : Below xb V0 V
  c0 : V.cell? ⟨xb, 0, none⟩ = some (.slice p n cap)
  c1 : V.cell? ⟨xb, 1, none⟩ = some (.int .i64 weeks)
  c2 : V.cell? ⟨xb, 2, none⟩ = some v
  fr : V.frozen? ⟨xb, 2, none⟩ = false
  row : V.ownsRow (xb + 1) 49 4 v ts.length (ts.flatMap trialC)
/-- what an append of one more trial answers -/
def Grew (wr : World) (xb : Nat) (v : Value) (ts : List Trial) (t : Trial) (r : Value) (wc : World) : Prop :=
  ∃ g cap, r = .slice (some ⟨g, 0, none⟩) (ts.length + 1) cap ∧ wc.ownsRow (xb + 1) 49 4 r (ts.length + 1) (ts.flatMap trialC ++ trialC t) ∧ wr.grownBy wc v.ownBlock
theorem Gathers.go {V0 V W : World} {xb n cap : Nat} {p : Option Addr} {weeks : Int} {v : Value} {ts : List Trial} (h : Gathers V0 V xb p n cap weeks v ts) (hk : Kept V W) : Gathers V0 W xb p n cap weeks v ts where
  kept := h.kept.trans (hk.mono (by have := Go.Ai.lt_of_cell h.c0; omega))
  c0 := kcell hk h.c0
  c1 := kcell hk h.c1
  c2 := kcell hk h.c2
  fr := (World.frozen?_of_block (a := ⟨xb, 2, none⟩) (hk.block xb (Go.Ai.lt_of_cell h.c0))).trans h.fr
  row := by
    obtain ⟨h1, h2⟩ := h.row
    refine ⟨h1, h2.imp id ?_⟩
    rintro ⟨g, cap', cur, e1, e2, e3, e4⟩
    refine ⟨g, cap', cur, e1, e2, (hk.block g ?_).trans e3, e4⟩
    rcases Nat.lt_or_ge g V.heap.size with hlt | hge
    · exact hlt
    · rw [Array.getElem?_eq_none hge] at e3; cases e3
theorem Gathers.own {V0 V : World} {xb n cap : Nat} {p : Option Addr} {weeks : Int} {v : Value} {ts : List Trial} (h : Gathers V0 V xb p n cap weeks v ts) {k : Nat} (hk : k ≤ xb) : v.ownBlock ≠ some k := fun e => by
  have := (h.row.lt k e).1
  omega
theorem Gathers.grew {V0 V wc : World} {xb n cap : Nat} {p : Option Addr} {weeks : Int} {v r : Value} {ts : List Trial} {t : Trial} (h : Gathers V0 V xb p n cap weeks v ts) (hg : Grew V xb v ts t r wc) :
    Gathers V0 (wc.setCell ⟨xb, 2, none⟩ r) xb p n cap weeks r (ts ++ [t]) := by
  obtain ⟨g, cap', rfl, hrow, hgr⟩ := hg
  have hz := Go.Ai.lt_of_cell h.c0
  have hx := h.own (Nat.le_refl xb)
  refine ⟨?_, ?_, ?_, ?_, ?_, ?_⟩
  · refine Below.setCell (p := ⟨xb, 2, none⟩) ?_ (Nat.le_refl xb) _
    exact h.kept.grown hgr (by omega) fun k e => by have := h.row.lt k e; omega
  · exact (cell_set_ne (by omega)).trans (grown_cell hgr hx h.c0)
  · exact (cell_set_ne (by omega)).trans (grown_cell hgr hx h.c1)
  · exact cell_set_eq (grown_cell hgr hx h.c2)
  · have h1 := (World.frozen?_of_block (a := ⟨xb, 2, none⟩) (hgr.block xb hz (Ne.symm hx))).trans h.fr
    rw [World.frozen?_setCell]; exact h1
  · have := ownsRow_set hrow (a := ⟨xb, 2, none⟩) (show xb < xb + 1 by omega) (.slice (some ⟨g, 0, none⟩) (ts.length + 1) cap')
    simpa using this
theorem Gathers.trials {V0 V : World} {xb n cap : Nat} {p : Option Addr} {weeks : Int} {v : Value} {ts : List Trial} (h : Gathers V0 V xb p n cap weeks v ts) : ∃ q capt, v = .slice q ts.length capt ∧ (ts = [] ∨ ∃ b o, q = some ⟨b, o, none⟩ ∧ TrialsAt V b o ts) ∧ ts.length ≤ capt := by
  have hrow := h.row
  obtain ⟨h1, h2⟩ := h.row
  rcases h2 with ⟨e, h0⟩ | ⟨g, cap', cur, e, _, _, hnc, _⟩
  · have : ts = [] := List.length_eq_zero_iff.1 h0
    exact ⟨none, 0, by rw [e, h0], .inl this, by omega⟩
  · rw [e] at hrow
    exact ⟨some ⟨g, 0, none⟩, cap', e, .inr ⟨g, 0, rfl, trialsAt_own hrow⟩, hnc⟩
end Go.Proofs.YthkcgengohoboaaGreatDoor
set_option linter.all false
namespace Go.Proofs.YthkcgengohoboaaGreatDoor
open Go.RowKit Go.Sort Go.Rg
set_option maxRecDepth 100000

end Go.Proofs.YthkcgengohoboaaGreatDoor
set_option linter.all false
namespace Go.Proofs.YthkcgengohoboaaGreatDoor
open Go.RowKit Go.Sort Go.Rg
set_option maxRecDepth 100000

/-- what is known while a region is carried out, in whatever order: an invariant of its values, of the operations that are over, and of the world -/
def StG (I : (Nat → Value) → (Nat → Bool) → World → Prop) (l : List Oper) (a0 : Act) (listed : Array Bool) (a : Act) (w : World) : Prop :=
  ∃ vs, AtSt l.toArray vs a0 listed a ∧ I vs (on listed) w
theorem on_rep (n j : Nat) : on (Array.replicate n false) j = false := by
  unfold on
  simp only [Array.getD_eq_getD_getElem?, Array.getElem?_replicate]
  split <;> simp
theorem StG.start {I : (Nat → Value) → (Nat → Bool) → World → Prop} {l : List Oper} {a0 : Act} {w : World} (h : I (fun _ => undef) (fun _ => false) w) : StG I l a0 (Array.replicate l.length false) a0 w := by
  refine ⟨fun _ => undef, ⟨rfl, rfl, fun j o d hj => ?_, fun t _ => rfl⟩, ?_⟩
  · have := on_rep l.length j
    unfold on at this
    rw [this] at hj; cases hj
  · rw [show on (Array.replicate l.length false) = fun _ => false from funext (on_rep l.length)]; exact h
theorem StG.step {I : (Nat → Value) → (Nat → Bool) → World → Prop} {l : List Oper} {a0 a : Act} {vs : Nat → Value} {listed : Array Bool} {i : Nat} {o : Oper} (hd : distFrom l = true) (ha : AtSt l.toArray vs a0 listed a) (hl : listed.size = l.length) (ho : l[i]? = some o) (h1 : listed.getD i true = false) {v : Value} {w' : World}
    (hI : I (fun j => if j = i then v else vs j) (fun j => if j = i then true else on listed j) w') : StG I l a0 (listed.setIfInBounds i true) (a.put o.dst v) w' := by
  have hz : i < listed.size := by rw [hl]; exact (List.getElem?_eq_some_iff.1 ho).1
  have hn := on_no h1
  have hsw : ∀ j, listed.getD j false = true → vs j = (fun j => if j = i then v else vs j) j := fun j hj => by
    by_cases e : j = i
    · subst e; unfold on at hn; rw [hn] at hj; cases hj
    · simp [e]
  have hp := (ha.swap hsw).put (i := i) (by simpa using ho) h1 (dist_arr hd)
  simp only [if_true] at hp
  refine ⟨_, hp, ?_⟩
  rw [show on (listed.setIfInBounds i true) = fun j => if j = i then true else on listed j from funext fun j => by
    by_cases e : j = i
    · subst e; rw [on_self hz]; simp
    · rw [on_set e]; simp [e]]
  exact hI

theorem row_kept {A B : World} {base size n : Nat} {e : TypeId} {v : Value} {xs : List Value} (h : A.ownsRow base e size v n xs) (hk : Kept A B) : B.ownsRow base e size v n xs := by
  obtain ⟨h1, h2⟩ := h
  refine ⟨h1, h2.imp id ?_⟩
  rintro ⟨g, cap', cur, e1, e2, e3, e4⟩
  refine ⟨g, cap', cur, e1, e2, (hk.block g ?_).trans e3, e4⟩
  rcases Nat.lt_or_ge g A.heap.size with hlt | hge
  · exact hlt
  · rw [Array.getElem?_eq_none hge] at e3; cases e3

/-- a region 'y.f = append(append([]T{}, xs...), news)': the empty row (0), the first append (3), the row of the new one (5), the second append (6), the store (8) -/
structure Apps (V : World) (e : TypeId) (size n : Nat) (xs news : List Value) (X : Addr) (vs : Nat → Value) (on : Nat → Bool) (w : World) : Prop where
  o30 : on 3 = true → on 0 = true
  o63 : on 6 = true → on 3 = true
  o65 : on 6 = true → on 5 = true
  o86 : on 8 = true → on 6 = true
  kept : on 8 = false → Kept V w
  r0 : on 0 = true → on 3 = false → ∃ g, vs 0 = .slice (some ⟨g, 0, none⟩) 0 0 ∧ w.ownsRow V.heap.size e size (vs 0) 0 []
  r3 : on 3 = true → on 6 = false → w.ownsRow V.heap.size e size (vs 3) n xs
  r5 : on 5 = true → on 6 = false → ∃ g, vs 5 = .slice (some ⟨g, 0, none⟩) 1 1 ∧ g < w.heap.size ∧ V.heap.size ≤ g ∧ (∀ (k : Nat) (u : Value), news[k]? = some u → w.cell? ((⟨g, 0, none⟩ : Addr).add k) = some u) ∧ (on 0 = true → on 3 = false → (vs 0).ownBlock ≠ some g) ∧ (on 3 = true → (vs 3).ownBlock ≠ some g)
  r6 : on 6 = true → ∃ wc, Kept V wc ∧ (∃ g cap, vs 6 = .slice (some ⟨g, 0, none⟩) (n + 1) cap) ∧ wc.ownsRow V.heap.size e size (vs 6) (n + 1) (xs ++ news) ∧ w = if on 8 then wc.setCell X (vs 6) else wc
section
variable {V w w' : World} {e : TypeId} {size n : Nat} {xs news : List Value} {X : Addr} {vs : Nat → Value} {on : Nat → Bool} {v : Value}
theorem Apps.start : Apps V e size n xs news X (fun _ => undef) (fun _ => false) V.drew :=
  ⟨nofun, nofun, nofun, nofun, fun _ => kept_drew (kept_refl V), nofun, nofun, nofun, nofun⟩
theorem Apps.pure (h : Apps V e size n xs news X vs on w) (i : Nat) (h0 : 0 ≠ i) (h3 : 3 ≠ i) (h5 : 5 ≠ i) (h6 : 6 ≠ i) (h8 : 8 ≠ i) : Apps V e size n xs news X (fun j => if j = i then v else vs j) (fun j => if j = i then true else on j) w := by
  obtain ⟨a1, a2, a3, a4, a5, a6, a7, a8, a9⟩ := h
  constructor <;> simp only [if_neg h0, if_neg h3, if_neg h5, if_neg h6, if_neg h8] <;> assumption
theorem add_cell {A : World} {g k : Nat} {u : Value} : A.cell? ((⟨g, 0, none⟩ : Addr).add k) = some u ↔ A.cell? ⟨g, k, none⟩ = some u := by
  rw [show ((⟨g, 0, none⟩ : Addr).add k) = ⟨g, k, none⟩ by unfold Addr.add; split <;> simp_all]
theorem Apps.no6 (h : Apps V e size n xs news X vs on w) (h3 : on 3 = false) : on 6 = false := by
  cases b : on 6 with
  | false => rfl
  | true => rw [h.o63 b] at h3; cases h3
theorem tf {p : Prop} {b : Bool} (h1 : b = true) (h2 : b = false) : p := by rw [h1] at h2; cases h2
theorem Apps.stored (h : Apps V e size n xs news X vs on w) (h8 : on 8 = false) (h6 : on 6 = true) :
    Apps V e size n xs news X (fun j => if j = 8 then v else vs j) (fun j => if j = 8 then true else on j) (w.setCell X (vs 6)) := by
  refine ⟨h.o30, h.o63, h.o65, fun _ => h6, fun b => (nomatch b), fun _ b3 => tf (h.o63 h6) b3, fun _ b6 => tf h6 b6, fun _ b6 => tf h6 b6, fun _ => ?_⟩
  obtain ⟨wc, c1, c2, c3, c4⟩ := h.r6 h6
  rw [h8] at c4
  refine ⟨wc, c1, c2, c3, ?_⟩
  rw [c4]; rfl
end
end Go.Proofs.YthkcgengohoboaaGreatDoor
set_option linter.all false
namespace Go.Proofs.YthkcgengohoboaaGreatDoor
open Go.RowKit Go.Sort Go.Rg
set_option maxRecDepth 100000

theorem grownBy_of_kept {A B C : World} {r : Option Nat} (h : Kept A B) (g : B.grownBy C r) : A.grownBy C r :=
  ⟨g.os.trans h.os, g.tape.trans h.tape, g.output.trans h.output, Nat.le_trans h.size g.size, fun i hi hne => (g.block i (Nat.lt_of_lt_of_le hi h.size) hne).trans (h.block i hi)⟩
/-- a region 'l = append(l, f(..))', l in a box: three loads (0 to 2), the call (3), the row of its answer (4), the append (5), the store (6) -/
structure Push (V : World) (base : Nat) (e : TypeId) (n : Nat) (row : Value) (xs : List Value) (F : Value → World → Prop) (bl : Nat) (vs : Nat → Value) (on : Nat → Bool) (w : World) : Prop where
  o43 : on 4 = true → on 3 = true
  o54 : on 5 = true → on 4 = true
  o65 : on 6 = true → on 5 = true
  kept : on 5 = false → Kept V w
  r3 : on 3 = true → on 5 = false → F (vs 3) w
  r4 : on 4 = true → on 5 = false → ∃ g, vs 4 = .slice (some ⟨g, 0, none⟩) 1 1 ∧ g < w.heap.size ∧ V.heap.size ≤ g ∧ w.cell? ⟨g, 0, none⟩ = some (vs 3)
  r5 : on 5 = true → ∃ wc, V.grownBy wc row.ownBlock ∧ F (vs 3) wc ∧ wc.ownsRow base e 1 (vs 5) (n + 1) (xs ++ [vs 3]) ∧ (∃ g cap, vs 5 = .slice (some ⟨g, 0, none⟩) (n + 1) cap ∧ (row.ownBlock = some g ∨ V.heap.size ≤ g) ∧ (vs 3).ownBlock ≠ some g ∧ g < wc.heap.size) ∧ w = if on 6 then wc.setCell ⟨bl, 0, none⟩ (vs 5) else wc
section
variable {V w w' : World} {base : Nat} {e : TypeId} {n : Nat} {row : Value} {xs : List Value} {F : Value → World → Prop} {bl : Nat} {vs : Nat → Value} {on : Nat → Bool} {v : Value}
theorem Push.start : Push V base e n row xs F bl (fun _ => undef) (fun _ => false) V.drew :=
  ⟨nofun, nofun, nofun, fun _ => kept_drew (kept_refl V), nofun, nofun, nofun⟩
theorem Push.no4 (h : Push V base e n row xs F bl vs on w) (h3 : on 3 = false) : on 4 = false := by
  cases b : on 4 with
  | false => rfl
  | true => rw [h.o43 b] at h3; cases h3
theorem Push.no5 (h : Push V base e n row xs F bl vs on w) (h4 : on 4 = false) : on 5 = false := by
  cases b : on 5 with
  | false => rfl
  | true => rw [h.o54 b] at h4; cases h4
theorem Push.no6 (h : Push V base e n row xs F bl vs on w) (h5 : on 5 = false) : on 6 = false := by
  cases b : on 6 with
  | false => rfl
  | true => rw [h.o65 b] at h5; cases h5
theorem Push.pure (h : Push V base e n row xs F bl vs on w) (i : Nat) (h3 : 3 ≠ i) (h4 : 4 ≠ i) (h5 : 5 ≠ i) (h6 : 6 ≠ i) : Push V base e n row xs F bl (fun j => if j = i then v else vs j) (fun j => if j = i then true else on j) w := by
  obtain ⟨a1, a2, a3, a4, a5, a6, a7⟩ := h
  constructor <;> simp only [if_neg h3, if_neg h4, if_neg h5, if_neg h6] <;> assumption
theorem Push.called (h : Push V base e n row xs F bl vs on w) (h3 : on 3 = false) (hk : Kept w w') (hF : F v w') :
    Push V base e n row xs F bl (fun j => if j = 3 then v else vs j) (fun j => if j = 3 then true else on j) w' := by
  have h4 := h.no4 h3
  have h5 := h.no5 h4
  have h6 := h.no6 h5
  exact ⟨fun _ => rfl, fun b => tf b h5, fun b => tf b h6, fun _ => kept_trans (h.kept h5) hk, fun _ _ => hF, fun b => tf b h4, fun b => tf b h5⟩
theorem Push.built (h : Push V base e n row xs F bl vs on w) (h4 : on 4 = false) (h3 : on 3 = true) (hFk : ∀ v A B, F v A → Kept A B → F v B) (hk : Kept w w') (hv : v = .slice (some ⟨w.heap.size, 0, none⟩) 1 1) (hz : w.heap.size < w'.heap.size) (hc : w'.cell? ⟨w.heap.size, 0, none⟩ = some (vs 3)) :
    Push V base e n row xs F bl (fun j => if j = 4 then v else vs j) (fun j => if j = 4 then true else on j) w' := by
  have h5 := h.no5 h4
  have h6 := h.no6 h5
  exact ⟨fun _ => h3, fun _ => rfl, fun b => tf b h6, fun _ => kept_trans (h.kept h5) hk, fun _ _ => hFk _ _ _ (h.r3 h3 h5) hk, fun _ _ => ⟨_, hv, hz, (h.kept h5).size, hc⟩, fun b => tf b h5⟩
theorem Push.app (h : Push V base e n row xs F bl vs on w) (h5 : on 5 = false) (h4 : on 4 = true) (hFg : ∀ v A B, V.heap.size ≤ A.heap.size → F v A → A.grownBy B row.ownBlock → F v B) (hFb : ∀ v A b, F v A → v.ownBlock = some b → V.heap.size ≤ b ∧ b < A.heap.size) (hR : ∀ b, row.ownBlock = some b → b < V.heap.size) (hg : w.grownBy w' row.ownBlock) {g cap : Nat} (hv : v = .slice (some ⟨g, 0, none⟩) (n + 1) cap) (hat : row.ownBlock = some g ∨ g = w.heap.size) (hlt : g < w'.heap.size) (hrow : w'.ownsRow base e 1 v (n + 1) (xs ++ [vs 3])) :
    Push V base e n row xs F bl (fun j => if j = 5 then v else vs j) (fun j => if j = 5 then true else on j) w' := by
  have h6 := h.no6 h5
  have hk := h.kept h5
  refine ⟨h.o43, fun _ => h4, fun _ => rfl, fun b => (nomatch b), fun _ b => (nomatch b), fun _ b => (nomatch b), fun _ => ⟨w', grownBy_of_kept hk hg, hFg _ _ _ hk.size (h.r3 (h.o43 h4) h5) hg, hrow, ⟨g, cap, hv, hat.imp id (fun (e : g = w.heap.size) => by rw [e]; exact hk.size), fun e => ?_, hlt⟩, ?_⟩⟩
  · have h3 := hFb _ _ _ (h.r3 (h.o43 h4) h5) e
    rcases hat with e2 | e2
    · have := hR _ e2; omega
    · omega
  show w' = if on 6 = true then _ else w'
  rw [h6]; rfl
theorem Push.stored (h : Push V base e n row xs F bl vs on w) (h6 : on 6 = false) (h5 : on 5 = true) :
    Push V base e n row xs F bl (fun j => if j = 6 then v else vs j) (fun j => if j = 6 then true else on j) (w.setCell ⟨bl, 0, none⟩ (vs 5)) := by
  refine ⟨h.o43, h.o54, fun _ => h5, fun b => tf h5 b, fun _ b => tf h5 b, fun _ b => tf h5 b, fun _ => ?_⟩
  obtain ⟨wc, c1, c2, c3, c4, c5⟩ := h.r5 h5
  rw [h6] at c5
  exact ⟨wc, c1, c2, c3, c4, by rw [c5]; rfl⟩
end
end Go.Proofs.YthkcgengohoboaaGreatDoor
set_option linter.all false
namespace Go.Proofs.YthkcgengohoboaaGreatDoor
open Go.RowKit Go.Sort Go.Rg
set_option maxRecDepth 100000

/-- what is known while a region is carried out, in whatever order, of which each operation keeps what was there, but number s, the last one, which may write -/
def StK (N s : Nat) (R : Nat → Value → World → Prop) (V : World) (wr : (Nat → Value) → World → World) (vs : Nat → Value) (on : Nat → Bool) (w : World) : Prop :=
  (on s = false → Kept V w ∧ ∀ i, on i = true → R i (vs i) w) ∧ (on s = true → s < N ∧ ∃ wc, Kept V wc ∧ (∀ i, i < s → R i (vs i) wc) ∧ w = wr vs wc)
/-- number s, if there is one, is the last one, yields nothing, and waits for all others -/
def lastAll (l : List Oper) (s : Nat) : Bool := match l[s]? with
  | none => true
  | some o => Nat.beq (s + 1) l.length && o.dst.isNone && (List.range s).all fun j => o.after.toList.any fun e => Nat.beq e.on j && Region.binds .any e
theorem wpIn_region_kept {F : Fence} {n : Nat} {P : Program} {id : Nat} {Q : Exit → Act → World → Prop} {a0 : Act} {V : World} {l : List Oper} (R : Nat → Value → World → Prop) (s : Nat) (wr : (Nat → Value) → World → World)
    (hm : P.follows .mixedOrders = true) (hlow : lowFrom 0 l = true) (hd : distFrom l = true) (hng : l.all (fun o => o.guard.isNone) = true) (hs : lastAll l s = true) (hwr : ∀ vs vs' w, (∀ j, j < s → vs j = vs' j) → wr vs w = wr vs' w)
    (hst : ∀ i v w w', R i v w → Kept w w' → R i v w')
    (hop : ∀ (i : Nat) (o : Oper) (listed : Array Bool) (a : Act) (w : World) (vs : Nat → Value), i ≠ s → l[i]? = some o → AtSt l.toArray vs a0 listed a → Kept V w → (∀ j, on listed j = true → R j (vs j) w) → (∀ e ∈ o.after, Region.binds .any e = true → on listed e.on = true) →
      ∀ K : Act → World → Prop, (∀ v w', Kept w w' → R i v w' → K (a.put o.dst v) w') → o.wpIn F n P a w K Q)
    (hlast : ∀ (o : Oper) (listed : Array Bool) (a : Act) (w : World) (vs : Nat → Value), l[s]? = some o → AtSt l.toArray vs a0 listed a → Kept V w → (∀ j, j < s → on listed j = true ∧ R j (vs j) w) → ∀ K : Act → World → Prop, K (a.put o.dst undef) (wr vs w) → o.wpIn F n P a w K Q)
    (hend : ∀ (listed : Array Bool) (a : Act) (w : World) (vs : Nat → Value), (∀ i, i < l.length → on listed i = true) → AtSt l.toArray vs a0 listed a → Kept V w → (∀ i, i < s → i < l.length → R i (vs i) w) → Q .normal a (if s < l.length then wr vs w else w)) :
    (Code.region id l.toArray true).wpIn F n P Q a0 V := by
  refine wpIn_region_invL (StG (StK l.length s R V wr)) hm hlow (StG.start ⟨fun _ => ⟨kept_drew (kept_refl V), fun i h => (nomatch h)⟩, fun h => (nomatch h)⟩) ?_ ?_
  · rintro i o listed a w hl ho h1 h2 hcl ⟨vs, ha, hA⟩
    have hg : o.guard = none := by
      have := List.all_eq_true.1 hng o (List.mem_of_getElem? ho)
      simpa using this
    rw [if_pos (by unfold Region.wanted; rw [hg])]
    have hdep : ∀ j, j < s → on listed s = true → s < l.length → on listed j = true := fun j hj hon hsl => by
      have hos : l[s]? = some l[s] := List.getElem?_eq_getElem hsl
      unfold lastAll at hs
      rw [hos] at hs
      simp only [Bool.and_eq_true, List.all_eq_true, List.any_eq_true] at hs
      obtain ⟨e, he, h3⟩ := hs.2 j (List.mem_range.2 hj)
      have h4 := hcl s _ hos hon e (by simpa using he) h3.2
      rw [Nat.eq_of_beq_eq_true h3.1] at h4
      exact h4
    have hil : i < l.length := (List.getElem?_eq_some_iff.1 ho).1
    have hsn : on listed s = false := by
      cases b : on listed s with
      | false => rfl
      | true =>
        exfalso
        have hsl : s < l.length := by
          rcases Nat.lt_or_ge s l.length with h | h
          · exact h
          · unfold on at b
            simp only [Array.getD_eq_getD_getElem?] at b
            rw [Array.getElem?_eq_none (by omega)] at b
            cases b
        have hno := on_no h1
        have hlen : s + 1 = l.length := by
          unfold lastAll at hs
          rw [List.getElem?_eq_getElem hsl] at hs
          simp only [Bool.and_eq_true] at hs
          exact Nat.eq_of_beq_eq_true hs.1.1
        by_cases e : i = s
        · subst e; rw [hno] at b; cases b
        · rw [hdep i (by omega) b hsl] at hno; cases hno
    obtain ⟨hk, hR⟩ := hA.1 hsn
    by_cases e : i = s
    · subst e
      have hall : ∀ j, j < i → on listed j = true := fun j hj => by
        unfold lastAll at hs
        rw [ho] at hs
        simp only [Bool.and_eq_true, List.all_eq_true, List.any_eq_true] at hs
        obtain ⟨e, he, h3⟩ := hs.2 j (List.mem_range.2 hj)
        have h4 := h2 e (by simpa using he) h3.2
        rw [Nat.eq_of_beq_eq_true h3.1] at h4
        exact h4
      refine hlast o listed a w vs ho ha hk (fun j hj => ⟨hall j hj, hR j (hall j hj)⟩) _ ?_
      refine StG.step hd ha hl ho h1 ⟨fun h => by simp at h, fun _ => ⟨hil, w, hk, fun j hj => ?_, ?_⟩⟩
      · have hne : j ≠ i := by omega
        simp only [if_neg hne]
        exact hR j (hall j hj)
      · refine hwr _ _ _ fun j hj => ?_
        have hne : j ≠ i := by omega
        simp only [if_neg hne]
    · refine hop i o listed a w vs e ho ha hk hR h2 _ fun v w' hk' hv => ?_
      refine StG.step hd ha hl ho h1 ⟨fun _ => ⟨kept_trans hk hk', fun j hj => ?_⟩, fun h => ?_⟩
      · by_cases ej : j = i
        · subst ej; simp only [if_true]; exact hv
        · simp only [if_neg ej] at hj ⊢
          exact hst j _ _ _ (hR j hj) hk'
      · simp only [if_neg (Ne.symm e)] at h
        rw [hsn] at h; cases h
  · rintro listed a w hall ⟨vs, ha, hA⟩
    by_cases hsl : s < l.length
    · obtain ⟨-, wc, hk, hR, hw⟩ := hA.2 (hall s hsl)
      have := hend listed a wc vs hall ha hk (fun i hi _ => hR i hi)
      rw [if_pos hsl] at this
      rw [hw]; exact this
    · cases b : on listed s with
      | false =>
        obtain ⟨hk, hR⟩ := hA.1 b
        have := hend listed a w vs hall ha hk (fun i _ hi => hR i (hall i hi))
        rw [if_neg hsl] at this
        exact this
      | true => exact absurd (hA.2 b).1 hsl
theorem AtSt.others {l : List Oper} {vs : Nat → Value} {a0 a : Act} {listed : Array Bool} (h : AtSt l.toArray vs a0 listed a) (p : Nat → Bool) (hp : l.all (fun o => match o.dst with | none => true | some d => p d) = true) (t : Tmp) (ht : p t = false) : a.tmps.getD t undef = a0.tmps.getD t undef :=
  h.other t fun j o _ ho hd => by
    have := List.all_eq_true.1 hp o (List.mem_of_getElem? (by simpa using ho))
    rw [hd] at this
    simp only at this
    rw [ht] at this; cases this
end Go.Proofs.YthkcgengohoboaaGreatDoor
set_option linter.all false
namespace Go.Proofs.YthkcgengohoboaaGreatDoor
open Go.RowKit Go.Sort Go.Rg
set_option maxRecDepth 100000
attribute [local go_sem] Oper.semAt_some

/-- a new 'known', empty -/
def NewK (V : World) (v : Value) (w : World) : Prop := ∃ g, v = .pointer (some ⟨g, 0, none⟩) ∧ V.heap.size ≤ g ∧ g < w.heap.size ∧ w.cell? ⟨g, 0, none⟩ = some (.int .i64 0) ∧ w.cell? ⟨g, 1, none⟩ = some (.int .i64 0) ∧ w.cell? ⟨g, 2, none⟩ = some (.slice none 0 0) ∧ ∀ i, w.frozen? ⟨g, i, none⟩ = false
theorem NewK.kept {V : World} {v : Value} {w w' : World} (h : NewK V v w) (k : Kept w w') : NewK V v w' := by
  obtain ⟨g, e, h1, h2, z0, z1, z2, zf⟩ := h
  exact ⟨g, e, h1, Nat.lt_of_lt_of_le h2 k.size, kcell k z0, kcell k z1, kcell k z2, fun i => ((kturns k (fun _ => False)).frozen h2 (fun h => h)).trans (zf i)⟩
theorem newK_of {V w : World} (h : V.heap.size ≤ w.heap.size) : NewK V (.pointer (some ⟨w.heap.size, 0, none⟩)) (w.alloc (Obj.cells #[.int .i64 0, .int .i64 0, .slice none 0 0] 59)) :=
  ⟨_, rfl, h, by simp, by go_simp, by go_simp, by go_simp, fun i => by go_simp⟩

set_option maxHeartbeats 4000000 in
theorem truly6 (V : World) (a0 : Act) (Q : Exit → Act → World → Prop) (x : Boy) (xb i : Nat) (bv : Value) (bits : List Int) (hx : x.okB = true) (hi : i < 100) (hb : NumsAt V bv bits)
    (c0 : V.cell? ⟨xb, 0, none⟩ = some (.int .i64 x.l0)) (c1 : V.cell? ⟨xb, 1, none⟩ = some (.int .i64 x.l1)) (c9 : V.cell? ⟨xb, 9, none⟩ = some (.int .i64 x.b0)) (c10 : V.cell? ⟨xb, 10, none⟩ = some (.int .i64 x.b1))
    (hz : a0.tmps.size = 87) (o1 : a0.tmps.getD 1 undef = bv) (o6 : a0.tmps.getD 6 undef = .int .i64 (i : Int)) (o7 : a0.tmps.getD 7 undef = .pointer (some ⟨xb, 0, none⟩))
    (hend : ∀ a g W, Kept V W → V.heap.size ≤ g → NewK V (.pointer (some ⟨g, 0, none⟩)) W → (∀ t, t ≠ 8 → (t < 25 ∨ 38 < t) → a.tmps.getD t undef = a0.tmps.getD t undef) → a.tmps.getD 8 undef = .pointer (some ⟨g, 0, none⟩) → a.tmps.size = a0.tmps.size → a.defers = a0.defers →
      Q .normal a (((W.setCell ⟨g, 0, none⟩ (.int .i64 (drawI x.l0 x.l1 (nthI bits (i : Int))))).setCell ⟨g, 1, none⟩ (.int .i64 (drawI x.b0 x.b1 (nthI bits ((i : Int) + 1))))).setCell ⟨g, 2, none⟩ (.slice none 0 0))) :
    (Code.region 6 #[{ dst := some 25, op := Op.fieldAddr 97 (Operand.tmp 7) 0, type := 0, pos := "outright.go:74", after := #[], guard := none }, { dst := some 26, op := Op.load 32 (Operand.tmp 25), type := 32, pos := "outright.go:74", after := #[{ on := 0, ground := Ground.data }], guard := none }, { dst := some 27, op := Op.move (Operand.tmp 1), type := 41, pos := "outright.go:74", after := #[], guard := none }, { dst := some 28, op := Op.move (Operand.tmp 6), type := 3, pos := "outright.go:74", after := #[], guard := none }, { dst := some 29, op := Op.call { callee := Callee.value (Operand.func 100), args := #[Operand.tmp 27, Operand.tmp 28], argTypes := #[41, 3] }, type := 3, pos := "outright.go:74", after := #[{ on := 2, ground := Ground.data }, { on := 3, ground := Ground.data }], guard := none }, { dst := some 30, op := Op.call { callee := Callee.value (Operand.func 99), args := #[Operand.tmp 26, Operand.tmp 29], argTypes := #[32, 3] }, type := 3, pos := "outright.go:74", after := #[{ on := 1, ground := Ground.data }, { on := 4, ground := Ground.data }, { on := 4, ground := Ground.chain }], guard := none }, { dst := some 31, op := Op.fieldAddr 97 (Operand.tmp 7) 5, type := 0, pos := "outright.go:74", after := #[], guard := none }, { dst := some 32, op := Op.load 32 (Operand.tmp 31), type := 32, pos := "outright.go:74", after := #[{ on := 6, ground := Ground.data }], guard := none }, { dst := some 33, op := Op.move (Operand.tmp 1), type := 41, pos := "outright.go:74", after := #[], guard := none }, { dst := some 34, op := Op.move (Operand.tmp 6), type := 3, pos := "outright.go:74", after := #[], guard := none }, { dst := some 35, op := Op.binOp BinOp.add 3 (Operand.tmp 34) (Operand.const (Value.int IntKind.i64 1)) 3, type := 3, pos := "outright.go:74", after := #[{ on := 9, ground := Ground.data }], guard := none }, { dst := some 36, op := Op.call { callee := Callee.value (Operand.func 100), args := #[Operand.tmp 33, Operand.tmp 35], argTypes := #[41, 3] }, type := 3, pos := "outright.go:74", after := #[{ on := 8, ground := Ground.data }, { on := 10, ground := Ground.data }, { on := 5, ground := Ground.chain }], guard := none }, { dst := some 37, op := Op.call { callee := Callee.value (Operand.func 99), args := #[Operand.tmp 32, Operand.tmp 36], argTypes := #[32, 3] }, type := 3, pos := "outright.go:74", after := #[{ on := 7, ground := Ground.data }, { on := 11, ground := Ground.data }, { on := 11, ground := Ground.chain }], guard := none }, { dst := some 38, op := Op.build 59 #[(0, Operand.tmp 30), (1, Operand.tmp 37)], type := 59, pos := "outright.go:74", after := #[{ on := 5, ground := Ground.data }, { on := 12, ground := Ground.data }], guard := none }, { dst := some 8, op := Op.alloc 59, type := 0, pos := "outright.go:74", after := #[], guard := none }, { dst := none, op := Op.store 59 (Operand.tmp 8) (Operand.tmp 38), type := 0, pos := "outright.go:74", after := #[{ on := 14, ground := Ground.data }, { on := 13, ground := Ground.data }, { on := 12, ground := Ground.chain }, { on := 0, ground := Ground.phase }, { on := 1, ground := Ground.phase }, { on := 2, ground := Ground.phase }, { on := 3, ground := Ground.phase }, { on := 4, ground := Ground.phase }, { on := 5, ground := Ground.phase }, { on := 6, ground := Ground.phase }, { on := 7, ground := Ground.phase }, { on := 8, ground := Ground.phase }, { on := 9, ground := Ground.phase }, { on := 10, ground := Ground.phase }, { on := 11, ground := Ground.phase }, { on := 12, ground := Ground.phase }, { on := 13, ground := Ground.phase }, { on := 14, ground := Ground.phase }], guard := none }] true).wpIn Fence.wide 0 Tryz.prog Q a0 V := by
  obtain ⟨⟨l1, l2, l3, l4⟩, -, -, -, ⟨b1, b2, b3, b4⟩, -, -⟩ := boy_nums hx
  refine wpIn_region_kept (V := V) (fun ix => match ix with | 0 => fun v _ => v = .pointer (some ⟨xb, 0, none⟩) | 1 => fun v _ => v = .agg #[.int .i64 x.l0, .int .i64 x.l1] | 2 => fun v _ => v = bv | 3 => fun v _ => v = .int .i64 (i : Int) | 4 => fun v _ => v = .int .i64 (nthI bits (i : Int)) | 5 => fun v _ => v = .int .i64 (drawI x.l0 x.l1 (nthI bits (i : Int))) | 6 => fun v _ => v = .pointer (some ⟨xb, 9, none⟩) | 7 => fun v _ => v = .agg #[.int .i64 x.b0, .int .i64 x.b1] | 8 => fun v _ => v = bv | 9 => fun v _ => v = .int .i64 (i : Int) | 10 => fun v _ => v = .int .i64 ((i : Int) + 1) | 11 => fun v _ => v = .int .i64 (nthI bits ((i : Int) + 1)) | 12 => fun v _ => v = .int .i64 (drawI x.b0 x.b1 (nthI bits ((i : Int) + 1))) | 13 => fun v _ => v = .agg #[.int .i64 (drawI x.l0 x.l1 (nthI bits (i : Int))), .int .i64 (drawI x.b0 x.b1 (nthI bits ((i : Int) + 1))), .slice none 0 0] | 14 => fun v w => NewK V v w | _ => fun _ _ => True) 15 (fun vs w => match vs 14 with | .pointer (some ⟨g, _, _⟩) => ((w.setCell ⟨g, 0, none⟩ (.int .i64 (drawI x.l0 x.l1 (nthI bits (i : Int))))).setCell ⟨g, 1, none⟩ (.int .i64 (drawI x.b0 x.b1 (nthI bits ((i : Int) + 1))))).setCell ⟨g, 2, none⟩ (.slice none 0 0) | _ => w) (by kernel_rfl) (by kernel_rfl) (by kernel_rfl) (by kernel_rfl) (by kernel_rfl) ?hwr ?hst ?hop ?hlast ?hend
  case hwr =>
    intro vs vs' w hvv
    have h14 := hvv 14 (by omega)
    simp only [h14]
  case hst =>
    intro ix v w w' hv hk
    match ix, hv with
    | 0, hv => exact hv
    | 1, hv => exact hv
    | 2, hv => exact hv
    | 3, hv => exact hv
    | 4, hv => exact hv
    | 5, hv => exact hv
    | 6, hv => exact hv
    | 7, hv => exact hv
    | 8, hv => exact hv
    | 9, hv => exact hv
    | 10, hv => exact hv
    | 11, hv => exact hv
    | 12, hv => exact hv
    | 13, hv => exact hv
    | 14, hv => exact hv.kept hk
    | ix + 15, hv => trivial
  case hop =>
    rintro ix o listed a w vs his ho ha hk hR hdep K hK
    have hil : ix < 16 := (List.getElem?_eq_some_iff.1 ho).1
    match ix, ho with
    | 0, ho =>
      have t7 := (ha.old 7 (by kernel_rfl)).trans o7
      simp at t7
      cases ho
      go_simp
      exact hK _ _ (kept_refl _) rfl
    | 1, ho =>
      have b0 := hdep ⟨0, .data⟩ (by cases ho; simp) rfl
      have t25 := ha.new 0 b0 (d := 25) rfl rfl (by rw [hz]; decide)
      have r0 := hR 0 b0
      replace t25 := t25.trans r0
      simp at t25
      have q0 := kcell hk c0
      have q1 := kcell hk c1
      cases ho
      go_simp
      exact hK _ _ (kept_refl _) rfl
    | 2, ho =>
      have t1 := (ha.old 1 (by kernel_rfl)).trans o1
      simp at t1
      cases ho
      go_simp
      exact hK _ _ (kept_refl _) rfl
    | 3, ho =>
      have t6 := (ha.old 6 (by kernel_rfl)).trans o6
      simp at t6
      cases ho
      go_simp
      exact hK _ _ (kept_refl _) rfl
    | 4, ho =>
      have b2 := hdep ⟨2, .data⟩ (by cases ho; simp) rfl
      have t27 := ha.new 2 b2 (d := 27) rfl rfl (by rw [hz]; decide)
      have r2 := hR 2 b2
      replace t27 := t27.trans r2
      simp at t27
      have b3 := hdep ⟨3, .data⟩ (by cases ho; simp) rfl
      have t28 := ha.new 3 b3 (d := 28) rfl rfl (by rw [hz]; decide)
      have r3 := hR 3 b3
      replace t28 := t28.trans r3
      simp at t28
      have hcall := nth_is bv bits ((i : Int)) w (hb.kept hk)
      cases ho
      go_simp
      refine ⟨trivial, rfl, (callsIn_wide.2 hcall).mono ?_⟩
      rintro e w' ⟨rfl, rfl⟩
      exact hK _ _ (kept_refl _) rfl
    | 5, ho =>
      have b1 := hdep ⟨1, .data⟩ (by cases ho; simp) rfl
      have t26 := ha.new 1 b1 (d := 26) rfl rfl (by rw [hz]; decide)
      have r1 := hR 1 b1
      replace t26 := t26.trans r1
      simp at t26
      have b4 := hdep ⟨4, .data⟩ (by cases ho; simp) rfl
      have t29 := ha.new 4 b4 (d := 29) rfl rfl (by rw [hz]; decide)
      have r4 := hR 4 b4
      replace t29 := t29.trans r4
      simp at t29
      have hcall := draw_is x.l0 x.l1 (nthI bits (i : Int)) (by omega) (by omega) (by omega) w
      cases ho
      go_simp
      refine ⟨trivial, rfl, (callsIn_wide.2 hcall).mono ?_⟩
      rintro e w' ⟨rfl, hk'⟩
      exact hK _ _ hk' rfl
    | 6, ho =>
      have t7 := (ha.old 7 (by kernel_rfl)).trans o7
      simp at t7
      cases ho
      go_simp
      exact hK _ _ (kept_refl _) rfl
    | 7, ho =>
      have b6 := hdep ⟨6, .data⟩ (by cases ho; simp) rfl
      have t31 := ha.new 6 b6 (d := 31) rfl rfl (by rw [hz]; decide)
      have r6 := hR 6 b6
      replace t31 := t31.trans r6
      simp at t31
      have q0 := kcell hk c9
      have q1 := kcell hk c10
      cases ho
      go_simp
      exact hK _ _ (kept_refl _) rfl
    | 8, ho =>
      have t1 := (ha.old 1 (by kernel_rfl)).trans o1
      simp at t1
      cases ho
      go_simp
      exact hK _ _ (kept_refl _) rfl
    | 9, ho =>
      have t6 := (ha.old 6 (by kernel_rfl)).trans o6
      simp at t6
      cases ho
      go_simp
      exact hK _ _ (kept_refl _) rfl
    | 10, ho =>
      have b9 := hdep ⟨9, .data⟩ (by cases ho; simp) rfl
      have t34 := ha.new 9 b9 (d := 34) rfl rfl (by rw [hz]; decide)
      have r9 := hR 9 b9
      replace t34 := t34.trans r9
      simp at t34
      have w1 : IntKind.i64.wrap ((i : Int) + 1) = (i : Int) + 1 := IntWalk.i64_in _ (by omega)
      cases ho
      go_simp
      exact hK _ _ (kept_refl _) rfl
    | 11, ho =>
      have b8 := hdep ⟨8, .data⟩ (by cases ho; simp) rfl
      have t33 := ha.new 8 b8 (d := 33) rfl rfl (by rw [hz]; decide)
      have r8 := hR 8 b8
      replace t33 := t33.trans r8
      simp at t33
      have b10 := hdep ⟨10, .data⟩ (by cases ho; simp) rfl
      have t35 := ha.new 10 b10 (d := 35) rfl rfl (by rw [hz]; decide)
      have r10 := hR 10 b10
      replace t35 := t35.trans r10
      simp at t35
      have hcall := nth_is bv bits ((i : Int) + 1) w (hb.kept hk)
      cases ho
      go_simp
      refine ⟨trivial, rfl, (callsIn_wide.2 hcall).mono ?_⟩
      rintro e w' ⟨rfl, rfl⟩
      exact hK _ _ (kept_refl _) rfl
    | 12, ho =>
      have b7 := hdep ⟨7, .data⟩ (by cases ho; simp) rfl
      have t32 := ha.new 7 b7 (d := 32) rfl rfl (by rw [hz]; decide)
      have r7 := hR 7 b7
      replace t32 := t32.trans r7
      simp at t32
      have b11 := hdep ⟨11, .data⟩ (by cases ho; simp) rfl
      have t36 := ha.new 11 b11 (d := 36) rfl rfl (by rw [hz]; decide)
      have r11 := hR 11 b11
      replace t36 := t36.trans r11
      simp at t36
      have hcall := draw_is x.b0 x.b1 (nthI bits ((i : Int) + 1)) (by omega) (by omega) (by omega) w
      cases ho
      go_simp
      refine ⟨trivial, rfl, (callsIn_wide.2 hcall).mono ?_⟩
      rintro e w' ⟨rfl, hk'⟩
      exact hK _ _ hk' rfl
    | 13, ho =>
      have b5 := hdep ⟨5, .data⟩ (by cases ho; simp) rfl
      have t30 := ha.new 5 b5 (d := 30) rfl rfl (by rw [hz]; decide)
      have r5 := hR 5 b5
      replace t30 := t30.trans r5
      simp at t30
      have b12 := hdep ⟨12, .data⟩ (by cases ho; simp) rfl
      have t37 := ha.new 12 b12 (d := 37) rfl rfl (by rw [hz]; decide)
      have r12 := hR 12 b12
      replace t37 := t37.trans r12
      simp at t37
      cases ho
      go_simp
      exact hK _ _ (kept_refl _) rfl
    | 14, ho =>
      cases ho
      go_simp
      exact hK _ _ (kept_alloc (kept_refl _) _) (newK_of hk.size)
    | 15, ho => exact absurd rfl his
  case hlast =>
    rintro o listed a w vs ho ha hk hR K hK
    have t8 := ha.new 14 (hR 14 (by omega)).1 (d := 8) rfl rfl (by rw [hz]; decide)
    have r14 := (hR 14 (by omega)).2
    simp at t8
    have t38 := ha.new 13 (hR 13 (by omega)).1 (d := 38) rfl rfl (by rw [hz]; decide)
    have r13 := (hR 13 (by omega)).2
    replace t38 := t38.trans r13
    simp at t38
    obtain ⟨g, e, h1, h2, z0, z1, z2, zf⟩ := r14
    rw [e] at t8
    have zf0 := zf 0
    have zf1 := zf 1
    have zf2 := zf 2
    simp only [e] at hK
    cases ho
    go_simp
    exact hK
  case hend =>
    intro listed a w vs hall ha hk hR
    obtain ⟨g, e, h1, h2⟩ := hR 14 (by omega) (by simp)
    have t8 := ha.new 14 (hall 14 (by simp)) (d := 8) rfl rfl (by rw [hz]; decide)
    rw [e] at t8
    have := hend a g w hk h1 ⟨g, rfl, h1, h2⟩ (fun t h8 h => AtSt.others ha (fun d => decide (d = 8 ∨ 25 ≤ d ∧ d ≤ 38)) (by kernel_rfl) t (decide_eq_false (by omega))) t8 ha.size ha.defers
    simpa [e] using this
end Go.Proofs.YthkcgengohoboaaGreatDoor
