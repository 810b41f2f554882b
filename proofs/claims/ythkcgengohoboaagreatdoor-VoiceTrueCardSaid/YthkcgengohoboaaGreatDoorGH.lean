/- A part of the proof: contracts of the program's functions for every input. No conditions. -/
import Derived.Test.YthkcgengohoboaaGreatDoorGG
import Derived.Test.YthkcgengohoboaaGreatDoorGF
import Derived.Test.YthkcgengohoboaaGreatDoorGE
set_option linter.all false
set_option linter.all false
namespace Go.Proofs.YthkcgengohoboaaGreatDoor
open Go.RowKit Go.Sort Go.Rg
set_option maxRecDepth 100000

def knowsB (k : Know) (week note : Int) : Bool := decide (week < k.brk) && inB note k.low (k.tops.getD week.toNat 0)
set_option maxHeartbeats 4000000 in
theorem knows_any (W : World) (k : Know) (tv : Value) (j : Nat) (note : Int) (h : NumsAt W tv k.tops) (hj : j < k.tops.length) :
    Calls Tryz.prog 38 #[.agg #[.int .i64 k.low, .int .i64 k.brk, tv], .int .i64 (j : Int), .int .i64 note] W fun e C => e = .returned (.bool (knowsB k (j : Int) note)) ∧ Kept W C := by
  obtain ⟨low, brk, tops⟩ := k
  obtain ⟨p, cap, rfl, hl, h⟩ := h
  simp only at h hl hj ⊢
  have hne : tops ≠ [] := fun e => by rw [e] at hj; simp at hj
  obtain ⟨b, o, rfl, hb, hc⟩ := h.resolve_left hne
  have hget : tops[j]? = some tops[j] := List.getElem?_eq_getElem hj
  have kW : Kept W (W.alloc (Obj.cells #[.int .i64 low, .int .i64 brk, .slice (some ⟨b, o, none⟩) tops.length cap] 59)) := kept_alloc (kept_refl _) _
  have hcj := cell_regrown (kcell kW (hc j _ hget))
  have c0 := cell_regrown (show (W.alloc (Obj.cells #[.int .i64 low, .int .i64 brk, .slice (some ⟨b, o, none⟩) tops.length cap] 59)).cell? ⟨W.heap.size, 0, none⟩ = some (.int .i64 low) by go_simp)
  have c1 := cell_regrown (show (W.alloc (Obj.cells #[.int .i64 low, .int .i64 brk, .slice (some ⟨b, o, none⟩) tops.length cap] 59)).cell? ⟨W.heap.size, 1, none⟩ = some (.int .i64 brk) by go_simp)
  have c2 := cell_regrown (show (W.alloc (Obj.cells #[.int .i64 low, .int .i64 brk, .slice (some ⟨b, o, none⟩) tops.length cap] 59)).cell? ⟨W.heap.size, 2, none⟩ = some (.slice (some ⟨b, o, none⟩) tops.length cap) by go_simp)
  have hval : tops.getD ((j : Int)).toNat 0 = tops[j] := by simp [List.getD, hget]
  have hsb : knowsB ⟨low, brk, tops⟩ (j : Int) note = (decide ((j : Int) < brk) && inB note low tops[j]) := by unfold knowsB; rw [hval]
  have hjI : (j : Int) < tops.length := by omega
  have hlies : ∀ V d os, Calls Tryz.prog 37 #[.int .i64 note, .int .i64 low, .int .i64 tops[j]] (grow (redrawn V d) os) fun e w'' => e = .returned (.bool (inB note low tops[j])) ∧ ∃ p : Regrown, w'' = grow (redrawn V p.d) p.os := fun V d os => Calls.regrown_of ((lies_any note low tops[j] _).mono (by rintro e w' ⟨rfl, rfl⟩; exact ⟨rfl, kept_refl _⟩))
  have HL := Lib.hid hlies; clear hlies
  rw [hsb]
  generalize tops[j] = x at *
  clear hsb hval h hc hget
  by_cases hlt : (j : Int) < brk
  · have hdec : decide ((j : Int) < brk) = true := by simp [hlt]
    go_enter Tryz.func38, Tryz.ntmps38
    go_wp2_with fail
    generalize (W.alloc (Obj.cells #[.int .i64 low, .int .i64 brk, .slice (some ⟨b, o, none⟩) tops.length cap] 59)) = V at *
    refine wp_region_quiet_below (by kernel_rfl) (by kernel_rfl) ?_
    repeat (any_goals (first | go_big_quiet_skip | quiet_step (first | with_reducible exact HL.out _ _ _)))
    refine wpQuiet_nil ?_
    intro _ hw'
    obtain ⟨⟨dq, osq⟩, hw''⟩ := hw'
    subst hw''
    go_wp2_with fail
    go_ret
    exact ⟨by simp [hlt], kept_trans kW (below_regrown V dq osq)⟩
  · have hdec : decide ((j : Int) < brk) = false := by simp [hlt]
    go_enter Tryz.func38, Tryz.ntmps38
    go_wp2_with fail
    generalize (W.alloc (Obj.cells #[.int .i64 low, .int .i64 brk, .slice (some ⟨b, o, none⟩) tops.length cap] 59)) = V at *
    refine wp_region_quiet_below (by kernel_rfl) (by kernel_rfl) ?_
    repeat (any_goals (first | go_big_quiet_skip | quiet_step (first | with_reducible exact HL.out _ _ _)))
    refine wpQuiet_nil ?_
    intro _ hw'
    obtain ⟨⟨dq, osq⟩, hw''⟩ := hw'
    subst hw''
    go_wp2_with fail
    go_ret
    exact ⟨by rw [hdec]; rfl, kept_trans kW (below_regrown V dq osq)⟩
end Go.Proofs.YthkcgengohoboaaGreatDoor
set_option linter.all false
namespace Go.Proofs.YthkcgengohoboaaGreatDoor
open Go.RowKit Go.Sort Go.Rg
set_option maxRecDepth 100000
attribute [local go_sem] Oper.semAt_some

def belLs (B : Book) (boy : Nat) (x : Boy) : List (List Nat) := ((Book.mk B.boys B.weeks []).truths boy x).map fun n => belL B boy x n B.trials.length

theorem row_apart {w B : World} {base size n : Nat} {e : TypeId} {v : Value} {xs : List Value} {r : Option Nat} (h : w.ownsRow base e size v n xs) (hg : w.grownBy B r) (hr : ∀ b, r = some b → b < base) : B.ownsRow base e size v n xs := h.kept hg (by
  cases hb : v.ownBlock with
  | none => exact .inl rfl
  | some b => exact .inr fun e => by have h1 := (h.lt b hb).1; have h2 := hr b e.symm; omega)
theorem ListAt.mark {B C : World} {v : Value} {l : List Nat} {Db : Nat} {x : Option (List Deferred)} (h : ListAt B v l) (hK : B.heap[Db]? = some (.deferred x)) (k : Turns (fun b => b = Db) B C) : ListAt C v l :=
  h.imp id fun ⟨b, cap, e, hb, hc⟩ => ⟨b, cap, e, Nat.lt_of_lt_of_le hb k.size, fun i y hx => by
    have h1 := hc i y hx
    refine tcell k (fun e => ?_) h1
    subst e
    simp [World.cell?, hK] at h1⟩
theorem gen_count {lo hi : Nat → Int} {boy : Int} {lt : List Trial} {kp : List Int → Bool} (hb : ∀ i, i < 5 → hi i ≤ lo i + 3) : ∀ (d : Nat) (pre : List Int), pre.length + d = 5 → (gen lo hi boy lt kp d pre).length ≤ 4 ^ d
  | 0, pre, _ => by unfold gen; split <;> simp
  | d + 1, pre, h => by
    unfold gen
    rw [List.length_flatten, List.map_map]
    have h1 : ∀ l : List Nat, (l.map (List.length ∘ fun m : Nat => if fbAt boy lt pre.length (lo pre.length + (m : Int)) then [] else gen lo hi boy lt kp d (pre ++ [lo pre.length + (m : Int)]))).sum ≤ l.length * 4 ^ d := by
      intro l
      induction l with
      | nil => simp
      | cons a l ih =>
        have h2 : (if fbAt boy lt pre.length (lo pre.length + (a : Int)) then [] else gen lo hi boy lt kp d (pre ++ [lo pre.length + (a : Int)])).length ≤ 4 ^ d := by
          split
          · simp
          · exact gen_count hb d _ (by simp; omega)
        rw [List.map_cons, List.sum_cons, List.length_cons, Nat.succ_mul]
        have h3 : (List.length ∘ fun m : Nat => if fbAt boy lt pre.length (lo pre.length + (m : Int)) then [] else gen lo hi boy lt kp d (pre ++ [lo pre.length + (m : Int)])) a ≤ 4 ^ d := h2
        omega
    refine Nat.le_trans (h1 _) ?_
    rw [List.length_range, Nat.pow_succ, Nat.mul_comm (4 ^ d)]
    have := hb pre.length (by omega)
    exact Nat.mul_le_mul_right _ (by omega)
theorem truths_count {B : Book} {boy : Nat} {x : Boy} (hx : x.okB = true) : (B.truths boy x).length ≤ 1024 :=
  gen_count (fun i hi => ((spanAt_ok x hx).1 i hi).2.2.2.1) 5 [] rfl
theorem gen_ne {lo hi : Nat → Int} {boy : Int} {kp : List Int → Bool} (hk : ∀ p, kp p = true) (hb : ∀ i, i < 5 → lo i ≤ hi i) : ∀ (d : Nat) (pre : List Int), pre.length + d = 5 → gen lo hi boy [] kp d pre ≠ []
  | 0, pre, _ => by unfold gen; rw [hk]; simp
  | d + 1, pre, h => by
    unfold gen
    have h1 := hb pre.length (by omega)
    intro e
    rw [List.flatten_eq_nil_iff] at e
    have h2 := e (if fbAt boy [] pre.length (lo pre.length + ((0 : Nat) : Int)) then [] else gen lo hi boy [] kp d (pre ++ [lo pre.length + ((0 : Nat) : Int)])) (List.mem_map.2 ⟨0, List.mem_range.2 (by omega), rfl⟩)
    rw [if_neg (by simp [fbAt])] at h2
    exact gen_ne hk hb d _ (by simp; omega) h2
theorem untried_ne {bs : List Boy} {wk : Int} {boy : Nat} {x : Boy} (hx : x.okB = true) : (Book.mk bs wk []).truths boy x ≠ [] :=
  gen_ne (fun p => by simp [kpOf, Book.told]) (fun i hi => ((spanAt_ok x hx).1 i hi).2.2.1) 5 [] rfl
theorem infoII : (Tryz.prog.info? 41).map (fun i => (i.zero, i.size, i.bytes)) = some (some (.slice none 0 0), 1, 24) := by kernel_rfl
theorem cell_one {w : World} {g : Nat} {v : Value} (h : w.cell? ⟨g, 0, none⟩ = some v) : ∀ (k : Nat) (u : Value), [v][k]? = some u → w.cell? ((⟨g, 0, none⟩ : Addr).add k) = some u := by
  intro k u hu
  have hk : k < 1 := (List.getElem?_eq_some_iff.1 hu).1
  match k, hk, hu with
  | 0, _, hu => cases hu; simpa [Addr.add] using h
theorem store_row {F : Fence} {o : Oper} {a : Act} {K : Act → World → Prop} {Q : Exit → Act → World → Prop} {p x : Nat} (w : World) (ho : o.op = .store 182 (.tmp p) (.tmp x)) (bl : Nat) (u : Value) (q : Option Addr) {n c : Nat} (hp : a.eval (.tmp p) = .pointer (some ⟨bl, 0, none⟩)) (hx : a.eval (.tmp x) = .slice q n c) (hc : w.cell? ⟨bl, 0, none⟩ = some u) (hf : w.frozen? ⟨bl, 0, none⟩ = false)
    (h : K (a.put o.dst undef) (w.setCell ⟨bl, 0, none⟩ (.slice q n c))) : o.wpIn F 0 Tryz.prog a w K Q := by
  obtain ⟨dst, op, type, pos, after, guard⟩ := o
  simp only at ho
  subst ho
  simp [Act.eval] at hp hx
  unfold Oper.wpIn
  refine ⟨by simp [Oper.about, resolve, Target.leads, Sem.run_pure], ?_⟩
  rw [Oper.semAt_plain F _ _ (by intro c hc; cases hc)]
  go_simp
  exact h
theorem row_slice {w : World} {base size n : Nat} {e : TypeId} {v : Value} {xs : List Value} (h : w.ownsRow base e size v n xs) : ∃ p n' c', v = .slice p n' c' := by
  rcases h.2 with ⟨rfl, _⟩ | ⟨g, cap, cur, rfl, _⟩
  · exact ⟨_, _, _, rfl⟩
  · exact ⟨_, _, _, rfl⟩
theorem row_oneCell {w : World} {base size n : Nat} {e : TypeId} {v : Value} {xs : List Value} (h : w.ownsRow base e size v n xs) : v.oneCell' = true := by
  rcases h.2 with ⟨rfl, _⟩ | ⟨g, cap, cur, rfl, _⟩ <;> rfl

set_option maxHeartbeats 4000000 in
theorem wrongOf_any (S : Nat → Prop) (c : Choir) (boy : Nat) (x : Boy) (hx : c.B.boys[boy]? = some x) (W : World) (h : ChoirAt S W c) (hS : ∀ b, S b → b < W.heap.size) (hL : Laid W) :
    Calls Tryz.prog 131 #[c.val, .int .i64 (boy : Int)] W fun e C => ∃ v, e = .returned v ∧ Kept W C ∧ ListAt C v (minL (belLs c.B boy x)) := by
  refine callsIn_wide.1 (callsIn_of_wp_marks (n := 0) Tryz.func131 rfl trivial ?_ rfl)
  simp only [Tryz.ntmps131, List.size_toArray, List.length_cons, List.length_nil, Nat.reduceAdd, Nat.reduceSub, Array.replicate_succ, Array.replicate_zero, List.push_toArray, List.append_toArray, List.nil_append, List.cons_append]
  have hxo : x.okB = true := by
    have := h.ok
    simp only [Book.okB, Bool.and_eq_true, List.all_eq_true] at this
    exact this.1.2 x (List.mem_of_getElem? hx)
  unfold Choir.val
  gi_wp2_with fail
  have hk0 : Kept W ((W.alloc (Obj.cells #[.slice (some ⟨c.bb, c.ob, none⟩) c.B.boys.length c.capb, .int .i64 c.B.weeks, .slice c.q c.B.trials.length c.capt, .map (some c.bm)] 93)).alloc (Obj.cells #[.slice none 0 0] 182)) := kept_alloc (kept_alloc (kept_refl _) _) _
  have hz0 : ((W.alloc (Obj.cells #[.slice (some ⟨c.bb, c.ob, none⟩) c.B.boys.length c.capb, .int .i64 c.B.weeks, .slice c.q c.B.trials.length c.capt, .map (some c.bm)] 93)).alloc (Obj.cells #[.slice none 0 0] 182)).heap.size = W.heap.size + 1 + 1 := by simp
  have c0 : ((W.alloc (Obj.cells #[.slice (some ⟨c.bb, c.ob, none⟩) c.B.boys.length c.capb, .int .i64 c.B.weeks, .slice c.q c.B.trials.length c.capt, .map (some c.bm)] 93)).alloc (Obj.cells #[.slice none 0 0] 182)).cell? ⟨W.heap.size, 0, none⟩ = some (.slice (some ⟨c.bb, c.ob, none⟩) c.B.boys.length c.capb) := by go_simp
  have c1 : ((W.alloc (Obj.cells #[.slice (some ⟨c.bb, c.ob, none⟩) c.B.boys.length c.capb, .int .i64 c.B.weeks, .slice c.q c.B.trials.length c.capt, .map (some c.bm)] 93)).alloc (Obj.cells #[.slice none 0 0] 182)).cell? ⟨W.heap.size, 1, none⟩ = some (.int .i64 c.B.weeks) := by go_simp
  have c2 : ((W.alloc (Obj.cells #[.slice (some ⟨c.bb, c.ob, none⟩) c.B.boys.length c.capb, .int .i64 c.B.weeks, .slice c.q c.B.trials.length c.capt, .map (some c.bm)] 93)).alloc (Obj.cells #[.slice none 0 0] 182)).cell? ⟨W.heap.size, 2, none⟩ = some (.slice c.q c.B.trials.length c.capt) := by go_simp
  have c3 : ((W.alloc (Obj.cells #[.slice (some ⟨c.bb, c.ob, none⟩) c.B.boys.length c.capb, .int .i64 c.B.weeks, .slice c.q c.B.trials.length c.capt, .map (some c.bm)] 93)).alloc (Obj.cells #[.slice none 0 0] 182)).cell? ⟨W.heap.size, 3, none⟩ = some (.map (some c.bm)) := by go_simp
  have r0 : ((W.alloc (Obj.cells #[.slice (some ⟨c.bb, c.ob, none⟩) c.B.boys.length c.capb, .int .i64 c.B.weeks, .slice c.q c.B.trials.length c.capt, .map (some c.bm)] 93)).alloc (Obj.cells #[.slice none 0 0] 182)).cell? ⟨W.heap.size + 1, 0, none⟩ = some (.slice none 0 0) := by go_simp
  have rf : ((W.alloc (Obj.cells #[.slice (some ⟨c.bb, c.ob, none⟩) c.B.boys.length c.capb, .int .i64 c.B.weeks, .slice c.q c.B.trials.length c.capt, .map (some c.bm)] 93)).alloc (Obj.cells #[.slice none 0 0] 182)).frozen? ⟨W.heap.size + 1, 0, none⟩ = false := by go_simp
  generalize ((W.alloc (Obj.cells #[.slice (some ⟨c.bb, c.ob, none⟩) c.B.boys.length c.capb, .int .i64 c.B.weeks, .slice c.q c.B.trials.length c.capt, .map (some c.bm)] 93)).alloc (Obj.cells #[.slice none 0 0] 182)) = W1 at *
  have hcall := untried_any c W1 S (h.turns (kturns hk0 (fun _ => False)) (fun _ _ h => h)) W.heap.size hk0.size hS (hL.kept hk0)
  unfold Choir.val at hcall
  refine ⟨trivial, rfl, (callsIn_wide.2 hcall).mono ?_⟩
  rintro e W2 ⟨c', hB', rfl, hk1, S', hat1, hS'⟩
  have HB' := Lib.hid hB'; clear hB'
  replace c0 := kcell hk1 c0
  replace c1 := kcell hk1 c1
  replace c2 := kcell hk1 c2
  replace c3 := kcell hk1 c3
  replace r0 := kcell hk1 r0
  have rf : W2.frozen? ⟨W.heap.size + 1, 0, none⟩ = false := ((kturns hk1 (fun _ => False)).frozen (by omega) (fun h => h)).trans rf
  clear hcall
  gi_wp2_with fail
  have hcall := truths_any c' boy W2
  unfold Choir.val at hcall
  refine ⟨trivial, rfl, (callsIn_wide.2 hcall).mono ?_⟩
  rintro e W3 ⟨rfl, hk2, hz2, d0, d1, d2, d3, d4⟩
  have HKW := Lib.hid (kept_trans (kept_trans hk0 hk1) hk2)
  have hat := truthsAt_of hat1 hk2 rfl d0 d1 d2 d3 d4
  have HAT := Lib.hid hat; clear hat
  replace c0 := kcell hk2 c0
  replace c1 := kcell hk2 c1
  replace c2 := kcell hk2 c2
  replace c3 := kcell hk2 c3
  replace r0 := kcell hk2 r0
  have rf : W3.frozen? ⟨W.heap.size + 1, 0, none⟩ = false := ((kturns hk2 (fun _ => False)).frozen (by have := hk1.size; omega) (fun h => h)).trans rf
  have hz3 : W.heap.size + 1 + 1 ≤ W2.heap.size := by have := hk1.size; omega
  have hx' : c'.B.boys[boy]? = some x := by rw [HB'.out]; exact hx
  have hTL : c'.B.truths boy x = (Book.mk c.B.boys c.B.weeks []).truths boy x := by rw [HB'.out]
  have HTL := Lib.hid hTL; clear hTL
  clear hcall d0 d1 d2 d3 d4
  have hat0 := (h.turns (kturns HKW.out (fun _ => False)) (fun _ _ h => h))
  have HC := Lib.hid hat0; clear hat0
  generalize hbl : W.heap.size + 1 = bl at *
  gi_wp2_with fail
  refine wpIn_range (gf := 154) (lb := #[.pointer (some ⟨W2.heap.size, 0, none⟩), .pointer (some ⟨W2.heap.size + 1, 0, none⟩)]) rfl (enters_of Tryz.func154 (by kernel_rfl) rfl)
    (truths1_gives S' c' boy x hx' W2.heap.size (W2.heap.size + 1)) rfl (fun b => b = bl) (by rintro b rfl; omega) ?hS (fun B hB => HAT.out.kept hB)
    (fun k T' A => Gath bl (bl + 1) (belLs c.B boy x) k T' A)
    (fun e k T' A => False)
    ?hI ?hIx ⟨rfl, by omega, _, [], r0, rf, World.ownsRow_nil _ _ _ _, (fun b hb => by cases hb), fun i l hi => by omega⟩ ?round ?done ?stop
  case hS =>
    rintro b (hb | rfl | rfl)
    · have := hS' b hb
      have := hk2.size
      exact ⟨by omega, by omega⟩
    · exact ⟨by omega, by omega⟩
    · exact ⟨by omega, by omega⟩
  case hI =>
    intro k T' A B hg hq
    exact hg.quiet hq
  case hIx =>
    intro e k T' A B hg hq
    exact hg
  case stop =>
    intro Db e k T' B hDb hnD hE hTB hk hg hK
    exact hg.elim
  case round =>
    rintro l k n T' A hn hE hz hTA hl hlA hnl ⟨hg1, hg2, row, xs, h1, h2, h3, h4, h5⟩
    have hmem := List.mem_of_getElem? hn
    obtain ⟨n0, n1, n2, n3, n4, rfl⟩ := truths_len hmem
    have hrng := truths_rng hmem
    have HN : Hid ((belLs c.B boy x)[k]? = some (belL c.B boy x [n0, n1, n2, n3, n4] c.B.trials.length)) := Lib.hid (by
      rw [HTL.out] at hn
      unfold belLs
      rw [List.getElem?_map, hn]; rfl)
    have hWA := hTA.size
    have hk1024 : k < 1024 := Nat.lt_of_lt_of_le (List.getElem?_eq_some_iff.1 hn).1 (truths_count hxo)
    have hlb := (belL_len c.B boy x [n0, n1, n2, n3, n4] c.B.trials.length)
    have hkA : Kept W A := Below.trans HKW.out (hTA.toBelow (n := W.heap.size) (by rintro b rfl; omega) (by have := HKW.out.size; omega))
    simp only [encT, List.map_cons, List.map_nil, List.append_toArray, List.cons_append, List.nil_append, Choir.k0, Choir.k2, Choir.m]
    gi_wp2_with fail
    refine ⟨_, Ext.refl _ _, (Turns.refl _ _).alloc _, ?_⟩
    intro A2 hA2 hs2 hr
    have hb1 := Go.Ai.lt_of_cell h1
    have hk1A : Kept A (A.alloc (Obj.cells #[.slice (some ⟨c'.bb, c'.ob, none⟩) c'.B.boys.length c'.capb, .int .i64 c'.B.weeks, .slice c'.q c'.B.trials.length c'.capt, .map (some c'.bm), .int .i64 (boy : Int), .int .i64 n0, .int .i64 n1, .int .i64 n2, .int .i64 n3, .int .i64 n4] 110)) := kept_alloc (kept_refl _) _
    have e0 := tcell hA2 (by omega) (show (A.alloc (Obj.cells #[.slice (some ⟨c'.bb, c'.ob, none⟩) c'.B.boys.length c'.capb, .int .i64 c'.B.weeks, .slice c'.q c'.B.trials.length c'.capt, .map (some c'.bm), .int .i64 (boy : Int), .int .i64 n0, .int .i64 n1, .int .i64 n2, .int .i64 n3, .int .i64 n4] 110)).cell? ⟨A.heap.size, 0, none⟩ = some (.slice (some ⟨c'.bb, c'.ob, none⟩) c'.B.boys.length c'.capb) by go_simp)
    have e1 := tcell hA2 (by omega) (show (A.alloc (Obj.cells #[.slice (some ⟨c'.bb, c'.ob, none⟩) c'.B.boys.length c'.capb, .int .i64 c'.B.weeks, .slice c'.q c'.B.trials.length c'.capt, .map (some c'.bm), .int .i64 (boy : Int), .int .i64 n0, .int .i64 n1, .int .i64 n2, .int .i64 n3, .int .i64 n4] 110)).cell? ⟨A.heap.size, 1, none⟩ = some (.int .i64 c'.B.weeks) by go_simp)
    have e2 := tcell hA2 (by omega) (show (A.alloc (Obj.cells #[.slice (some ⟨c'.bb, c'.ob, none⟩) c'.B.boys.length c'.capb, .int .i64 c'.B.weeks, .slice c'.q c'.B.trials.length c'.capt, .map (some c'.bm), .int .i64 (boy : Int), .int .i64 n0, .int .i64 n1, .int .i64 n2, .int .i64 n3, .int .i64 n4] 110)).cell? ⟨A.heap.size, 2, none⟩ = some (.slice c'.q c'.B.trials.length c'.capt) by go_simp)
    have e3 := tcell hA2 (by omega) (show (A.alloc (Obj.cells #[.slice (some ⟨c'.bb, c'.ob, none⟩) c'.B.boys.length c'.capb, .int .i64 c'.B.weeks, .slice c'.q c'.B.trials.length c'.capt, .map (some c'.bm), .int .i64 (boy : Int), .int .i64 n0, .int .i64 n1, .int .i64 n2, .int .i64 n3, .int .i64 n4] 110)).cell? ⟨A.heap.size, 3, none⟩ = some (.map (some c'.bm)) by go_simp)
    have e4 := tcell hA2 (by omega) (show (A.alloc (Obj.cells #[.slice (some ⟨c'.bb, c'.ob, none⟩) c'.B.boys.length c'.capb, .int .i64 c'.B.weeks, .slice c'.q c'.B.trials.length c'.capt, .map (some c'.bm), .int .i64 (boy : Int), .int .i64 n0, .int .i64 n1, .int .i64 n2, .int .i64 n3, .int .i64 n4] 110)).cell? ⟨A.heap.size, 4, none⟩ = some (.int .i64 (boy : Int)) by go_simp)
    have e5 := tcell hA2 (by omega) (show (A.alloc (Obj.cells #[.slice (some ⟨c'.bb, c'.ob, none⟩) c'.B.boys.length c'.capb, .int .i64 c'.B.weeks, .slice c'.q c'.B.trials.length c'.capt, .map (some c'.bm), .int .i64 (boy : Int), .int .i64 n0, .int .i64 n1, .int .i64 n2, .int .i64 n3, .int .i64 n4] 110)).cell? ⟨A.heap.size, 5, none⟩ = some (.int .i64 n0) by go_simp)
    have e6 := tcell hA2 (by omega) (show (A.alloc (Obj.cells #[.slice (some ⟨c'.bb, c'.ob, none⟩) c'.B.boys.length c'.capb, .int .i64 c'.B.weeks, .slice c'.q c'.B.trials.length c'.capt, .map (some c'.bm), .int .i64 (boy : Int), .int .i64 n0, .int .i64 n1, .int .i64 n2, .int .i64 n3, .int .i64 n4] 110)).cell? ⟨A.heap.size, 6, none⟩ = some (.int .i64 n1) by go_simp)
    have e7 := tcell hA2 (by omega) (show (A.alloc (Obj.cells #[.slice (some ⟨c'.bb, c'.ob, none⟩) c'.B.boys.length c'.capb, .int .i64 c'.B.weeks, .slice c'.q c'.B.trials.length c'.capt, .map (some c'.bm), .int .i64 (boy : Int), .int .i64 n0, .int .i64 n1, .int .i64 n2, .int .i64 n3, .int .i64 n4] 110)).cell? ⟨A.heap.size, 7, none⟩ = some (.int .i64 n2) by go_simp)
    have e8 := tcell hA2 (by omega) (show (A.alloc (Obj.cells #[.slice (some ⟨c'.bb, c'.ob, none⟩) c'.B.boys.length c'.capb, .int .i64 c'.B.weeks, .slice c'.q c'.B.trials.length c'.capt, .map (some c'.bm), .int .i64 (boy : Int), .int .i64 n0, .int .i64 n1, .int .i64 n2, .int .i64 n3, .int .i64 n4] 110)).cell? ⟨A.heap.size, 8, none⟩ = some (.int .i64 n3) by go_simp)
    have e9 := tcell hA2 (by omega) (show (A.alloc (Obj.cells #[.slice (some ⟨c'.bb, c'.ob, none⟩) c'.B.boys.length c'.capb, .int .i64 c'.B.weeks, .slice c'.q c'.B.trials.length c'.capt, .map (some c'.bm), .int .i64 (boy : Int), .int .i64 n0, .int .i64 n1, .int .i64 n2, .int .i64 n3, .int .i64 n4] 110)).cell? ⟨A.heap.size, 9, none⟩ = some (.int .i64 n4) by go_simp)
    have p0 := tcell hA2 (by omega) (kcell hk1A h1)
    have pf : A2.frozen? ⟨bl, 0, none⟩ = false := (hA2.frozen (by simp; omega) (by omega)).trans (((kturns hk1A (fun _ => False)).frozen hb1 (fun h => h)).trans h2)
    have f0 := tcell hA2 (by omega) (kcell hk1A (tcell hTA (by omega) c0))
    have f1 := tcell hA2 (by omega) (kcell hk1A (tcell hTA (by omega) c1))
    have f2 := tcell hA2 (by omega) (kcell hk1A (tcell hTA (by omega) c2))
    have f3 := tcell hA2 (by omega) (kcell hk1A (tcell hTA (by omega) c3))
    have hzA2 : A2.heap.size = A.heap.size + 1 := by rw [hs2]; simp
    have hb2 := Go.Ai.lt_of_cell p0
    have HZ := Lib.hid hzA2; clear hzA2 hs2
    have hrow := row_turns (row_kept h3 hk1A) hA2 (fun b hb e => hnl (e ▸ h4 b hb))
    have hR : ∀ b, row.ownBlock = some b → b < A2.heap.size := fun b hb => (hrow.lt b hb).2
    have HLS := Lib.hid (show ∀ i l', i < k → (belLs c.B boy x)[i]? = some l' → ∃ v, xs[i]? = some v ∧ ListAt A2 v l' ∧ ∀ b, v.ownBlock = some b → T' b ∧ b ≠ bl ∧ row.ownBlock ≠ some b from fun i l' hi hl' => by
      obtain ⟨v, q1, q2, q3⟩ := h5 i l' hi hl'
      exact ⟨v, q1, (q2.kept hk1A).turns hA2 (fun b hb e => hnl (e ▸ (q3 b hb).1)), q3⟩)
    have HCH := Lib.hid (show ChoirAt S A2 c from ((HC.out.turns hTA (fun b hb e => by have := hS b hb; omega)).turns (kturns hk1A (fun _ => False)) (fun _ _ h => h)).turns hA2 (fun b hb e => by have := hS b hb; omega))
    have HCC := Lib.hid (show ChoirAt S' A2 c' from (((hat1.turns (kturns hk2 (fun _ => False)) (fun _ _ h => h)).turns hTA (fun b hb e => by have := hS' b hb; omega)).turns (kturns hk1A (fun _ => False)) (fun _ _ h => h)).turns hA2 (fun b hb e => by have := hS' b hb; have := hk2.size; omega))
    have HT4 := Lib.hid h4
    have hcall0 := fun w (kw : Kept A2 w) => belied_any S c boy x hx w (HCH.out.turns (kturns kw (fun _ => False)) (fun _ _ h => h)) S' c' (HCC.out.turns (kturns kw (fun _ => False)) (fun _ _ h => h)) hx' n0 n1 n2 n3 n4 hrng
    unfold Choir.val at hcall0
    generalize belL c.B boy x [n0, n1, n2, n3, n4] c.B.trials.length = LB at *
    have HCALL := Lib.hid hcall0; clear hcall0
    clear h1 h2 h3 h4 h5 hmem hrng hn
    gi_wp2_with fail
    refine wpIn_region_invL (StG (fun vs on w => Push A2 (bl + 1) 41 k row xs (fun v w => w.ownsRow A2.heap.size 3 1 v LB.length (intsV LB)) bl vs on w ∧ (on 0 = true → vs 0 = row) ∧ (on 1 = true → vs 1 = .agg #[.slice (some ⟨c.bb, c.ob, none⟩) c.B.boys.length c.capb, .int .i64 c.B.weeks, .slice c.q c.B.trials.length c.capt, .map (some c.bm)]) ∧ (on 2 = true → vs 2 = .agg #[.slice (some ⟨c'.bb, c'.ob, none⟩) c'.B.boys.length c'.capb, .int .i64 c'.B.weeks, .slice c'.q c'.B.trials.length c'.capt, .map (some c'.bm), .int .i64 (boy : Int), .int .i64 n0, .int .i64 n1, .int .i64 n2, .int .i64 n3, .int .i64 n4]))) (by kernel_rfl) (by kernel_rfl) (StG.start ⟨Push.start, nofun, nofun, nofun⟩) ?hop ?hend
    case hop =>
      rintro i o listed a w zl ho z1 z2 zcl ⟨vs, ha, hA, hP⟩
      have hi7 : i < 7 := (List.getElem?_eq_some_iff.1 ho).1
      have n5 : i < 5 → on listed 5 = false := fun hi5 => by
        cases b5 : on listed 5 with
        | false => rfl
        | true =>
          exfalso
          have b4 := zcl 5 _ rfl b5 ⟨4, .data⟩ (by simp) rfl
          have b0 := zcl 5 _ rfl b5 ⟨0, .data⟩ (by simp) rfl
          have b3 := zcl 4 _ rfl b4 ⟨3, .data⟩ (by simp) rfl
          have b1 := zcl 3 _ rfl b3 ⟨1, .data⟩ (by simp) rfl
          have b2 := zcl 3 _ rfl b3 ⟨2, .data⟩ (by simp) rfl
          have hno := on_no z1
          match i, hi5, hno with
          | 0, _, hno => exact tf b0 hno
          | 1, _, hno => exact tf b1 hno
          | 2, _, hno => exact tf b2 hno
          | 3, _, hno => exact tf b3 hno
          | 4, _, hno => exact tf b4 hno
      match i, ho with
      | 0, ho =>
        have kw := hA.kept (n5 (by omega))
        have ST := Lib.hid (StG.step (I := (fun vs on w => Push A2 (bl + 1) 41 k row xs (fun v w => w.ownsRow A2.heap.size 3 1 v LB.length (intsV LB)) bl vs on w ∧ (on 0 = true → vs 0 = row) ∧ (on 1 = true → vs 1 = .agg #[.slice (some ⟨c.bb, c.ob, none⟩) c.B.boys.length c.capb, .int .i64 c.B.weeks, .slice c.q c.B.trials.length c.capt, .map (some c.bm)]) ∧ (on 2 = true → vs 2 = .agg #[.slice (some ⟨c'.bb, c'.ob, none⟩) c'.B.boys.length c'.capb, .int .i64 c'.B.weeks, .slice c'.q c'.B.trials.length c'.capt, .map (some c'.bm), .int .i64 (boy : Int), .int .i64 n0, .int .i64 n1, .int .i64 n2, .int .i64 n3, .int .i64 n4]))) (v := row) (w' := w) (by kernel_rfl) ha zl ho z1 ⟨hA.pure 0 (by omega) (by omega) (by omega) (by omega), fun _ => rfl, hP.2.1, hP.2.2⟩)
        cases ho
        rw [if_pos (by rfl)]
        have t5 := ha.old 5 (by kernel_rfl)
        simp at t5
        have q0 := kcell kw p0
        go_simp
        exact ST.out
      | 1, ho =>
        have kw := hA.kept (n5 (by omega))
        have ST := Lib.hid (StG.step (I := (fun vs on w => Push A2 (bl + 1) 41 k row xs (fun v w => w.ownsRow A2.heap.size 3 1 v LB.length (intsV LB)) bl vs on w ∧ (on 0 = true → vs 0 = row) ∧ (on 1 = true → vs 1 = .agg #[.slice (some ⟨c.bb, c.ob, none⟩) c.B.boys.length c.capb, .int .i64 c.B.weeks, .slice c.q c.B.trials.length c.capt, .map (some c.bm)]) ∧ (on 2 = true → vs 2 = .agg #[.slice (some ⟨c'.bb, c'.ob, none⟩) c'.B.boys.length c'.capb, .int .i64 c'.B.weeks, .slice c'.q c'.B.trials.length c'.capt, .map (some c'.bm), .int .i64 (boy : Int), .int .i64 n0, .int .i64 n1, .int .i64 n2, .int .i64 n3, .int .i64 n4]))) (v := .agg #[.slice (some ⟨c.bb, c.ob, none⟩) c.B.boys.length c.capb, .int .i64 c.B.weeks, .slice c.q c.B.trials.length c.capt, .map (some c.bm)]) (w' := w) (by kernel_rfl) ha zl ho z1 ⟨hA.pure 1 (by omega) (by omega) (by omega) (by omega), hP.1, fun _ => rfl, hP.2.2⟩)
        cases ho
        rw [if_pos (by rfl)]
        have t2 := ha.old 2 (by kernel_rfl)
        simp at t2
        have q0 := kcell kw f0
        have q1 := kcell kw f1
        have q2 := kcell kw f2
        have q3 := kcell kw f3
        go_simp
        exact ST.out
      | 2, ho =>
        have kw := hA.kept (n5 (by omega))
        have ST := Lib.hid (StG.step (I := (fun vs on w => Push A2 (bl + 1) 41 k row xs (fun v w => w.ownsRow A2.heap.size 3 1 v LB.length (intsV LB)) bl vs on w ∧ (on 0 = true → vs 0 = row) ∧ (on 1 = true → vs 1 = .agg #[.slice (some ⟨c.bb, c.ob, none⟩) c.B.boys.length c.capb, .int .i64 c.B.weeks, .slice c.q c.B.trials.length c.capt, .map (some c.bm)]) ∧ (on 2 = true → vs 2 = .agg #[.slice (some ⟨c'.bb, c'.ob, none⟩) c'.B.boys.length c'.capb, .int .i64 c'.B.weeks, .slice c'.q c'.B.trials.length c'.capt, .map (some c'.bm), .int .i64 (boy : Int), .int .i64 n0, .int .i64 n1, .int .i64 n2, .int .i64 n3, .int .i64 n4]))) (v := .agg #[.slice (some ⟨c'.bb, c'.ob, none⟩) c'.B.boys.length c'.capb, .int .i64 c'.B.weeks, .slice c'.q c'.B.trials.length c'.capt, .map (some c'.bm), .int .i64 (boy : Int), .int .i64 n0, .int .i64 n1, .int .i64 n2, .int .i64 n3, .int .i64 n4]) (w' := w) (by kernel_rfl) ha zl ho z1 ⟨hA.pure 2 (by omega) (by omega) (by omega) (by omega), hP.1, hP.2.1, fun _ => rfl⟩)
        cases ho
        rw [if_pos (by rfl)]
        have t6 := ha.old 6 (by kernel_rfl)
        simp at t6
        have q0 := kcell kw e0
        have q1 := kcell kw e1
        have q2 := kcell kw e2
        have q3 := kcell kw e3
        have q4 := kcell kw e4
        have q5 := kcell kw e5
        have q6 := kcell kw e6
        have q7 := kcell kw e7
        have q8 := kcell kw e8
        have q9 := kcell kw e9
        go_simp
        exact ST.out
      | 3, ho =>
        have kw := hA.kept (n5 (by omega))
        have b1 : on listed 1 = true := z2 ⟨1, .data⟩ (by cases ho; simp) rfl
        have b2 : on listed 2 = true := z2 ⟨2, .data⟩ (by cases ho; simp) rfl
        have ST := Lib.hid (fun v w' (hk : Kept w w') (hF : w'.ownsRow A2.heap.size 3 1 v LB.length (intsV LB)) => StG.step (I := (fun vs on w => Push A2 (bl + 1) 41 k row xs (fun v w => w.ownsRow A2.heap.size 3 1 v LB.length (intsV LB)) bl vs on w ∧ (on 0 = true → vs 0 = row) ∧ (on 1 = true → vs 1 = .agg #[.slice (some ⟨c.bb, c.ob, none⟩) c.B.boys.length c.capb, .int .i64 c.B.weeks, .slice c.q c.B.trials.length c.capt, .map (some c.bm)]) ∧ (on 2 = true → vs 2 = .agg #[.slice (some ⟨c'.bb, c'.ob, none⟩) c'.B.boys.length c'.capb, .int .i64 c'.B.weeks, .slice c'.q c'.B.trials.length c'.capt, .map (some c'.bm), .int .i64 (boy : Int), .int .i64 n0, .int .i64 n1, .int .i64 n2, .int .i64 n3, .int .i64 n4]))) (v := v) (w' := w') (by kernel_rfl) ha zl ho z1 ⟨hA.called (on_no z1) hk hF, hP.1, hP.2.1, hP.2.2⟩)
        have t13 := ha.new 1 b1 (d := 13) rfl rfl (by simp)
        have t14 := ha.new 2 b2 (d := 14) rfl rfl (by simp)
        simp at t13 t14
        rw [hP.2.1 b1] at t13
        rw [hP.2.2 b2] at t14
        have hcall := HCALL.out w kw
        cases ho
        rw [if_pos (by rfl)]
        go_simp
        refine ⟨trivial, rfl, (CallsIn.inRound _ (callsIn_wide.2 hcall)).mono ?_⟩
        rintro e w' ⟨v, rfl, hk, hF⟩
        exact ST.out v w' hk (row_le hF kw.size)
      | 4, ho =>
        have kw := hA.kept (n5 (by omega))
        have b3 : on listed 3 = true := z2 ⟨3, .data⟩ (by cases ho; simp) rfl
        have ST := Lib.hid (fun v w' (hk : Kept w w') (hv : v = .slice (some ⟨w.heap.size, 0, none⟩) 1 1) hz hc => StG.step (I := (fun vs on w => Push A2 (bl + 1) 41 k row xs (fun v w => w.ownsRow A2.heap.size 3 1 v LB.length (intsV LB)) bl vs on w ∧ (on 0 = true → vs 0 = row) ∧ (on 1 = true → vs 1 = .agg #[.slice (some ⟨c.bb, c.ob, none⟩) c.B.boys.length c.capb, .int .i64 c.B.weeks, .slice c.q c.B.trials.length c.capt, .map (some c.bm)]) ∧ (on 2 = true → vs 2 = .agg #[.slice (some ⟨c'.bb, c'.ob, none⟩) c'.B.boys.length c'.capb, .int .i64 c'.B.weeks, .slice c'.q c'.B.trials.length c'.capt, .map (some c'.bm), .int .i64 (boy : Int), .int .i64 n0, .int .i64 n1, .int .i64 n2, .int .i64 n3, .int .i64 n4]))) (v := v) (w' := w') (by kernel_rfl) ha zl ho z1 ⟨hA.built (on_no z1) b3 (fun _ _ _ h k => row_kept h k) hk hv hz hc, hP.1, hP.2.1, hP.2.2⟩)
        have t15 := ha.new 3 b3 (d := 15) rfl rfl (by simp)
        simp at t15
        obtain ⟨p3, n3', c3', ev3⟩ := row_slice (hA.r3 b3 (n5 (by omega)))
        rw [ev3] at t15 ST
        cases ho
        rw [if_pos (by rfl)]
        go_simp
        refine ST.out _ _ (kept_alloc (kept_refl w) _) rfl ?_ ?_
        · simp
        · go_simp
      | 5, ho =>
        have b4 : on listed 4 = true := z2 ⟨4, .data⟩ (by cases ho; simp) rfl
        have b0 : on listed 0 = true := z2 ⟨0, .data⟩ (by cases ho; simp) rfl
        have n5' := on_no z1
        have kw := hA.kept n5'
        have t12 : a.eval (.tmp 12) = vs 0 := ha.new 0 b0 (d := 12) rfl rfl (by simp)
        have t16 : a.eval (.tmp 16) = vs 4 := ha.new 4 b4 (d := 16) rfl rfl (by simp)
        rw [hP.1 b0] at t12
        obtain ⟨g4, e4', _, _, hc4⟩ := hA.r4 b4 n5'
        rw [e4'] at t16
        have hv3 := hA.r3 (hA.o43 b4) n5'
        have ST := Lib.hid (fun v w' (g cap : Nat) (hg : w.grownBy w' row.ownBlock) (hv : v = .slice (some ⟨g, 0, none⟩) (k + 1) cap) (hat : row.ownBlock = some g ∨ g = w.heap.size) (hlt : g < w'.heap.size) hr => StG.step (I := (fun vs on w => Push A2 (bl + 1) 41 k row xs (fun v w => w.ownsRow A2.heap.size 3 1 v LB.length (intsV LB)) bl vs on w ∧ (on 0 = true → vs 0 = row) ∧ (on 1 = true → vs 1 = .agg #[.slice (some ⟨c.bb, c.ob, none⟩) c.B.boys.length c.capb, .int .i64 c.B.weeks, .slice c.q c.B.trials.length c.capt, .map (some c.bm)]) ∧ (on 2 = true → vs 2 = .agg #[.slice (some ⟨c'.bb, c'.ob, none⟩) c'.B.boys.length c'.capb, .int .i64 c'.B.weeks, .slice c'.q c'.B.trials.length c'.capt, .map (some c'.bm), .int .i64 (boy : Int), .int .i64 n0, .int .i64 n1, .int .i64 n2, .int .i64 n3, .int .i64 n4]))) (v := v) (w' := w') (by kernel_rfl) ha zl ho z1 ⟨hA.app n5' b4 (fun v A B hz h hg => row_apart h hg hR) (fun v A b h hb => h.lt b hb) hR hg hv hat hlt hr, hP.1, hP.2.1, hP.2.2⟩)
        obtain ⟨i0, hi, hiz, his, hib⟩ := info_parts infoII
        cases ho
        rw [if_pos (by rfl)]
        refine wpIn_append_lies _ (.tmp 12) (.tmp 16) 182 rfl (bl + 1) 41 i0 _ 1 24 Tryz.underlying182 hi hiz his hib rfl (by decide) row _ _ t12 (row_kept hrow kw) ⟨g4, 0, none⟩ 1 1 [vs 3] t16 rfl (cell_one hc4) (by simpa using row_oneCell hv3) (by omega) (by unfold maxLen; omega) (by omega) (by have := kw.size; omega) ?_
        intro g cap' w' hown hgrow hat hlt3
        exact ST.out _ _ g cap' hgrow rfl hat hlt3 hown
      | 6, ho =>
        have b5 : on listed 5 = true := z2 ⟨5, .data⟩ (by cases ho; simp) rfl
        obtain ⟨wc, hg, -, -, ⟨g, cap', hv5, -, -, -⟩, hwc⟩ := hA.r5 b5
        rw [on_no z1] at hwc
        have hwc : w = wc := hwc
        subst hwc
        have ST := Lib.hid (StG.step (I := (fun vs on w => Push A2 (bl + 1) 41 k row xs (fun v w => w.ownsRow A2.heap.size 3 1 v LB.length (intsV LB)) bl vs on w ∧ (on 0 = true → vs 0 = row) ∧ (on 1 = true → vs 1 = .agg #[.slice (some ⟨c.bb, c.ob, none⟩) c.B.boys.length c.capb, .int .i64 c.B.weeks, .slice c.q c.B.trials.length c.capt, .map (some c.bm)]) ∧ (on 2 = true → vs 2 = .agg #[.slice (some ⟨c'.bb, c'.ob, none⟩) c'.B.boys.length c'.capb, .int .i64 c'.B.weeks, .slice c'.q c'.B.trials.length c'.capt, .map (some c'.bm), .int .i64 (boy : Int), .int .i64 n0, .int .i64 n1, .int .i64 n2, .int .i64 n3, .int .i64 n4]))) (v := undef) (w' := _) (by kernel_rfl) ha zl ho z1 ⟨hA.stored (on_no z1) b5, hP.1, hP.2.1, hP.2.2⟩)
        have t17 : a.eval (.tmp 17) = vs 5 := ha.new 5 b5 (d := 17) rfl rfl (by simp)
        have t5 : a.eval (.tmp 5) = .pointer (some ⟨bl, 0, none⟩) := ha.old 5 (by kernel_rfl)
        have hne : ∀ b, row.ownBlock = some b → b ≠ bl := fun b hb e => by have := (hrow.lt b hb).1; omega
        have q0 := tcell (turns_grown hg) (fun e => hne _ e rfl) p0
        have qf := ((turns_grown hg).frozen (Go.Ai.lt_of_cell p0) (fun e => hne _ e rfl)).trans pf
        rw [hv5] at t17
        cases ho
        rw [if_pos (by rfl)]
        rw [hv5] at ST
        exact store_row _ rfl _ _ _ t5 t17 q0 qf ST.out
    case hend =>
      rintro listed a w hall ⟨vs, ha, hA, hP⟩
      have b5 : on listed 5 = true := hall 5 (by simp)
      have b6 : on listed 6 = true := hall 6 (by simp)
      obtain ⟨wc, hg, hF, hrow5, ⟨g, cap', hv5, hg5, hne5, hlt5⟩, hw⟩ := hA.r5 b5
      rw [b6, if_pos rfl] at hw
      subst hw
      have hTg := turns_grown hg
      have hTs : Turns (fun b => b = bl) wc (wc.setCell ⟨bl, 0, none⟩ (vs 5)) := (Turns.refl (fun b => b = bl) wc).setCell rfl _ _
      have hne : ∀ b, row.ownBlock = some b → b ≠ bl := fun b hb e => by have := (hrow.lt b hb).1; omega
      have q0 := tcell hTg (fun e => hne _ e rfl) p0
      have qf := (hTg.frozen (Go.Ai.lt_of_cell p0) (fun e => hne _ e rfl)).trans pf
      have hwz : (wc.setCell ⟨bl, 0, none⟩ (vs 5)).heap.size = wc.heap.size := by simp
      have hzz := HZ.out
      have hgz := hTg.size
      show ∃ T2 : Nat → Prop, Ext A2.heap.size T' T2 ∧ (∀ b, T2 b → b < (wc.setCell ⟨bl, 0, none⟩ (vs 5)).heap.size) ∧ Turns T2 A2 (wc.setCell ⟨bl, 0, none⟩ (vs 5)) ∧ Gath bl (bl + 1) (belLs c.B boy x) (k + 1) T2 (wc.setCell ⟨bl, 0, none⟩ (vs 5))
      refine ⟨fun b => T' b ∨ (A2.heap.size ≤ b ∧ b < wc.heap.size), ⟨fun b h => .inl h, fun b h => h.imp id And.left⟩, ?_, ?_, .inl hg1, hg2, vs 5, xs ++ [vs 3], cell_set_eq q0, (World.frozen?_setCell _ _ _ _).trans qf, ownsRow_set hrow5 (a := ⟨bl, 0, none⟩) (Nat.lt_succ_self bl) _, ?_, ?_⟩
      · rintro b (h | h)
        · have := hz b h; omega
        · omega
      · exact (hTg.mono (T' := fun b => T' b ∨ (A2.heap.size ≤ b ∧ b < wc.heap.size)) (fun b _ e => .inl (HT4.out b e))).trans (Ext.refl _ _) (hTs.mono (fun b _ e => .inl (e ▸ hg1)))
      · intro b hb
        rw [hv5] at hb
        cases hb
        rcases hg5 with e | e
        · exact .inl (HT4.out _ e)
        · exact .inr ⟨e, hlt5⟩
      · have hxl : xs.length = k := by have := hrow.1; omega
        intro i l' hi hl'
        by_cases e : i = k
        · subst e
          rw [HN.out] at hl'
          cases hl'
          refine ⟨vs 3, by rw [List.getElem?_append_right (by omega), hxl]; simp, (ListAt.of_row hF).turns hTs (fun b hb e => by have := (hF.lt b hb).1; omega), fun b hb => ⟨.inr (hF.lt b hb), (by have := (hF.lt b hb).1; omega), fun e5 => ?_⟩⟩
          rw [hv5] at e5
          cases e5
          exact hne5 hb
        · obtain ⟨v, q1, q2, q3⟩ := HLS.out i l' (by omega) hl'
          refine ⟨v, by rw [List.getElem?_append_left (by omega)]; exact q1, (q2.turns hTg (fun b hb e => (q3 b hb).2.2 e)).turns hTs (fun b hb e => (q3 b hb).2.1 e), fun b hb => ⟨.inl (q3 b hb).1, (q3 b hb).2.1, fun e5 => ?_⟩⟩
          rw [hv5] at e5
          cases e5
          rcases hg5 with e | e
          · exact (q3 g hb).2.2 e
          · have := hz g (q3 g hb).1; omega
  case done =>
    rintro Db T' B hDb hnD hE hTB ⟨hg1, hg2, row, xs, h1, h2, h3, h4, h5⟩ hK
    have hkB : Below W.heap.size W B := Below.trans HKW.out (hTB.toBelow (n := W.heap.size) (by rintro b rfl; omega) (by have := HKW.out.size; omega))
    have hlen : (c'.B.truths boy x).length = (belLs c.B boy x).length := by rw [HTL.out]; unfold belLs; rw [List.length_map]
    have hcnt : (c'.B.truths boy x).length ≤ 1024 := truths_count hxo
    have hne0 : belLs c.B boy x ≠ [] := by
      unfold belLs
      intro e
      exact untried_ne hxo (List.map_eq_nil_iff.1 e)
    rw [hlen] at h3 h5 hcnt
    have hpos := List.length_pos_iff.2 hne0
    obtain ⟨gb, capg, cur, rfl, -, -, -⟩ := h3.2.resolve_left (fun e => by omega)
    have hLA : ListsAt B (.slice (some ⟨gb, 0, none⟩) (belLs c.B boy x).length capg) (belLs c.B boy x) := ⟨gb, capg, rfl, fun i l hl => by
      have hi := (List.getElem?_eq_some_iff.1 hl).1
      obtain ⟨v, q1, q2, q3⟩ := h5 i l hi hl
      exact ⟨v, (h3.cellAt i (by omega)).trans q1, q2⟩⟩
    have hl100 : ∀ l ∈ belLs c.B boy x, l.length ≤ 100 := by
      intro l hl
      obtain ⟨n, -, rfl⟩ := List.mem_map.1 hl
      have h6 : c.B.trials.length ≤ 6 := by
        have := h.ok
        simp only [Book.okB, inB, Bool.and_eq_true, decide_eq_true_eq] at this
        omega
      exact Nat.le_trans (belL_len _ _ _ _ _) (by omega)
    have hcall := min_any _ _ B hLA hne0 hl100 (by omega)
    clear h3 h5 hLA hl100
    gi_wp2_with fail
    refine ⟨trivial, rfl, (callsIn_wide.2 hcall).mono ?_⟩
    rintro e B2 ⟨v, rfl, hk2, hl2⟩
    have hK2 := (hk2.block Db (Array.getElem?_eq_some_iff.1 hK).1).trans hK
    clear hcall
    gi_wp2_with fail
    refine leave_mark (v := v) hK2 fun C hC hCT => ?_
    refine ⟨by simp [results, Tryz.results131, go_sem], v, rfl, ?_, hl2.mark hK2 hCT⟩
    exact Below.trans (Below.trans hkB (Below.mono hk2 hkB.size)) (hCT.toBelow (by rintro b rfl; omega) (by have := hkB.size; have := hk2.size; omega))
end Go.Proofs.YthkcgengohoboaaGreatDoor
set_option linter.all false
namespace Go.Proofs.YthkcgengohoboaaGreatDoor
open Go.RowKit Go.Sort Go.Rg
set_option maxRecDepth 100000

theorem wpList_append_run {P : Program} {ops : Array Oper} {rest : List Oper} {o : Oper} {a : Act} {Q : Exit → Act → World → Prop} (w : World) (hgd : o.guard = none) (s x : Operand) (t : TypeId)
    (ho : o.op = .call { callee := .builtin .append, args := #[s, x], argTypes := #[t, t] }) {v y v' : Value} {w' : World} (hs : a.eval s = v) (hx : a.eval x = y)
    (hr : (Builtin.append_ #[t, t] o.type #[v, y]).run P w = .ok v' w') (h : wpList P ops Q rest (a.put o.dst v') w') : wpList P ops Q (o :: rest) a w :=
  wpList_plain hgd fun _ hK => by
    unfold Oper.wp execOp
    simp only [ho, resolve, invoke, builtin, Sem.run_bind, Sem.run_pure, Result.andThen_ok, List.map_toArray, List.map_cons, List.map_nil, hs, hx, hr]
    exact hK _ _ h
theorem run_append_nothing (ty : TypeId) (w : World) (b q : Option Addr) (n cap c : Nat) (hn : n ≤ cap) : (Builtin.append_ #[41, 41] ty #[.slice b n cap, .slice q 0 c]).run Tryz.prog w = .ok (.slice b n cap) w := by
  obtain ⟨i0, hi, hiz, his, hib⟩ := info_parts infoI
  cases b <;> cases q <;> simp [Builtin.append_, run_underlying Tryz.underlying41, sizeOf, typeInfo, hi, Builtin.lenOf, Builtin.firstCells, loadCells, loadCellsFrom, storeCells, hn]

theorem list_cells {w : World} {b cap : Nat} {l : List Nat} (hc : ∀ i x, l[i]? = some x → w.cell? ⟨b, i, none⟩ = some (.int .i64 ((x : Nat) : Int))) : ∀ (k : Nat) (u : Value), (intsV l)[k]? = some u → w.cell? ((⟨b, 0, none⟩ : Addr).add k) = some u := by
  intro k u hu
  simp only [intsV, List.getElem?_map, Option.map_eq_some_iff] at hu
  obtain ⟨x, hx, rfl⟩ := hu
  have := hc k x hx
  exact add_cell.2 this
theorem ints_one (l : List Nat) : ∀ u ∈ intsV l, u.oneCell' = true := by
  intro u hu
  obtain ⟨x, -, rfl⟩ := List.mem_map.1 hu
  rfl
/-- an append of a list that can be read, to a row of one's own -/
theorem run_append_list {w : World} {base : Nat} {v y : Value} {L M : List Nat} (ty : TypeId) (h : w.ownsRow base 3 1 v L.length (intsV L)) (hy : ListAt w y M) (hl : L.length + M.length ≤ 1000) (hb : base ≤ w.heap.size) :
    ∃ v' w', (Builtin.append_ #[41, 41] ty #[v, y]).run Tryz.prog w = .ok v' w' ∧ w'.ownsRow base 3 1 v' (L ++ M).length (intsV (L ++ M)) ∧ w.grownBy w' v.ownBlock := by
  by_cases hM : M = []
  · subst hM
    obtain ⟨q, c, rfl⟩ := listAt_len hy
    have hv : ∃ b cap, v = .slice b L.length cap ∧ L.length ≤ cap := by
      rcases h.2 with ⟨rfl, h0⟩ | ⟨g, cap, cur, rfl, h1, h2, h3, h4⟩
      · exact ⟨none, 0, by rw [h0], by omega⟩
      · exact ⟨_, cap, rfl, by omega⟩
    obtain ⟨b, cap, rfl, hn⟩ := hv
    exact ⟨_, w, run_append_nothing ty w b q _ _ _ hn, by simpa using h, ⟨rfl, rfl, rfl, Nat.le_refl _, fun _ _ _ => rfl⟩⟩
  · rcases hy with ⟨_, e⟩ | ⟨b, c, rfl, hb', hc⟩
    · exact absurd e hM
    obtain ⟨i0, hi, hiz, his, hib⟩ := info_parts infoI
    have hpos := List.length_pos_iff.2 hM
    obtain ⟨g, cap, w', hr, h2, h3, -, -⟩ := run_append_lies (P := Tryz.prog) w 41 ty base 3 i0 _ 1 8 Tryz.underlying41 hi hiz his hib rfl (by decide) v L.length (intsV L) h ⟨b, 0, none⟩ M.length c (intsV M) (by simp [intsV]) (list_cells (cap := c) hc) (ints_one M) hpos (by unfold maxLen; omega) (by omega) hb w.heap.size rfl
    exact ⟨_, w', hr, by simpa [intsV] using h2, h3⟩


def wrongAt (B : Book) (i : Nat) : List Nat := match B.boys[i]? with
  | some x => minL (belLs B i x)
  | none => []
def accL (B : Book) (k : Nat) : List Nat := (List.range k).flatMap (wrongAt B)
theorem accL_succ (B : Book) (k : Nat) : accL B (k + 1) = accL B k ++ wrongAt B k := by
  unfold accL
  rw [List.range_succ, List.flatMap_append]
  simp
theorem minL_mem : ∀ {L : List (List Nat)}, L ≠ [] → minL L ∈ L
  | [], h => absurd rfl h
  | a :: L, _ => by
    have : ∀ (L : List (List Nat)) (m : List Nat), L.foldl minStep m = m ∨ L.foldl minStep m ∈ L := by
      intro L
      induction L with
      | nil => intro m; exact .inl rfl
      | cons b L ih =>
        intro m
        rw [List.foldl_cons]
        rcases ih (minStep m b) with h | h
        · rw [h]
          unfold minStep
          split
          · exact .inr List.mem_cons_self
          · exact .inl rfl
        · exact .inr (List.mem_cons_of_mem _ h)
    rcases this L a with h | h
    · show L.foldl minStep a ∈ _
      rw [h]; exact List.mem_cons_self
    · exact List.mem_cons_of_mem _ h
theorem wrongAt_len (B : Book) (hB : B.okB = true) (i : Nat) : (wrongAt B i).length ≤ 6 := by
  have h6 : B.trials.length ≤ 6 := by
    have := hB
    simp only [Book.okB, inB, Bool.and_eq_true, decide_eq_true_eq] at this
    omega
  unfold wrongAt
  split
  · rename_i x hx
    have hxo : x.okB = true := by
      have := hB
      simp only [Book.okB, Bool.and_eq_true, List.all_eq_true] at this
      exact this.1.2 x (List.mem_of_getElem? hx)
    have hne : belLs B i x ≠ [] := fun e => untried_ne hxo (List.map_eq_nil_iff.1 e)
    obtain ⟨n, -, e⟩ := List.mem_map.1 (minL_mem hne)
    have e' : minL (belLs B i x) = belL B i x n B.trials.length := e.symm
    rw [e']
    exact Nat.le_trans (belL_len _ _ _ _ _) h6
  · simp
theorem accL_len (B : Book) (hB : B.okB = true) : ∀ k, (accL B k).length ≤ 6 * k
  | 0 => by simp [accL]
  | k + 1 => by
    rw [accL_succ, List.length_append]
    have := accL_len B hB k
    have := wrongAt_len B hB k
    omega

set_option maxHeartbeats 4000000 in
theorem wrong_any (S : Nat → Prop) (c : Choir) (W : World) (h : ChoirAt S W c) (hS : ∀ b, S b → b < W.heap.size) (hL : Laid W)
    (hsort : ∀ (v : Value) (l : List Nat) (base : Nat) (V : World), base ≤ V.heap.size → V.ownsRow base 3 1 v l.length (intsV l) → l.length ≤ 1000 → Calls Tryz.prog 132 #[v] V fun e C => e = .returned (.tuple #[]) ∧ ListAt C v (l.mergeSort fun x y => decide (x ≤ y)) ∧ Below base V C) :
    Calls Tryz.prog 96 #[c.val] W fun e C => ∃ v, e = .returned v ∧ Kept W C ∧ ListAt C v ((accL c.B c.B.boys.length).mergeSort fun x y => decide (x ≤ y)) := by
  have hlen : c.B.boys.length ≤ 4 := by
    have := h.ok
    simp only [Book.okB, inB, Bool.and_eq_true, decide_eq_true_eq] at this
    omega
  have hok := h.ok
  have HSORT := Lib.hid hsort; clear hsort
  have hwo := fun V (k : Kept W V) boy x (hx : c.B.boys[boy]? = some x) => wrongOf_any S c boy x hx V (h.turns (kturns k (fun _ => False)) (fun _ _ h => h)) (fun b hb => Nat.lt_of_lt_of_le (hS b hb) k.size) (hL.kept k)
  have HWO := Lib.hid hwo; clear hwo
  unfold Choir.val at HWO
  unfold Choir.val
  have hk0 : Kept W (W.alloc (Obj.cells #[.slice (some ⟨c.bb, c.ob, none⟩) c.B.boys.length c.capb, .int .i64 c.B.weeks, .slice c.q c.B.trials.length c.capt, .map (some c.bm)] 93)) := kept_alloc (kept_refl _) _
  have hz0 : (W.alloc (Obj.cells #[.slice (some ⟨c.bb, c.ob, none⟩) c.B.boys.length c.capb, .int .i64 c.B.weeks, .slice c.q c.B.trials.length c.capt, .map (some c.bm)] 93)).heap.size = W.heap.size + 1 := by simp
  have c0 : (W.alloc (Obj.cells #[.slice (some ⟨c.bb, c.ob, none⟩) c.B.boys.length c.capb, .int .i64 c.B.weeks, .slice c.q c.B.trials.length c.capt, .map (some c.bm)] 93)).cell? ⟨W.heap.size, 0, none⟩ = some (.slice (some ⟨c.bb, c.ob, none⟩) c.B.boys.length c.capb) := by go_simp
  have c1 : (W.alloc (Obj.cells #[.slice (some ⟨c.bb, c.ob, none⟩) c.B.boys.length c.capb, .int .i64 c.B.weeks, .slice c.q c.B.trials.length c.capt, .map (some c.bm)] 93)).cell? ⟨W.heap.size, 1, none⟩ = some (.int .i64 c.B.weeks) := by go_simp
  have c2 : (W.alloc (Obj.cells #[.slice (some ⟨c.bb, c.ob, none⟩) c.B.boys.length c.capb, .int .i64 c.B.weeks, .slice c.q c.B.trials.length c.capt, .map (some c.bm)] 93)).cell? ⟨W.heap.size, 2, none⟩ = some (.slice c.q c.B.trials.length c.capt) := by go_simp
  have c3 : (W.alloc (Obj.cells #[.slice (some ⟨c.bb, c.ob, none⟩) c.B.boys.length c.capb, .int .i64 c.B.weeks, .slice c.q c.B.trials.length c.capt, .map (some c.bm)] 93)).cell? ⟨W.heap.size, 3, none⟩ = some (.map (some c.bm)) := by go_simp
  go_enter Tryz.func96, Tryz.ntmps96
  go_wp2_with fail
  generalize (W.alloc (Obj.cells #[.slice (some ⟨c.bb, c.ob, none⟩) c.B.boys.length c.capb, .int .i64 c.B.weeks, .slice c.q c.B.trials.length c.capt, .map (some c.bm)] 93)) = V0 at *
  go_loopw [3, 9] (fun v i V => ∃ j : Nat, j ≤ c.B.boys.length ∧ i = .int .i64 j ∧ V.ownsRow V0.heap.size 3 1 v (accL c.B j).length (intsV (accL c.B j)) ∧ Kept V0 V) (fun v i V => c.B.boys.length - (intOf i).toNat)
  case atStart => exact ⟨0, by omega, rfl, World.ownsRow_nil _ _ _ _, kept_refl _⟩
  case round =>
    obtain ⟨j, hj, rfl, hrow, hV⟩ := hrel
    have hkV := kept_trans hk0 hV
    have hzV := hV.size
    by_cases hlt : j < c.B.boys.length
    · have hltI : (j : Int) < c.B.boys.length := by omega
      have hget : c.B.boys[j]? = some c.B.boys[j] := List.getElem?_eq_getElem hlt
      generalize c.B.boys[j] = x at *
      have a0 := kcell hV c0
      have a1 := kcell hV c1
      have a2 := kcell hV c2
      have a3 := kcell hV c3
      have hwa : wrongAt c.B j = minL (belLs c.B j x) := by unfold wrongAt; rw [hget]
      have hal := accL_len c.B hok j
      have hwl := wrongAt_len c.B hok j
      have hsucc := accL_succ c.B j
      have hcall := HWO.out _ hkV j x hget
      rw [← hwa] at hcall
      have HCALL := Lib.hid hcall
      have HS := Lib.hid hsucc
      have HROW := Lib.hid hrow
      clear hcall hsucc hrow hwa hget c0 c1 c2 c3
      go_wp2_with (first
        | (go_at_call 131; refine HCALL.out.mono ?_; rintro e V2 ⟨y, rfl, hk2, hl2⟩)
        | (at_builtin
           obtain ⟨v', w', hr, hrow', hg'⟩ := run_append_list 41 (row_kept HROW.out hk2) hl2 (by omega) (by have := hk2.size; omega)
           refine wpList_append_run _ rfl _ _ 41 rfl rfl rfl hr ?_))
      go_roundw
      case rel =>
        refine ⟨j + 1, by omega, by go_num, by rw [HS.out]; exact hrow', ?_⟩
        exact Below.trans (kept_trans hV hk2) ⟨hg'.os, hg'.tape, hg'.output, hg'.size, fun k hk => hg'.block k (Nat.lt_of_lt_of_le hk (kept_trans hV hk2).size) (fun e => by have := (HROW.out.lt k e.symm).1; omega)⟩
      case measure => simp [intOf]; omega
    · have hltI : ¬ (j : Int) < c.B.boys.length := by omega
      have hje : j = c.B.boys.length := by omega
      have hal := accL_len c.B hok j
      have hcall := HSORT.out u3 _ V0.heap.size _ hzV hrow (by omega)
      rw [hje] at hcall
      have HCALL := Lib.hid hcall
      clear hcall hrow
      go_wp2_with (go_at_call 132; refine HCALL.out.mono ?_; rintro e V2 ⟨rfl, hl2, hb2⟩)
      go_ret
      exact ⟨_, rfl, Below.trans hkV ⟨hb2.os, hb2.tape, hb2.output, hb2.size, fun k hk => hb2.block k (by omega)⟩, hl2⟩
end Go.Proofs.YthkcgengohoboaaGreatDoor
set_option linter.all false
namespace Go.Proofs.YthkcgengohoboaaGreatDoor
open Go.RowKit Go.Sort Go.Rg
set_option maxRecDepth 100000

/-- can the book be true? -/
def RightP (B : Book) (W : World) (e : Ending) (C : World) : Prop :=
  ∃ r : Bool, e = .returned (.tuple #[.bool r, .int .i64 0]) ∧ Kept W C ∧ (r = true ↔ Can B)

set_option maxHeartbeats 4000000 in
theorem right_any (p q : Option Addr) (cap capt : Nat) (B : Book) (W : World) (h : BookAt W p q cap capt B) (hg : Nothing W) (hok : B.okB = true) :
    Calls Tryz.prog 8 #[B.val p q cap capt] W (RightP B W) := by
  unfold Book.val
  have hk0 : Kept W (W.alloc (Obj.cells #[.slice p B.boys.length cap, .int .i64 B.weeks, .slice q B.trials.length capt] 25)) := kept_alloc (kept_refl _) _
  have a0 : (W.alloc (Obj.cells #[.slice p B.boys.length cap, .int .i64 B.weeks, .slice q B.trials.length capt] 25)).cell? ⟨W.heap.size, 0, none⟩ = some (.slice p B.boys.length cap) := by go_simp
  have a1 : (W.alloc (Obj.cells #[.slice p B.boys.length cap, .int .i64 B.weeks, .slice q B.trials.length capt] 25)).cell? ⟨W.heap.size, 1, none⟩ = some (.int .i64 B.weeks) := by go_simp
  have a2 : (W.alloc (Obj.cells #[.slice p B.boys.length cap, .int .i64 B.weeks, .slice q B.trials.length capt] 25)).cell? ⟨W.heap.size, 2, none⟩ = some (.slice q B.trials.length capt) := by go_simp
  go_enter Tryz.func8, Tryz.ntmps8
  go_wp2_with fail
  generalize W.alloc (Obj.cells #[.slice p B.boys.length cap, .int .i64 B.weeks, .slice q B.trials.length capt] 25) = W1 at *
  refine (check_any p q cap capt B _ (h.kept hk0)).mono ?_
  rintro e W2 ⟨rfl, hk2⟩
  have hkW2 := kept_trans hk0 hk2
  replace a0 := kcell hk2 a0
  replace a1 := kcell hk2 a1
  replace a2 := kcell hk2 a2
  simp only [hok, if_true]
  go_wp2_with fail
  refine (newChoir_any p q cap capt B W W2 hok h hkW2).mono ?_
  rintro e W3 ⟨c, hcB, rfl, hk3, hat⟩
  have hcan := canBeTrue_any _ c W3 hat (fun b hb => hb.1) (hg.kept (kept_trans hkW2 hk3))
  have HCAN := Lib.hid hcan; clear hcan
  generalize hcv : c.val = cv at *
  go_wp2_with fail
  refine HCAN.out.mono ?_
  rintro e W4 ⟨r, hr, rfl, hk4⟩
  go_wp2_with fail
  refine bodyPost_ret (v := .tuple #[.bool r, .int .i64 0]) (by simp [results, Tryz.results8, go_sem]) rfl ?_
  subst hcB
  exact ⟨r, rfl, kept_trans (kept_trans hkW2 hk3) hk4, hr⟩
end Go.Proofs.YthkcgengohoboaaGreatDoor
set_option linter.all false
namespace Go.Proofs.YthkcgengohoboaaGreatDoor
open Go.RowKit Go.Sort Go.Rg
set_option maxRecDepth 100000

def wrongL (B : Book) : List Nat := (accL B B.boys.length).mergeSort fun x y => decide (x ≤ y)
def Sorts : Prop := ∀ (v : Value) (l : List Nat) (base : Nat) (V : World), base ≤ V.heap.size → V.ownsRow base 3 1 v l.length (intsV l) → l.length ≤ 1000 → Calls Tryz.prog 132 #[v] V fun e C => e = .returned (.tuple #[]) ∧ ListAt C v (l.mergeSort fun x y => decide (x ≤ y)) ∧ Below base V C

set_option maxHeartbeats 4000000 in
theorem wrongs_any (hsort : Sorts) (p q : Option Addr) (cap capt : Nat) (B : Book) (W : World) (h : BookAt W p q cap capt B) (hok : B.okB = true) :
    Calls Tryz.prog 30 #[B.val p q cap capt] W fun e C => ∃ v, e = .returned (.tuple #[v, .int .i64 0]) ∧ Kept W C ∧ ListAt C v (wrongL B) := by
  unfold Book.val
  have hk0 : Kept W (W.alloc (Obj.cells #[.slice p B.boys.length cap, .int .i64 B.weeks, .slice q B.trials.length capt] 25)) := kept_alloc (kept_refl _) _
  have a0 : (W.alloc (Obj.cells #[.slice p B.boys.length cap, .int .i64 B.weeks, .slice q B.trials.length capt] 25)).cell? ⟨W.heap.size, 0, none⟩ = some (.slice p B.boys.length cap) := by go_simp
  have a1 : (W.alloc (Obj.cells #[.slice p B.boys.length cap, .int .i64 B.weeks, .slice q B.trials.length capt] 25)).cell? ⟨W.heap.size, 1, none⟩ = some (.int .i64 B.weeks) := by go_simp
  have a2 : (W.alloc (Obj.cells #[.slice p B.boys.length cap, .int .i64 B.weeks, .slice q B.trials.length capt] 25)).cell? ⟨W.heap.size, 2, none⟩ = some (.slice q B.trials.length capt) := by go_simp
  go_enter Tryz.func30, Tryz.ntmps30
  go_wp2_with fail
  generalize W.alloc (Obj.cells #[.slice p B.boys.length cap, .int .i64 B.weeks, .slice q B.trials.length capt] 25) = W1 at *
  refine (check_any p q cap capt B _ (h.kept hk0)).mono ?_
  rintro e W2 ⟨rfl, hk2⟩
  have hkW2 := kept_trans hk0 hk2
  replace a0 := kcell hk2 a0
  replace a1 := kcell hk2 a1
  replace a2 := kcell hk2 a2
  simp only [hok, if_true]
  go_wp2_with fail
  refine (newChoir_any p q cap capt B W W2 hok h hkW2).mono ?_
  rintro e W3 ⟨c, hcB, rfl, hk3, hat⟩
  have hcan := wrong_any _ c W3 hat (fun b hb => hb.1) (h.laid.kept (kept_trans hkW2 hk3)) hsort
  have HCAN := Lib.hid hcan; clear hcan
  generalize hcv : c.val = cv at *
  go_wp2_with fail
  refine HCAN.out.mono ?_
  rintro e W4 ⟨v, rfl, hk4, hl⟩
  go_wp2_with fail
  refine bodyPost_ret (v := .tuple #[v, .int .i64 0]) (by simp [results, Tryz.results30, go_sem]) rfl ?_
  subst hcB
  exact ⟨v, rfl, kept_trans (kept_trans hkW2 hk3) hk4, hl⟩

end Go.Proofs.YthkcgengohoboaaGreatDoor
set_option linter.all false
namespace Go.Proofs.YthkcgengohoboaaGreatDoor
open Go.RowKit Go.Sort Go.Rg
set_option maxRecDepth 100000


end Go.Proofs.YthkcgengohoboaaGreatDoor
set_option linter.all false
namespace Go.Proofs.YthkcgengohoboaaGreatDoor
open Go.RowKit Go.Sort Go.Rg
set_option maxRecDepth 100000

/-- which lists of numbers are among those that are gone through -/
theorem mem_gen {lo hi : Nat → Int} {boy : Int} {lt : List Trial} {kp : List Int → Bool} : ∀ (d : Nat) (pre x : List Int), x ∈ gen lo hi boy lt kp d pre ↔
    ∃ suf : List Int, suf.length = d ∧ x = pre ++ suf ∧ kp x = true ∧ ∀ i v, suf[i]? = some v → lo (pre.length + i) ≤ v ∧ v ≤ hi (pre.length + i) ∧ fbAt boy lt (pre.length + i) v = false
  | 0, pre, x => by
    unfold gen
    constructor
    · intro h
      by_cases hk : kp pre = true
      · rw [if_pos hk] at h
        have : x = pre := by simpa using h
        subst this
        exact ⟨[], rfl, by simp, hk, fun i v hv => by simp at hv⟩
      · rw [if_neg hk] at h; simp at h
    · rintro ⟨suf, hl, rfl, hk, -⟩
      have : suf = [] := List.length_eq_zero_iff.1 hl
      subst this
      rw [List.append_nil] at hk ⊢
      rw [if_pos hk]; simp
  | d + 1, pre, x => by
    unfold gen
    simp only [List.mem_flatten, List.mem_map, List.mem_range]
    constructor
    · rintro ⟨l, ⟨m, hm, rfl⟩, hx⟩
      by_cases hf : fbAt boy lt pre.length (lo pre.length + (m : Int)) = true
      · rw [if_pos hf] at hx; simp at hx
      · rw [if_neg hf] at hx
        obtain ⟨suf, hl, rfl, hk, hs⟩ := (mem_gen d _ x).1 hx
        refine ⟨(lo pre.length + (m : Int)) :: suf, by simp [hl], by simp, hk, fun i v hv => ?_⟩
        cases i with
        | zero =>
          simp only [List.getElem?_cons_zero, Option.some.injEq] at hv
          subst hv
          refine ⟨by simp only [Nat.add_zero]; omega, by simp only [Nat.add_zero]; omega, by simpa using hf⟩
        | succ i =>
          have := hs i v (by simpa using hv)
          simp only [List.length_append, List.length_cons, List.length_nil] at this
          rw [show pre.length + (i + 1) = pre.length + (0 + 1) + i by omega]
          exact this
    · rintro ⟨suf, hl, rfl, hk, hs⟩
      match suf, hl with
      | v :: suf, hl =>
        have h0 := hs 0 v rfl
        simp only [Nat.add_zero] at h0
        refine ⟨_, ⟨(v - lo pre.length).toNat, by omega, rfl⟩, ?_⟩
        have e : lo pre.length + (((v - lo pre.length).toNat : Nat) : Int) = v := by omega
        rw [e, if_neg (by rw [h0.2.2]; simp)]
        refine (mem_gen d _ _).2 ⟨suf, by simpa using hl, by simp, hk, fun i u hu => ?_⟩
        have := hs (i + 1) u (by simpa using hu)
        simp only [List.length_append, List.length_cons, List.length_nil]
        rw [show pre.length + (0 + 1) + i = pre.length + (i + 1) by omega]
        exact this
theorem mem_truths {B : Book} {boy : Nat} {x : Boy} {n : List Int} : n ∈ B.truths boy x ↔
    n.length = 5 ∧ kpOf B boy x n = true ∧ ∀ i v, n[i]? = some v → x.lo i ≤ v ∧ v ≤ x.hi i ∧ fbAt boy B.trials i v = false := by
  unfold Book.truths
  rw [mem_gen]
  constructor
  · rintro ⟨suf, hl, rfl, hk, hs⟩
    simp only [List.nil_append, List.length_nil, Nat.zero_add] at hk hs ⊢
    exact ⟨hl, hk, hs⟩
  · rintro ⟨hl, hk, hs⟩
    exact ⟨n, hl, by simp, hk, fun i v hv => by simpa using hs i v hv⟩
/-- a book without trials -/
theorem mem_untried {B : Book} (hB : B.trials = []) {boy : Nat} {x : Boy} {n0 n1 n2 n3 n4 : Int} : [n0, n1, n2, n3, n4] ∈ B.truths boy x ↔
    (x.l0 ≤ n0 ∧ n0 ≤ x.l1) ∧ (x.h0 ≤ n1 ∧ n1 ≤ x.h1) ∧ (x.g0 ≤ n2 ∧ n2 ≤ x.g1) ∧ (x.t0 ≤ n3 ∧ n3 ≤ x.t1) ∧ (x.b0 ≤ n4 ∧ n4 ≤ x.b1) := by
  rw [mem_truths]
  have hk : kpOf B boy x [n0, n1, n2, n3, n4] = true := by
    unfold kpOf Book.told
    rw [hB]
    simp
  constructor
  · rintro ⟨-, -, h⟩
    have h0 := h 0 n0 rfl
    have h1 := h 1 n1 rfl
    have h2 := h 2 n2 rfl
    have h3 := h 3 n3 rfl
    have h4 := h 4 n4 rfl
    simp only [Boy.lo, Boy.hi] at h0 h1 h2 h3 h4
    exact ⟨⟨h0.1, h0.2.1⟩, ⟨h1.1, h1.2.1⟩, ⟨h2.1, h2.2.1⟩, ⟨h3.1, h3.2.1⟩, ⟨h4.1, h4.2.1⟩⟩
  · rintro ⟨⟨a0, a1⟩, ⟨b0, b1⟩, ⟨c0, c1⟩, ⟨d0, d1⟩, ⟨e0, e1⟩⟩
    refine ⟨rfl, hk, fun i v hv => ?_⟩
    rw [hB]
    match i, hv with
    | 0, hv => cases hv; exact ⟨a0, a1, rfl⟩
    | 1, hv => cases hv; exact ⟨b0, b1, rfl⟩
    | 2, hv => cases hv; exact ⟨c0, c1, rfl⟩
    | 3, hv => cases hv; exact ⟨d0, d1, rfl⟩
    | 4, hv => cases hv; exact ⟨e0, e1, rfl⟩
/-- a boy who is better: who gains more, or loses less, or whose highest note is higher at first -/
structure Better (x y : Boy) : Prop where
  l0 : x.l0 = y.l0
  l1 : x.l1 = y.l1
  t0 : x.t0 = y.t0
  t1 : x.t1 = y.t1
  b0 : x.b0 = y.b0
  b1 : x.b1 = y.b1
  h0 : x.h0 ≤ y.h0
  h1 : x.h1 ≤ y.h1
  g0 : x.g0 ≤ y.g0
  g1 : x.g1 ≤ y.g1
  ls : y.ls ≤ x.ls
/-- what the law says of the better boy -/
structure GainsAt (s0 s1 t0 t1 : Int) (fd gd : Bool) (k m : Int) : Prop where
  e : fd = gd
  a : s0 ≤ t0
  b : s1 ≤ t1
  c : k = 2 → m = 2
  d : k ≠ 0 → m ≠ 0
  k0 : 0 ≤ k
  k2 : k ≤ 2
  m0 : 0 ≤ m
  m2 : m ≤ 2
end Go.Proofs.YthkcgengohoboaaGreatDoor
set_option linter.all false
namespace Go.Proofs.YthkcgengohoboaaGreatDoor
open Go.RowKit Go.Sort Go.Rg
set_option maxRecDepth 100000

/-- fewer trials: more truths -/
theorem truths_mono {A B : Book} (hw : A.weeks = B.weeks) (ht : ∀ t, t ∈ A.trials → t ∈ B.trials) {boy : Nat} {x : Boy} {n : List Int} (h : n ∈ B.truths boy x) : n ∈ A.truths boy x := by
  rw [mem_truths] at h ⊢
  obtain ⟨h1, h2, h3⟩ := h
  refine ⟨h1, ?_, fun i v hv => ⟨(h3 i v hv).1, (h3 i v hv).2.1, ?_⟩⟩
  · unfold kpOf at h2 ⊢
    rw [hw]
    rw [List.all_eq_true] at h2 ⊢
    intro wk hwk
    have := h2 wk hwk
    simp only [Bool.not_eq_true', List.any_eq_false] at this ⊢
    intro t ht'
    refine this t ?_
    simp only [Book.told, List.mem_filter] at ht' ⊢
    exact ⟨ht t ht'.1, ht'.2⟩
  · have := (h3 i v hv).2.2
    unfold fbAt at this ⊢
    rw [List.any_eq_false] at this ⊢
    exact fun t ht' => this t (ht t ht')
/-- the book with the trials of one boy alone -/
def ownT (B : Book) (boy : Nat) : List Trial := B.trials.filter fun t => decide (t.boy = (boy : Int))
def apart (B : Book) (boy : Nat) : Book := ⟨B.boys, B.weeks, ownT B boy⟩
/-- one trial more: what is told is part of what was told -/
structure MoreAt (lo0 lo1 lo0' lo1' : Int) : Prop where
  a : lo0 ≤ lo0'
  b : lo1' ≤ lo1
end Go.Proofs.YthkcgengohoboaaGreatDoor
set_option linter.all false
namespace Go.Proofs.YthkcgengohoboaaGreatDoor
open Go.RowKit Go.Sort Go.Rg
set_option maxRecDepth 100000

section
variable {p q : Option Addr} {cap capt : Nat} {B : Book} {boy : Nat} {W : World} {x : Boy} {week note : Int}
end
end Go.Proofs.YthkcgengohoboaaGreatDoor
set_option linter.all false
namespace Go.Proofs.YthkcgengohoboaaGreatDoor
open Go.RowKit Go.Sort Go.Rg
set_option maxRecDepth 100000

/-- the trials, among the first j, whose numbers are not told -/
def keepL (ts : List Trial) (l : List Nat) : Nat → List Trial
  | 0 => []
  | j + 1 => keepL ts l j ++ (match ts[j]? with
    | some t => if j ∈ l then [] else [t]
    | none => [])
theorem keepL_len (ts : List Trial) (l : List Nat) : ∀ j, (keepL ts l j).length ≤ j
  | 0 => by simp [keepL]
  | j + 1 => by
    have := keepL_len ts l j
    unfold keepL
    rw [List.length_append]
    have h : (match ts[j]? with | some t => if j ∈ l then [] else [t] | none => []).length ≤ 1 := by
      split
      · split <;> simp
      · simp
    omega
def Book.less (B : Book) (l : List Nat) : Book := ⟨B.boys, B.weeks, keepL B.trials l B.trials.length⟩


end Go.Proofs.YthkcgengohoboaaGreatDoor
set_option linter.all false
namespace Go.Proofs.YthkcgengohoboaaGreatDoor

/-- the numbers below n of which something is so -/
def F (n : Nat) (p : Nat → Bool) : List Nat := (List.range n).filter p
theorem F_succ (n : Nat) (p : Nat → Bool) : F (n + 1) p = F n p ++ (if p n then [n] else []) := by
  unfold F
  rw [List.range_succ, List.filter_append]
  congr 1
  simp only [List.filter_cons, List.filter_nil]
theorem F_mem {n k : Nat} {p : Nat → Bool} : k ∈ F n p ↔ k < n ∧ p k = true := by simp [F]
theorem F_lt (n : Nat) (p : Nat → Bool) : (F n p).Pairwise (· < ·) := (List.pairwise_lt_range).filter _
theorem F_le {n : Nat} {p q : Nat → Bool} (h : ∀ k, k < n → p k = true → q k = true) : (F n p).length ≤ (F n q).length := by
  induction n with
  | zero => simp [F]
  | succ n ih =>
    have h1 := ih (fun k hk => h k (by omega))
    have h2 := h n (by omega)
    rw [F_succ, F_succ, List.length_append, List.length_append]
    cases hp : p n with
    | false => simp; omega
    | true => rw [h2 hp]; simp; omega
theorem F_eq {n : Nat} {p q : Nat → Bool} (h : ∀ k, k < n → p k = true → q k = true) (e : (F n p).length = (F n q).length) : ∀ k, k < n → q k = true → p k = true := by
  induction n with
  | zero => intro k hk; omega
  | succ n ih =>
    have h0 := F_le (n := n) (p := p) (q := q) (fun k hk => h k (by omega))
    have h2 := h n (by omega)
    rw [F_succ, F_succ, List.length_append, List.length_append] at e
    intro k hk hq
    cases hp : p n with
    | false =>
      cases hqn : q n with
      | false =>
        rw [hp, hqn] at e
        simp at e
        by_cases hkn : k = n
        · subst hkn; rw [hqn] at hq; cases hq
        · exact ih (fun k hk => h k (by omega)) e k (by omega) hq
      | true => rw [hp, hqn] at e; simp at e; omega
    | true =>
      rw [hp, h2 hp] at e
      simp at e
      by_cases hkn : k = n
      · subst hkn; exact hp
      · exact ih (fun k hk => h k (by omega)) e k (by omega) hq
theorem F_or {n : Nat} {p q : Nat → Bool} (h : ∀ k, k < n → p k = true → q k = false) : (F n fun k => p k || q k).length = (F n p).length + (F n q).length := by
  induction n with
  | zero => simp [F]
  | succ n ih =>
    have h1 := ih (fun k hk => h k (by omega))
    have h2 := h n (by omega)
    rw [F_succ, F_succ, F_succ, List.length_append, List.length_append, List.length_append, h1]
    cases hp : p n with
    | false => cases hq : q n <;> simp <;> omega
    | true => rw [h2 hp]; simp; omega
def anyB (M : Nat → Nat → Bool) (m k : Nat) : Bool := (List.range m).any fun i => M i k
theorem anyB_succ (M : Nat → Nat → Bool) (m k : Nat) : anyB M (m + 1) k = (anyB M m k || M m k) := by
  unfold anyB
  rw [List.range_succ, List.any_append]
  simp
theorem anyB_true {M : Nat → Nat → Bool} {m k : Nat} : anyB M m k = true ↔ ∃ i, i < m ∧ M i k = true := by simp [anyB]
theorem F_any {n : Nat} {own : Nat → Nat} {M : Nat → Nat → Bool} (hM : ∀ i k, k < n → M i k = true → own k = i) (m : Nat) :
    (F n (anyB M (m + 1))).length = (F n (anyB M m)).length + (F n (M m)).length := by
  rw [← F_or]
  · congr 2
    funext k
    exact anyB_succ M m k
  · intro k hk hp
    obtain ⟨i, hi, h1⟩ := anyB_true.1 hp
    cases h : M m k with
    | false => rfl
    | true =>
      have := hM i k hk h1
      have := hM m k hk h
      omega

theorem lex_iff : ∀ (a b : List Nat), a.Pairwise (· < ·) → b.Pairwise (· < ·) → a.length = b.length → (lexC a b < 0 ↔ ∃ k, k ∈ a ∧ ¬ k ∈ b ∧ ∀ j, j < k → (j ∈ a ↔ j ∈ b))
  | [], [], _, _, _ => by simp [lexC]
  | [], _ :: _, _, _, h => by simp at h
  | _ :: _, [], _, _, h => by simp at h
  | x :: a, y :: b, ha, hb, h => by
    rw [List.pairwise_cons] at ha hb
    have ih := lex_iff a b ha.2 hb.2 (by simpa using h)
    have hx := ha.1
    have hy := hb.1
    simp only [lexC]
    rcases Nat.lt_trichotomy x y with e | e | e
    · have h1 : cmpI (x : Int) y = -1 := by unfold cmpI; rw [if_pos (by omega)]
      rw [h1]
      refine ⟨fun _ => ⟨x, by simp, ?_, fun j hj => ?_⟩, fun _ => by simp⟩
      · intro hm
        rcases List.mem_cons.1 hm with e2 | e2
        · omega
        · have := hy x e2; omega
      · constructor
        · intro hm
          rcases List.mem_cons.1 hm with e2 | e2
          · omega
          · have := hx j e2; omega
        · intro hm
          rcases List.mem_cons.1 hm with e2 | e2
          · omega
          · have := hy j e2; omega
    · subst e
      have h1 : cmpI (x : Int) x = 0 := by simp [cmpI]
      rw [h1, if_pos rfl, ih]
      constructor
      · rintro ⟨k, k1, k2, k3⟩
        have hxk := hx k k1
        refine ⟨k, List.mem_cons_of_mem _ k1, fun hm => ?_, fun j hj => ?_⟩
        · rcases List.mem_cons.1 hm with e2 | e2
          · omega
          · exact k2 e2
        · rw [List.mem_cons, List.mem_cons, k3 j hj]
      · rintro ⟨k, k1, k2, k3⟩
        have k1' : k ∈ a := by
          rcases List.mem_cons.1 k1 with e2 | e2
          · subst e2; exact absurd List.mem_cons_self k2
          · exact e2
        refine ⟨k, k1', fun hm => k2 (List.mem_cons_of_mem _ hm), fun j hj => ?_⟩
        have h3 := k3 j hj
        rw [List.mem_cons, List.mem_cons] at h3
        constructor
        · intro hm
          have := hx j hm
          rcases h3.1 (.inr hm) with e2 | e2
          · omega
          · exact e2
        · intro hm
          have := hy j hm
          rcases h3.2 (.inr hm) with e2 | e2
          · omega
          · exact e2
    · have h1 : cmpI (x : Int) y = 1 := by unfold cmpI; rw [if_neg (by omega), if_pos (by omega)]
      rw [h1]
      refine ⟨fun h => by simp at h, ?_⟩
      rintro ⟨k, k1, k2, k3⟩
      exfalso
      have hk : x ≤ k := by
        rcases List.mem_cons.1 k1 with e2 | e2
        · omega
        · have := hx k e2; omega
      have h4 := (k3 y (by omega)).2 List.mem_cons_self
      rcases List.mem_cons.1 h4 with e2 | e2
      · omega
      · have := hx y e2; omega
theorem ord_cases {a b : List Nat} (h : ordC a b < 0) : a.length < b.length ∨ (a.length = b.length ∧ lexC a b < 0) := by
  unfold ordC at h
  by_cases e : cmpI (a.length : Int) b.length = 0
  · rw [if_pos e] at h
    refine .inr ⟨?_, h⟩
    unfold cmpI at e
    split at e
    · cases e
    · split at e
      · cases e
      · omega
  · rw [if_neg e] at h
    left
    unfold cmpI at h
    split at h
    · omega
    · split at h <;> simp at h
theorem ord_less {a b : List Nat} (h : a.length < b.length) : ordC a b < 0 := by
  have h1 : cmpI (a.length : Int) b.length = -1 := by unfold cmpI; rw [if_pos (by omega)]
  unfold ordC
  rw [h1]; simp
theorem ord_lex {a b : List Nat} (h : a.length = b.length) (h2 : lexC a b < 0) : ordC a b < 0 := by
  have h1 : cmpI (a.length : Int) b.length = 0 := by unfold cmpI; rw [if_neg (by omega), if_neg (by omega)]
  unfold ordC
  rw [h1, if_pos rfl]; exact h2

/-- the best for each is the best for all -/
theorem best_all {n nb : Nat} {own : Nat → Nat} {M V : Nat → Nat → Bool} (hM : ∀ i k, k < n → M i k = true → own k = i) (hV : ∀ i k, k < n → V i k = true → own k = i)
    (hmin : ∀ i, i < nb → ¬ ordC (F n (V i)) (F n (M i)) < 0) {o : Nat → Bool} (ho : ∀ i k, i < nb → k < n → V i k = true → o k = true) :
    ¬ ordC (F n o) (F n (anyB M nb)) < 0 := by
  have hle : ∀ i, i < nb → (F n (M i)).length ≤ (F n (V i)).length := fun i hi => by
    rcases Nat.lt_or_ge (F n (V i)).length (F n (M i)).length with h | h
    · exact absurd (ord_less h) (hmin i hi)
    · exact h
  have hA : ∀ m, m ≤ nb → (F n (anyB M m)).length ≤ (F n (anyB V m)).length := by
    intro m
    induction m with
    | zero => intro _; exact F_le (fun k _ h => by simp [anyB] at h)
    | succ m ih =>
      intro hm
      rw [F_any hM, F_any hV]
      have := ih (by omega)
      have := hle m (by omega)
      omega
  have hE : ∀ m, m ≤ nb → (F n (anyB M m)).length = (F n (anyB V m)).length → ∀ i, i < m → (F n (M i)).length = (F n (V i)).length := by
    intro m
    induction m with
    | zero => intro _ _ i hi; omega
    | succ m ih =>
      intro hm he i hi
      rw [F_any hM, F_any hV] at he
      have h1 := hA m (by omega)
      have h2 := hle m (by omega)
      by_cases e : i = m
      · subst e; omega
      · exact ih (by omega) (by omega) i (by omega)
  have hsub : ∀ k, k < n → anyB V nb k = true → o k = true := fun k hk h => by
    obtain ⟨i, hi, h1⟩ := anyB_true.1 h
    exact ho i k hi hk h1
  have hVo := F_le hsub
  have hMV := hA nb (Nat.le_refl _)
  intro hlt
  rcases ord_cases hlt with h | ⟨h, hlex⟩
  · omega
  · have hall := F_eq hsub (by omega)
    have hl := hE nb (Nat.le_refl _) (by omega)
    obtain ⟨k, k1, k2, k3⟩ := (lex_iff _ _ (F_lt _ _) (F_lt _ _) h).1 hlex
    obtain ⟨hkn, hko⟩ := F_mem.1 k1
    obtain ⟨i, hi, hvi⟩ := anyB_true.1 (hall k hkn hko)
    refine hmin i hi (ord_lex (hl i hi).symm ((lex_iff _ _ (F_lt _ _) (F_lt _ _) (hl i hi).symm).2 ⟨k, F_mem.2 ⟨hkn, hvi⟩, fun hm => k2 (F_mem.2 ⟨hkn, anyB_true.2 ⟨i, hi, (F_mem.1 hm).2⟩⟩), fun j hj => ?_⟩))
    have h3 := k3 j hj
    rw [F_mem, F_mem] at h3 ⊢
    constructor
    · rintro ⟨hjn, hvj⟩
      obtain ⟨i', hi', hm'⟩ := anyB_true.1 (h3.1 ⟨hjn, ho i j hi hjn hvj⟩).2
      have e1 := hV i j hjn hvj
      have e2 := hM i' j hjn hm'
      have : i' = i := by omega
      subst this
      exact ⟨hjn, hm'⟩
    · rintro ⟨hjn, hmj⟩
      have h4 := (h3.2 ⟨hjn, anyB_true.2 ⟨i, hi, hmj⟩⟩).2
      obtain ⟨i', hi', hv'⟩ := anyB_true.1 (hall j hjn h4)
      have e1 := hM i j hjn hmj
      have e2 := hV i' j hjn hv'
      have : i' = i := by omega
      subst this
      exact ⟨hjn, hv'⟩
theorem ordC_irrefl (a : List Nat) : ¬ ordC a a < 0 := by
  intro h
  rcases ord_cases h with h | ⟨_, h⟩
  · omega
  · have : ∀ l : List Nat, lexC l l = 0 := by
      intro l
      induction l with
      | nil => rfl
      | cons a l ih => simp [lexC, cmpI, ih]
    rw [this] at h; omega
end Go.Proofs.YthkcgengohoboaaGreatDoor
set_option linter.all false
namespace Go.Proofs.YthkcgengohoboaaGreatDoor

theorem okB_trials {B : Book} (h : B.okB = true) : B.trials.length ≤ 6 ∧ ∀ t ∈ B.trials, (0 ≤ t.boy ∧ t.boy ≤ (B.boys.length : Int) - 1) ∧ (0 ≤ t.week ∧ t.week ≤ B.weeks - 1) ∧ (0 ≤ t.sang ∧ t.sang ≤ 1) := by
  simp only [Book.okB, inB, Bool.and_eq_true, decide_eq_true_eq, List.all_eq_true] at h
  refine ⟨by omega, fun t ht => ?_⟩
  have := h.2 t ht
  simp only [validTrialB, inB, Bool.and_eq_true, decide_eq_true_eq] at this
  omega
theorem truths_iff {B : Book} (h : B.okB = true) {boy : Nat} {x : Boy} {n : List Int} : n ∈ B.truths boy x ↔ n ∈ (Book.mk B.boys B.weeks []).truths boy x ∧ ∀ t ∈ B.trials, t.boy = (boy : Int) → TBn n x.ls t = false := by
  obtain ⟨-, hT⟩ := okB_trials h
  constructor
  · intro hn
    refine ⟨truths_mono (A := Book.mk B.boys B.weeks []) (B := B) rfl (fun t ht => by cases ht) hn, fun t ht hb => ?_⟩
    obtain ⟨-, hk, -⟩ := mem_truths.1 hn
    obtain ⟨h1, h2, h3⟩ := hT t ht
    unfold kpOf at hk
    rw [List.all_eq_true] at hk
    have h4 := hk t.week.toNat (List.mem_range.2 (by omega))
    simp only [Bool.not_eq_true', List.any_eq_false] at h4
    have h5 := h4 t (List.mem_filter.2 ⟨ht, by simp [hb]; omega⟩)
    unfold TBn
    simpa using h5
  · rintro ⟨hn, hb⟩
    obtain ⟨n0, n1, n2, n3, n4, rfl⟩ := truths_len hn
    obtain ⟨h1, h2, h3⟩ := mem_truths.1 hn
    refine mem_truths.2 ⟨h1, ?_, fun i v hv => ⟨(h3 i v hv).1, (h3 i v hv).2.1, ?_⟩⟩
    · unfold kpOf
      rw [List.all_eq_true]
      intro wk hwk
      simp only [Bool.not_eq_true', List.any_eq_false]
      intro t ht
      obtain ⟨ht1, ht2⟩ := List.mem_filter.1 ht
      simp only [Bool.and_eq_true, decide_eq_true_eq] at ht2
      have := hb t ht1 ht2.1
      unfold TBn at this
      simpa using this
    · unfold fbAt
      rw [List.any_eq_false]
      intro t ht hf
      simp only [forbidsB, Bool.and_eq_true, Bool.or_eq_true, decide_eq_true_eq] at hf
      obtain ⟨⟨f1, f2⟩, f3⟩ := hf
      have h4 := hb t ht f1
      have h5 := hT t ht
      have hs : (t.sang == 1) = true := by simp; omega
      unfold TBn TB beliesB singsB at h4
      rw [hs] at h4
      simp only [List.getD_cons_zero, List.getD_cons_succ] at h4
      rcases f3 with ⟨e, f⟩ | ⟨e, f⟩
      · have e0 : i = 0 := by omega
        subst e0
        cases hv
        have : decide (n0 ≤ t.note) = false := by simp; omega
        rw [this] at h4
        simp at h4
      · have e0 : i = 4 := by omega
        subst e0
        cases hv
        have : decide (t.week < n4) = false := by simp; omega
        rw [this] at h4
        simp at h4
theorem keepL_mem {ts : List Trial} {l : List Nat} {t : Trial} : ∀ {j : Nat}, t ∈ keepL ts l j ↔ ∃ k, k < j ∧ ts[k]? = some t ∧ ¬ k ∈ l
  | 0 => by simp [keepL]
  | j + 1 => by
    have ih := keepL_mem (ts := ts) (l := l) (t := t) (j := j)
    unfold keepL
    rw [List.mem_append, ih]
    constructor
    · rintro (⟨k, h1, h2⟩ | h)
      · exact ⟨k, by omega, h2⟩
      · cases hj : ts[j]? with
        | none => rw [hj] at h; cases h
        | some u =>
          rw [hj] at h
          by_cases hm : j ∈ l
          · simp [hm] at h
          · simp [hm] at h
            subst h
            exact ⟨j, by omega, hj, hm⟩
    · rintro ⟨k, h1, h2, h3⟩
      by_cases e : k = j
      · subst e
        right
        rw [h2]
        simp [h3]
      · exact .inl ⟨k, by omega, h2, h3⟩
theorem less_ok {B : Book} (h : B.okB = true) (l : List Nat) : (B.less l).okB = true := by
  have hl := keepL_len B.trials l B.trials.length
  unfold Book.less Book.okB
  simp only [Book.okB, Bool.and_eq_true, decide_eq_true_eq, List.all_eq_true] at h ⊢
  refine ⟨⟨⟨h.1.1.1, by omega⟩, h.1.2⟩, fun t ht => ?_⟩
  obtain ⟨k, -, hk, -⟩ := keepL_mem.1 ht
  exact h.2 t (List.mem_of_getElem? hk)
theorem less_iff {B : Book} (h : B.okB = true) (l : List Nat) {boy : Nat} {x : Boy} {n : List Int} : n ∈ (B.less l).truths boy x ↔ n ∈ (Book.mk B.boys B.weeks []).truths boy x ∧ ∀ k ∈ belL B boy x n B.trials.length, k ∈ l := by
  rw [truths_iff (less_ok h l)]
  refine and_congr_right fun _ => ?_
  constructor
  · intro h1 k hk
    obtain ⟨hk1, hk2⟩ := F_mem.1 hk
    unfold belB at hk2
    cases ht : B.trials[k]? with
    | none => rw [ht] at hk2; cases hk2
    | some t =>
      rw [ht] at hk2
      simp only [Bool.and_eq_true, decide_eq_true_eq] at hk2
      by_cases hm : k ∈ l
      · exact hm
      · have := h1 t (keepL_mem.2 ⟨k, hk1, ht, hm⟩) hk2.1
        rw [hk2.2] at this; cases this
  · intro h1 t ht hb
    obtain ⟨k, hk, hkt, hm⟩ := keepL_mem.1 ht
    cases hv : TBn n x.ls t with
    | false => rfl
    | true => exact absurd (h1 k (F_mem.2 ⟨hk, by unfold belB; rw [hkt]; simp [hb, hv]⟩)) hm
theorem can_less {B : Book} (h : B.okB = true) (l : List Nat) : Can (B.less l) ↔ ∀ (boy : Nat) (x : Boy), B.boys[boy]? = some x → ∃ n, n ∈ (Book.mk B.boys B.weeks []).truths boy x ∧ ∀ k ∈ belL B boy x n B.trials.length, k ∈ l := by
  constructor
  · intro hc boy x hx
    obtain ⟨n, hn⟩ := List.exists_mem_of_ne_nil _ (hc boy x hx)
    exact ⟨n, (less_iff h l).1 hn⟩
  · intro hc boy x hx
    obtain ⟨n, hn⟩ := hc boy x hx
    exact List.ne_nil_of_mem ((less_iff h l).2 hn)
theorem can_iff {B : Book} (h : B.okB = true) : Can B ↔ ∀ (boy : Nat) (x : Boy), B.boys[boy]? = some x → ∃ n, n ∈ (Book.mk B.boys B.weeks []).truths boy x ∧ belL B boy x n B.trials.length = [] := by
  constructor
  · intro hc boy x hx
    obtain ⟨n, hn⟩ := List.exists_mem_of_ne_nil _ (hc boy x hx)
    obtain ⟨h1, h2⟩ := (truths_iff h).1 hn
    refine ⟨n, h1, List.eq_nil_iff_forall_not_mem.2 fun k hk => ?_⟩
    obtain ⟨hk1, hk2⟩ := F_mem.1 hk
    unfold belB at hk2
    cases ht : B.trials[k]? with
    | none => rw [ht] at hk2; cases hk2
    | some t =>
      rw [ht] at hk2
      simp only [Bool.and_eq_true, decide_eq_true_eq] at hk2
      rw [h2 t (List.mem_of_getElem? ht) hk2.1] at hk2
      cases hk2.2
  · intro hc boy x hx
    obtain ⟨n, hn, he⟩ := hc boy x hx
    refine List.ne_nil_of_mem ((truths_iff h).2 ⟨hn, fun t ht hb => ?_⟩)
    obtain ⟨k, hk⟩ := List.getElem?_of_mem ht
    cases hv : TBn n x.ls t with
    | false => rfl
    | true =>
      have : k ∈ belL B boy x n B.trials.length := F_mem.2 ⟨(List.getElem?_eq_some_iff.1 hk).1, by unfold belB; rw [hk]; simp [hb, hv]⟩
      rw [he] at this; cases this
end Go.Proofs.YthkcgengohoboaaGreatDoor
set_option linter.all false
namespace Go.Proofs.YthkcgengohoboaaGreatDoor
open Go.RowKit Go.Sort Go.Rg
set_option maxRecDepth 100000

def rightT (ks : List Know) (t : Trial) : Trial := ⟨t.boy, t.week, t.note, if knowsB (ks.getD t.boy.toNat ⟨0, 0, []⟩) t.week t.note then 1 else 0⟩
def Book.rightly (B : Book) (ks : List Know) : Book := ⟨B.boys, B.weeks, B.trials.map (rightT ks)⟩
/-- knowledge that can be read -/
def KAt (w : World) (v : Value) (ks : List Know) : Prop :=
  ∃ p cap, v = .slice p ks.length cap ∧ (ks = [] ∨ ∃ b, p = some ⟨b, 0, none⟩ ∧ ∀ i k, ks[i]? = some k → ∃ tv, w.cell? ⟨b, i * 3, none⟩ = some (.int .i64 k.low) ∧ w.cell? ⟨b, i * 3 + 1, none⟩ = some (.int .i64 k.brk) ∧ w.cell? ⟨b, i * 3 + 2, none⟩ = some tv ∧ NumsAt w tv k.tops)
theorem KAt.kept {w w' : World} {v : Value} {ks : List Know} (h : KAt w v ks) (k : Kept w w') : KAt w' v ks := by
  obtain ⟨p, cap, e, h⟩ := h
  refine ⟨p, cap, e, h.imp id fun ⟨b, e2, hc⟩ => ⟨b, e2, fun i kk hi => ?_⟩⟩
  obtain ⟨tv, a1, a2, a3, a4⟩ := hc i kk hi
  exact ⟨tv, kcell k a1, kcell k a2, kcell k a3, a4.kept k⟩
theorem KAt.of_row {w : World} {base : Nat} {v : Value} {ks : List Know} (h : KRow w base v ks) : KAt w v ks := by
  obtain ⟨xs, h1, h2⟩ := h
  have hc := h1
  rcases h1.2 with ⟨rfl, h0⟩ | ⟨g, cap, cur, rfl, _, hg, _⟩
  · have : ks = [] := List.length_eq_zero_iff.1 h0
    subst this
    exact ⟨none, 0, rfl, .inl rfl⟩
  · refine ⟨_, cap, rfl, .inr ⟨g, rfl, fun i kk hi => ?_⟩⟩
    have hl : i < ks.length := (List.getElem?_eq_some_iff.1 hi).1
    obtain ⟨tv, a1, a2, a3, a4, -⟩ := h2 i kk hi
    refine ⟨tv, ?_, ?_, ?_, a4⟩
    · rw [hc.cellAt (i * 3) (by omega)]; simp [List.getD, a1]
    · rw [hc.cellAt (i * 3 + 1) (by omega)]; simp [List.getD, a2]
    · rw [hc.cellAt (i * 3 + 2) (by omega)]; simp [List.getD, a3]

theorem tr_news {w : World} {g : Nat} {a b c d : Value} (h0 : w.cell? ⟨g, 0, none⟩ = some a) (h1 : w.cell? ⟨g, 1, none⟩ = some b) (h2 : w.cell? ⟨g, 2, none⟩ = some c) (h3 : w.cell? ⟨g, 3, none⟩ = some d) : ∀ (k : Nat) (u : Value), [a, b, c, d][k]? = some u → w.cell? ((⟨g, 0, none⟩ : Addr).add k) = some u := by
  intro k u hu
  rw [add_cell]
  match k, hu with
  | 0, hu => cases hu; exact h0
  | 1, hu => cases hu; exact h1
  | 2, hu => cases hu; exact h2
  | 3, hu => cases hu; exact h3
set_option maxHeartbeats 8000000 in
theorem rightly_any (p q : Option Addr) (cap capt : Nat) (B : Book) (lv : Value) (ks : List Know) (W : World) (h : BookAt W p q cap capt B) (hok : B.okB = true) (hl : KAt W lv ks) (hkl : ks.length = B.boys.length) (hkt : ∀ k ∈ ks, k.tops.length = B.weeks.toNat) :
    Calls Tryz.prog 34 #[B.val p q cap capt, lv] W fun e C => ∃ q' capt', e = .returned ((B.rightly ks).val p q' cap capt') ∧ Kept W C ∧ BookAt C p q' cap capt' (B.rightly ks) := by
  obtain ⟨⟨q1, q2, q3, q4, q5⟩, -, hto⟩ := okB_boys hok
  obtain ⟨h6, hts⟩ := okB_trials hok
  have hk0 : Kept W ((W.alloc (Obj.cells #[.slice p B.boys.length cap, .int .i64 B.weeks, .slice q B.trials.length capt] 25)).alloc (Obj.cells #[.slice none 0 0, .int .i64 0, .slice none 0 0] 25)) := kept_alloc (kept_alloc (kept_refl _) _) _
  unfold Book.val
  have hz0 : ((W.alloc (Obj.cells #[.slice p B.boys.length cap, .int .i64 B.weeks, .slice q B.trials.length capt] 25)).alloc (Obj.cells #[.slice none 0 0, .int .i64 0, .slice none 0 0] 25)).heap.size = W.heap.size + 1 + 1 := by simp
  have s0 : ((W.alloc (Obj.cells #[.slice p B.boys.length cap, .int .i64 B.weeks, .slice q B.trials.length capt] 25)).alloc (Obj.cells #[.slice none 0 0, .int .i64 0, .slice none 0 0] 25)).cell? ⟨W.heap.size, 0, none⟩ = some (.slice p B.boys.length cap) := by go_simp
  have s1 : ((W.alloc (Obj.cells #[.slice p B.boys.length cap, .int .i64 B.weeks, .slice q B.trials.length capt] 25)).alloc (Obj.cells #[.slice none 0 0, .int .i64 0, .slice none 0 0] 25)).cell? ⟨W.heap.size, 1, none⟩ = some (.int .i64 B.weeks) := by go_simp
  have s2 : ((W.alloc (Obj.cells #[.slice p B.boys.length cap, .int .i64 B.weeks, .slice q B.trials.length capt] 25)).alloc (Obj.cells #[.slice none 0 0, .int .i64 0, .slice none 0 0] 25)).cell? ⟨W.heap.size, 2, none⟩ = some (.slice q B.trials.length capt) := by go_simp
  have r0 : ((W.alloc (Obj.cells #[.slice p B.boys.length cap, .int .i64 B.weeks, .slice q B.trials.length capt] 25)).alloc (Obj.cells #[.slice none 0 0, .int .i64 0, .slice none 0 0] 25)).cell? ⟨W.heap.size + 1, 0, none⟩ = some (.slice none 0 0) := by go_simp
  have r1 : ((W.alloc (Obj.cells #[.slice p B.boys.length cap, .int .i64 B.weeks, .slice q B.trials.length capt] 25)).alloc (Obj.cells #[.slice none 0 0, .int .i64 0, .slice none 0 0] 25)).cell? ⟨W.heap.size + 1, 1, none⟩ = some (.int .i64 0) := by go_simp
  have r2 : ((W.alloc (Obj.cells #[.slice p B.boys.length cap, .int .i64 B.weeks, .slice q B.trials.length capt] 25)).alloc (Obj.cells #[.slice none 0 0, .int .i64 0, .slice none 0 0] 25)).cell? ⟨W.heap.size + 1, 2, none⟩ = some (.slice none 0 0) := by go_simp
  have rf : ∀ i, ((W.alloc (Obj.cells #[.slice p B.boys.length cap, .int .i64 B.weeks, .slice q B.trials.length capt] 25)).alloc (Obj.cells #[.slice none 0 0, .int .i64 0, .slice none 0 0] 25)).frozen? ⟨W.heap.size + 1, i, none⟩ = false := by intro i; go_simp
  have HLV := Lib.hid hl
  obtain ⟨pl, capl, el, hl'⟩ := hl
  subst el
  obtain ⟨bk, rfl, -⟩ := hl'.resolve_left (fun e => by rw [e] at hkl; simp at hkl; omega)
  have HB := Lib.hid h; clear h
  have HTO := Lib.hid hto; clear hto
  have HTS := Lib.hid hts; clear hts
  have HKT := Lib.hid hkt; clear hkt
  have HKL := Lib.hid hkl; clear hkl
  go_enter Tryz.func34, Tryz.ntmps34
  go_wp2_with fail
  generalize ((W.alloc (Obj.cells #[.slice p B.boys.length cap, .int .i64 B.weeks, .slice q B.trials.length capt] 25)).alloc (Obj.cells #[.slice none 0 0, .int .i64 0, .slice none 0 0] 25)) = V3 at *
  rw [← hz0]
  have HZ0 := Lib.hid hz0; clear hz0
  have hG0 : Gathers V3 (V3.alloc (Obj.cells #[.slice p B.boys.length cap, .int .i64 B.weeks, .slice none 0 0] 25)) V3.heap.size p B.boys.length cap B.weeks (.slice none 0 0) [] := ⟨kept_alloc (kept_refl _) _, by go_simp, by go_simp, by go_simp, by go_simp, World.ownsRow_nil _ _ _ _⟩
  go_loopw [6, 7] (fun i yv V => ∃ (j : Nat) (v : Value), j ≤ B.trials.length ∧ i = .int .i64 j ∧ Gathers V3 V V3.heap.size p B.boys.length cap B.weeks v ((B.trials.take j).map (rightT ks))) (fun i yv V => B.trials.length - (intOf i).toNat)
  case atStart => exact ⟨0, .slice none 0 0, by omega, by go_num, by simpa using hG0⟩
  case round =>
    obtain ⟨j, v, hj, rfl, hG⟩ := hrel
    have a2 := kcell hG.kept s2
    by_cases hlt : j < B.trials.length
    · obtain ⟨bt, ot, rfl, htr⟩ : ∃ b o, q = some ⟨b, o, none⟩ ∧ TrialsAt wr b o B.trials := by
        rcases ((HB.out.kept hk0).kept hG.kept).trials with e | h
        · rw [e] at hlt; cases hlt
        · exact h
      obtain ⟨t, hget⟩ : ∃ t, B.trials[j]? = some t := ⟨_, List.getElem?_eq_getElem hlt⟩
      obtain ⟨d0, d1, d2, d3⟩ := htr.2 j t hget
      obtain ⟨⟨b1, b2⟩, ⟨wk1, wk2⟩, -⟩ := HTS.out t (List.mem_of_getElem? hget)
      obtain ⟨bi, hbi⟩ := Int.eq_ofNat_of_zero_le b1
      obtain ⟨wi, hwi⟩ := Int.eq_ofNat_of_zero_le wk1
      have hltI : (j : Int) < B.trials.length := by omega
      have hxz := Go.Ai.lt_of_cell hG.c0
      have hzq := Go.Ai.lt_of_cell d0
      have hstep : (B.trials.take (j + 1)).map (rightT ks) = (B.trials.take j).map (rightT ks) ++ [rightT ks t] := by
        rw [List.take_succ, hget, List.map_append]; rfl
      have hgL : ((B.trials.take j).map (rightT ks)).length = j := by simp; omega
      have hbk : bi < ks.length := by rw [HKL.out]; omega
      obtain ⟨k, hkget⟩ : ∃ k, ks[bi]? = some k := ⟨_, List.getElem?_eq_getElem hbk⟩
      have hkd : ks.getD t.boy.toNat ⟨0, 0, []⟩ = k := by rw [hbi]; simp [List.getD, hkget]
      have hwl : wi < k.tops.length := by rw [HKT.out k (List.mem_of_getElem? hkget)]; omega
      have hrt : rightT ks t = ⟨t.boy, t.week, t.note, if knowsB k t.week t.note then 1 else 0⟩ := by unfold rightT; rw [hkd]
      have HKA := Lib.hid ((HLV.out.kept hk0).kept hG.kept)
      obtain ⟨tp, tw, tn, tg⟩ := t
      simp only at *
      subst hbi
      subst hwi
      have HGG := Lib.hid hG
      have HST := Lib.hid hstep
      have HRT := Lib.hid hrt
      clear hstep hG hget b2 wk2 hkd hrt hgL
      generalize hTSS : (B.trials.take j).map (rightT ks) = ts at *
      go_wp2_with fail
      have kWA : Kept wr (wr.alloc (Obj.cells #[.int .i64 bi, .int .i64 wi, .int .i64 tn, .int .i64 0] 49)) := kept_alloc (kept_refl _) _
      have y0 : (wr.alloc (Obj.cells #[.int .i64 bi, .int .i64 wi, .int .i64 tn, .int .i64 0] 49)).cell? ⟨wr.heap.size, 0, none⟩ = some (.int .i64 bi) := by go_simp
      have y1 : (wr.alloc (Obj.cells #[.int .i64 bi, .int .i64 wi, .int .i64 tn, .int .i64 0] 49)).cell? ⟨wr.heap.size, 1, none⟩ = some (.int .i64 wi) := by go_simp
      have y2 : (wr.alloc (Obj.cells #[.int .i64 bi, .int .i64 wi, .int .i64 tn, .int .i64 0] 49)).cell? ⟨wr.heap.size, 2, none⟩ = some (.int .i64 tn) := by go_simp
      have y3 : (wr.alloc (Obj.cells #[.int .i64 bi, .int .i64 wi, .int .i64 tn, .int .i64 0] 49)).cell? ⟨wr.heap.size, 3, none⟩ = some (.int .i64 0) := by go_simp
      have yf : ∀ i, (wr.alloc (Obj.cells #[.int .i64 bi, .int .i64 wi, .int .i64 tn, .int .i64 0] 49)).frozen? ⟨wr.heap.size, i, none⟩ = false := by intro i; go_simp
      have ysz : (wr.alloc (Obj.cells #[.int .i64 bi, .int .i64 wi, .int .i64 tn, .int .i64 0] 49)).heap.size = wr.heap.size + 1 := by simp
      generalize wr.alloc (Obj.cells #[.int .i64 bi, .int .i64 wi, .int .i64 tn, .int .i64 0] 49) = WA at *
      obtain ⟨p', cap', ep, hor⟩ := HKA.out
      cases ep
      obtain ⟨bb, eb, hcell⟩ := hor.resolve_left (fun e => by rw [e] at hbk; simp at hbk)
      cases eb
      obtain ⟨tv, e1, e2, e3, hN⟩ := hcell bi k hkget
      have zb := Go.Ai.lt_of_cell e1
      have g0 := cell_regrown y0
      have g1 := cell_regrown y1
      have g2 := cell_regrown y2
      have f1 := cell_regrown (kcell kWA e1)
      have f2 := cell_regrown (kcell kWA e2)
      have f3 := cell_regrown (kcell kWA e3)
      have hbI : (bi : Int) < ks.length := by omega
      have hcall : ∀ d os, Calls Tryz.prog 38 #[.agg #[.int .i64 k.low, .int .i64 k.brk, tv], .int .i64 (wi : Int), .int .i64 tn] (grow (redrawn WA d) os) fun e w'' => e = .returned (.bool (knowsB k (wi : Int) tn)) ∧ ∃ p : Regrown, w'' = grow (redrawn WA p.d) p.os := fun d os => Calls.regrown_of (knows_any _ k tv wi tn ((hN.kept kWA).kept (below_regrown WA d os)) hwl)
      have HC := Lib.hid hcall
      clear hcall hcell hor hN hkget
      refine wp_region_quiet_below (by kernel_rfl) (by kernel_rfl) ?_
      repeat (any_goals (first | go_big_quiet_skip | quiet_step (first | with_reducible exact HC.out _ _)))
      refine wpQuiet_nil ?_
      intro _ hw'
      obtain ⟨⟨dq, osq⟩, hw''⟩ := hw'
      subst hw''
      have kWQ := below_regrown WA dq osq
      have y0 := kcell kWQ y0
      have y1 := kcell kWQ y1
      have y2 := kcell kWQ y2
      have y3 := kcell kWQ y3
      have yfq : (grow (redrawn WA dq) osq).frozen? ⟨wr.heap.size, 3, none⟩ = false := ((kturns kWQ (fun _ => False)).frozen (Go.Ai.lt_of_cell y0 |> fun _ => by omega) (fun h => h)).trans (yf 3)
      generalize grow (redrawn WA dq) osq = WQ at *
      have kQ : Kept wr WQ := kept_trans kWA kWQ
      obtain ⟨i0, hi, hiz, his, hib⟩ := info_parts infoT
      have htl6 : ts.length ≤ 6 := by rw [← hTSS]; simp; omega
      clear hTSS g0 g1 g2 f1 f2 f3 e1 e2 e3
      generalize knowsB k (wi : Int) tn = bl at *
      cases bl with
      | false =>
        have kR : Kept wr WQ := kQ
        have hGR := HGG.out.go kR
        have c0 := hGR.c0
        have c2 := hGR.c2
        have HGA := Lib.hid (hGR.go (kept_alloc (kept_refl WQ) (Obj.cells #[.int .i64 bi, .int .i64 wi, .int .i64 tn, .int .i64 0] 49)))
        have hV3b : V3.heap.size + 1 ≤ WQ.heap.size := Go.Ai.lt_of_cell c0
        have hlen : (ts.flatMap trialC).length = ts.length * 4 := hGR.row.1
        have hown1 := hGR.own (Nat.le_refl _)
        clear hGR
        go_wp2_with (at_builtin
                     refine wpList_append_lies _ rfl _ _ 23 rfl (V3.heap.size + 1) 49 i0 _ 4 32 Tryz.underlying23 hi hiz his hib rfl (by decide) v ts.length (ts.flatMap trialC) rfl HGA.out.row ⟨WQ.heap.size, 0, none⟩ 1 1 [.int .i64 bi, .int .i64 wi, .int .i64 tn, .int .i64 0] rfl rfl (tr_news (by go_simp) (by go_simp) (by go_simp) (by go_simp)) (by simp [Value.oneCell']) (by decide) (by unfold maxLen; omega) (by omega) (by simp; omega) _ rfl ?_
                     intro gx cap2 VE hown hgrow hat hlt3
                     have c2e := grown_cell hgrow hown1 HGA.out.c2
                     have cfe := (World.frozen?_of_block (a := ⟨V3.heap.size, 2, none⟩) (hgrow.block V3.heap.size (Go.Ai.lt_of_cell HGA.out.c2) (Ne.symm hown1))).trans HGA.out.fr)
        have hN := HGA.out.grew (t := ⟨bi, wi, tn, 0⟩) ⟨gx, cap2, rfl, hown, hgrow⟩
        go_roundw
        case rel => exact ⟨j + 1, _, by omega, by go_num, by rw [HST.out, HRT.out]; exact hN⟩
        case measure => simp [intOf]; omega
      | true =>
        have kR : Kept wr (WQ.setCell ⟨wr.heap.size, 3, none⟩ (.int .i64 1)) := Below.setCell (p := ⟨wr.heap.size, 3, none⟩) kQ (Nat.le_refl _) _
        have z0 : (WQ.setCell ⟨wr.heap.size, 3, none⟩ (.int .i64 1)).cell? ⟨wr.heap.size, 0, none⟩ = some (.int .i64 bi) := (cell_set_ne (by omega)).trans y0
        have z1 : (WQ.setCell ⟨wr.heap.size, 3, none⟩ (.int .i64 1)).cell? ⟨wr.heap.size, 1, none⟩ = some (.int .i64 wi) := (cell_set_ne (by omega)).trans y1
        have z2 : (WQ.setCell ⟨wr.heap.size, 3, none⟩ (.int .i64 1)).cell? ⟨wr.heap.size, 2, none⟩ = some (.int .i64 tn) := (cell_set_ne (by omega)).trans y2
        have z3 : (WQ.setCell ⟨wr.heap.size, 3, none⟩ (.int .i64 1)).cell? ⟨wr.heap.size, 3, none⟩ = some (.int .i64 1) := cell_set_eq y3
        have HYF := Lib.hid yfq
        have hGR := HGG.out.go kR
        have c0 := hGR.c0
        have c2 := hGR.c2
        have c0q := kcell kQ HGG.out.c0
        have c2q := kcell kQ HGG.out.c2
        have hneq : V3.heap.size ≠ wr.heap.size := by omega
        have HGA := Lib.hid (hGR.go (kept_alloc (kept_refl (WQ.setCell ⟨wr.heap.size, 3, none⟩ (.int .i64 1))) (Obj.cells #[.int .i64 bi, .int .i64 wi, .int .i64 tn, .int .i64 1] 49)))
        have hV3b : V3.heap.size + 1 ≤ WQ.heap.size := by have := Go.Ai.lt_of_cell c0q; omega
        have hlen : (ts.flatMap trialC).length = ts.length * 4 := hGR.row.1
        have hown1 := hGR.own (Nat.le_refl _)
        clear hGR
        go_wp2_with (at_builtin
                     refine wpList_append_lies _ rfl _ _ 23 rfl (V3.heap.size + 1) 49 i0 _ 4 32 Tryz.underlying23 hi hiz his hib rfl (by decide) v ts.length (ts.flatMap trialC) rfl HGA.out.row ⟨WQ.heap.size, 0, none⟩ 1 1 [.int .i64 bi, .int .i64 wi, .int .i64 tn, .int .i64 1] rfl rfl (tr_news (by go_simp) (by go_simp) (by go_simp) (by go_simp)) (by simp [Value.oneCell']) (by decide) (by unfold maxLen; omega) (by omega) (by simp; omega) _ rfl ?_
                     intro gx cap2 VE hown hgrow hat hlt3
                     have c2e := grown_cell hgrow hown1 HGA.out.c2
                     have cfe := (World.frozen?_of_block (a := ⟨V3.heap.size, 2, none⟩) (hgrow.block V3.heap.size (Go.Ai.lt_of_cell HGA.out.c2) (Ne.symm hown1))).trans HGA.out.fr)
        have hN := HGA.out.grew (t := ⟨bi, wi, tn, 1⟩) ⟨gx, cap2, rfl, hown, hgrow⟩
        go_roundw
        case rel => exact ⟨j + 1, _, by omega, by go_num, by rw [HST.out, HRT.out]; exact hN⟩
        case measure => simp [intOf]; omega
    · have hje : j = B.trials.length := by omega
      subst hje
      rw [List.take_length] at hG
      have hltI : ¬ (B.trials.length : Int) < B.trials.length := by omega
      have hkN : Kept W wr := kept_trans hk0 hG.kept
      obtain ⟨q', capt', rfl, htr', hroom⟩ := hG.trials
      have hqb : ∀ b o, q' = some ⟨b, o, none⟩ → V3.heap.size + 1 ≤ b := fun b o e => (hG.row.lt b (by rw [e]; rfl)).1
      have HTR := Lib.hid htr'
      have HQB := Lib.hid hqb
      have HRM := Lib.hid hroom
      clear hqb
      obtain ⟨x0, x1, x2⟩ := And.intro hG.c0 (And.intro hG.c1 hG.c2)
      have hBB := HB.out.kept hkN
      have hlX : (B.trials.map (rightT ks)).length = B.trials.length := by simp
      have hBX : BookAt wr p q' cap capt' (B.rightly ks) := ⟨hBB.laid, hBB.nb, ⟨(show (B.trials.map (rightT ks)).length ≤ _ by omega), hroom⟩, hBB.boys, htr'⟩
      obtain ⟨nx, hnx⟩ : ∃ nx, nx = (B.trials.map (rightT ks)).length := ⟨_, rfl⟩
      have HV := Lib.hid (show (.agg #[.slice p (B.rightly ks).boys.length cap, .int .i64 (B.rightly ks).weeks, .slice q' (B.rightly ks).trials.length capt'] : Value) = .agg #[.slice p B.boys.length cap, .int .i64 B.weeks, .slice q' nx capt'] from by rw [hnx]; rfl)
      rw [← hnx] at x2
      have hW5 : W.heap.size + 1 < V3.heap.size := Go.Ai.lt_of_cell r0
      replace r0 := kcell hG.kept r0
      replace r1 := kcell hG.kept r1
      replace r2 := kcell hG.kept r2
      have rf0 := ((kturns hG.kept (fun _ => False)).frozen hW5 (fun h => h)).trans (rf 0)
      have rf1 := ((kturns hG.kept (fun _ => False)).frozen hW5 (fun h => h)).trans (rf 1)
      have rf2 := ((kturns hG.kept (fun _ => False)).frozen hW5 (fun h => h)).trans (rf 2)
      clear hG hnx htr' hlX s0 s1 s2 hk0 hG0 hroom
      go_wp2_with fail
      have hTC : Turns (fun b => b = W.heap.size + 1) wr (((wr.setCell ⟨W.heap.size + 1, 0, none⟩ (.slice p B.boys.length cap)).setCell ⟨W.heap.size + 1, 1, none⟩ (.int .i64 B.weeks)).setCell ⟨W.heap.size + 1, 2, none⟩ (.slice q' nx capt')) := (((Turns.refl (fun b => b = W.heap.size + 1) wr).setCell rfl _ _).setCell rfl _ _).setCell rfl _ _
      have t0 : (((wr.setCell ⟨W.heap.size + 1, 0, none⟩ (.slice p B.boys.length cap)).setCell ⟨W.heap.size + 1, 1, none⟩ (.int .i64 B.weeks)).setCell ⟨W.heap.size + 1, 2, none⟩ (.slice q' nx capt')).cell? ⟨W.heap.size + 1, 0, none⟩ = some (.slice p B.boys.length cap) := by go_simp
      have t1 : (((wr.setCell ⟨W.heap.size + 1, 0, none⟩ (.slice p B.boys.length cap)).setCell ⟨W.heap.size + 1, 1, none⟩ (.int .i64 B.weeks)).setCell ⟨W.heap.size + 1, 2, none⟩ (.slice q' nx capt')).cell? ⟨W.heap.size + 1, 1, none⟩ = some (.int .i64 B.weeks) := by go_simp
      have t2 : (((wr.setCell ⟨W.heap.size + 1, 0, none⟩ (.slice p B.boys.length cap)).setCell ⟨W.heap.size + 1, 1, none⟩ (.int .i64 B.weeks)).setCell ⟨W.heap.size + 1, 2, none⟩ (.slice q' nx capt')).cell? ⟨W.heap.size + 1, 2, none⟩ = some (.slice q' nx capt') := by go_simp
      have hkD : Kept W (((wr.setCell ⟨W.heap.size + 1, 0, none⟩ (.slice p B.boys.length cap)).setCell ⟨W.heap.size + 1, 1, none⟩ (.int .i64 B.weeks)).setCell ⟨W.heap.size + 1, 2, none⟩ (.slice q' nx capt')) := Below.setCell (p := ⟨W.heap.size + 1, 2, none⟩) (Below.setCell (p := ⟨W.heap.size + 1, 1, none⟩) (Below.setCell (p := ⟨W.heap.size + 1, 0, none⟩) hkN (show W.heap.size ≤ W.heap.size + 1 by omega) _) (show W.heap.size ≤ W.heap.size + 1 by omega) _) (show W.heap.size ≤ W.heap.size + 1 by omega) _
      generalize (((wr.setCell ⟨W.heap.size + 1, 0, none⟩ (.slice p B.boys.length cap)).setCell ⟨W.heap.size + 1, 1, none⟩ (.int .i64 B.weeks)).setCell ⟨W.heap.size + 1, 2, none⟩ (.slice q' nx capt')) = D at *
      have hB' := HB.out
      refine bodyPost_ret (v := .agg #[.slice p B.boys.length cap, .int .i64 B.weeks, .slice q' nx capt']) (by simp [results, Tryz.results34, go_sem, t0, t1, t2]) rfl ?_
      refine ⟨q', capt', by rw [HV.out], hkD, ⟨hB'.laid.kept hkD, hB'.nb, ⟨(show (B.trials.map (rightT ks)).length ≤ _ by simp; omega), HRM.out⟩, hB'.boys.imp id fun ⟨b, o, e, hb⟩ => ⟨b, o, e, hb.kept hkD⟩, HTR.out.imp id fun ⟨b, o, e, ht⟩ => ⟨b, o, e, ht.turns hTC (fun e2 => by have := HQB.out b o e; omega)⟩⟩⟩
end Go.Proofs.YthkcgengohoboaaGreatDoor
