/- A part of the proof: contracts of the program's functions for every input. No conditions. -/
import Derived.Test.YtchgkfnodcbpiaaDoorPA
import Derived.Test.YtchgkfnodcbpiaaDoorVD
set_option linter.all false
set_option linter.all false
namespace Go.Proofs.YtchgkfnodcbpiaaDoor
open Go.RowKit Go.Sort Go.Rg
set_option maxRecDepth 100000

/-- an append whose run is known, at one operation, in any frame -/
theorem wpIn_append_run {F : Fence} {nF : Nat} {P : Program} (w : World) {o : Oper} {a : Act} {K : Act → World → Prop} {Q : Exit → Act → World → Prop} (s x : Operand) (t : TypeId)
    (ho : o.op = .call { callee := .builtin .append, args := #[s, x], argTypes := #[t, t] }) {v y v' : Value} {w' : World} (hs : a.eval s = v) (hx : a.eval x = y)
    (hr : (Builtin.append_ #[t, t] o.type #[v, y]).run P w = .ok v' w') (h : K (a.put o.dst v') w') : o.wpIn F nF P a w K Q := by
  unfold Oper.wpIn
  refine ⟨by simp [Oper.about, ho, resolve, Target.leads, Sem.run_pure], ?_⟩
  rw [Oper.semAt_plain F _ _ (by rw [ho]; intro c hc'; cases hc')]
  simp [execOp, ho, resolve, invoke, builtin, hs, hx, hr, Result.andThen]
  exact h

theorem trials_cells {w : World} {b o : Nat} {ts : List Trial} (h : TrialsAt w b o ts) (j : Nat) (u : Value) (hu : (ts.flatMap trialC)[j]? = some u) : w.cell? ((⟨b, o, none⟩ : Addr).add j) = some u := by
  have hlen := trials_len ts
  have hj : j < (ts.flatMap trialC).length := (List.getElem?_eq_some_iff.1 hu).1
  rw [hlen] at hj
  have hii : j / 4 < ts.length := by omega
  have hk : j % 4 < 4 := Nat.mod_lt _ (by omega)
  have e : j = j / 4 * 4 + j % 4 := by omega
  have hx : ts[j / 4]? = some ts[j / 4] := List.getElem?_eq_getElem hii
  rw [e, trials_get ts _ _ _ hx hk] at hu
  obtain ⟨c0, c1, c2, c3⟩ := h.2 _ _ hx
  rw [e]
  generalize j % 4 = k at *
  generalize j / 4 = i at *
  generalize ts[i]'hii = x at *
  have he : ∀ k, ((⟨b, o, none⟩ : Addr).add (i * 4 + k)) = ⟨b, o + i * 4 + k, none⟩ := fun k => by simp [Addr.add, Nat.add_assoc]
  rw [he]
  match k, hk, hu with
  | 0, _, hu => cases hu; exact c0
  | 1, _, hu => cases hu; exact c1
  | 2, _, hu => cases hu; exact c2
  | 3, _, hu => cases hu; exact c3

/-- an append of one trial onto a slice that is full: a new block -/
theorem run_append_full (ty : TypeId) (w : World) (q : Option Addr) (ts : List Trial) (t : Trial) (hq : ts = [] ∨ ∃ b o, q = some ⟨b, o, none⟩ ∧ TrialsAt w b o ts) (hl : ts.length ≤ 1000) (ad : Addr) (c : Nat)
    (hnews : ∀ (k : Nat) (u : Value), (trialC t)[k]? = some u → w.cell? (ad.add k) = some u) :
    ∃ cap w', (Builtin.append_ #[23, 23] ty #[.slice q ts.length ts.length, .slice (some ad) 1 c]).run Tryd.prog w = .ok (.slice (some ⟨w.heap.size, 0, none⟩) (ts.length + 1) cap) w' ∧
      w'.ownsRow w.heap.size 27 4 (.slice (some ⟨w.heap.size, 0, none⟩) (ts.length + 1) cap) (ts.length + 1) (ts.flatMap trialC ++ trialC t) ∧ Kept w w' := by
  obtain ⟨i0, hi, hiz, his, hib⟩ := info_parts infoT
  have hlen := trials_len ts
  have hzl : (Value.agg #[.int .i64 0, .int .i64 0, .int .i64 0, .int .i64 0]).cells.size = 4 := rfl
  have made : ∀ (old : Nat), (w.drew.alloc (.cells ((ts.flatMap trialC).toArray ++ (trialC t).toArray ++ Builtin.zeroCells (Value.agg #[.int .i64 0, .int .i64 0, .int .i64 0, .int .i64 0]).cells (grownCap w (ts.length + 1) old 27 - (ts.length + 1))) 27)).ownsRow w.heap.size 27 4
      (.slice (some ⟨w.heap.size, 0, none⟩) (ts.length + 1) (grownCap w (ts.length + 1) old 27)) (ts.length + 1) (ts.flatMap trialC ++ trialC t) := fun old => by
    have hge := grownCap_ge w (ts.length + 1) old 27
    have hcm := grownCap_le_maxLen w (ts.length + 1) old 27 (by unfold maxLen; omega)
    have hn4 : (trialC t).length = 4 := rfl
    have hall : (ts.flatMap trialC ++ trialC t).length = (ts.length + 1) * 4 := by rw [List.length_append, hlen, hn4]; omega
    refine ⟨hall, .inr ⟨w.heap.size, _, _, rfl, Nat.le_refl _, heap_alloc_new w.drew _, hge, hcm, ?_, ?_⟩⟩
    · simp only [Array.size_append, List.size_toArray, size_zeroCells, hzl, hlen, hn4]
      omega
    · simp only [Array.toList_append, List.append_assoc]
      rw [← List.append_assoc, ← hall]
      exact List.take_left
  have kept : ∀ o : Obj, Kept w (w.drew.alloc o) := fun o => kept_alloc (kept_drew (kept_refl _)) _
  have hn4 : (trialC t).length = 1 * i0.size := by rw [his]; rfl
  cases q with
  | none =>
    have he : ts = [] := by
      rcases hq with e | ⟨b, o, e, _⟩
      · exact e
      · cases e
    subst he
    have hr := run_append_nil (P := Tryd.prog) w 23 ty 27 i0 _ Tryd.underlying23 hi hiz ad 1 c (trialC t) hn4 hnews (by omega) (by omega) (by rw [hib]; omega)
    have hm := made 0
    exact ⟨_, _, hr, by simpa using hm, kept _⟩
  | some b =>
    have holds : ∀ (j : Nat) (v : Value), (ts.flatMap trialC)[j]? = some v → w.cell? (b.add j) = some v := by
      rcases hq with e | ⟨b', o, e, h⟩
      · subst e; intro j v h; simp at h
      · cases e; exact trials_cells h
    have hr := run_append_grow (P := Tryd.prog) w 23 ty 27 i0 _ Tryd.underlying23 hi hiz b ts.length ts.length (ts.flatMap trialC) (by rw [his]; exact hlen) holds ad 1 c (trialC t) hn4 hnews (by omega) (by omega) (growslice_fits (by omega) (by rw [hib]; omega))
    exact ⟨_, _, hr, made ts.length, kept _⟩

/-- nothing is appended -/
theorem run_append_empty (ty : TypeId) (w : World) (b : Addr) (q : Option Addr) (c : Nat) : (Builtin.append_ #[23, 23] ty #[.slice (some b) 0 0, .slice q 0 c]).run Tryd.prog w = .ok (.slice (some b) 0 0) w := by
  obtain ⟨i0, hi, hiz, his, hib⟩ := info_parts infoT
  cases q <;> simp [Builtin.append_, run_underlying Tryd.underlying23, sizeOf, typeInfo, hi, Builtin.lenOf, Builtin.firstCells, loadCells, loadCellsFrom, storeCells]

/-- an append of trials onto a row of one's own -/
theorem run_append_rows (ty : TypeId) (w : World) (base g : Nat) (q : Option Addr) (capt : Nat) (ts : List Trial) (hg : w.ownsRow base 27 4 (.slice (some ⟨g, 0, none⟩) 0 0) 0 []) (hq : ts = [] ∨ ∃ b o, q = some ⟨b, o, none⟩ ∧ TrialsAt w b o ts) (hl : ts.length ≤ 1000) (hb : base ≤ w.heap.size) :
    ∃ v' w', (Builtin.append_ #[23, 23] ty #[.slice (some ⟨g, 0, none⟩) 0 0, .slice q ts.length capt]).run Tryd.prog w = .ok v' w' ∧ w'.ownsRow base 27 4 v' ts.length (ts.flatMap trialC) ∧ w.grownBy w' (some g) ∧ (v'.ownBlock = some g ∨ v'.ownBlock = some w.heap.size) := by
  obtain ⟨i0, hi, hiz, his, hib⟩ := info_parts infoT
  by_cases h0 : ts = []
  · subst h0
    exact ⟨_, _, run_append_empty ty w _ q capt, by simpa using hg, ⟨rfl, rfl, rfl, Nat.le_refl _, fun _ _ _ => rfl⟩, .inl rfl⟩
  · obtain ⟨b, o, rfl, h⟩ := hq.resolve_left h0
    have hnews : ∀ (j : Nat) (v : Value), (ts.flatMap trialC)[j]? = some v → w.cell? ((⟨b, o, none⟩ : Addr).add j) = some v := trials_cells h
    obtain ⟨v', w', hr, h1, h2, _, h3⟩ := run_append_own_at (P := Tryd.prog) w base 23 ty 27 i0 _ 4 32 Tryd.underlying23 hi hiz his hib rfl (by decide) (.slice (some ⟨g, 0, none⟩) 0 0) 0 [] hg ⟨b, o, none⟩ ts.length capt (ts.flatMap trialC) (trials_len ts) hnews (trials_one ts) (by unfold maxLen; omega) (by omega) hb
    refine ⟨v', w', hr, by simpa using h1, h2, h3⟩
/-- as atSt_mid, with what the new ones are -/
theorem atSt_mid2 {l : List Oper} {vs : Nat → Value} {a0 a : Act} {listed : Array Bool} (h : AtSt l.toArray vs a0 listed a) (lo k : Nat) (hd : l.all (fun o => match o.dst with | some d => Nat.ble lo d && Nat.blt d (lo + k) | none => true) = true) (hn : lo + k ≤ a0.tmps.size) :
    ∃ y : Nat → Value, (∀ i, i < k → a.tmps.getD (lo + i) undef = y i) ∧ a = { tmps := (a0.tmps.toList.take lo ++ ((List.range k).map y ++ a0.tmps.toList.drop (lo + k))).toArray, defers := a0.defers } := by
  obtain ⟨y, hy⟩ := atSt_mid h lo k hd hn
  refine ⟨y, fun i hi => ?_, hy⟩
  have hl0 : (a0.tmps.toList.take lo).length = lo := by rw [List.length_take, Array.length_toList]; omega
  have hget : (a0.tmps.toList.take lo ++ ((List.range k).map y ++ a0.tmps.toList.drop (lo + k)))[lo + i]? = some (y i) := by
    rw [List.getElem?_append_right (by omega), hl0, List.getElem?_append_left (by simp; omega)]
    rw [show lo + i - lo = i by omega]
    simp [hi]
  rw [hy]
  simp only [Array.getD_eq_getD_getElem?, List.getElem?_toArray, hget, Option.getD_some]
end Go.Proofs.YtchgkfnodcbpiaaDoor
set_option linter.all false
namespace Go.Proofs.YtchgkfnodcbpiaaDoor
open Go.RowKit Go.Sort Go.Rg
open Go.ChangeMaps (setBlock)
set_option maxRecDepth 100000

set_option maxHeartbeats 4000000 in
theorem newChoir_in (S0 : Nat → Prop) (p q : Option Addr) (cap capt : Nat) (B : Book) (W : World) (hok : B.okB = true) (hb : BookAt W p q cap capt B) (hSb : ∀ b o, p = some ⟨b, o, none⟩ → S0 b) (hSt : B.trials ≠ [] → ∀ b o, q = some ⟨b, o, none⟩ → S0 b) :
    Calls Tryd.prog 33 #[.agg #[.slice p B.boys.length cap, .int .i64 B.weeks, .slice q B.trials.length capt]] W fun e C => ∃ c : Choir, c.B = B ∧ e = .returned c.val ∧ Kept W C ∧ ChoirAt (fun b => b < C.heap.size ∧ (S0 b ∨ W.heap.size ≤ b)) C c := by
  have h := hb
  have hmm := @run_makeMap Tryd.prog
  go_enter Tryd.func33, Tryd.ntmps33
  go_wp2_with fail
  have hk0 : Kept W ((((W.alloc (Obj.cells #[.slice p B.boys.length cap, .int .i64 B.weeks, .slice q B.trials.length capt] 25)).alloc (Obj.cells #[.slice none 0 0, .int .i64 0, .slice none 0 0, .map none] 64)).alloc (Obj.map #[] 0)).alloc (Obj.cells #[.slice p B.boys.length cap, .int .i64 B.weeks, .slice q B.trials.length capt, .map (some (W.heap.size + 1 + 1))] 64)) := kept_alloc (kept_alloc (kept_alloc (kept_alloc (kept_refl _) _) _) _) _
  have hz0 : ((((W.alloc (Obj.cells #[.slice p B.boys.length cap, .int .i64 B.weeks, .slice q B.trials.length capt] 25)).alloc (Obj.cells #[.slice none 0 0, .int .i64 0, .slice none 0 0, .map none] 64)).alloc (Obj.map #[] 0)).alloc (Obj.cells #[.slice p B.boys.length cap, .int .i64 B.weeks, .slice q B.trials.length capt, .map (some (W.heap.size + 1 + 1))] 64)).heap.size = W.heap.size + 4 := by simp
  have hmap : ((((W.alloc (Obj.cells #[.slice p B.boys.length cap, .int .i64 B.weeks, .slice q B.trials.length capt] 25)).alloc (Obj.cells #[.slice none 0 0, .int .i64 0, .slice none 0 0, .map none] 64)).alloc (Obj.map #[] 0)).alloc (Obj.cells #[.slice p B.boys.length cap, .int .i64 B.weeks, .slice q B.trials.length capt, .map (some (W.heap.size + 1 + 1))] 64)).heap[W.heap.size + 1 + 1]? = some (.map #[] 0) := by
    have h1 := World.alloc_heap_new ((W.alloc (Obj.cells #[.slice p B.boys.length cap, .int .i64 B.weeks, .slice q B.trials.length capt] 25)).alloc (Obj.cells #[.slice none 0 0, .int .i64 0, .slice none 0 0, .map none] 64)) (Obj.map #[] 0)
    simp only [World.size_alloc] at h1
    exact (Below.heap_alloc _ _ _ (by simp)).trans h1
  have c0 : ((((W.alloc (Obj.cells #[.slice p B.boys.length cap, .int .i64 B.weeks, .slice q B.trials.length capt] 25)).alloc (Obj.cells #[.slice none 0 0, .int .i64 0, .slice none 0 0, .map none] 64)).alloc (Obj.map #[] 0)).alloc (Obj.cells #[.slice p B.boys.length cap, .int .i64 B.weeks, .slice q B.trials.length capt, .map (some (W.heap.size + 1 + 1))] 64)).cell? ⟨W.heap.size + 1 + 1 + 1, 0, none⟩ = some (.slice p B.boys.length cap) := by go_simp
  have c1 : ((((W.alloc (Obj.cells #[.slice p B.boys.length cap, .int .i64 B.weeks, .slice q B.trials.length capt] 25)).alloc (Obj.cells #[.slice none 0 0, .int .i64 0, .slice none 0 0, .map none] 64)).alloc (Obj.map #[] 0)).alloc (Obj.cells #[.slice p B.boys.length cap, .int .i64 B.weeks, .slice q B.trials.length capt, .map (some (W.heap.size + 1 + 1))] 64)).cell? ⟨W.heap.size + 1 + 1 + 1, 1, none⟩ = some (.int .i64 B.weeks) := by go_simp
  have c2 : ((((W.alloc (Obj.cells #[.slice p B.boys.length cap, .int .i64 B.weeks, .slice q B.trials.length capt] 25)).alloc (Obj.cells #[.slice none 0 0, .int .i64 0, .slice none 0 0, .map none] 64)).alloc (Obj.map #[] 0)).alloc (Obj.cells #[.slice p B.boys.length cap, .int .i64 B.weeks, .slice q B.trials.length capt, .map (some (W.heap.size + 1 + 1))] 64)).cell? ⟨W.heap.size + 1 + 1 + 1, 2, none⟩ = some (.slice q B.trials.length capt) := by go_simp
  have c3 : ((((W.alloc (Obj.cells #[.slice p B.boys.length cap, .int .i64 B.weeks, .slice q B.trials.length capt] 25)).alloc (Obj.cells #[.slice none 0 0, .int .i64 0, .slice none 0 0, .map none] 64)).alloc (Obj.map #[] 0)).alloc (Obj.cells #[.slice p B.boys.length cap, .int .i64 B.weeks, .slice q B.trials.length capt, .map (some (W.heap.size + 1 + 1))] 64)).cell? ⟨W.heap.size + 1 + 1 + 1, 3, none⟩ = some (.map (some (W.heap.size + 1 + 1))) := by go_simp
  have d0 : ((((W.alloc (Obj.cells #[.slice p B.boys.length cap, .int .i64 B.weeks, .slice q B.trials.length capt] 25)).alloc (Obj.cells #[.slice none 0 0, .int .i64 0, .slice none 0 0, .map none] 64)).alloc (Obj.map #[] 0)).alloc (Obj.cells #[.slice p B.boys.length cap, .int .i64 B.weeks, .slice q B.trials.length capt, .map (some (W.heap.size + 1 + 1))] 64)).cell? ⟨W.heap.size + 1, 0, none⟩ = some (.slice none 0 0) := by go_simp
  have d1 : ((((W.alloc (Obj.cells #[.slice p B.boys.length cap, .int .i64 B.weeks, .slice q B.trials.length capt] 25)).alloc (Obj.cells #[.slice none 0 0, .int .i64 0, .slice none 0 0, .map none] 64)).alloc (Obj.map #[] 0)).alloc (Obj.cells #[.slice p B.boys.length cap, .int .i64 B.weeks, .slice q B.trials.length capt, .map (some (W.heap.size + 1 + 1))] 64)).cell? ⟨W.heap.size + 1, 1, none⟩ = some (.int .i64 0) := by go_simp
  have d2 : ((((W.alloc (Obj.cells #[.slice p B.boys.length cap, .int .i64 B.weeks, .slice q B.trials.length capt] 25)).alloc (Obj.cells #[.slice none 0 0, .int .i64 0, .slice none 0 0, .map none] 64)).alloc (Obj.map #[] 0)).alloc (Obj.cells #[.slice p B.boys.length cap, .int .i64 B.weeks, .slice q B.trials.length capt, .map (some (W.heap.size + 1 + 1))] 64)).cell? ⟨W.heap.size + 1, 2, none⟩ = some (.slice none 0 0) := by go_simp
  have d3 : ((((W.alloc (Obj.cells #[.slice p B.boys.length cap, .int .i64 B.weeks, .slice q B.trials.length capt] 25)).alloc (Obj.cells #[.slice none 0 0, .int .i64 0, .slice none 0 0, .map none] 64)).alloc (Obj.map #[] 0)).alloc (Obj.cells #[.slice p B.boys.length cap, .int .i64 B.weeks, .slice q B.trials.length capt, .map (some (W.heap.size + 1 + 1))] 64)).cell? ⟨W.heap.size + 1, 3, none⟩ = some (.map none) := by go_simp
  have df : ∀ i, ((((W.alloc (Obj.cells #[.slice p B.boys.length cap, .int .i64 B.weeks, .slice q B.trials.length capt] 25)).alloc (Obj.cells #[.slice none 0 0, .int .i64 0, .slice none 0 0, .map none] 64)).alloc (Obj.map #[] 0)).alloc (Obj.cells #[.slice p B.boys.length cap, .int .i64 B.weeks, .slice q B.trials.length capt, .map (some (W.heap.size + 1 + 1))] 64)).frozen? ⟨W.heap.size + 1, i, none⟩ = false := by intro i; go_simp
  generalize ((((W.alloc (Obj.cells #[.slice p B.boys.length cap, .int .i64 B.weeks, .slice q B.trials.length capt] 25)).alloc (Obj.cells #[.slice none 0 0, .int .i64 0, .slice none 0 0, .map none] 64)).alloc (Obj.map #[] 0)).alloc (Obj.cells #[.slice p B.boys.length cap, .int .i64 B.weeks, .slice q B.trials.length capt, .map (some (W.heap.size + 1 + 1))] 64)) = V0 at *
  generalize hcb : W.heap.size + 1 + 1 + 1 = cb at *
  generalize hbm : W.heap.size + 1 + 1 = bm at *
  generalize hrb : W.heap.size + 1 = rb at *
  have hbook : ∀ (i : Nat) (x : Trial), B.trials[i]? = some x → validTrialB B.boys.length B.weeks.toNat x = true := by
    simp only [Book.okB, Bool.and_eq_true, List.all_eq_true] at hok
    exact fun i x hx => hok.2 x (List.mem_of_getElem? hx)
  have hlen : B.boys.length ≤ 4 ∧ B.weeks ≤ 6 ∧ B.trials.length ≤ 6 := by
    simp only [Book.okB, inB, Bool.and_eq_true, decide_eq_true_eq] at hok
    omega
  go_loopw [13] (fun i V => ∃ (j : Nat) (l : List Slot), j ≤ B.trials.length ∧ i = .int .i64 j ∧ Tried V bm (W.heap.size + 4) l (B.trials.take j) ∧ Turns (fun b => b = bm ∨ W.heap.size + 4 ≤ b) V0 V) (fun i V => B.trials.length - (intOf i).toNat)
  case atStart =>
    exact ⟨0, [], by omega, rfl, ⟨hmap, (fun s hs => nomatch hs), (fun i j s t h => by simp at h), (fun s hs => nomatch hs), (fun i j s t h => by simp at h), (fun b k _ _ => .inr ⟨(fun s hs => nomatch hs), rfl⟩)⟩, Turns.refl _ _⟩
  case round =>
    obtain ⟨j, l, hj, rfl, hT, hV⟩ := hrel
    by_cases hlt : j < B.trials.length
    · have hltI : (j : Int) < B.trials.length := by omega
      have hget : B.trials[j]? = some B.trials[j] := List.getElem?_eq_getElem hlt
      generalize B.trials[j] = t at *
      rcases h.trials with h00 | ⟨bT, oT, rfl, hTT⟩
      · rw [h00] at hlt; cases hlt
      have hTV := (hTT.kept hk0).turns hV (by have := hTT.1; omega)
      obtain ⟨t0, t1, t2, t3⟩ := hTV.2 j t hget
      have hbT := hTV.1
      have e3 := tcell hV (by omega) c3
      have hzc := Go.Ai.lt_of_cell e3
      have HT := Lib.hid hT; clear hT
      have HG := Lib.hid hget; clear hget
      have HB := Lib.hid hbook; clear hbook
      have HH := Lib.hid h; clear h
      clear hTT hTV hmap
      have hval := HB.out j t HG.out
      obtain ⟨tb, tw, tn, tg⟩ := t
      simp only [validTrialB, inB, Bool.and_eq_true, decide_eq_true_eq] at hval
      simp only at t0 t1 t2 t3
      obtain ⟨b, rfl⟩ := Int.eq_ofNat_of_zero_le (show 0 ≤ tb by omega)
      obtain ⟨k, rfl⟩ := Int.eq_ofNat_of_zero_le (show 0 ≤ tw by omega)
      have hb4 : b < 4 := by omega
      have hk6 : k < 6 := by omega
      have HV := Lib.hid hval; clear hval
      go_wp2_with fail
      have hk3 : Kept wr (((wr.alloc (Obj.cells #[.int .i64 (b : Int), .int .i64 (k : Int), .int .i64 tn, .int .i64 tg] 27)).alloc (Obj.cells #[.int .i64 (b : Int), .int .i64 (k : Int)] 91)).alloc (Obj.cells #[.int .i64 (b : Int), .int .i64 (k : Int), .int .i64 tn, .int .i64 tg] 27)) := kept_alloc (kept_alloc (kept_alloc (kept_refl _) _) _) _
      have hz3 : (((wr.alloc (Obj.cells #[.int .i64 (b : Int), .int .i64 (k : Int), .int .i64 tn, .int .i64 tg] 27)).alloc (Obj.cells #[.int .i64 (b : Int), .int .i64 (k : Int)] 91)).alloc (Obj.cells #[.int .i64 (b : Int), .int .i64 (k : Int), .int .i64 tn, .int .i64 tg] 27)).heap.size = wr.heap.size + 3 := by simp
      have hnb : (((wr.alloc (Obj.cells #[.int .i64 (b : Int), .int .i64 (k : Int), .int .i64 tn, .int .i64 tg] 27)).alloc (Obj.cells #[.int .i64 (b : Int), .int .i64 (k : Int)] 91)).alloc (Obj.cells #[.int .i64 (b : Int), .int .i64 (k : Int), .int .i64 tn, .int .i64 tg] 27)).heap[wr.heap.size + 1 + 1]? = some (.cells #[.int .i64 (b : Int), .int .i64 (k : Int), .int .i64 tn, .int .i64 tg] 27 (0, 0)) := by
        have h1 := World.alloc_heap_new ((wr.alloc (Obj.cells #[.int .i64 (b : Int), .int .i64 (k : Int), .int .i64 tn, .int .i64 tg] 27)).alloc (Obj.cells #[.int .i64 (b : Int), .int .i64 (k : Int)] 91)) (Obj.cells #[.int .i64 (b : Int), .int .i64 (k : Int), .int .i64 tn, .int .i64 tg] 27)
        simp only [World.size_alloc] at h1
        exact h1
      generalize (((wr.alloc (Obj.cells #[.int .i64 (b : Int), .int .i64 (k : Int), .int .i64 tn, .int .i64 tg] 27)).alloc (Obj.cells #[.int .i64 (b : Int), .int .i64 (k : Int)] 91)).alloc (Obj.cells #[.int .i64 (b : Int), .int .i64 (k : Int), .int .i64 tn, .int .i64 tg] 27)) = W3 at *
      obtain ⟨W3', l', j', s, hme, hT', hs, e1, e2, hW3, hz3'⟩ := entry_any (HT.out.kept hk3) hb4 hk6
      unfold keyV at hme
      rw [hme]
      have HT' := Lib.hid hT'; clear hT'
      have hbmz : bm < wr.heap.size := (Array.getElem?_eq_some_iff.1 HT.out.map).1
      have hnews := World.news_of_block ((hW3.block _ (by omega) (by omega)).trans hnb)
      obtain ⟨i0, hi, hiz, his, hib⟩ := info_parts infoT
      have hrow := (HT'.out.rows s (List.mem_of_getElem? hs)).1
      have hrl : s.ts.length ≤ 6 := by
        have := (HT'.out.rows s (List.mem_of_getElem? hs)).2
        simp only [List.length_take] at this
        omega
      have hbase : W.heap.size + 4 ≤ wr.heap.size := by have := hV.size; omega
      go_wp2_with (at_builtin; refine wpList_append_lies _ rfl _ _ 23 rfl (W.heap.size + 4) 27 i0 _ 4 32 Tryd.underlying23 hi hiz his hib rfl (by decide) s.v s.ts.length _ rfl hrow ⟨wr.heap.size + 1 + 1, 0, none⟩ 1 1 [.int .i64 (b : Int), .int .i64 (k : Int), .int .i64 tn, .int .i64 tg] rfl rfl hnews (by simp [Value.oneCell']) (by decide) (by unfold maxLen; omega) (by omega) (by omega) _ rfl ?_; intro g cap' W4 hown hgrow hat hlt4)
      have hm4 : W4.heap[bm]? = some (.map (entries l') l'.length) := (hgrow.block bm (by omega) (fun e => by
        rcases row_not_map hrow HT'.out.map with h1 | h1
        · rw [h1] at e; cases e
        · exact h1 e.symm)).trans HT'.out.map
      have hes := entryStore_at W4 bm l' l'.length j' s (.slice (some ⟨g, 0, none⟩) (s.ts.length + 1) cap') (s.ts ++ [⟨(b : Int), (k : Int), tn, tg⟩]) hm4 hs
      have htk : B.trials.take (j + 1) = B.trials.take j ++ [⟨(b : Int), (k : Int), tn, tg⟩] := by
        rw [List.take_succ, HG.out]; rfl
      have hend := HT'.out.append (t := ⟨(b : Int), (k : Int), tn, tg⟩) hs (by simp [isAt, e1, e2]) hgrow hown hat
      rw [← htk] at hend
      have hT4 : Turns (fun b => b = bm ∨ W.heap.size + 4 ≤ b) W3' W4 := ⟨hgrow.os, hgrow.tape, hgrow.output, hgrow.size, fun i hi hne => hgrow.block i hi (fun e => hne (.inr (hrow.lt i e.symm).1))⟩
      have hTs := grown_set (W := W4) (bm := bm) (o := .map (entries (l'.set j' { s with v := .slice (some ⟨g, 0, none⟩) (s.ts.length + 1) cap', ts := s.ts ++ [⟨(b : Int), (k : Int), tn, tg⟩] })) l'.length)
      have hT5 : Turns (fun b => b = bm ∨ W.heap.size + 4 ≤ b) V0 (setBlock W4 bm (.map (entries (l'.set j' { s with v := .slice (some ⟨g, 0, none⟩) (s.ts.length + 1) cap', ts := s.ts ++ [⟨(b : Int), (k : Int), tn, tg⟩] })) l'.length)) :=
        (((hV.trans (Ext.refl _ _) (kturns hk3 _)).trans (Ext.refl _ _) (hW3.mono fun _ _ h => .inl h)).trans (Ext.refl _ _) hT4).trans (Ext.refl _ _)
          ⟨hTs.os, hTs.tape, hTs.output, hTs.size, fun i hi hne => hTs.block i hi (fun e => hne (.inl (by cases e; rfl)))⟩
      have HEND : Hid (∃ (j2 : Nat) (l2 : List Slot), j2 ≤ B.trials.length ∧ Value.int .i64 ((j : Int) + 1) = .int .i64 (j2 : Int) ∧ Tried (setBlock W4 bm (.map (entries (l'.set j' { s with v := .slice (some ⟨g, 0, none⟩) (s.ts.length + 1) cap', ts := s.ts ++ [⟨(b : Int), (k : Int), tn, tg⟩] })) l'.length)) bm (W.heap.size + 4) l2 (B.trials.take j2) ∧ Turns (fun b => b = bm ∨ W.heap.size + 4 ≤ b) V0 (setBlock W4 bm (.map (entries (l'.set j' { s with v := .slice (some ⟨g, 0, none⟩) (s.ts.length + 1) cap', ts := s.ts ++ [⟨(b : Int), (k : Int), tn, tg⟩] })) l'.length))) :=
        Lib.hid ⟨j + 1, _, by omega, by simp, hend, hT5⟩
      clear hend hT5 hTs hT4
      rw [hes]
      clear hes hm4 hown hgrow hat hrow
      generalize setBlock W4 bm (.map (entries (l'.set j' { s with v := .slice (some ⟨g, 0, none⟩) (s.ts.length + 1) cap', ts := s.ts ++ [⟨(b : Int), (k : Int), tn, tg⟩] })) l'.length) = W5 at *
      go_wp2_with fail
      go_roundw
      case rel => exact HEND.out
      case measure => simp [intOf]; omega
    · have hltI : ¬ (j : Int) < B.trials.length := by omega
      have e0 := tcell hV (by omega) c0
      have e1 := tcell hV (by omega) c1
      have e2 := tcell hV (by omega) c2
      have e3 := tcell hV (by omega) c3
      have g0 := tcell hV (by omega) d0
      have g1 := tcell hV (by omega) d1
      have g2 := tcell hV (by omega) d2
      have g3 := tcell hV (by omega) d3
      have gf : ∀ i, wr.frozen? ⟨rb, i, none⟩ = false := fun i => (hV.frozen (by omega) (by omega)).trans (df i)
      have gf0 := gf 0
      have gf1 := gf 1
      have gf2 := gf 2
      have gf3 := gf 3
      go_wp2_with fail
      have hje : j = B.trials.length := by omega
      have hTC : Turns (fun b => b = rb) wr ((((wr.setCell ⟨rb, 0, none⟩ (.slice p B.boys.length cap)).setCell ⟨rb, 1, none⟩ (.int .i64 B.weeks)).setCell ⟨rb, 2, none⟩ (.slice q B.trials.length capt)).setCell ⟨rb, 3, none⟩ (.map (some bm))) := ((((Turns.refl (fun b => b = rb) wr).setCell rfl _ _).setCell rfl _ _).setCell rfl _ _).setCell rfl _ _
      have r0 : ((((wr.setCell ⟨rb, 0, none⟩ (.slice p B.boys.length cap)).setCell ⟨rb, 1, none⟩ (.int .i64 B.weeks)).setCell ⟨rb, 2, none⟩ (.slice q B.trials.length capt)).setCell ⟨rb, 3, none⟩ (.map (some bm))).cell? ⟨rb, 0, none⟩ = some (.slice p B.boys.length cap) := by go_simp
      have r1 : ((((wr.setCell ⟨rb, 0, none⟩ (.slice p B.boys.length cap)).setCell ⟨rb, 1, none⟩ (.int .i64 B.weeks)).setCell ⟨rb, 2, none⟩ (.slice q B.trials.length capt)).setCell ⟨rb, 3, none⟩ (.map (some bm))).cell? ⟨rb, 1, none⟩ = some (.int .i64 B.weeks) := by go_simp
      have r2 : ((((wr.setCell ⟨rb, 0, none⟩ (.slice p B.boys.length cap)).setCell ⟨rb, 1, none⟩ (.int .i64 B.weeks)).setCell ⟨rb, 2, none⟩ (.slice q B.trials.length capt)).setCell ⟨rb, 3, none⟩ (.map (some bm))).cell? ⟨rb, 2, none⟩ = some (.slice q B.trials.length capt) := by go_simp
      have r3 : ((((wr.setCell ⟨rb, 0, none⟩ (.slice p B.boys.length cap)).setCell ⟨rb, 1, none⟩ (.int .i64 B.weeks)).setCell ⟨rb, 2, none⟩ (.slice q B.trials.length capt)).setCell ⟨rb, 3, none⟩ (.map (some bm))).cell? ⟨rb, 3, none⟩ = some (.map (some bm)) := by go_simp
      generalize ((((wr.setCell ⟨rb, 0, none⟩ (.slice p B.boys.length cap)).setCell ⟨rb, 1, none⟩ (.int .i64 B.weeks)).setCell ⟨rb, 2, none⟩ (.slice q B.trials.length capt)).setCell ⟨rb, 3, none⟩ (.map (some bm))) = C at *
      have hbl : B.boys ≠ [] := by
        intro e
        simp only [Book.okB, inB, Bool.and_eq_true, decide_eq_true_eq] at hok
        rw [e] at hok; simp at hok
      obtain ⟨bb, ob, rfl, hboysb⟩ : ∃ b o, p = some ⟨b, o, none⟩ ∧ BoysAt W b o B.boys := hb.boys.resolve_left hbl
      have hboys := hboysb
      have hWC : Kept W C := by
        refine Below.trans (Below.trans hk0 (hV.toBelow (n := W.heap.size) ?_ (by omega))) (hTC.toBelow (n := W.heap.size) ?_ ?_)
        · rintro b (rfl | h) <;> omega
        · rintro b rfl; omega
        · have := hV.size; omega
      refine bodyPost_ret (v := .agg #[.slice (some ⟨bb, ob, none⟩) B.boys.length cap, .int .i64 B.weeks, .slice q B.trials.length capt, .map (some bm)]) (by simp [results, Tryd.results33, go_sem, r0, r1, r2, r3]) rfl ?_
      refine ⟨⟨bb, ob, cap, capt, q, bm, B⟩, rfl, rfl, hWC, hok, ?_, hboys.kept hWC, ?_, ?_, hb.nt.2⟩
      · exact ⟨Nat.lt_of_lt_of_le hboys.1 hWC.size, .inl (hSb _ _ rfl)⟩
      · rcases hb.trials with h1 | ⟨b, o, e, ht⟩
        · exact .inl h1
        · by_cases h0 : B.trials = []
          · exact .inl h0
          · exact .inr ⟨b, o, e, ⟨Nat.lt_of_lt_of_le ht.1 hWC.size, .inl (hSt h0 b o e)⟩, ht.kept hWC⟩
      · intro boy wk hb5 hw
        have hT' := hT
        rw [hje, List.take_length] at hT'
        exact hT'.look hTC (by omega) (by rintro b hb2 rfl; omega) ⟨by have := hTC.size; have := (Array.getElem?_eq_some_iff.1 hT.map).1; omega, .inr (by omega)⟩ (fun b hb2 hb3 => ⟨hb3, .inr (by omega)⟩) (by have h5 : boy < B.boys.length := hb5; omega) (by have h6 : (wk : Int) < B.weeks := hw; omega)
end Go.Proofs.YtchgkfnodcbpiaaDoor
set_option linter.all false
namespace Go.Proofs.YtchgkfnodcbpiaaDoor
open Go.RowKit Go.Sort Go.Rg
set_option maxRecDepth 100000

theorem new3_0 (w : World) (a b c : Value) (ty : TypeId) : (w.alloc (Obj.cells #[a, b, c] ty)).cell? ⟨w.heap.size, 0, none⟩ = some a := by go_simp
theorem new3_1 (w : World) (a b c : Value) (ty : TypeId) : (w.alloc (Obj.cells #[a, b, c] ty)).cell? ⟨w.heap.size, 1, none⟩ = some b := by go_simp
theorem new3_2 (w : World) (a b c : Value) (ty : TypeId) : (w.alloc (Obj.cells #[a, b, c] ty)).cell? ⟨w.heap.size, 2, none⟩ = some c := by go_simp
theorem new3_f (w : World) (a b c : Value) (ty : TypeId) (i : Nat) : (w.alloc (Obj.cells #[a, b, c] ty)).frozen? ⟨w.heap.size, i, none⟩ = false := by go_simp
/-- what is known while a region is carried out, in whatever order, of which one operation (b) makes memory and another one, behind it, (s) writes to that memory -/
def StM (b s : Nat) (vs : Nat → Value) (V WB WS : World) (l : List Oper) (a0 : Act) (listed : Array Bool) (a : Act) (w : World) : Prop :=
  AtSt l.toArray vs a0 listed a ∧ (on listed s = true → on listed b = true) ∧ w = if on listed s then WS else if on listed b then WB else V.drew
section
variable {l : List Oper} {a0 a : Act} {b s : Nat} {vs : Nat → Value} {V WB WS w : World} {listed : Array Bool} {i : Nat} {o : Oper}
theorem StM.start : StM b s vs V WB WS l a0 (Array.replicate l.length false) a0 V.drew := by
  have no : ∀ j, on (Array.replicate l.length false) j = false := fun j => by
    unfold on
    simp only [Array.getD_eq_getD_getElem?, Array.getElem?_replicate]
    split <;> simp
  refine ⟨⟨rfl, rfl, fun j o d hj => ?_, fun t _ => rfl⟩, (fun h => by rw [no] at h; cases h), by rw [no, no]; rfl⟩
  have := no j
  unfold on at this
  rw [this] at hj; cases hj
theorem StM.pure (hd : distFrom l = true) (ha : AtSt l.toArray vs a0 listed a) (hbs : on listed s = true → on listed b = true) (hw : w = if on listed s then WS else if on listed b then WB else V.drew) (ho : l[i]? = some o) (h1 : listed.getD i true = false) (ib : i ≠ b) (is : i ≠ s) :
    StM b s vs V WB WS l a0 (listed.setIfInBounds i true) (a.put o.dst (vs i)) w :=
  ⟨ha.put (by simpa using ho) h1 (dist_arr hd), by rw [on_set (Ne.symm is), on_set (Ne.symm ib)]; exact hbs, by rw [on_set (Ne.symm is), on_set (Ne.symm ib)]; exact hw⟩
theorem StM.built (hd : distFrom l = true) (ha : AtSt l.toArray vs a0 listed a) (hbs : on listed s = true → on listed b = true) (hw : w = if on listed s then WS else if on listed b then WB else V.drew) (hl : listed.size = l.length) (ho : l[b]? = some o) (h1 : listed.getD b true = false) (bs : b ≠ s) :
    w = V.drew ∧ StM b s vs V WB WS l a0 (listed.setIfInBounds b true) (a.put o.dst (vs b)) WB := by
  have hz : b < listed.size := by rw [hl]; exact (List.getElem?_eq_some_iff.1 ho).1
  have hb := on_no h1
  have hs : on listed s = false := by
    cases h : on listed s with
    | false => rfl
    | true => rw [hbs h] at hb; cases hb
  rw [hs, hb] at hw
  exact ⟨hw, ha.put (by simpa using ho) h1 (dist_arr hd), fun _ => on_self hz, by rw [on_set (Ne.symm bs), hs, on_self hz]; rfl⟩
theorem StM.stored (hd : distFrom l = true) (ha : AtSt l.toArray vs a0 listed a) (hw : w = if on listed s then WS else if on listed b then WB else V.drew) (hl : listed.size = l.length) (ho : l[s]? = some o) (h1 : listed.getD s true = false) (hn : o.dst = none) (hb : on listed b = true) :
    w = WB ∧ StM b s vs V WB WS l a0 (listed.setIfInBounds s true) a WS := by
  have hz : s < listed.size := by rw [hl]; exact (List.getElem?_eq_some_iff.1 ho).1
  rw [on_no h1, hb] at hw
  have := ha.put (i := s) (by simpa using ho) h1 (dist_arr hd)
  rw [hn] at this
  exact ⟨hw, this, fun _ => on_set_mono hb, by rw [on_self hz]; rfl⟩
end

/-- what an append of one trial onto a full slice answers -/
def Full (w : World) (ts : List Trial) (t : Trial) (r : Value) (wc : World) : Prop :=
  ∃ g cap, r = .slice (some ⟨g, 0, none⟩) (ts.length + 1) cap ∧ w.heap.size ≤ g ∧ wc.ownsRow g 27 4 r (ts.length + 1) (ts.flatMap trialC ++ trialC t) ∧ Kept w wc

set_option maxHeartbeats 8000000 in
theorem cwith_any (c : Choir) (t : Trial) (W : World) (S : Nat → Prop) (h : ChoirAt S W c) (hS : ∀ b, S b → b < W.heap.size) (hL : Laid W) (hok : (Book.mk c.B.boys c.B.weeks (c.B.trials ++ [t])).okB = true) :
    Calls Tryd.prog 31 #[c.val, .agg #[.int .i64 t.boy, .int .i64 t.week, .int .i64 t.note, .int .i64 t.sang]] W fun e C =>
      ∃ c' : Choir, c'.B = ⟨c.B.boys, c.B.weeks, c.B.trials ++ [t]⟩ ∧ e = .returned c'.val ∧ Kept W C ∧ ∃ S', ChoirAt S' C c' ∧ ∀ b, S' b → b < C.heap.size := by
  unfold Choir.val
  go_enter Tryd.func31, Tryd.ntmps31
  go_wp2_with fail
  have hk0 : Kept W (((W.alloc (Obj.cells #[.slice (some ⟨c.bb, c.ob, none⟩) c.B.boys.length c.capb, .int .i64 c.B.weeks, .slice c.q c.B.trials.length c.capt, .map (some c.bm)] 64)).alloc (Obj.cells #[.int .i64 t.boy, .int .i64 t.week, .int .i64 t.note, .int .i64 t.sang] 27)).alloc (Obj.cells #[.slice none 0 0, .int .i64 0, .slice none 0 0, .map none] 64)) := kept_alloc (kept_alloc (kept_alloc (kept_refl _) _) _) _
  have hsz0 : (((W.alloc (Obj.cells #[.slice (some ⟨c.bb, c.ob, none⟩) c.B.boys.length c.capb, .int .i64 c.B.weeks, .slice c.q c.B.trials.length c.capt, .map (some c.bm)] 64)).alloc (Obj.cells #[.int .i64 t.boy, .int .i64 t.week, .int .i64 t.note, .int .i64 t.sang] 27)).alloc (Obj.cells #[.slice none 0 0, .int .i64 0, .slice none 0 0, .map none] 64)).heap.size = W.heap.size + 1 + 1 + 1 := by simp
  have x0 : (((W.alloc (Obj.cells #[.slice (some ⟨c.bb, c.ob, none⟩) c.B.boys.length c.capb, .int .i64 c.B.weeks, .slice c.q c.B.trials.length c.capt, .map (some c.bm)] 64)).alloc (Obj.cells #[.int .i64 t.boy, .int .i64 t.week, .int .i64 t.note, .int .i64 t.sang] 27)).alloc (Obj.cells #[.slice none 0 0, .int .i64 0, .slice none 0 0, .map none] 64)).cell? ⟨W.heap.size, 0, none⟩ = some (.slice (some ⟨c.bb, c.ob, none⟩) c.B.boys.length c.capb) := by go_simp
  have x1 : (((W.alloc (Obj.cells #[.slice (some ⟨c.bb, c.ob, none⟩) c.B.boys.length c.capb, .int .i64 c.B.weeks, .slice c.q c.B.trials.length c.capt, .map (some c.bm)] 64)).alloc (Obj.cells #[.int .i64 t.boy, .int .i64 t.week, .int .i64 t.note, .int .i64 t.sang] 27)).alloc (Obj.cells #[.slice none 0 0, .int .i64 0, .slice none 0 0, .map none] 64)).cell? ⟨W.heap.size, 1, none⟩ = some (.int .i64 c.B.weeks) := by go_simp
  have x2 : (((W.alloc (Obj.cells #[.slice (some ⟨c.bb, c.ob, none⟩) c.B.boys.length c.capb, .int .i64 c.B.weeks, .slice c.q c.B.trials.length c.capt, .map (some c.bm)] 64)).alloc (Obj.cells #[.int .i64 t.boy, .int .i64 t.week, .int .i64 t.note, .int .i64 t.sang] 27)).alloc (Obj.cells #[.slice none 0 0, .int .i64 0, .slice none 0 0, .map none] 64)).cell? ⟨W.heap.size, 2, none⟩ = some (.slice c.q c.B.trials.length c.capt) := by go_simp
  have v0 : (((W.alloc (Obj.cells #[.slice (some ⟨c.bb, c.ob, none⟩) c.B.boys.length c.capb, .int .i64 c.B.weeks, .slice c.q c.B.trials.length c.capt, .map (some c.bm)] 64)).alloc (Obj.cells #[.int .i64 t.boy, .int .i64 t.week, .int .i64 t.note, .int .i64 t.sang] 27)).alloc (Obj.cells #[.slice none 0 0, .int .i64 0, .slice none 0 0, .map none] 64)).cell? ⟨W.heap.size + 1, 0, none⟩ = some (.int .i64 t.boy) := by go_simp
  have v1 : (((W.alloc (Obj.cells #[.slice (some ⟨c.bb, c.ob, none⟩) c.B.boys.length c.capb, .int .i64 c.B.weeks, .slice c.q c.B.trials.length c.capt, .map (some c.bm)] 64)).alloc (Obj.cells #[.int .i64 t.boy, .int .i64 t.week, .int .i64 t.note, .int .i64 t.sang] 27)).alloc (Obj.cells #[.slice none 0 0, .int .i64 0, .slice none 0 0, .map none] 64)).cell? ⟨W.heap.size + 1, 1, none⟩ = some (.int .i64 t.week) := by go_simp
  have v2 : (((W.alloc (Obj.cells #[.slice (some ⟨c.bb, c.ob, none⟩) c.B.boys.length c.capb, .int .i64 c.B.weeks, .slice c.q c.B.trials.length c.capt, .map (some c.bm)] 64)).alloc (Obj.cells #[.int .i64 t.boy, .int .i64 t.week, .int .i64 t.note, .int .i64 t.sang] 27)).alloc (Obj.cells #[.slice none 0 0, .int .i64 0, .slice none 0 0, .map none] 64)).cell? ⟨W.heap.size + 1, 2, none⟩ = some (.int .i64 t.note) := by go_simp
  have v3 : (((W.alloc (Obj.cells #[.slice (some ⟨c.bb, c.ob, none⟩) c.B.boys.length c.capb, .int .i64 c.B.weeks, .slice c.q c.B.trials.length c.capt, .map (some c.bm)] 64)).alloc (Obj.cells #[.int .i64 t.boy, .int .i64 t.week, .int .i64 t.note, .int .i64 t.sang] 27)).alloc (Obj.cells #[.slice none 0 0, .int .i64 0, .slice none 0 0, .map none] 64)).cell? ⟨W.heap.size + 1, 3, none⟩ = some (.int .i64 t.sang) := by go_simp
  have r0 : (((W.alloc (Obj.cells #[.slice (some ⟨c.bb, c.ob, none⟩) c.B.boys.length c.capb, .int .i64 c.B.weeks, .slice c.q c.B.trials.length c.capt, .map (some c.bm)] 64)).alloc (Obj.cells #[.int .i64 t.boy, .int .i64 t.week, .int .i64 t.note, .int .i64 t.sang] 27)).alloc (Obj.cells #[.slice none 0 0, .int .i64 0, .slice none 0 0, .map none] 64)).cell? ⟨W.heap.size + 1 + 1, 0, none⟩ = some (.slice none 0 0) := by go_simp
  have r1 : (((W.alloc (Obj.cells #[.slice (some ⟨c.bb, c.ob, none⟩) c.B.boys.length c.capb, .int .i64 c.B.weeks, .slice c.q c.B.trials.length c.capt, .map (some c.bm)] 64)).alloc (Obj.cells #[.int .i64 t.boy, .int .i64 t.week, .int .i64 t.note, .int .i64 t.sang] 27)).alloc (Obj.cells #[.slice none 0 0, .int .i64 0, .slice none 0 0, .map none] 64)).cell? ⟨W.heap.size + 1 + 1, 1, none⟩ = some (.int .i64 0) := by go_simp
  have r2 : (((W.alloc (Obj.cells #[.slice (some ⟨c.bb, c.ob, none⟩) c.B.boys.length c.capb, .int .i64 c.B.weeks, .slice c.q c.B.trials.length c.capt, .map (some c.bm)] 64)).alloc (Obj.cells #[.int .i64 t.boy, .int .i64 t.week, .int .i64 t.note, .int .i64 t.sang] 27)).alloc (Obj.cells #[.slice none 0 0, .int .i64 0, .slice none 0 0, .map none] 64)).cell? ⟨W.heap.size + 1 + 1, 2, none⟩ = some (.slice none 0 0) := by go_simp
  have r3 : (((W.alloc (Obj.cells #[.slice (some ⟨c.bb, c.ob, none⟩) c.B.boys.length c.capb, .int .i64 c.B.weeks, .slice c.q c.B.trials.length c.capt, .map (some c.bm)] 64)).alloc (Obj.cells #[.int .i64 t.boy, .int .i64 t.week, .int .i64 t.note, .int .i64 t.sang] 27)).alloc (Obj.cells #[.slice none 0 0, .int .i64 0, .slice none 0 0, .map none] 64)).cell? ⟨W.heap.size + 1 + 1, 3, none⟩ = some (.map none) := by go_simp
  have rf : ∀ i, (((W.alloc (Obj.cells #[.slice (some ⟨c.bb, c.ob, none⟩) c.B.boys.length c.capb, .int .i64 c.B.weeks, .slice c.q c.B.trials.length c.capt, .map (some c.bm)] 64)).alloc (Obj.cells #[.int .i64 t.boy, .int .i64 t.week, .int .i64 t.note, .int .i64 t.sang] 27)).alloc (Obj.cells #[.slice none 0 0, .int .i64 0, .slice none 0 0, .map none] 64)).frozen? ⟨W.heap.size + 1 + 1, i, none⟩ = false := by intro i; go_simp
  generalize (((W.alloc (Obj.cells #[.slice (some ⟨c.bb, c.ob, none⟩) c.B.boys.length c.capb, .int .i64 c.B.weeks, .slice c.q c.B.trials.length c.capt, .map (some c.bm)] 64)).alloc (Obj.cells #[.int .i64 t.boy, .int .i64 t.week, .int .i64 t.note, .int .i64 t.sang] 27)).alloc (Obj.cells #[.slice none 0 0, .int .i64 0, .slice none 0 0, .map none] 64)) = V at *
  have HSZ := Lib.hid hsz0; clear hsz0
  have hLV := hL.kept hk0
  have hboys := h.boys.kept hk0
  have htr : c.B.trials = [] ∨ ∃ b o, c.q = some ⟨b, o, none⟩ ∧ TrialsAt V b o c.B.trials := h.trials.imp id fun ⟨b, o, e, _, ht⟩ => ⟨b, o, e, ht.kept hk0⟩
  have hz0 := Go.Ai.lt_of_cell x0
  obtain ⟨WB, hWB⟩ : ∃ WB, WB = V.drew.alloc (Obj.cells #[.slice none 0 0, .int .i64 0, .slice none 0 0] 25) := ⟨_, rfl⟩
  obtain ⟨WS, hWS⟩ : ∃ WS, WS = ((WB.setCell ⟨V.heap.size, 0, none⟩ (.slice (some ⟨c.bb, c.ob, none⟩) c.B.boys.length c.capb)).setCell ⟨V.heap.size, 1, none⟩ (.int .i64 c.B.weeks)).setCell ⟨V.heap.size, 2, none⟩ (.slice c.q c.B.trials.length c.capt) := ⟨_, rfl⟩
  have kWB : Kept V WB := hWB ▸ kept_alloc (kept_drew (kept_refl _)) _
  have kWS : Kept V WS := hWS ▸ Below.setCell (p := ⟨V.heap.size, 2, none⟩) (Below.setCell (p := ⟨V.heap.size, 1, none⟩) (Below.setCell (p := ⟨V.heap.size, 0, none⟩) kWB (Nat.le_refl _) _) (Nat.le_refl _) _) (Nat.le_refl _) _
  have w0 : WB.cell? ⟨V.heap.size, 0, none⟩ = some (.slice none 0 0) := by rw [hWB]; exact new3_0 V.drew _ _ _ _
  have w1 : WB.cell? ⟨V.heap.size, 1, none⟩ = some (.int .i64 0) := by rw [hWB]; exact new3_1 V.drew _ _ _ _
  have w2 : WB.cell? ⟨V.heap.size, 2, none⟩ = some (.slice none 0 0) := by rw [hWB]; exact new3_2 V.drew _ _ _ _
  have wf : ∀ i, WB.frozen? ⟨V.heap.size, i, none⟩ = false := by intro i; rw [hWB]; exact new3_f V.drew _ _ _ _ i
  have y0 : WS.cell? ⟨V.heap.size, 0, none⟩ = some (.slice (some ⟨c.bb, c.ob, none⟩) c.B.boys.length c.capb) := by rw [hWS, cell_set_ne (by omega), cell_set_ne (by omega)]; exact cell_set_eq w0
  have y1 : WS.cell? ⟨V.heap.size, 1, none⟩ = some (.int .i64 c.B.weeks) := by rw [hWS, cell_set_ne (by omega)]; exact cell_set_eq ((cell_set_ne (by omega)).trans w1)
  have y2 : WS.cell? ⟨V.heap.size, 2, none⟩ = some (.slice c.q c.B.trials.length c.capt) := by rw [hWS]; exact cell_set_eq ((cell_set_ne (by omega)).trans ((cell_set_ne (by omega)).trans w2))
  have yf : ∀ i, WS.frozen? ⟨V.heap.size, i, none⟩ = false := fun i => by rw [hWS, World.frozen?_setCell, World.frozen?_setCell, World.frozen?_setCell]; exact wf i
  have HF := Lib.hid (And.intro w0 (And.intro w1 (And.intro w2 wf)))
  clear w0 w1 w2 wf
  have HW := Lib.hid (And.intro hWB hWS)
  have HK := Lib.hid (And.intro kWB kWS)
  clear hWB hWS kWB kWS
  refine (wpIn_wide (n := 0)).1 (wpIn_region_invL (StM 6 7 (fun k => match k with | 0 => .pointer (some ⟨W.heap.size, 0, none⟩) | 1 => .agg #[.slice (some ⟨c.bb, c.ob, none⟩) c.B.boys.length c.capb, .int .i64 c.B.weeks, .slice c.q c.B.trials.length c.capt] | 2 => .pointer (some ⟨W.heap.size, 0, none⟩) | 3 => .pointer (some ⟨W.heap.size, 2, none⟩) | 4 => .slice c.q c.B.trials.length c.capt | 6 => .pointer (some ⟨V.heap.size, 0, none⟩) | _ => .int .i64 (c.B.trials.length : Int)) V WB WS) (by kernel_rfl) (by kernel_rfl) StM.start ?hop ?hend)
  case hop =>
    rintro i o listed a w hl ho h1 h2 hcl ⟨ha, hbs, hw⟩
    have hi9 : i < 9 := (List.getElem?_eq_some_iff.1 ho).1
    have kd : Kept V w := by
      rw [hw]
      split
      · exact HK.out.2
      · split
        · exact HK.out.1
        · exact kept_drew (kept_refl V)
    match i, ho with
    | 0, ho =>
      have st := StM.pure (by kernel_rfl) ha hbs hw ho h1 (by omega) (by omega)
      have ST := Lib.hid st; clear st hw
      cases ho
      rw [if_pos (by rfl)]
      have t2 := ha.old 2 (by kernel_rfl)
      simp at t2
      go_simp
      exact ST.out
    | 1, ho =>
      have st := StM.pure (by kernel_rfl) ha hbs hw ho h1 (by omega) (by omega)
      have ST := Lib.hid st; clear st hw
      cases ho
      rw [if_pos (by rfl)]
      have t7 := ha.new 0 (h2 ⟨0, .data⟩ (by simp) rfl) (d := 7) rfl rfl (by simp)
      simp at t7
      have c0 := kcell kd x0
      have c1 := kcell kd x1
      have c2 := kcell kd x2
      go_simp
      exact ST.out
    | 2, ho =>
      have st := StM.pure (by kernel_rfl) ha hbs hw ho h1 (by omega) (by omega)
      have ST := Lib.hid st; clear st hw
      cases ho
      rw [if_pos (by rfl)]
      have t2 := ha.old 2 (by kernel_rfl)
      simp at t2
      go_simp
      exact ST.out
    | 3, ho =>
      have st := StM.pure (by kernel_rfl) ha hbs hw ho h1 (by omega) (by omega)
      have ST := Lib.hid st; clear st hw
      cases ho
      rw [if_pos (by rfl)]
      have t9 := ha.new 2 (h2 ⟨2, .data⟩ (by simp) rfl) (d := 9) rfl rfl (by simp)
      simp at t9
      go_simp
      exact ST.out
    | 4, ho =>
      have st := StM.pure (by kernel_rfl) ha hbs hw ho h1 (by omega) (by omega)
      have ST := Lib.hid st; clear st hw
      cases ho
      rw [if_pos (by rfl)]
      have t10 := ha.new 3 (h2 ⟨3, .data⟩ (by simp) rfl) (d := 10) rfl rfl (by simp)
      simp at t10
      have c0 := kcell kd x2
      go_simp
      exact ST.out
    | 5, ho =>
      have st := StM.pure (by kernel_rfl) ha hbs hw ho h1 (by omega) (by omega)
      have ST := Lib.hid st; clear st hw
      cases ho
      rw [if_pos (by rfl)]
      have t11 := ha.new 4 (h2 ⟨4, .data⟩ (by simp) rfl) (d := 11) rfl rfl (by simp)
      simp at t11
      go_simp
      exact ST.out
    | 6, ho =>
      obtain ⟨hwd, st⟩ := StM.built (by kernel_rfl) ha hbs hw hl ho h1 (by omega)
      have HWD := Lib.hid hwd; clear hwd hw
      have ST := Lib.hid st; clear st
      cases ho
      rw [if_pos (by rfl)]
      go_simp
      rw [HWD.out, show V.drew.heap.size = V.heap.size from rfl, ← HW.out.1]
      exact ST.out
    | 7, ho =>
      have b6 : on listed 6 = true := h2 ⟨6, .data⟩ (by cases ho; simp) rfl
      have b1 : on listed 1 = true := h2 ⟨1, .data⟩ (by cases ho; simp) rfl
      obtain ⟨hwd, st⟩ := StM.stored (by kernel_rfl) ha hw hl ho h1 (by cases ho; rfl) b6
      have ST := Lib.hid st; clear st hw kd
      have t5 := ha.new 6 b6 (d := 5) rfl rfl (by simp)
      have t8 := ha.new 1 b1 (d := 8) rfl rfl (by simp)
      simp at t5 t8
      obtain ⟨w0, w1, w2, wf⟩ := HF.out
      have wf0 := wf 0
      have wf1 := wf 1
      have wf2 := wf 2
      clear wf
      subst hwd
      cases ho
      rw [if_pos (by rfl)]
      go_simp
      rw [← HW.out.2]
      exact ST.out
    | 8, ho =>
      have st := StM.pure (by kernel_rfl) ha hbs hw ho h1 (by omega) (by omega)
      have ST := Lib.hid st; clear st hw
      cases ho
      rw [if_pos (by rfl)]
      have t12 := ha.new 5 (h2 ⟨5, .data⟩ (by simp) rfl) (d := 12) rfl rfl (by simp)
      simp at t12
      go_simp
      exact ST.out
  case hend =>
    rintro listed a w hall ⟨ha, -, hw⟩
    rw [show on listed 7 = true from hall 7 (by simp), if_pos rfl] at hw
    subst hw
    have hLS := hLV.kept HK.out.2
    have htS : c.B.trials = [] ∨ ∃ b o, c.q = some ⟨b, o, none⟩ ∧ TrialsAt w b o c.B.trials := htr.imp id fun ⟨b, o, e, ht⟩ => ⟨b, o, e, ht.kept HK.out.2⟩
    have hbS := hboys.kept HK.out.2
    have kS := HK.out.2
    obtain ⟨y, hy, hae⟩ := atSt_mid2 ha 5 8 (by kernel_rfl) (by simp)
    have e5 := (hy 0 (by omega)).symm.trans (ha.new 6 (hall 6 (by simp)) (d := 5) rfl rfl (by simp))
    have e6 := (hy 1 (by omega)).symm.trans (ha.new 8 (hall 8 (by simp)) (d := 6) rfl rfl (by simp))
    simp at e5 e6
    simp only [List.range, List.range.loop, List.map, List.take_succ_cons, List.take_zero, List.drop_succ_cons, List.drop_zero, List.cons_append, List.nil_append, Nat.reduceAdd] at hae
    rw [e5, e6] at hae
    subst hae
    clear ha hy e5 e6
    refine (by assumption : ∀ a w, Code.wp _ _ _ a w → _) _ _ ?_
    replace v0 := kcell kS v0
    replace v1 := kcell kS v1
    replace v2 := kcell kS v2
    replace v3 := kcell kS v3
    replace r0 := kcell kS r0
    replace r1 := kcell kS r1
    replace r2 := kcell kS r2
    replace r3 := kcell kS r3
    have rf : ∀ i, w.frozen? ⟨W.heap.size + 1 + 1, i, none⟩ = false := fun i => ((kturns kS (fun _ => False)).frozen (by have := HSZ.out; omega) (fun h => h)).trans (rf i)
    have hkW : Kept W w := kept_trans hk0 kS
    clear HW HF HK htr hboys hLV x0 x1 x2
    have HROOM := Lib.hid h.room
    obtain ⟨WB2, hWB2⟩ : ∃ WB, WB = w.drew.alloc (Obj.cells #[.int .i64 t.boy, .int .i64 t.week, .int .i64 t.note, .int .i64 t.sang] 27) := ⟨_, rfl⟩
    have HKB := Lib.hid (show Kept w WB2 from hWB2 ▸ kept_alloc (kept_drew (kept_refl _)) _)
    have hlen : c.B.trials.length ≤ 1000 := by
      have := hok
      simp only [Book.okB, Bool.and_eq_true, decide_eq_true_eq, List.length_append, List.length_singleton] at this
      omega
    have HRUN := Lib.hid (run_append_full 23 WB2 c.q c.B.trials t (htS.imp id fun ⟨b, o, e, ht⟩ => ⟨b, o, e, ht.kept HKB.out⟩) hlen ⟨w.heap.size, 0, none⟩ 1 (trial_news t hWB2))
    have HSZ2 := Lib.hid (show w.heap.size ≤ WB2.heap.size from HKB.out.size)
    have HWB := Lib.hid hWB2; clear hWB2
    have HLS := Lib.hid hLS; clear hLS
    go_wp2_with fail
    refine (wpIn_wide (n := 0)).1 (wpIn_region_invL (StA 6 7 9 (fun k => match k with | 0 => .pointer (some ⟨V.heap.size, 2, none⟩) | 1 => .slice c.q c.B.trials.length c.capt | 2 => .int .i64 (c.B.trials.length : Int) | 3 => .int .i64 (c.B.trials.length : Int) | 4 => .slice c.q c.B.trials.length c.B.trials.length | 5 => t.val | 6 => .slice (some ⟨w.heap.size, 0, none⟩) 1 1 | _ => .pointer (some ⟨V.heap.size, 2, none⟩)) w WB2 (Full w c.B.trials t) ⟨V.heap.size, 2, none⟩) (by kernel_rfl) (by kernel_rfl) StA.start ?hop2 ?hend2)
    case hop2 =>
      clear hall htS hbS
      rintro i o listed a w1 hl ho h1 h2 hcl ⟨r, ha, hf, ht⟩
      have hi10 : i < 10 := (List.getElem?_eq_some_iff.1 ho).1
      match i, ho with
      | 0, ho =>
        have n8 : on listed 7 = false := by
          cases b7 : on listed 7 with
          | false => rfl
          | true =>
            have b4 := hcl 7 _ rfl b7 ⟨4, .data⟩ (by simp) rfl
            have b1 := hcl 4 _ rfl b4 ⟨1, .data⟩ (by simp) rfl
            have b0 := hcl 1 _ rfl b1 ⟨0, .data⟩ (by simp) rfl
            rw [on_no h1] at b0; cases b0
        have kd : Kept w w1 := StA_kept hf n8 HKB.out
        have st := StA.pure (by kernel_rfl) ha hf ht ho h1 (by omega) (by omega) (by omega)
        have ST := Lib.hid st; clear st ht hf
        cases ho
        rw [if_pos (by rfl)]
        have t5 := ha.old 5 (by kernel_rfl)
        simp at t5
        go_simp
        exact ST.out
      | 1, ho =>
        have n8 : on listed 7 = false := by
          cases b7 : on listed 7 with
          | false => rfl
          | true =>
            have b4 := hcl 7 _ rfl b7 ⟨4, .data⟩ (by simp) rfl
            have b1 := hcl 4 _ rfl b4 ⟨1, .data⟩ (by simp) rfl
            rw [on_no h1] at b1; cases b1
        have kd : Kept w w1 := StA_kept hf n8 HKB.out
        have st := StA.pure (by kernel_rfl) ha hf ht ho h1 (by omega) (by omega) (by omega)
        have ST := Lib.hid st; clear st ht hf
        cases ho
        rw [if_pos (by rfl)]
        have t13 := ha.new 0 (h2 ⟨0, .data⟩ (by simp) rfl) (d := 13) rfl rfl (by simp)
        simp at t13
        have c0 := kcell kd y2
        go_simp
        exact ST.out
      | 2, ho =>
        have n8 : on listed 7 = false := by
          cases b7 : on listed 7 with
          | false => rfl
          | true =>
            have b4 := hcl 7 _ rfl b7 ⟨4, .data⟩ (by simp) rfl
            have b2 := hcl 4 _ rfl b4 ⟨2, .data⟩ (by simp) rfl
            rw [on_no h1] at b2; cases b2
        have kd : Kept w w1 := StA_kept hf n8 HKB.out
        have st := StA.pure (by kernel_rfl) ha hf ht ho h1 (by omega) (by omega) (by omega)
        have ST := Lib.hid st; clear st ht hf
        cases ho
        rw [if_pos (by rfl)]
        have t6 := ha.old 6 (by kernel_rfl)
        simp at t6
        go_simp
        exact ST.out
      | 3, ho =>
        have n8 : on listed 7 = false := by
          cases b7 : on listed 7 with
          | false => rfl
          | true =>
            have b4 := hcl 7 _ rfl b7 ⟨4, .data⟩ (by simp) rfl
            have b3 := hcl 4 _ rfl b4 ⟨3, .data⟩ (by simp) rfl
            rw [on_no h1] at b3; cases b3
        have kd : Kept w w1 := StA_kept hf n8 HKB.out
        have st := StA.pure (by kernel_rfl) ha hf ht ho h1 (by omega) (by omega) (by omega)
        have ST := Lib.hid st; clear st ht hf
        cases ho
        rw [if_pos (by rfl)]
        have t6 := ha.old 6 (by kernel_rfl)
        simp at t6
        go_simp
        exact ST.out
      | 4, ho =>
        have n8 : on listed 7 = false := by
          cases b7 : on listed 7 with
          | false => rfl
          | true =>
            have b4 := hcl 7 _ rfl b7 ⟨4, .data⟩ (by simp) rfl
            rw [on_no h1] at b4; cases b4
        have kd : Kept w w1 := StA_kept hf n8 HKB.out
        have st := StA.pure (by kernel_rfl) ha hf ht ho h1 (by omega) (by omega) (by omega)
        have ST := Lib.hid st; clear st ht hf
        cases ho
        rw [if_pos (by rfl)]
        have t14 := ha.new 1 (h2 ⟨1, .data⟩ (by simp) rfl) (d := 14) rfl rfl (by simp)
        simp at t14
        have t15 := ha.new 2 (h2 ⟨2, .data⟩ (by simp) rfl) (d := 15) rfl rfl (by simp)
        simp at t15
        have t16 := ha.new 3 (h2 ⟨3, .data⟩ (by simp) rfl) (d := 16) rfl rfl (by simp)
        simp at t16
        have hroom := HROOM.out
        go_simp
        exact ST.out
      | 5, ho =>
        have n8 : on listed 7 = false := by
          cases b7 : on listed 7 with
          | false => rfl
          | true =>
            have b6 := hcl 7 _ rfl b7 ⟨6, .data⟩ (by simp) rfl
            have b5 := hcl 6 _ rfl b6 ⟨5, .data⟩ (by simp) rfl
            rw [on_no h1] at b5; cases b5
        have kd : Kept w w1 := StA_kept hf n8 HKB.out
        have st := StA.pure (by kernel_rfl) ha hf ht ho h1 (by omega) (by omega) (by omega)
        have ST := Lib.hid st; clear st ht hf
        cases ho
        rw [if_pos (by rfl)]
        have t3 := ha.old 3 (by kernel_rfl)
        simp at t3
        have c0 := kcell kd v0
        have c1 := kcell kd v1
        have c2 := kcell kd v2
        have c3 := kcell kd v3
        unfold Trial.val at ST
        go_simp
        exact ST.out
      | 6, ho =>
        have n8 : on listed 7 = false := by
          cases b7 : on listed 7 with
          | false => rfl
          | true =>
            have b6 := hcl 7 _ rfl b7 ⟨6, .data⟩ (by simp) rfl
            rw [on_no h1] at b6; cases b6
        obtain ⟨hwd, st⟩ := StA.built (s := 9) (X := ⟨V.heap.size, 2, none⟩) (R := Full w c.B.trials t) (by kernel_rfl) ha hf hl ho h1 (by omega) n8
        have HWD := Lib.hid hwd; clear hwd
        have ST := Lib.hid st; clear st ht hf
        cases ho
        rw [if_pos (by rfl)]
        have t18 := ha.new 5 (h2 ⟨5, .data⟩ (by simp) rfl) (d := 18) rfl rfl (by simp)
        simp at t18
        unfold Trial.val at t18
        go_simp
        rw [HWD.out, show w.drew.heap.size = w.heap.size from rfl, ← HWB.out]
        exact ST.out
      | 7, ho =>
        have b4 : on listed 4 = true := h2 ⟨4, .data⟩ (by cases ho; simp) rfl
        have b6 : on listed 6 = true := h2 ⟨6, .data⟩ (by cases ho; simp) rfl
        have n9 : on listed 9 = false := by
          cases b9 : on listed 9 with
          | false => rfl
          | true =>
            have b7 := hcl 9 _ rfl b9 ⟨7, .data⟩ (by simp) rfl
            rw [on_no h1] at b7; cases b7
        obtain ⟨hwd, st⟩ := StA.appended (s := 9) (X := ⟨V.heap.size, 2, none⟩) (R := Full w c.B.trials t) (by kernel_rfl) ha hf hl ho h1 (by omega) b6 n9
        have t17 : a.eval (.tmp 17) = .slice c.q c.B.trials.length c.B.trials.length := ha.new 4 b4 (d := 17) rfl rfl (by simp)
        have t19 : a.eval (.tmp 19) = .slice (some ⟨w.heap.size, 0, none⟩) 1 1 := ha.new 6 b6 (d := 19) rfl rfl (by simp)
        have ST := Lib.hid st; clear st ht hf
        subst hwd
        obtain ⟨cap', w', hrun, hown, hkk⟩ := HRUN.out
        cases ho
        rw [if_pos (by rfl)]
        refine wpIn_append_run _ (.tmp 17) (.tmp 19) 23 rfl t17 t19 hrun ?_
        exact ST.out _ _ ⟨_, cap', rfl, HSZ2.out, hown, kept_trans HKB.out hkk⟩
      | 8, ho =>
        have st := StA.pure (by kernel_rfl) ha hf ht ho h1 (by omega) (by omega) (by omega)
        have ST := Lib.hid st; clear st ht hf
        cases ho
        rw [if_pos (by rfl)]
        have t5 := ha.old 5 (by kernel_rfl)
        simp at t5
        go_simp
        exact ST.out
      | 9, ho =>
        have b7 : on listed 7 = true := h2 ⟨7, .data⟩ (by cases ho; simp) rfl
        have b8 : on listed 8 = true := h2 ⟨8, .data⟩ (by cases ho; simp) rfl
        obtain ⟨hr, st⟩ := StA.stored (b := 6) (V := w) (WB := WB2) (by kernel_rfl) ha ht hl ho h1 (by cases ho; rfl) (by omega) b7
        have t20 := ha.new 7 b7 (d := 20) rfl rfl (by simp)
        have t21 := ha.new 8 b8 (d := 21) rfl rfl (by simp)
        simp at t20 t21
        have ST := Lib.hid st; clear st ht hf
        obtain ⟨g, cap', hre, hbg, hown, hkk⟩ := hr
        have c2 := kcell hkk y2
        have cf := ((kturns hkk (fun _ => False)).frozen (Go.Ai.lt_of_cell y2) (fun h => h)).trans (yf 2)
        clear hown
        cases ho
        rw [if_pos (by rfl)]
        subst hre
        go_simp
        exact ST.out
    case hend2 =>
      clear hall
      rintro listed a w1 hall ⟨r, ha, -, ht⟩
      obtain ⟨wc, hR, hw⟩ := ht (hall 7 (by simp))
      rw [show on listed 9 = true from hall 9 (by simp), if_pos rfl] at hw
      subst hw
      obtain ⟨g, cap', rfl, hbg, hown, hkk⟩ := hR
      have hzV := Nat.lt_of_lt_of_le (Go.Ai.lt_of_cell y2) hkk.size
      have hzw := Go.Ai.lt_of_cell y2
      obtain ⟨y', hae⟩ := atSt_mid ha 13 9 (by kernel_rfl) (by simp)
      simp only [List.range, List.range.loop, List.map, List.take_succ_cons, List.take_zero, List.drop_succ_cons, List.drop_zero, List.cons_append, List.nil_append, Nat.reduceAdd] at hae
      subst hae
      clear ha
      refine (by assumption : ∀ a w, Code.wp _ _ _ a w → _) _ _ ?_
      have hsz := HSZ.out
      have hT : Turns (fun b => b = V.heap.size) wc (wc.setCell ⟨V.heap.size, 2, none⟩ (.slice (some ⟨g, 0, none⟩) (c.B.trials.length + 1) cap')) := Turns.setCell (T := fun b => b = V.heap.size) (Turns.refl _ _) rfl _ _
      have hk5 : Kept W (wc.setCell ⟨V.heap.size, 2, none⟩ (.slice (some ⟨g, 0, none⟩) (c.B.trials.length + 1) cap')) := Below.setCell (p := ⟨V.heap.size, 2, none⟩) (kept_trans hkW hkk) (show W.heap.size ≤ V.heap.size by omega) _
      have y0' := (cell_set_ne (o := 2) (o' := 0) (v := .slice (some ⟨g, 0, none⟩) (c.B.trials.length + 1) cap') (by omega)).trans (kcell hkk y0)
      have y1' := (cell_set_ne (o := 2) (o' := 1) (v := .slice (some ⟨g, 0, none⟩) (c.B.trials.length + 1) cap') (by omega)).trans (kcell hkk y1)
      have y2' := cell_set_eq (v := .slice (some ⟨g, 0, none⟩) (c.B.trials.length + 1) cap') (kcell hkk y2)
      have r0' := tcell hT (show ¬ W.heap.size + 1 + 1 = V.heap.size by omega) (kcell hkk r0)
      have r1' := tcell hT (show ¬ W.heap.size + 1 + 1 = V.heap.size by omega) (kcell hkk r1)
      have r2' := tcell hT (show ¬ W.heap.size + 1 + 1 = V.heap.size by omega) (kcell hkk r2)
      have r3' := tcell hT (show ¬ W.heap.size + 1 + 1 = V.heap.size by omega) (kcell hkk r3)
      have rf' : ∀ i, (wc.setCell ⟨V.heap.size, 2, none⟩ (.slice (some ⟨g, 0, none⟩) (c.B.trials.length + 1) cap')).frozen? ⟨W.heap.size + 1 + 1, i, none⟩ = false := fun i => by
        rw [World.frozen?_setCell]; exact ((kturns hkk (fun _ => False)).frozen (Go.Ai.lt_of_cell r0) (fun h => h)).trans (rf i)
      have hrow := ownsRow_set hown (a := ⟨V.heap.size, 2, none⟩) (show V.heap.size < g by omega) (.slice (some ⟨g, 0, none⟩) (c.B.trials.length + 1) cap')
      have hnc : c.B.trials.length + 1 ≤ cap' := by
        rcases hown.2 with ⟨e, _⟩ | ⟨_, _, _, e, _, _, h1, _⟩
        · cases e
        · cases e; exact h1
      have hgz := (hrow.lt g rfl).2
      have htr5 : TrialsAt (wc.setCell ⟨V.heap.size, 2, none⟩ (.slice (some ⟨g, 0, none⟩) (c.B.trials.length + 1) cap')) g 0 (c.B.trials ++ [t]) := trialsAt_own (base := g) (cap := cap') (by simpa using hrow)
      have hbl : c.B.boys.length ≤ 140737488355328 := by
        have := hok
        simp only [Book.okB, inB, Bool.and_eq_true, decide_eq_true_eq] at this
        omega
      have hboys5 := h.boys.kept hk5
      have hbook : BookAt (wc.setCell ⟨V.heap.size, 2, none⟩ (.slice (some ⟨g, 0, none⟩) (c.B.trials.length + 1) cap')) (some ⟨c.bb, c.ob, none⟩) (some ⟨g, 0, none⟩) c.capb cap' ⟨c.B.boys, c.B.weeks, c.B.trials ++ [t]⟩ := ⟨hL.kept hk5, hbl, (by simp only [List.length_append, List.length_singleton]; omega), .inr ⟨_, _, rfl, hboys5⟩, .inr ⟨g, 0, rfl, htr5⟩⟩
      have h1 := newChoir_in (fun b => b ≠ W.heap.size + 1 + 1 ∧ b < (wc.setCell ⟨V.heap.size, 2, none⟩ (.slice (some ⟨g, 0, none⟩) (c.B.trials.length + 1) cap')).heap.size) (some ⟨c.bb, c.ob, none⟩) (some ⟨g, 0, none⟩) c.capb cap' ⟨c.B.boys, c.B.weeks, c.B.trials ++ [t]⟩ _ hok hbook
        (fun b o e => by cases e; exact ⟨by have := hS _ h.sb; omega, hboys5.1⟩) (fun _ b o e => by cases e; exact ⟨by omega, hgz⟩)
      simp only [List.length_append, List.length_singleton] at h1
      have H1 := Lib.hid h1; clear h1
      have hW5 : W.heap.size + 1 + 1 < (wc.setCell ⟨V.heap.size, 2, none⟩ (.slice (some ⟨g, 0, none⟩) (c.B.trials.length + 1) cap')).heap.size := Go.Ai.lt_of_cell r0'
      clear hT hrow hown hbook htr5 hboys5 hsz hgz y0 y1 y2 r0 r1 r2 r3 rf yf v0 v1 v2 v3 HRUN HKB HWB HLS hbg
      have hkV : V.heap.size = W.heap.size + 1 + 1 + 1 := HSZ.out
      have HKV := Lib.hid hkV; clear hkV
      go_wp2_with fail
      generalize (wc.setCell ⟨V.heap.size, 2, none⟩ (.slice (some ⟨g, 0, none⟩) (c.B.trials.length + 1) cap')) = W5 at *
      refine H1.out.mono ?_
      rintro e C ⟨c', hcB, rfl, hkC, hat⟩
      clear H1
      have HCB := Lib.hid hcB; clear hcB
      unfold Choir.val
      replace r0' := kcell hkC r0'
      replace r1' := kcell hkC r1'
      replace r2' := kcell hkC r2'
      replace r3' := kcell hkC r3'
      have rf0 := ((kturns hkC (fun _ => False)).frozen hW5 (fun h => h)).trans (rf' 0)
      have rf1 := ((kturns hkC (fun _ => False)).frozen hW5 (fun h => h)).trans (rf' 1)
      have rf2 := ((kturns hkC (fun _ => False)).frozen hW5 (fun h => h)).trans (rf' 2)
      have rf3 := ((kturns hkC (fun _ => False)).frozen hW5 (fun h => h)).trans (rf' 3)
      go_wp2_with fail
      have hTC : Turns (fun b => b = W.heap.size + 1 + 1) C ((((C.setCell ⟨W.heap.size + 1 + 1, 0, none⟩ (.slice (some ⟨c'.bb, c'.ob, none⟩) c'.B.boys.length c'.capb)).setCell ⟨W.heap.size + 1 + 1, 1, none⟩ (.int .i64 c'.B.weeks)).setCell ⟨W.heap.size + 1 + 1, 2, none⟩ (.slice c'.q c'.B.trials.length c'.capt)).setCell ⟨W.heap.size + 1 + 1, 3, none⟩ (.map (some c'.bm))) := ((((Turns.refl (fun b => b = W.heap.size + 1 + 1) C).setCell rfl _ _).setCell rfl _ _).setCell rfl _ _).setCell rfl _ _
      have s0 : ((((C.setCell ⟨W.heap.size + 1 + 1, 0, none⟩ (.slice (some ⟨c'.bb, c'.ob, none⟩) c'.B.boys.length c'.capb)).setCell ⟨W.heap.size + 1 + 1, 1, none⟩ (.int .i64 c'.B.weeks)).setCell ⟨W.heap.size + 1 + 1, 2, none⟩ (.slice c'.q c'.B.trials.length c'.capt)).setCell ⟨W.heap.size + 1 + 1, 3, none⟩ (.map (some c'.bm))).cell? ⟨W.heap.size + 1 + 1, 0, none⟩ = some (.slice (some ⟨c'.bb, c'.ob, none⟩) c'.B.boys.length c'.capb) := by go_simp
      have s1 : ((((C.setCell ⟨W.heap.size + 1 + 1, 0, none⟩ (.slice (some ⟨c'.bb, c'.ob, none⟩) c'.B.boys.length c'.capb)).setCell ⟨W.heap.size + 1 + 1, 1, none⟩ (.int .i64 c'.B.weeks)).setCell ⟨W.heap.size + 1 + 1, 2, none⟩ (.slice c'.q c'.B.trials.length c'.capt)).setCell ⟨W.heap.size + 1 + 1, 3, none⟩ (.map (some c'.bm))).cell? ⟨W.heap.size + 1 + 1, 1, none⟩ = some (.int .i64 c'.B.weeks) := by go_simp
      have s2 : ((((C.setCell ⟨W.heap.size + 1 + 1, 0, none⟩ (.slice (some ⟨c'.bb, c'.ob, none⟩) c'.B.boys.length c'.capb)).setCell ⟨W.heap.size + 1 + 1, 1, none⟩ (.int .i64 c'.B.weeks)).setCell ⟨W.heap.size + 1 + 1, 2, none⟩ (.slice c'.q c'.B.trials.length c'.capt)).setCell ⟨W.heap.size + 1 + 1, 3, none⟩ (.map (some c'.bm))).cell? ⟨W.heap.size + 1 + 1, 2, none⟩ = some (.slice c'.q c'.B.trials.length c'.capt) := by go_simp
      have s3 : ((((C.setCell ⟨W.heap.size + 1 + 1, 0, none⟩ (.slice (some ⟨c'.bb, c'.ob, none⟩) c'.B.boys.length c'.capb)).setCell ⟨W.heap.size + 1 + 1, 1, none⟩ (.int .i64 c'.B.weeks)).setCell ⟨W.heap.size + 1 + 1, 2, none⟩ (.slice c'.q c'.B.trials.length c'.capt)).setCell ⟨W.heap.size + 1 + 1, 3, none⟩ (.map (some c'.bm))).cell? ⟨W.heap.size + 1 + 1, 3, none⟩ = some (.map (some c'.bm)) := by go_simp
      have hkD : Kept W ((((C.setCell ⟨W.heap.size + 1 + 1, 0, none⟩ (.slice (some ⟨c'.bb, c'.ob, none⟩) c'.B.boys.length c'.capb)).setCell ⟨W.heap.size + 1 + 1, 1, none⟩ (.int .i64 c'.B.weeks)).setCell ⟨W.heap.size + 1 + 1, 2, none⟩ (.slice c'.q c'.B.trials.length c'.capt)).setCell ⟨W.heap.size + 1 + 1, 3, none⟩ (.map (some c'.bm))) := Below.setCell (p := ⟨W.heap.size + 1 + 1, 3, none⟩) (Below.setCell (p := ⟨W.heap.size + 1 + 1, 2, none⟩) (Below.setCell (p := ⟨W.heap.size + 1 + 1, 1, none⟩) (Below.setCell (p := ⟨W.heap.size + 1 + 1, 0, none⟩) (kept_trans hk5 hkC) (show W.heap.size ≤ W.heap.size + 1 + 1 by omega) _) (show W.heap.size ≤ W.heap.size + 1 + 1 by omega) _) (show W.heap.size ≤ W.heap.size + 1 + 1 by omega) _) (show W.heap.size ≤ W.heap.size + 1 + 1 by omega) _
      generalize ((((C.setCell ⟨W.heap.size + 1 + 1, 0, none⟩ (.slice (some ⟨c'.bb, c'.ob, none⟩) c'.B.boys.length c'.capb)).setCell ⟨W.heap.size + 1 + 1, 1, none⟩ (.int .i64 c'.B.weeks)).setCell ⟨W.heap.size + 1 + 1, 2, none⟩ (.slice c'.q c'.B.trials.length c'.capt)).setCell ⟨W.heap.size + 1 + 1, 3, none⟩ (.map (some c'.bm))) = D at *
      refine bodyPost_ret (v := .agg #[.slice (some ⟨c'.bb, c'.ob, none⟩) c'.B.boys.length c'.capb, .int .i64 c'.B.weeks, .slice c'.q c'.B.trials.length c'.capt, .map (some c'.bm)]) (by simp [results, Tryd.results31, go_sem, s0, s1, s2, s3]) rfl ?_
      exact ⟨c', HCB.out, rfl, hkD, _, hat.turns hTC (fun b hb e => by
        obtain ⟨_, h1 | h1⟩ := hb
        · exact h1.1 e
        · omega), fun b hb => Nat.lt_of_lt_of_le hb.1 hTC.size⟩
end Go.Proofs.YtchgkfnodcbpiaaDoor
set_option linter.all false
namespace Go.Proofs.YtchgkfnodcbpiaaDoor
open Go.RowKit Go.Sort Go.Rg
set_option maxRecDepth 100000

/-- the book with one trial more -/
def Book.more (B : Book) (t : Trial) : Book := ⟨B.boys, B.weeks, B.trials ++ [t]⟩
theorem more_ok {B : Book} {t : Trial} (h : B.okB = true) (h5 : B.trials.length ≤ 5) : (B.more t).okB = validTrialB B.boys.length B.weeks.toNat t := by
  simp only [Book.okB, Book.more, Bool.and_eq_true, decide_eq_true_eq, List.all_append, List.all_cons, List.all_nil, Bool.and_true] at h ⊢
  rw [h.1.1.1.1, h.1.1.1.2, h.1.2, h.2]
  simp
  omega
/-- can the book be true with one trial more? -/
def FitsP (B : Book) (t : Trial) (W : World) (e : Ending) (C : World) : Prop :=
  ∃ (r : Bool) (err : Int), e = .returned (.tuple #[.bool r, .int .i64 err]) ∧ Kept W C ∧
    ((err = 0 ∧ (B.more t).okB = true ∧ Can B ∧ (r = true ↔ Can (B.more t))) ∨ (r = false ∧ err = 21 ∧ (B.more t).okB = false) ∨ (r = false ∧ err = 22 ∧ (B.more t).okB = true ∧ ¬ Can B))

set_option maxHeartbeats 8000000 in
theorem fits_any (p q : Option Addr) (cap capt : Nat) (B : Book) (t : Trial) (W : World) (h : BookAt W p q cap capt B) (hg : Nothing W) (hok0 : B.okB = true) (h5 : B.trials.length ≤ 5) :
    Calls Tryd.prog 7 #[B.val p q cap capt, .agg #[.int .i64 t.boy, .int .i64 t.week, .int .i64 t.note, .int .i64 t.sang]] W (FitsP B t W) := by
  have hwk : 1 ≤ B.weeks ∧ B.weeks ≤ 6 := by
    have := hok0
    simp only [Book.okB, inB, Bool.and_eq_true, decide_eq_true_eq] at this
    omega
  have hwkI : ((B.weeks.toNat : Nat) : Int) = B.weeks := Int.toNat_of_nonneg (by omega)
  have hnb := h.nb
  obtain ⟨ct, hct⟩ : ∃ ct, validTrialB B.boys.length B.weeks.toNat t = ct := ⟨_, rfl⟩
  have HCT := Lib.hid hct; clear hct
  have HMO := Lib.hid (more_ok (t := t) hok0 h5)
  refine callsIn_wide.1 (callsIn_of_wp (n := 0) Tryd.func7 rfl trivial ?_ rfl)
  simp only [Tryd.ntmps7, List.size_toArray, List.length_cons, List.length_nil, Nat.reduceAdd, Nat.reduceSub, Array.replicate_succ, Array.replicate_zero, List.push_toArray, List.append_toArray, List.nil_append, List.cons_append]
  unfold Book.val
  gi_wp2_with fail
  have hk0 : Kept W (((W.alloc (Obj.cells #[.slice p B.boys.length cap, .int .i64 B.weeks, .slice q B.trials.length capt] 25)).alloc (Obj.cells #[.int .i64 t.boy, .int .i64 t.week, .int .i64 t.note, .int .i64 t.sang] 27))) := kept_alloc (kept_alloc (kept_refl _) _) _
  have a0c : (((W.alloc (Obj.cells #[.slice p B.boys.length cap, .int .i64 B.weeks, .slice q B.trials.length capt] 25)).alloc (Obj.cells #[.int .i64 t.boy, .int .i64 t.week, .int .i64 t.note, .int .i64 t.sang] 27))).cell? ⟨W.heap.size, 0, none⟩ = some (.slice p B.boys.length cap) := by go_simp
  have a1c : (((W.alloc (Obj.cells #[.slice p B.boys.length cap, .int .i64 B.weeks, .slice q B.trials.length capt] 25)).alloc (Obj.cells #[.int .i64 t.boy, .int .i64 t.week, .int .i64 t.note, .int .i64 t.sang] 27))).cell? ⟨W.heap.size, 1, none⟩ = some (.int .i64 B.weeks) := by go_simp
  have a2c : (((W.alloc (Obj.cells #[.slice p B.boys.length cap, .int .i64 B.weeks, .slice q B.trials.length capt] 25)).alloc (Obj.cells #[.int .i64 t.boy, .int .i64 t.week, .int .i64 t.note, .int .i64 t.sang] 27))).cell? ⟨W.heap.size, 2, none⟩ = some (.slice q B.trials.length capt) := by go_simp
  have v0 : (((W.alloc (Obj.cells #[.slice p B.boys.length cap, .int .i64 B.weeks, .slice q B.trials.length capt] 25)).alloc (Obj.cells #[.int .i64 t.boy, .int .i64 t.week, .int .i64 t.note, .int .i64 t.sang] 27))).cell? ⟨W.heap.size + 1, 0, none⟩ = some (.int .i64 t.boy) := by go_simp
  have v1 : (((W.alloc (Obj.cells #[.slice p B.boys.length cap, .int .i64 B.weeks, .slice q B.trials.length capt] 25)).alloc (Obj.cells #[.int .i64 t.boy, .int .i64 t.week, .int .i64 t.note, .int .i64 t.sang] 27))).cell? ⟨W.heap.size + 1, 1, none⟩ = some (.int .i64 t.week) := by go_simp
  have v2 : (((W.alloc (Obj.cells #[.slice p B.boys.length cap, .int .i64 B.weeks, .slice q B.trials.length capt] 25)).alloc (Obj.cells #[.int .i64 t.boy, .int .i64 t.week, .int .i64 t.note, .int .i64 t.sang] 27))).cell? ⟨W.heap.size + 1, 2, none⟩ = some (.int .i64 t.note) := by go_simp
  have v3 : (((W.alloc (Obj.cells #[.slice p B.boys.length cap, .int .i64 B.weeks, .slice q B.trials.length capt] 25)).alloc (Obj.cells #[.int .i64 t.boy, .int .i64 t.week, .int .i64 t.note, .int .i64 t.sang] 27))).cell? ⟨W.heap.size + 1, 3, none⟩ = some (.int .i64 t.sang) := by go_simp
  generalize (((W.alloc (Obj.cells #[.slice p B.boys.length cap, .int .i64 B.weeks, .slice q B.trials.length capt] 25)).alloc (Obj.cells #[.int .i64 t.boy, .int .i64 t.week, .int .i64 t.note, .int .i64 t.sang] 27))) = W0 at *
  refine wpIn_region_invL (StO 4 (fun j => match j with | 0 => (.agg #[.slice p B.boys.length cap, .int .i64 B.weeks, .slice q B.trials.length capt]) | 1 => (.agg #[.slice p B.boys.length cap, .int .i64 B.weeks, .slice q B.trials.length capt]) | 2 => .agg #[.int .i64 t.boy, .int .i64 t.week, .int .i64 t.note, .int .i64 t.sang] | _ => .bool ct) W0 B ct) (by kernel_rfl) (by kernel_rfl) StO.start ?hop ?hend
  case hop =>
    rintro i o listed a w hl ho h1 h2 hcl ⟨v, err, pp, ha, hw⟩
    have hi11 : i < 11 := (List.getElem?_eq_some_iff.1 ho).1
    match i, ho with
    | 0, ho =>
      have st := StO.same (by kernel_rfl) ha hw ho h1 (by omega) (by omega) (by omega) (kept_refl w)
      have ST := Lib.hid st; clear st
      cases ho
      rw [if_pos (by rfl)]
      have t2 := ha.old 2 (by kernel_rfl)
      simp at t2
      have r0 := kcell hw.kept a0c
      have r1 := kcell hw.kept a1c
      have r2 := kcell hw.kept a2c
      go_simp
      exact ST.out
    | 1, ho =>
      have st := StO.same (by kernel_rfl) ha hw ho h1 (by omega) (by omega) (by omega) (kept_refl w)
      have ST := Lib.hid st; clear st
      cases ho
      rw [if_pos (by rfl)]
      have t2 := ha.old 2 (by kernel_rfl)
      simp at t2
      have r0 := kcell hw.kept a0c
      have r1 := kcell hw.kept a1c
      have r2 := kcell hw.kept a2c
      go_simp
      exact ST.out
    | 2, ho =>
      have st := StO.same (by kernel_rfl) ha hw ho h1 (by omega) (by omega) (by omega) (kept_refl w)
      have ST := Lib.hid st; clear st
      cases ho
      rw [if_pos (by rfl)]
      have t3 := ha.old 3 (by kernel_rfl)
      simp at t3
      have z0 := kcell hw.kept v0
      have z1 := kcell hw.kept v1
      have z2 := kcell hw.kept v2
      have z3 := kcell hw.kept v3
      go_simp
      exact ST.out
    | 3, ho =>
      have st := fun w' (k : Kept w w') => StO.same (by kernel_rfl) ha hw ho h1 (by omega) (by omega) (by omega) k
      have ST := Lib.hid st; clear st
      cases ho
      rw [if_pos (by rfl)]
      have t10 := ha.new 1 (h2 ⟨1, .data⟩ (by simp) rfl) (d := 10) rfl rfl (by simp)
      simp [openVs] at t10
      have t11 := ha.new 2 (h2 ⟨2, .data⟩ (by simp) rfl) (d := 11) rfl rfl (by simp)
      simp [openVs] at t11
      have hcall := validTrial_any p B.boys.length cap B.weeks.toNat (.slice q B.trials.length capt) t w hnb (by omega)
      rw [hwkI, HCT.out] at hcall
      go_simp
      refine ⟨trivial, rfl, (callsIn_wide.2 hcall).mono ?_⟩
      rintro e w' ⟨rfl, hk⟩
      exact ST.out _ hk
    | 4, ho =>
      obtain ⟨n5, n6, n7, n9, n10⟩ := open_first hcl h1 ⟨_, rfl, ⟨4, .data⟩, by simp, rfl, rfl⟩ ⟨_, rfl, ⟨5, .data⟩, by simp, rfl, rfl⟩ ⟨_, rfl, ⟨5, .data⟩, by simp, rfl, rfl⟩ ⟨_, rfl, ⟨6, .data⟩, by simp, rfl, rfl⟩ ⟨_, rfl, ⟨7, .data⟩, by simp, rfl, rfl⟩
      have st := fun v' err' w' (k : OpenReg W0 B ct v' err' pp true (on listed 8) (on listed 9) w') => StO.opened (by kernel_rfl) ha hl ho h1 n5 n6 n7 n9 n10 k
      have ST := Lib.hid st; clear st
      cases ho
      rw [if_pos (by rfl)]
      have t9 := ha.new 0 (h2 ⟨0, .data⟩ (by simp) rfl) (d := 9) rfl rfl (by simp)
      simp [openVs] at t9
      have t12 := ha.new 3 (h2 ⟨3, .data⟩ (by simp) rfl) (d := 12) rfl rfl (by simp)
      simp [openVs] at t12
      have hcall := open_any p q cap capt B ct W w h (kept_trans hk0 hw.kept) (hg.kept (kept_trans hk0 hw.kept))
      unfold Book.val at hcall
      have HOP := Lib.hid (fun e w' => hw.opened (e := e) (w' := w') W.heap.size hk0.size n9)
      go_simp
      refine ⟨trivial, rfl, (callsIn_wide.2 hcall).mono ?_⟩
      intro e w' hop
      obtain ⟨v', err', rfl, hr⟩ := HOP.out e w' hop
      exact ST.out v' err' w' hr
    | 5, ho =>
      have st := StO.same (by kernel_rfl) ha hw ho h1 (by omega) (by omega) (by omega) (kept_refl w)
      have ST := Lib.hid st; clear st
      cases ho
      rw [if_pos (by rfl)]
      have t13 := ha.new 4 (h2 ⟨4, .data⟩ (by simp) rfl) (d := 13) rfl rfl (by simp)
      simp [openVs] at t13
      go_simp
      exact ST.out
    | 6, ho =>
      have st := StO.same (by kernel_rfl) ha hw ho h1 (by omega) (by omega) (by omega) (kept_refl w)
      have ST := Lib.hid st; clear st
      cases ho
      rw [if_pos (by rfl)]
      have t8 := ha.new 5 (h2 ⟨5, .data⟩ (by simp) rfl) (d := 8) rfl rfl (by simp)
      simp [openVs] at t8
      go_simp
      exact ST.out
    | 7, ho =>
      have st := StO.same (by kernel_rfl) ha hw ho h1 (by omega) (by omega) (by omega) (kept_refl w)
      have ST := Lib.hid st; clear st
      cases ho
      rw [if_pos (by rfl)]
      have t8 := ha.new 5 (h2 ⟨5, .data⟩ (by simp) rfl) (d := 8) rfl rfl (by simp)
      simp [openVs] at t8
      go_simp
      exact ST.out
    | 8, ho =>
      have n9 : on listed 9 = false := by
        cases hb : on listed 9 with
        | false => rfl
        | true => have := hcl 9 _ rfl hb ⟨8, .data⟩ (by simp) rfl; rw [on_no h1] at this; cases this
      have st := StO.boxed (by kernel_rfl) ha hw hl ho h1 n9
      have ST := Lib.hid st; clear st
      cases ho
      rw [if_pos (by rfl)]
      go_simp
      exact ST.out
    | 9, ho =>
      have y8 : on listed 8 = true := h2 ⟨8, .data⟩ (by cases ho; simp) rfl
      have y4 : on listed 4 = true := h2 ⟨4, .chain⟩ (by cases ho; simp) rfl
      have t6 := ha.new 8 y8 (d := 6) rfl rfl (by simp)
      simp [openVs] at t6
      have t14 := ha.new 6 (h2 ⟨6, .data⟩ (by cases ho; simp) rfl) (d := 14) rfl rfl (by simp)
      simp [openVs] at t14
      obtain ⟨hbp, ⟨f0, f1, f2, f3, b0, b1, b2, b3⟩, hbf⟩ := hw.box y8
      have bf0 := hbf 0
      have bf1 := hbf 1
      have bf2 := hbf 2
      have bf3 := hbf 3
      rcases hw.res y4 with ⟨_, _, hctt, _, c, S, hcB, rfl, _⟩ | ⟨rfl, _⟩
      · clear hcB hctt
        have st := StO.stored (by kernel_rfl) ha hw hl ho (by cases ho; rfl) h1 y8 (show c.val = _ from rfl)
        have ST := Lib.hid st; clear st
        cases ho
        rw [if_pos (by rfl)]
        unfold Choir.val at t14
        clear hbf
        go_simp
        exact ST.out
      · have st := StO.stored (by kernel_rfl) ha hw hl ho (by cases ho; rfl) h1 y8 (show zeroChoir = _ from rfl)
        have ST := Lib.hid st; clear st
        cases ho
        rw [if_pos (by rfl)]
        unfold zeroChoir at t14
        clear hbf
        go_simp
        exact ST.out
    | 10, ho =>
      have st := StO.same (by kernel_rfl) ha hw ho h1 (by omega) (by omega) (by omega) (kept_refl w)
      have ST := Lib.hid st; clear st
      cases ho
      rw [if_pos (by rfl)]
      have t15 := ha.new 7 (h2 ⟨7, .data⟩ (by simp) rfl) (d := 15) rfl rfl (by simp)
      simp [openVs] at t15
      go_simp
      exact ST.out

  case hend =>
    rintro listed a w hall ⟨v, err, pp, ha, hw⟩
    rw [show on listed 4 = true from hall 4 (by simp), show on listed 8 = true from hall 8 (by simp), show on listed 9 = true from hall 9 (by simp)] at hw
    obtain ⟨y, hy, hae⟩ := ha.lit (n := 23) rfl
    have y2 := (hy 2).symm.trans (ha.old 2 (by kernel_rfl))
    have y3 := (hy 3).symm.trans (ha.old 3 (by kernel_rfl))
    have y4 := (hy 4).symm.trans (ha.old 4 (by kernel_rfl))
    have y5 := (hy 5).symm.trans (ha.old 5 (by kernel_rfl))
    have y6 := (hy 6).symm.trans (ha.new 8 (hall 8 (by simp)) (d := 6) rfl rfl (by simp))
    have y7 := (hy 7).symm.trans (ha.new 10 (hall 10 (by simp)) (d := 7) rfl rfl (by simp))
    simp at y2 y3 y4 y5
    simp [openVs] at y6 y7
    simp only [List.range, List.range.loop, List.map] at hae
    rw [y2, y3, y4, y5, y6, y7] at hae
    subst hae
    clear ha hy y2 y3 y4 y5 y6 y7
    refine (by assumption : ∀ a w, Code.wpIn _ _ _ _ _ a w → _) _ w ?_
    have z0 := kcell hw.kept v0
    have z1 := kcell hw.kept v1
    have z2 := kcell hw.kept v2
    have z3 := kcell hw.kept v3
    obtain ⟨_, x0, x1, x2, x3, hv, b0, b1, b2, b3⟩ := hw.put rfl
    rcases hw.res rfl with ⟨rfl, hok, hctt, hcan, c, S, hcB, hvc, hch, hSz, hSp⟩ | ⟨rfl, herr⟩
    · subst hcB
      subst hvc
      have e4 := congrArg (fun u => match u with | Value.agg cs => cs.toList | _ => []) hv
      simp only [Choir.val, List.cons.injEq, and_true] at e4
      obtain ⟨rfl, rfl, rfl, rfl⟩ := e4
      have hzp := Go.Ai.lt_of_cell b0
      have hzw := Go.Ai.lt_of_cell z0
      have hmok : (c.B.more t).okB = true := HMO.out.trans (HCT.out.trans hctt)
      have hkw := kept_trans hk0 hw.kept
      have HC := Lib.hid (cwith_any c t w S hch hSz (h.laid.kept hkw) hmok)
      have HHG := Lib.hid (hg.kept hkw)
      have hcanH := Lib.hid hcan
      clear hch hSz hSp hok hctt hcan
      unfold Choir.val at HC
      gi_wp2_with fail
      refine ⟨trivial, rfl, (callsIn_wide.2 HC.out).mono ?_⟩
      rintro e w2 ⟨c', hcB', rfl, hk2, S', hat', hS'⟩
      have HCB := Lib.hid hcB'; clear hcB'
      have HCAN := Lib.hid (canBeTrue_any S' c' w2 hat' hS' (HHG.out.kept hk2))
      unfold Choir.val at HCAN
      clear HC hat' hS'
      gi_wp2_with fail
      refine ⟨trivial, rfl, (callsIn_wide.2 HCAN.out).mono ?_⟩
      rintro e w3 ⟨r, hr, rfl, hk3⟩
      gi_wp2_with fail
      refine bodyPost_ret (v := .tuple #[.bool r, .int .i64 0]) (by simp [results, Tryd.results7, go_sem]) rfl ?_
      rw [HCB.out] at hr
      exact ⟨r, 0, rfl, kept_trans hkw (kept_trans hk2 hk3), .inl ⟨rfl, hmok, hcanH.out, hr⟩⟩
    · rcases herr with ⟨_, he⟩ | ⟨rfl, _, he⟩ | ⟨rfl, _, he, hnc⟩
      · rw [hok0] at he; cases he
      · gi_wp2_with fail
        refine bodyPost_ret (v := .tuple #[.bool false, .int .i64 21]) (by simp [results, Tryd.results7, go_sem]) rfl ?_
        exact ⟨false, 21, rfl, kept_trans hk0 hw.kept, .inr (.inl ⟨rfl, rfl, HMO.out.trans (HCT.out.trans he)⟩)⟩
      · gi_wp2_with fail
        refine bodyPost_ret (v := .tuple #[.bool false, .int .i64 22]) (by simp [results, Tryd.results7, go_sem]) rfl ?_
        exact ⟨false, 22, rfl, kept_trans hk0 hw.kept, .inr (.inr ⟨rfl, rfl, HMO.out.trans (HCT.out.trans he), hnc⟩)⟩
end Go.Proofs.YtchgkfnodcbpiaaDoor
set_option linter.all false
namespace Go.Proofs.YtchgkfnodcbpiaaDoor
open Go.RowKit Go.Sort Go.Rg
set_option maxRecDepth 100000

/-- what is known while a region is carried out, in whatever order: an invariant of its values, of the operations that are over, and of the world -/
def StG (I : (Nat → Value) → (Nat → Bool) → World → Prop) (l : List Oper) (a0 : Act) (listed : Array Bool) (a : Act) (w : World) : Prop :=
  ∃ vs, AtSt l.toArray vs a0 listed a ∧ I vs (on listed) w
theorem on_rep (n j : Nat) : on (Array.replicate n false) j = false := by
  unfold on
  simp only [Array.getD_eq_getD_getElem?, Array.getElem?_replicate]
  split <;> simp
theorem StG.start {I : (Nat → Value) → (Nat → Bool) → World → Prop} {l : List Oper} {a0 : Act} {w : World} (h : I (fun _ => undef) (fun _ => false) w) : StG I l a0 (Array.replicate l.length false) a0 w := by
  refine ⟨fun _ => undef, ⟨rfl, rfl, fun j o d hj => ?_, fun t _ => rfl⟩, ?_⟩
  · have := on_rep l.length j
    unfold on at this
    rw [this] at hj; cases hj
  · rw [show on (Array.replicate l.length false) = fun _ => false from funext (on_rep l.length)]; exact h
theorem StG.step {I : (Nat → Value) → (Nat → Bool) → World → Prop} {l : List Oper} {a0 a : Act} {vs : Nat → Value} {listed : Array Bool} {i : Nat} {o : Oper} (hd : distFrom l = true) (ha : AtSt l.toArray vs a0 listed a) (hl : listed.size = l.length) (ho : l[i]? = some o) (h1 : listed.getD i true = false) {v : Value} {w' : World}
    (hI : I (fun j => if j = i then v else vs j) (fun j => if j = i then true else on listed j) w') : StG I l a0 (listed.setIfInBounds i true) (a.put o.dst v) w' := by
  have hz : i < listed.size := by rw [hl]; exact (List.getElem?_eq_some_iff.1 ho).1
  have hn := on_no h1
  have hsw : ∀ j, listed.getD j false = true → vs j = (fun j => if j = i then v else vs j) j := fun j hj => by
    by_cases e : j = i
    · subst e; unfold on at hn; rw [hn] at hj; cases hj
    · simp [e]
  have hp := (ha.swap hsw).put (i := i) (by simpa using ho) h1 (dist_arr hd)
  simp only [if_true] at hp
  refine ⟨_, hp, ?_⟩
  rw [show on (listed.setIfInBounds i true) = fun j => if j = i then true else on listed j from funext fun j => by
    by_cases e : j = i
    · subst e; rw [on_self hz]; simp
    · rw [on_set e]; simp [e]]
  exact hI

theorem row_kept {A B : World} {base size n : Nat} {e : TypeId} {v : Value} {xs : List Value} (h : A.ownsRow base e size v n xs) (hk : Kept A B) : B.ownsRow base e size v n xs := by
  obtain ⟨h1, h2⟩ := h
  refine ⟨h1, h2.imp id ?_⟩
  rintro ⟨g, cap', cur, e1, e2, e3, e4⟩
  refine ⟨g, cap', cur, e1, e2, (hk.block g ?_).trans e3, e4⟩
  rcases Nat.lt_or_ge g A.heap.size with hlt | hge
  · exact hlt
  · rw [Array.getElem?_eq_none hge] at e3; cases e3

/-- a region 'y.f = append(append([]T{}, xs...), news)': the empty row (0), the first append (3), the row of the new one (5), the second append (6), the store (8) -/
structure Apps (V : World) (e : TypeId) (size n : Nat) (xs news : List Value) (X : Addr) (vs : Nat → Value) (on : Nat → Bool) (w : World) : Prop where
  o30 : on 3 = true → on 0 = true
  o63 : on 6 = true → on 3 = true
  o65 : on 6 = true → on 5 = true
  o86 : on 8 = true → on 6 = true
  kept : on 8 = false → Kept V w
  r0 : on 0 = true → on 3 = false → ∃ g, vs 0 = .slice (some ⟨g, 0, none⟩) 0 0 ∧ w.ownsRow V.heap.size e size (vs 0) 0 []
  r3 : on 3 = true → on 6 = false → w.ownsRow V.heap.size e size (vs 3) n xs
  r5 : on 5 = true → on 6 = false → ∃ g, vs 5 = .slice (some ⟨g, 0, none⟩) 1 1 ∧ g < w.heap.size ∧ V.heap.size ≤ g ∧ (∀ (k : Nat) (u : Value), news[k]? = some u → w.cell? ((⟨g, 0, none⟩ : Addr).add k) = some u) ∧ (on 0 = true → on 3 = false → (vs 0).ownBlock ≠ some g) ∧ (on 3 = true → (vs 3).ownBlock ≠ some g)
  r6 : on 6 = true → ∃ wc, Kept V wc ∧ (∃ g cap, vs 6 = .slice (some ⟨g, 0, none⟩) (n + 1) cap) ∧ wc.ownsRow V.heap.size e size (vs 6) (n + 1) (xs ++ news) ∧ w = if on 8 then wc.setCell X (vs 6) else wc
section
variable {V w w' : World} {e : TypeId} {size n : Nat} {xs news : List Value} {X : Addr} {vs : Nat → Value} {on : Nat → Bool} {v : Value}
theorem Apps.start : Apps V e size n xs news X (fun _ => undef) (fun _ => false) V.drew :=
  ⟨nofun, nofun, nofun, nofun, fun _ => kept_drew (kept_refl V), nofun, nofun, nofun, nofun⟩
theorem Apps.pure (h : Apps V e size n xs news X vs on w) (i : Nat) (h0 : 0 ≠ i) (h3 : 3 ≠ i) (h5 : 5 ≠ i) (h6 : 6 ≠ i) (h8 : 8 ≠ i) : Apps V e size n xs news X (fun j => if j = i then v else vs j) (fun j => if j = i then true else on j) w := by
  obtain ⟨a1, a2, a3, a4, a5, a6, a7, a8, a9⟩ := h
  constructor <;> simp only [if_neg h0, if_neg h3, if_neg h5, if_neg h6, if_neg h8] <;> assumption
theorem add_cell {A : World} {g k : Nat} {u : Value} : A.cell? ((⟨g, 0, none⟩ : Addr).add k) = some u ↔ A.cell? ⟨g, k, none⟩ = some u := by
  rw [show ((⟨g, 0, none⟩ : Addr).add k) = ⟨g, k, none⟩ by unfold Addr.add; split <;> simp_all]
theorem Apps.no3 (h : Apps V e size n xs news X vs on w) (h0 : on 0 = false) : on 3 = false := by
  cases b : on 3 with
  | false => rfl
  | true => rw [h.o30 b] at h0; cases h0
theorem Apps.no6 (h : Apps V e size n xs news X vs on w) (h3 : on 3 = false) : on 6 = false := by
  cases b : on 6 with
  | false => rfl
  | true => rw [h.o63 b] at h3; cases h3
theorem Apps.no6' (h : Apps V e size n xs news X vs on w) (h5 : on 5 = false) : on 6 = false := by
  cases b : on 6 with
  | false => rfl
  | true => rw [h.o65 b] at h5; cases h5
theorem Apps.no8 (h : Apps V e size n xs news X vs on w) (h6 : on 6 = false) : on 8 = false := by
  cases b : on 8 with
  | false => rfl
  | true => rw [h.o86 b] at h6; cases h6
theorem tf {p : Prop} {b : Bool} (h1 : b = true) (h2 : b = false) : p := by rw [h1] at h2; cases h2
theorem Apps.made0 (h : Apps V e size n xs news X vs on w) (h0 : on 0 = false) (hk : Kept w w') (hv : v = .slice (some ⟨w.heap.size, 0, none⟩) 0 0) (hrow : w'.ownsRow V.heap.size e size v 0 []) :
    Apps V e size n xs news X (fun j => if j = 0 then v else vs j) (fun j => if j = 0 then true else on j) w' := by
  have h3 := h.no3 h0
  have h6 := h.no6 h3
  have h8 := h.no8 h6
  have hkk := kept_trans (h.kept h8) hk
  refine ⟨fun _ => rfl, fun b => tf b h6, fun b => tf b h6, fun b => tf b h8, fun _ => hkk, fun _ _ => ⟨_, hv, hrow⟩, fun b => tf b h3, fun b5 _ => ?_, fun b => tf b h6⟩
  obtain ⟨g, e1, e2, e3, e4, e5, e6⟩ := h.r5 b5 h6
  refine ⟨g, e1, Nat.lt_of_lt_of_le e2 hk.size, e3, fun k u hu => add_cell.2 (kcell hk (add_cell.1 (e4 k u hu))), fun _ _ => ?_, fun b => tf b h3⟩
  show v.ownBlock ≠ some g
  rw [hv]
  simp only [Value.ownBlock, ne_eq, Option.some.injEq]
  omega
theorem Apps.made5 (h : Apps V e size n xs news X vs on w) (h5 : on 5 = false) (hk : Kept w w') (hv : v = .slice (some ⟨w.heap.size, 0, none⟩) 1 1) (hz : w.heap.size < w'.heap.size) (hn : ∀ (k : Nat) (u : Value), news[k]? = some u → w'.cell? ((⟨w.heap.size, 0, none⟩ : Addr).add k) = some u) :
    Apps V e size n xs news X (fun j => if j = 5 then v else vs j) (fun j => if j = 5 then true else on j) w' := by
  have h6 := h.no6' h5
  have h8 := h.no8 h6
  have hkk := kept_trans (h.kept h8) hk
  have hVw := (h.kept h8).size
  refine ⟨h.o30, fun b => tf b h6, fun b => tf b h6, fun b => tf b h8, fun _ => hkk, fun b0 b3 => ?_, fun b3 _ => row_kept (h.r3 b3 h6) hk, fun _ _ => ⟨_, hv, hz, hVw, hn, fun b0 b3 ee => ?_, fun b3 ee => ?_⟩, fun b => tf b h6⟩
  · obtain ⟨g, e1, e2⟩ := h.r0 b0 b3
    exact ⟨g, e1, row_kept e2 hk⟩
  · obtain ⟨g, e1, e2⟩ := h.r0 b0 b3
    have := (e2.lt _ ee).2
    omega
  · have := ((h.r3 b3 h6).lt _ ee).2
    omega
theorem Apps.app3 (h : Apps V e size n xs news X vs on w) (h3 : on 3 = false) (h0 : on 0 = true) (hg : w.grownBy w' (vs 0).ownBlock) (hrow : w'.ownsRow V.heap.size e size v n xs) (hat : v.ownBlock = (vs 0).ownBlock ∨ v.ownBlock = some w.heap.size) :
    Apps V e size n xs news X (fun j => if j = 3 then v else vs j) (fun j => if j = 3 then true else on j) w' := by
  have h6 := h.no6 h3
  have h8 := h.no8 h6
  obtain ⟨g0, e0, hr0⟩ := h.r0 h0 h3
  have hkk : Kept V w' := Below.grown (h.kept h8) hg (h.kept h8).size fun k ek => (hr0.lt k ek).1
  refine ⟨fun _ => h0, fun _ => rfl, h.o65, fun b => tf b h8, fun _ => hkk, fun _ b => (nomatch b), fun _ _ => hrow, fun b5 _ => ?_, fun b => tf b h6⟩
  obtain ⟨g, e1, e2, e3, e4, e5, e6⟩ := h.r5 b5 h6
  have hne := e5 h0 h3
  refine ⟨g, e1, Nat.lt_of_lt_of_le e2 hg.size, e3, fun k u hu => add_cell.2 (grown_cell hg hne (add_cell.1 (e4 k u hu))), (fun _ b => (nomatch b)), fun _ ee => ?_⟩
  rcases hat with ha | ha
  · exact hne (ha.symm.trans ee)
  · have ee' : v.ownBlock = some g := ee
    rw [ha] at ee'
    simp only [Option.some.injEq] at ee'
    omega
theorem Apps.app6 (h : Apps V e size n xs news X vs on w) (h6 : on 6 = false) (h3 : on 3 = true) (h5 : on 5 = true) (hg : w.grownBy w' (vs 3).ownBlock) (hv : ∃ g cap, v = .slice (some ⟨g, 0, none⟩) (n + 1) cap) (hrow : w'.ownsRow V.heap.size e size v (n + 1) (xs ++ news)) :
    Apps V e size n xs news X (fun j => if j = 6 then v else vs j) (fun j => if j = 6 then true else on j) w' := by
  have h8 := h.no8 h6
  have hr3 := h.r3 h3 h6
  have hkk : Kept V w' := Below.grown (h.kept h8) hg (h.kept h8).size fun k ek => (hr3.lt k ek).1
  refine ⟨h.o30, fun _ => h3, fun _ => h5, fun _ => rfl, fun _ => hkk, fun _ b3 => tf h3 b3, fun _ b => (nomatch b), fun _ b => (nomatch b), fun _ => ⟨w', hkk, hv, hrow, ?_⟩⟩
  show w' = if on 8 = true then _ else w'
  rw [h8]; rfl
theorem Apps.stored (h : Apps V e size n xs news X vs on w) (h8 : on 8 = false) (h6 : on 6 = true) :
    Apps V e size n xs news X (fun j => if j = 8 then v else vs j) (fun j => if j = 8 then true else on j) (w.setCell X (vs 6)) := by
  refine ⟨h.o30, h.o63, h.o65, fun _ => h6, fun b => (nomatch b), fun _ b3 => tf (h.o63 h6) b3, fun _ b6 => tf h6 b6, fun _ b6 => tf h6 b6, fun _ => ?_⟩
  obtain ⟨wc, c1, c2, c3, c4⟩ := h.r6 h6
  rw [h8] at c4
  refine ⟨wc, c1, c2, c3, ?_⟩
  rw [c4]; rfl
end
end Go.Proofs.YtchgkfnodcbpiaaDoor
set_option linter.all false
namespace Go.Proofs.YtchgkfnodcbpiaaDoor
open Go.RowKit Go.Sort Go.Rg
set_option maxRecDepth 100000

set_option maxHeartbeats 4000000 in
theorem right_bad (p q : Option Addr) (cap capt : Nat) (B : Book) (W : World) (h : BookAt W p q cap capt B) (hok : B.okB = false) :
    Calls Tryd.prog 8 #[B.val p q cap capt] W fun e C => e = .returned (.tuple #[.bool false, .int .i64 20]) ∧ Kept W C := by
  unfold Book.val
  have hk0 : Kept W (W.alloc (Obj.cells #[.slice p B.boys.length cap, .int .i64 B.weeks, .slice q B.trials.length capt] 25)) := kept_alloc (kept_refl _) _
  have a0 : (W.alloc (Obj.cells #[.slice p B.boys.length cap, .int .i64 B.weeks, .slice q B.trials.length capt] 25)).cell? ⟨W.heap.size, 0, none⟩ = some (.slice p B.boys.length cap) := by go_simp
  have a1 : (W.alloc (Obj.cells #[.slice p B.boys.length cap, .int .i64 B.weeks, .slice q B.trials.length capt] 25)).cell? ⟨W.heap.size, 1, none⟩ = some (.int .i64 B.weeks) := by go_simp
  have a2 : (W.alloc (Obj.cells #[.slice p B.boys.length cap, .int .i64 B.weeks, .slice q B.trials.length capt] 25)).cell? ⟨W.heap.size, 2, none⟩ = some (.slice q B.trials.length capt) := by go_simp
  go_enter Tryd.func8, Tryd.ntmps8
  go_wp2_with fail
  generalize W.alloc (Obj.cells #[.slice p B.boys.length cap, .int .i64 B.weeks, .slice q B.trials.length capt] 25) = W1 at *
  refine (check_any p q cap capt B _ (h.kept hk0)).mono ?_
  rintro e W2 ⟨rfl, hk2⟩
  have hkW2 := kept_trans hk0 hk2
  simp only [hok, if_false, Bool.false_eq_true]
  go_wp2_with fail
  refine bodyPost_ret (v := .tuple #[.bool false, .int .i64 20]) (by simp [results, Tryd.results8, go_sem]) rfl ?_
  exact ⟨rfl, hkW2⟩

set_option maxHeartbeats 8000000 in
theorem lwith_any (p q : Option Addr) (cap capt : Nat) (B : Book) (t : Trial) (W : World) (h : BookAt W p q cap capt B) (hl0 : B.trials.length ≤ 1000) :
    Calls Tryd.prog 6 #[B.val p q cap capt, .agg #[.int .i64 t.boy, .int .i64 t.week, .int .i64 t.note, .int .i64 t.sang]] W fun e C => ∃ q' capt', e = .returned ((B.more t).val p q' cap capt') ∧ Kept W C ∧ BookAt C p q' cap capt' (B.more t) := by
  unfold Book.val
  have hk0 : Kept W ((((W.alloc (Obj.cells #[.slice p B.boys.length cap, .int .i64 B.weeks, .slice q B.trials.length capt] 25)).alloc (Obj.cells #[.int .i64 t.boy, .int .i64 t.week, .int .i64 t.note, .int .i64 t.sang] 27)).alloc (Obj.cells #[.slice none 0 0, .int .i64 0, .slice none 0 0] 25)).alloc (Obj.cells #[.slice p B.boys.length cap, .int .i64 B.weeks, .slice q B.trials.length capt] 25)) := kept_alloc (kept_alloc (kept_alloc (kept_alloc (kept_refl _) _) _) _) _
  have hsz0 : ((((W.alloc (Obj.cells #[.slice p B.boys.length cap, .int .i64 B.weeks, .slice q B.trials.length capt] 25)).alloc (Obj.cells #[.int .i64 t.boy, .int .i64 t.week, .int .i64 t.note, .int .i64 t.sang] 27)).alloc (Obj.cells #[.slice none 0 0, .int .i64 0, .slice none 0 0] 25)).alloc (Obj.cells #[.slice p B.boys.length cap, .int .i64 B.weeks, .slice q B.trials.length capt] 25)).heap.size = W.heap.size + 1 + 1 + 1 + 1 := by simp
  have x2 : ((((W.alloc (Obj.cells #[.slice p B.boys.length cap, .int .i64 B.weeks, .slice q B.trials.length capt] 25)).alloc (Obj.cells #[.int .i64 t.boy, .int .i64 t.week, .int .i64 t.note, .int .i64 t.sang] 27)).alloc (Obj.cells #[.slice none 0 0, .int .i64 0, .slice none 0 0] 25)).alloc (Obj.cells #[.slice p B.boys.length cap, .int .i64 B.weeks, .slice q B.trials.length capt] 25)).cell? ⟨W.heap.size, 2, none⟩ = some (.slice q B.trials.length capt) := by go_simp
  have v0 : ((((W.alloc (Obj.cells #[.slice p B.boys.length cap, .int .i64 B.weeks, .slice q B.trials.length capt] 25)).alloc (Obj.cells #[.int .i64 t.boy, .int .i64 t.week, .int .i64 t.note, .int .i64 t.sang] 27)).alloc (Obj.cells #[.slice none 0 0, .int .i64 0, .slice none 0 0] 25)).alloc (Obj.cells #[.slice p B.boys.length cap, .int .i64 B.weeks, .slice q B.trials.length capt] 25)).cell? ⟨W.heap.size + 1, 0, none⟩ = some (.int .i64 t.boy) := by go_simp
  have v1 : ((((W.alloc (Obj.cells #[.slice p B.boys.length cap, .int .i64 B.weeks, .slice q B.trials.length capt] 25)).alloc (Obj.cells #[.int .i64 t.boy, .int .i64 t.week, .int .i64 t.note, .int .i64 t.sang] 27)).alloc (Obj.cells #[.slice none 0 0, .int .i64 0, .slice none 0 0] 25)).alloc (Obj.cells #[.slice p B.boys.length cap, .int .i64 B.weeks, .slice q B.trials.length capt] 25)).cell? ⟨W.heap.size + 1, 1, none⟩ = some (.int .i64 t.week) := by go_simp
  have v2 : ((((W.alloc (Obj.cells #[.slice p B.boys.length cap, .int .i64 B.weeks, .slice q B.trials.length capt] 25)).alloc (Obj.cells #[.int .i64 t.boy, .int .i64 t.week, .int .i64 t.note, .int .i64 t.sang] 27)).alloc (Obj.cells #[.slice none 0 0, .int .i64 0, .slice none 0 0] 25)).alloc (Obj.cells #[.slice p B.boys.length cap, .int .i64 B.weeks, .slice q B.trials.length capt] 25)).cell? ⟨W.heap.size + 1, 2, none⟩ = some (.int .i64 t.note) := by go_simp
  have v3 : ((((W.alloc (Obj.cells #[.slice p B.boys.length cap, .int .i64 B.weeks, .slice q B.trials.length capt] 25)).alloc (Obj.cells #[.int .i64 t.boy, .int .i64 t.week, .int .i64 t.note, .int .i64 t.sang] 27)).alloc (Obj.cells #[.slice none 0 0, .int .i64 0, .slice none 0 0] 25)).alloc (Obj.cells #[.slice p B.boys.length cap, .int .i64 B.weeks, .slice q B.trials.length capt] 25)).cell? ⟨W.heap.size + 1, 3, none⟩ = some (.int .i64 t.sang) := by go_simp
  have r0 : ((((W.alloc (Obj.cells #[.slice p B.boys.length cap, .int .i64 B.weeks, .slice q B.trials.length capt] 25)).alloc (Obj.cells #[.int .i64 t.boy, .int .i64 t.week, .int .i64 t.note, .int .i64 t.sang] 27)).alloc (Obj.cells #[.slice none 0 0, .int .i64 0, .slice none 0 0] 25)).alloc (Obj.cells #[.slice p B.boys.length cap, .int .i64 B.weeks, .slice q B.trials.length capt] 25)).cell? ⟨W.heap.size + 1 + 1, 0, none⟩ = some (.slice none 0 0) := by go_simp
  have r1 : ((((W.alloc (Obj.cells #[.slice p B.boys.length cap, .int .i64 B.weeks, .slice q B.trials.length capt] 25)).alloc (Obj.cells #[.int .i64 t.boy, .int .i64 t.week, .int .i64 t.note, .int .i64 t.sang] 27)).alloc (Obj.cells #[.slice none 0 0, .int .i64 0, .slice none 0 0] 25)).alloc (Obj.cells #[.slice p B.boys.length cap, .int .i64 B.weeks, .slice q B.trials.length capt] 25)).cell? ⟨W.heap.size + 1 + 1, 1, none⟩ = some (.int .i64 0) := by go_simp
  have r2 : ((((W.alloc (Obj.cells #[.slice p B.boys.length cap, .int .i64 B.weeks, .slice q B.trials.length capt] 25)).alloc (Obj.cells #[.int .i64 t.boy, .int .i64 t.week, .int .i64 t.note, .int .i64 t.sang] 27)).alloc (Obj.cells #[.slice none 0 0, .int .i64 0, .slice none 0 0] 25)).alloc (Obj.cells #[.slice p B.boys.length cap, .int .i64 B.weeks, .slice q B.trials.length capt] 25)).cell? ⟨W.heap.size + 1 + 1, 2, none⟩ = some (.slice none 0 0) := by go_simp
  have y0 : ((((W.alloc (Obj.cells #[.slice p B.boys.length cap, .int .i64 B.weeks, .slice q B.trials.length capt] 25)).alloc (Obj.cells #[.int .i64 t.boy, .int .i64 t.week, .int .i64 t.note, .int .i64 t.sang] 27)).alloc (Obj.cells #[.slice none 0 0, .int .i64 0, .slice none 0 0] 25)).alloc (Obj.cells #[.slice p B.boys.length cap, .int .i64 B.weeks, .slice q B.trials.length capt] 25)).cell? ⟨W.heap.size + 1 + 1 + 1, 0, none⟩ = some (.slice p B.boys.length cap) := by go_simp
  have y1 : ((((W.alloc (Obj.cells #[.slice p B.boys.length cap, .int .i64 B.weeks, .slice q B.trials.length capt] 25)).alloc (Obj.cells #[.int .i64 t.boy, .int .i64 t.week, .int .i64 t.note, .int .i64 t.sang] 27)).alloc (Obj.cells #[.slice none 0 0, .int .i64 0, .slice none 0 0] 25)).alloc (Obj.cells #[.slice p B.boys.length cap, .int .i64 B.weeks, .slice q B.trials.length capt] 25)).cell? ⟨W.heap.size + 1 + 1 + 1, 1, none⟩ = some (.int .i64 B.weeks) := by go_simp
  have y2 : ((((W.alloc (Obj.cells #[.slice p B.boys.length cap, .int .i64 B.weeks, .slice q B.trials.length capt] 25)).alloc (Obj.cells #[.int .i64 t.boy, .int .i64 t.week, .int .i64 t.note, .int .i64 t.sang] 27)).alloc (Obj.cells #[.slice none 0 0, .int .i64 0, .slice none 0 0] 25)).alloc (Obj.cells #[.slice p B.boys.length cap, .int .i64 B.weeks, .slice q B.trials.length capt] 25)).cell? ⟨W.heap.size + 1 + 1 + 1, 2, none⟩ = some (.slice q B.trials.length capt) := by go_simp
  have rf : ∀ i, ((((W.alloc (Obj.cells #[.slice p B.boys.length cap, .int .i64 B.weeks, .slice q B.trials.length capt] 25)).alloc (Obj.cells #[.int .i64 t.boy, .int .i64 t.week, .int .i64 t.note, .int .i64 t.sang] 27)).alloc (Obj.cells #[.slice none 0 0, .int .i64 0, .slice none 0 0] 25)).alloc (Obj.cells #[.slice p B.boys.length cap, .int .i64 B.weeks, .slice q B.trials.length capt] 25)).frozen? ⟨W.heap.size + 1 + 1, i, none⟩ = false := by intro i; go_simp
  have yf : ∀ i, ((((W.alloc (Obj.cells #[.slice p B.boys.length cap, .int .i64 B.weeks, .slice q B.trials.length capt] 25)).alloc (Obj.cells #[.int .i64 t.boy, .int .i64 t.week, .int .i64 t.note, .int .i64 t.sang] 27)).alloc (Obj.cells #[.slice none 0 0, .int .i64 0, .slice none 0 0] 25)).alloc (Obj.cells #[.slice p B.boys.length cap, .int .i64 B.weeks, .slice q B.trials.length capt] 25)).frozen? ⟨W.heap.size + 1 + 1 + 1, i, none⟩ = false := by intro i; go_simp
  go_enter Tryd.func6, Tryd.ntmps6
  go_wp2_with fail
  generalize ((((W.alloc (Obj.cells #[.slice p B.boys.length cap, .int .i64 B.weeks, .slice q B.trials.length capt] 25)).alloc (Obj.cells #[.int .i64 t.boy, .int .i64 t.week, .int .i64 t.note, .int .i64 t.sang] 27)).alloc (Obj.cells #[.slice none 0 0, .int .i64 0, .slice none 0 0] 25)).alloc (Obj.cells #[.slice p B.boys.length cap, .int .i64 B.weeks, .slice q B.trials.length capt] 25)) = V at *
  have HSZ := Lib.hid hsz0; clear hsz0
  have HL := Lib.hid hl0; clear hl0
  have HTR := Lib.hid (show B.trials = [] ∨ ∃ b o, q = some ⟨b, o, none⟩ ∧ TrialsAt V b o B.trials from h.trials.imp id fun ⟨b, o, e, ht⟩ => ⟨b, o, e, ht.kept hk0⟩)
  have HH := Lib.hid h; clear h
  refine (wpIn_wide (n := 0)).1 (wpIn_region_invL (StG (fun vs on w => Apps V 27 4 B.trials.length (B.trials.flatMap trialC) (trialC t) ⟨W.heap.size + 1 + 1 + 1, 2, none⟩ vs on w ∧ (on 1 = true → vs 1 = .pointer (some ⟨W.heap.size, 2, none⟩)) ∧ (on 2 = true → vs 2 = .slice q B.trials.length capt) ∧ (on 4 = true → vs 4 = .agg #[.int .i64 t.boy, .int .i64 t.week, .int .i64 t.note, .int .i64 t.sang]) ∧ (on 7 = true → vs 7 = .pointer (some ⟨W.heap.size + 1 + 1 + 1, 2, none⟩)))) (by kernel_rfl) (by kernel_rfl) (StG.start ⟨Apps.start, nofun, nofun, nofun, nofun⟩) ?hop ?hend)
  case hop =>
    rintro i o listed a w hl ho h1 h2 hcl ⟨vs, ha, hA, hP⟩
    have hi9 : i < 9 := (List.getElem?_eq_some_iff.1 ho).1
    have kw : on listed 8 = false → Kept V w := hA.kept
    have n8 : i < 9 → on listed 8 = false := fun _ => by
      cases b8 : on listed 8 with
      | false => rfl
      | true =>
        exfalso
        have b7 := hcl 8 _ rfl b8 ⟨7, .data⟩ (by simp) rfl
        have b6 := hcl 8 _ rfl b8 ⟨6, .data⟩ (by simp) rfl
        have b0 := hcl 8 _ rfl b8 ⟨0, .phase⟩ (by simp) rfl
        have b1 := hcl 8 _ rfl b8 ⟨1, .phase⟩ (by simp) rfl
        have b2 := hcl 8 _ rfl b8 ⟨2, .phase⟩ (by simp) rfl
        have b3 := hcl 8 _ rfl b8 ⟨3, .phase⟩ (by simp) rfl
        have b4 := hcl 8 _ rfl b8 ⟨4, .phase⟩ (by simp) rfl
        have b5 := hcl 8 _ rfl b8 ⟨5, .phase⟩ (by simp) rfl
        have hn := on_no h1
        match i, hi9, hn with
        | 0, _, hn => exact tf b0 hn
        | 1, _, hn => exact tf b1 hn
        | 2, _, hn => exact tf b2 hn
        | 3, _, hn => exact tf b3 hn
        | 4, _, hn => exact tf b4 hn
        | 5, _, hn => exact tf b5 hn
        | 6, _, hn => exact tf b6 hn
        | 7, _, hn => exact tf b7 hn
        | 8, _, hn => exact tf b8 hn
    have KW := Lib.hid (kw (n8 hi9)); clear kw n8
    match i, ho with
    | 0, ho =>
      have st := fun v w' (hk : Kept w w') (hv : v = .slice (some ⟨w.heap.size, 0, none⟩) 0 0) (hr : w'.ownsRow V.heap.size 27 4 v 0 []) => StG.step (I := (fun vs on w => Apps V 27 4 B.trials.length (B.trials.flatMap trialC) (trialC t) ⟨W.heap.size + 1 + 1 + 1, 2, none⟩ vs on w ∧ (on 1 = true → vs 1 = .pointer (some ⟨W.heap.size, 2, none⟩)) ∧ (on 2 = true → vs 2 = .slice q B.trials.length capt) ∧ (on 4 = true → vs 4 = .agg #[.int .i64 t.boy, .int .i64 t.week, .int .i64 t.note, .int .i64 t.sang]) ∧ (on 7 = true → vs 7 = .pointer (some ⟨W.heap.size + 1 + 1 + 1, 2, none⟩)))) (v := v) (w' := w') (by kernel_rfl) ha hl ho h1 ⟨hA.made0 (on_no h1) hk hv hr, hP.1, hP.2.1, hP.2.2.1, hP.2.2.2⟩
      have ST := Lib.hid st; clear st
      have hsz := (hA.kept (hA.no8 (hA.no6 (hA.no3 (on_no h1))))).size
      cases ho
      rw [if_pos (by rfl)]
      go_simp
      exact ST.out _ _ (kept_alloc (kept_refl w) _) rfl ⟨rfl, .inr ⟨w.heap.size, 0, #[], rfl, hsz, heap_alloc_new w _, Nat.le_refl _, by unfold maxLen; omega, rfl, rfl⟩⟩
    | 1, ho =>
      have st := StG.step (I := (fun vs on w => Apps V 27 4 B.trials.length (B.trials.flatMap trialC) (trialC t) ⟨W.heap.size + 1 + 1 + 1, 2, none⟩ vs on w ∧ (on 1 = true → vs 1 = .pointer (some ⟨W.heap.size, 2, none⟩)) ∧ (on 2 = true → vs 2 = .slice q B.trials.length capt) ∧ (on 4 = true → vs 4 = .agg #[.int .i64 t.boy, .int .i64 t.week, .int .i64 t.note, .int .i64 t.sang]) ∧ (on 7 = true → vs 7 = .pointer (some ⟨W.heap.size + 1 + 1 + 1, 2, none⟩)))) (v := .pointer (some ⟨W.heap.size, 2, none⟩)) (w' := w) (by kernel_rfl) ha hl ho h1 ⟨hA.pure 1 (by omega) (by omega) (by omega) (by omega) (by omega), fun _ => rfl, hP.2.1, hP.2.2.1, hP.2.2.2⟩
      have ST := Lib.hid st; clear st
      have kw := KW.out
      cases ho
      rw [if_pos (by rfl)]
      have t2 := ha.old 2 (by kernel_rfl)
      simp at t2
      go_simp
      exact ST.out
    | 2, ho =>
      have st := StG.step (I := (fun vs on w => Apps V 27 4 B.trials.length (B.trials.flatMap trialC) (trialC t) ⟨W.heap.size + 1 + 1 + 1, 2, none⟩ vs on w ∧ (on 1 = true → vs 1 = .pointer (some ⟨W.heap.size, 2, none⟩)) ∧ (on 2 = true → vs 2 = .slice q B.trials.length capt) ∧ (on 4 = true → vs 4 = .agg #[.int .i64 t.boy, .int .i64 t.week, .int .i64 t.note, .int .i64 t.sang]) ∧ (on 7 = true → vs 7 = .pointer (some ⟨W.heap.size + 1 + 1 + 1, 2, none⟩)))) (v := .slice q B.trials.length capt) (w' := w) (by kernel_rfl) ha hl ho h1 ⟨hA.pure 2 (by omega) (by omega) (by omega) (by omega) (by omega), hP.1, fun _ => rfl, hP.2.2.1, hP.2.2.2⟩
      have ST := Lib.hid st; clear st
      have kw := KW.out
      cases ho
      rw [if_pos (by rfl)]
      have t8 := ha.new 1 (h2 ⟨1, .data⟩ (by simp) rfl) (d := 8) rfl rfl (by simp)
      simp at t8
      rw [hP.1 (h2 ⟨1, .data⟩ (by simp) rfl)] at t8
      have c2 := kcell kw x2
      go_simp
      exact ST.out
    | 3, ho =>
      have b0 : on listed 0 = true := h2 ⟨0, .data⟩ (by cases ho; simp) rfl
      have b2 : on listed 2 = true := h2 ⟨2, .data⟩ (by cases ho; simp) rfl
      have n3 := on_no h1
      have n8 := hA.no8 (hA.no6 n3)
      have t7 : a.eval (.tmp 7) = vs 0 := ha.new 0 b0 (d := 7) rfl rfl (by simp)
      have t9 : a.eval (.tmp 9) = vs 2 := ha.new 2 b2 (d := 9) rfl rfl (by simp)
      rw [hP.2.1 b2] at t9
      obtain ⟨g0, e0, hr0⟩ := hA.r0 b0 n3
      have t7' := t7.trans e0
      obtain ⟨v', w', hrun, hown, hgr, hat⟩ := run_append_rows 23 w V.heap.size g0 q capt B.trials (e0 ▸ hr0) (HTR.out.imp id fun ⟨b, o, e, ht⟩ => ⟨b, o, e, ht.kept (hA.kept n8)⟩) HL.out (hA.kept n8).size
      have st := StG.step (I := (fun vs on w => Apps V 27 4 B.trials.length (B.trials.flatMap trialC) (trialC t) ⟨W.heap.size + 1 + 1 + 1, 2, none⟩ vs on w ∧ (on 1 = true → vs 1 = .pointer (some ⟨W.heap.size, 2, none⟩)) ∧ (on 2 = true → vs 2 = .slice q B.trials.length capt) ∧ (on 4 = true → vs 4 = .agg #[.int .i64 t.boy, .int .i64 t.week, .int .i64 t.note, .int .i64 t.sang]) ∧ (on 7 = true → vs 7 = .pointer (some ⟨W.heap.size + 1 + 1 + 1, 2, none⟩)))) (v := v') (w' := w') (by kernel_rfl) ha hl ho h1 ⟨hA.app3 n3 b0 (by rw [e0]; exact hgr) hown (by rw [e0]; exact hat), hP.1, hP.2.1, hP.2.2.1, hP.2.2.2⟩
      have ST := Lib.hid st; clear st
      cases ho
      rw [if_pos (by rfl)]
      refine wpIn_append_run _ (.tmp 7) (.tmp 9) 23 rfl t7' t9 hrun ?_
      exact ST.out
    | 4, ho =>
      have st := StG.step (I := (fun vs on w => Apps V 27 4 B.trials.length (B.trials.flatMap trialC) (trialC t) ⟨W.heap.size + 1 + 1 + 1, 2, none⟩ vs on w ∧ (on 1 = true → vs 1 = .pointer (some ⟨W.heap.size, 2, none⟩)) ∧ (on 2 = true → vs 2 = .slice q B.trials.length capt) ∧ (on 4 = true → vs 4 = .agg #[.int .i64 t.boy, .int .i64 t.week, .int .i64 t.note, .int .i64 t.sang]) ∧ (on 7 = true → vs 7 = .pointer (some ⟨W.heap.size + 1 + 1 + 1, 2, none⟩)))) (v := .agg #[.int .i64 t.boy, .int .i64 t.week, .int .i64 t.note, .int .i64 t.sang]) (w' := w) (by kernel_rfl) ha hl ho h1 ⟨hA.pure 4 (by omega) (by omega) (by omega) (by omega) (by omega), hP.1, hP.2.1, fun _ => rfl, hP.2.2.2⟩
      have ST := Lib.hid st; clear st
      have kw := KW.out
      cases ho
      rw [if_pos (by rfl)]
      have t3 := ha.old 3 (by kernel_rfl)
      simp at t3
      have c0 := kcell kw v0
      have c1 := kcell kw v1
      have c2 := kcell kw v2
      have c3 := kcell kw v3
      go_simp
      exact ST.out
    | 5, ho =>
      have b4 : on listed 4 = true := h2 ⟨4, .data⟩ (by cases ho; simp) rfl
      have st := fun v w' (hk : Kept w w') (hv : v = .slice (some ⟨w.heap.size, 0, none⟩) 1 1) hz hn => StG.step (I := (fun vs on w => Apps V 27 4 B.trials.length (B.trials.flatMap trialC) (trialC t) ⟨W.heap.size + 1 + 1 + 1, 2, none⟩ vs on w ∧ (on 1 = true → vs 1 = .pointer (some ⟨W.heap.size, 2, none⟩)) ∧ (on 2 = true → vs 2 = .slice q B.trials.length capt) ∧ (on 4 = true → vs 4 = .agg #[.int .i64 t.boy, .int .i64 t.week, .int .i64 t.note, .int .i64 t.sang]) ∧ (on 7 = true → vs 7 = .pointer (some ⟨W.heap.size + 1 + 1 + 1, 2, none⟩)))) (v := v) (w' := w') (by kernel_rfl) ha hl ho h1 ⟨hA.made5 (on_no h1) hk hv hz hn, hP.1, hP.2.1, hP.2.2.1, hP.2.2.2⟩
      have ST := Lib.hid st; clear st
      have t11 := ha.new 4 b4 (d := 11) rfl rfl (by simp)
      simp at t11
      rw [hP.2.2.1 b4] at t11
      cases ho
      rw [if_pos (by rfl)]
      go_simp
      refine ST.out _ _ (kept_alloc (kept_refl w) _) rfl (by simp) ?_
      intro k u hu
      have hk : k < 4 := (List.getElem?_eq_some_iff.1 hu).1
      match k, hk, hu with
      | 0, _, hu => cases hu; go_simp
      | 1, _, hu => cases hu; go_simp
      | 2, _, hu => cases hu; go_simp
      | 3, _, hu => cases hu; go_simp
    | 6, ho =>
      have b3 : on listed 3 = true := h2 ⟨3, .data⟩ (by cases ho; simp) rfl
      have b5 : on listed 5 = true := h2 ⟨5, .data⟩ (by cases ho; simp) rfl
      have n6 := on_no h1
      have n8 := hA.no8 n6
      have t10 : a.eval (.tmp 10) = vs 3 := ha.new 3 b3 (d := 10) rfl rfl (by simp)
      have t12 : a.eval (.tmp 12) = vs 5 := ha.new 5 b5 (d := 12) rfl rfl (by simp)
      obtain ⟨g5, e5, _, _, hc5, _, _⟩ := hA.r5 b5 n6
      have t12' := t12.trans e5
      have st := fun v w' hg hv hr => StG.step (I := (fun vs on w => Apps V 27 4 B.trials.length (B.trials.flatMap trialC) (trialC t) ⟨W.heap.size + 1 + 1 + 1, 2, none⟩ vs on w ∧ (on 1 = true → vs 1 = .pointer (some ⟨W.heap.size, 2, none⟩)) ∧ (on 2 = true → vs 2 = .slice q B.trials.length capt) ∧ (on 4 = true → vs 4 = .agg #[.int .i64 t.boy, .int .i64 t.week, .int .i64 t.note, .int .i64 t.sang]) ∧ (on 7 = true → vs 7 = .pointer (some ⟨W.heap.size + 1 + 1 + 1, 2, none⟩)))) (v := v) (w' := w') (by kernel_rfl) ha hl ho h1 ⟨hA.app6 n6 b3 b5 hg hv hr, hP.1, hP.2.1, hP.2.2.1, hP.2.2.2⟩
      have ST := Lib.hid st; clear st
      obtain ⟨i0, hi, hiz, his, hib⟩ := info_parts infoT
      have hr3 := hA.r3 b3 n6
      have hsz := (hA.kept n8).size
      have hlen := HL.out
      cases ho
      rw [if_pos (by rfl)]
      refine wpIn_append_lies _ (.tmp 10) (.tmp 12) 23 rfl V.heap.size 27 i0 _ 4 32 Tryd.underlying23 hi hiz his hib rfl (by decide) (vs 3) _ _ t10 hr3 ⟨g5, 0, none⟩ 1 1 (trialC t) t12' rfl hc5 (trial_one t) (by omega) (by unfold maxLen; omega) (by omega) hsz ?_
      intro g cap' w' hown hgrow hat hlt3
      exact ST.out _ _ hgrow ⟨g, cap', rfl⟩ hown
    | 7, ho =>
      have st := StG.step (I := (fun vs on w => Apps V 27 4 B.trials.length (B.trials.flatMap trialC) (trialC t) ⟨W.heap.size + 1 + 1 + 1, 2, none⟩ vs on w ∧ (on 1 = true → vs 1 = .pointer (some ⟨W.heap.size, 2, none⟩)) ∧ (on 2 = true → vs 2 = .slice q B.trials.length capt) ∧ (on 4 = true → vs 4 = .agg #[.int .i64 t.boy, .int .i64 t.week, .int .i64 t.note, .int .i64 t.sang]) ∧ (on 7 = true → vs 7 = .pointer (some ⟨W.heap.size + 1 + 1 + 1, 2, none⟩)))) (v := .pointer (some ⟨W.heap.size + 1 + 1 + 1, 2, none⟩)) (w' := w) (by kernel_rfl) ha hl ho h1 ⟨hA.pure 7 (by omega) (by omega) (by omega) (by omega) (by omega), hP.1, hP.2.1, hP.2.2.1, fun _ => rfl⟩
      have ST := Lib.hid st; clear st
      have kw := KW.out
      cases ho
      rw [if_pos (by rfl)]
      have t5 := ha.old 5 (by kernel_rfl)
      simp at t5
      go_simp
      exact ST.out
    | 8, ho =>
      have b6 : on listed 6 = true := h2 ⟨6, .data⟩ (by cases ho; simp) rfl
      have b7 : on listed 7 = true := h2 ⟨7, .data⟩ (by cases ho; simp) rfl
      have n8 := on_no h1
      obtain ⟨_, -, ⟨g, cap', hv6⟩, -, -⟩ := hA.r6 b6
      have st := StG.step (I := (fun vs on w => Apps V 27 4 B.trials.length (B.trials.flatMap trialC) (trialC t) ⟨W.heap.size + 1 + 1 + 1, 2, none⟩ vs on w ∧ (on 1 = true → vs 1 = .pointer (some ⟨W.heap.size, 2, none⟩)) ∧ (on 2 = true → vs 2 = .slice q B.trials.length capt) ∧ (on 4 = true → vs 4 = .agg #[.int .i64 t.boy, .int .i64 t.week, .int .i64 t.note, .int .i64 t.sang]) ∧ (on 7 = true → vs 7 = .pointer (some ⟨W.heap.size + 1 + 1 + 1, 2, none⟩)))) (v := undef) (by kernel_rfl) ha hl ho h1 ⟨hA.stored n8 b6, hP.1, hP.2.1, hP.2.2.1, hP.2.2.2⟩
      have ST := Lib.hid st; clear st
      have t13 := ha.new 6 b6 (d := 13) rfl rfl (by simp)
      have t14 := ha.new 7 b7 (d := 14) rfl rfl (by simp)
      simp at t13 t14
      rw [hP.2.2.2 b7] at t14
      have c2 := kcell KW.out y2
      have cf := ((kturns KW.out (fun _ => False)).frozen (Go.Ai.lt_of_cell y2) (fun h => h)).trans (yf 2)
      rw [hv6] at t13
      cases ho
      rw [if_pos (by rfl)]
      rw [hv6] at ST
      go_simp
      exact ST.out
  case hend =>
    rintro listed a w hall ⟨vs, ha, hA, hP⟩
    have b6 : on listed 6 = true := hall 6 (by simp)
    have b8 : on listed 8 = true := hall 8 (by simp)
    obtain ⟨wc, hkc, ⟨g, cap', hv6⟩, hrow, hwc⟩ := hA.r6 b6
    rw [b8, if_pos rfl, hv6] at hwc
    rw [hv6] at hrow
    obtain ⟨y, hae⟩ := atSt_mid ha 7 8 (by kernel_rfl) (by simp)
    simp only [List.range, List.range.loop, List.map, List.take_succ_cons, List.take_zero, List.drop_succ_cons, List.drop_zero, List.cons_append, List.nil_append, Nat.reduceAdd] at hae
    subst hae
    subst hwc
    clear ha hA hP
    refine (by assumption : ∀ a w, Code.wp _ _ _ a w → _) _ _ ?_
    have hsz := HSZ.out
    have hgz := hrow.lt g rfl
    have HL1 := HL.out
    have hT : Turns (fun b => b = W.heap.size + 1 + 1 + 1) wc (wc.setCell ⟨W.heap.size + 1 + 1 + 1, 2, none⟩ (.slice (some ⟨g, 0, none⟩) (B.trials.length + 1) cap')) := Turns.setCell (T := fun b => b = W.heap.size + 1 + 1 + 1) (Turns.refl _ _) rfl _ _
    have hk5 : Kept W (wc.setCell ⟨W.heap.size + 1 + 1 + 1, 2, none⟩ (.slice (some ⟨g, 0, none⟩) (B.trials.length + 1) cap')) := Below.setCell (p := ⟨W.heap.size + 1 + 1 + 1, 2, none⟩) (kept_trans hk0 hkc) (show W.heap.size ≤ W.heap.size + 1 + 1 + 1 by omega) _
    have y0' := (cell_set_ne (o := 2) (o' := 0) (v := .slice (some ⟨g, 0, none⟩) (B.trials.length + 1) cap') (by omega)).trans (kcell hkc y0)
    have y1' := (cell_set_ne (o := 2) (o' := 1) (v := .slice (some ⟨g, 0, none⟩) (B.trials.length + 1) cap') (by omega)).trans (kcell hkc y1)
    have y2' := cell_set_eq (v := .slice (some ⟨g, 0, none⟩) (B.trials.length + 1) cap') (kcell hkc y2)
    have r0' := tcell hT (show ¬ W.heap.size + 1 + 1 = W.heap.size + 1 + 1 + 1 by omega) (kcell hkc r0)
    have r1' := tcell hT (show ¬ W.heap.size + 1 + 1 = W.heap.size + 1 + 1 + 1 by omega) (kcell hkc r1)
    have r2' := tcell hT (show ¬ W.heap.size + 1 + 1 = W.heap.size + 1 + 1 + 1 by omega) (kcell hkc r2)
    have rf' : ∀ i, (wc.setCell ⟨W.heap.size + 1 + 1 + 1, 2, none⟩ (.slice (some ⟨g, 0, none⟩) (B.trials.length + 1) cap')).frozen? ⟨W.heap.size + 1 + 1, i, none⟩ = false := fun i => by
      rw [World.frozen?_setCell]; exact ((kturns hkc (fun _ => False)).frozen (Go.Ai.lt_of_cell r0) (fun h => h)).trans (rf i)
    have rf0 := rf' 0
    have rf1 := rf' 1
    have rf2 := rf' 2
    have hrow' := ownsRow_set hrow (a := ⟨W.heap.size + 1 + 1 + 1, 2, none⟩) (show W.heap.size + 1 + 1 + 1 < V.heap.size by omega) (.slice (some ⟨g, 0, none⟩) (B.trials.length + 1) cap')
    have hnc : B.trials.length + 1 ≤ cap' := by
      rcases hrow.2 with ⟨e, _⟩ | ⟨_, _, _, e, _, _, h1, _⟩
      · cases e
      · cases e; exact h1
    have htr5 : TrialsAt (wc.setCell ⟨W.heap.size + 1 + 1 + 1, 2, none⟩ (.slice (some ⟨g, 0, none⟩) (B.trials.length + 1) cap')) g 0 (B.trials ++ [t]) := trialsAt_own (base := V.heap.size) (cap := cap') (by simpa using hrow')
    have HTR5 := Lib.hid htr5
    have HGZ := Lib.hid (show W.heap.size + 1 + 1 < g by omega)
    clear hT hrow hrow' htr5 hgz y0 y1 y2 r0 r1 r2 rf yf v0 v1 v2 v3 x2 HTR rf' hkc
    generalize (wc.setCell ⟨W.heap.size + 1 + 1 + 1, 2, none⟩ (.slice (some ⟨g, 0, none⟩) (B.trials.length + 1) cap')) = W5 at *
    have hz2 := Go.Ai.lt_of_cell r0'
    go_wp2_with fail
    refine bodyPost_ret (v := .agg #[.slice p B.boys.length cap, .int .i64 B.weeks, .slice (some ⟨g, 0, none⟩) (B.trials.length + 1) cap']) ?hr rfl ?_
    case hr => simp [results, Tryd.results6, go_sem, r0', r1', r2', hz2]
    have hkC : Kept W (((W5.setCell ⟨W.heap.size + 1 + 1, 0, none⟩ (.slice p B.boys.length cap)).setCell ⟨W.heap.size + 1 + 1, 1, none⟩ (.int .i64 B.weeks)).setCell ⟨W.heap.size + 1 + 1, 2, none⟩ (.slice (some ⟨g, 0, none⟩) (B.trials.length + 1) cap')) := Below.setCell (p := ⟨W.heap.size + 1 + 1, 2, none⟩) (Below.setCell (p := ⟨W.heap.size + 1 + 1, 1, none⟩) (Below.setCell (p := ⟨W.heap.size + 1 + 1, 0, none⟩) hk5 (show W.heap.size ≤ W.heap.size + 1 + 1 by omega) _) (show W.heap.size ≤ W.heap.size + 1 + 1 by omega) _) (show W.heap.size ≤ W.heap.size + 1 + 1 by omega) _
    have hTC : Turns (fun b => b = W.heap.size + 1 + 1) W5 (((W5.setCell ⟨W.heap.size + 1 + 1, 0, none⟩ (.slice p B.boys.length cap)).setCell ⟨W.heap.size + 1 + 1, 1, none⟩ (.int .i64 B.weeks)).setCell ⟨W.heap.size + 1 + 1, 2, none⟩ (.slice (some ⟨g, 0, none⟩) (B.trials.length + 1) cap')) := (((Turns.refl (fun b => b = W.heap.size + 1 + 1) W5).setCell rfl _ _).setCell rfl _ _).setCell rfl _ _
    have hgne := HGZ.out
    exact ⟨some ⟨g, 0, none⟩, cap', by simp [Book.more], hkC, HH.out.laid.kept hkC, HH.out.nb, (by simp only [Book.more, List.length_append, List.length_singleton]; omega), (HH.out.kept hkC).boys, .inr ⟨g, 0, rfl, HTR5.out.turns hTC (by omega)⟩⟩
end Go.Proofs.YtchgkfnodcbpiaaDoor
