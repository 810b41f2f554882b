/- A part of the proof: contracts of the program's functions for every input. No conditions. -/
import Derived.Test.YthkcgengohoboaaGreatDoorGI
import Derived.Test.YthkcgengohoboaaGreatDoorGH
import Derived.Test.YthkcgengohoboaaGreatDoorGE
import Derived.Test.YthkcgengohoboaaGreatDoorGD
set_option linter.all false
namespace Go.Proofs.YthkcgengohoboaaGreatDoor
open Go.RowKit Go.Sort Go.Rg
set_option maxRecDepth 100000
theorem NumsAt.of_row2 {w : World} {base : Nat} {v : Value} {l : List Int} {e : TypeId} (h : w.ownsRow base e 1 v l.length (l.map (Value.int .i64))) (hl : l.length ≤ 100000) : NumsAt w v l := by
  have hc := h
  rcases h.2 with ⟨rfl, h0⟩ | ⟨g, cap, cur, rfl, _, hg, _⟩
  · have : l = [] := List.length_eq_zero_iff.1 h0
    subst this
    exact ⟨none, 0, rfl, by simp, .inl rfl⟩
  · refine ⟨_, cap, rfl, by omega, .inr ⟨g, 0, rfl, (Array.getElem?_eq_some_iff.1 hg).1, fun i x hx => ?_⟩⟩
    have hi : i < l.length := (List.getElem?_eq_some_iff.1 hx).1
    rw [Nat.zero_add, hc.cellAt i (by omega)]
    simp [hx]
set_option maxHeartbeats 8000000 in
theorem rbrk_good (p q : Option Addr) (cap capt : Nat) (B : Book) (bn : Nat) (x : Boy) (cb : Bool) (W : World) (h : BookAt W p q cap capt B) (hx : B.boys[bn]? = some x) (hcb : inB (bn : Int) 0 (B.boys.length - 1) = cb) (hok : B.okB = true) (hL : B.voices bn x 0 ≠ []) (her : B.err cb = 0) :
    Calls Tryz.prog 15 #[B.val p q cap capt, .int .i64 (bn : Int)] W fun e C => e = .returned (.tuple #[.agg #[.int .i64 (loOf ((B.voices bn x 0).map fun n => n.getD 4 0)), .int .i64 (hiOf ((B.voices bn x 0).map fun n => n.getD 4 0))], .int .i64 0]) ∧ Kept W C := by
  have hlen : (B.voices bn x 0).length ≤ 1024 := vgen_len (boy_wide ((okB_boys hok).2.1 x (List.mem_of_getElem? hx))) 5 []
  have HOK := Lib.hid hok; clear hok
  have HX := Lib.hid hx; clear hx
  have hnb := h.nb
  unfold Book.val
  obtain ⟨hk0, a0, a1, a2⟩ := bk1 W p q cap capt B (Obj.cells #[.int .i64 0, .int .i64 0] 32)
  have s0 : ((W.alloc (Obj.cells #[.slice p B.boys.length cap, .int .i64 B.weeks, .slice q B.trials.length capt] 25)).alloc (Obj.cells #[.int .i64 0, .int .i64 0] 32)).cell? ⟨W.heap.size + 1, 0, none⟩ = some (.int .i64 0) := by go_simp
  have s1 : ((W.alloc (Obj.cells #[.slice p B.boys.length cap, .int .i64 B.weeks, .slice q B.trials.length capt] 25)).alloc (Obj.cells #[.int .i64 0, .int .i64 0] 32)).cell? ⟨W.heap.size + 1, 1, none⟩ = some (.int .i64 0) := by go_simp
  have sf : ∀ i, ((W.alloc (Obj.cells #[.slice p B.boys.length cap, .int .i64 B.weeks, .slice q B.trials.length capt] 25)).alloc (Obj.cells #[.int .i64 0, .int .i64 0] 32)).frozen? ⟨W.heap.size + 1, i, none⟩ = false := by intro i; go_simp
  have HB := Lib.hid h; clear h
  go_enter Tryz.func15, Tryz.ntmps15
  go_wp2_with fail
  generalize ((W.alloc (Obj.cells #[.slice p B.boys.length cap, .int .i64 B.weeks, .slice q B.trials.length capt] 25)).alloc (Obj.cells #[.int .i64 0, .int .i64 0] 32)) = W0 at *
  have hz := Go.Ai.lt_of_cell a0
  have e0 := cell_regrown a0
  have e1 := cell_regrown a1
  have e2 := cell_regrown a2
  have hc0 := fun d os => Calls.regrown_of (rboy_any p B.boys.length cap (.int .i64 B.weeks) (.slice q B.trials.length capt) (bn : Int) (grow (redrawn W0 d) os) hnb)
  simp only [hcb] at hc0
  have HC0 := Lib.hid hc0; clear hc0
  have hca := fun d os => Calls.regrown_of (asked_any p q cap capt B cb (grow (redrawn W0 d) os) ((HB.out.kept hk0).kept (below_regrown W0 d os)))
  unfold Book.val at hca
  simp only [her] at hca
  have HCA := Lib.hid hca; clear hca
  have HER := Lib.hid her; clear her
  refine wp_region_quiet_below (by kernel_rfl) (by kernel_rfl) ?_
  repeat (any_goals (first | go_big_quiet_skip | quiet_step (first | with_reducible exact HC0.out _ _ | with_reducible exact HCA.out _ _)))
  refine wpQuiet_nil ?_
  rintro _ ⟨⟨dq, osq⟩, rfl⟩
  have hkQ := below_regrown W0 dq osq
  have sf0 : (grow (redrawn W0 dq) osq).frozen? ⟨W.heap.size + 1, 0, none⟩ = false := ((kturns hkQ (fun _ => False)).frozen (Go.Ai.lt_of_cell s0) (fun h => h)).trans (sf 0)
  have sf1 : (grow (redrawn W0 dq) osq).frozen? ⟨W.heap.size + 1, 1, none⟩ = false := ((kturns hkQ (fun _ => False)).frozen (Go.Ai.lt_of_cell s0) (fun h => h)).trans (sf 1)
  replace a0 := kcell hkQ a0
  replace a1 := kcell hkQ a1
  replace a2 := kcell hkQ a2
  replace s0 := kcell hkQ s0
  replace s1 := kcell hkQ s1
  have hk01 := kept_trans hk0 hkQ
  have hzs := Go.Ai.lt_of_cell s0
  have hza := Go.Ai.lt_of_cell a0
  clear e0 e1 e2 sf
  generalize grow (redrawn W0 dq) osq = w1 at *
  have hv := voices_any p q cap capt B bn x 0 w1 (HB.out.kept hk01) HOK.out (by omega) HX.out
  unfold Book.val at hv
  generalize hLL : B.voices bn x 0 = L at *
  have HV := Lib.hid hv; clear hv
  have HLL := Lib.hid hLL; clear hLL
  go_wp2_with fail
  refine HV.out.mono ?_
  rintro e w2 ⟨v, rfl, hk2, hrow⟩
  have HVA := VoicesAt.of_row hrow
  obtain ⟨pv, capv, rfl, hvr⟩ := HVA
  obtain ⟨g, rfl, hcell⟩ := hvr.resolve_left hL
  have HCELL := Lib.hid hcell
  clear hrow hvr HV hcell
  replace a0 := kcell hk2 a0
  replace a1 := kcell hk2 a1
  replace a2 := kcell hk2 a2
  replace s0 := kcell hk2 s0
  replace s1 := kcell hk2 s1
  have sg0 : w2.frozen? ⟨W.heap.size + 1, 0, none⟩ = false := ((kturns hk2 (fun _ => False)).frozen hzs (fun h => h)).trans sf0
  have sg1 : w2.frozen? ⟨W.heap.size + 1, 1, none⟩ = false := ((kturns hk2 (fun _ => False)).frozen hzs (fun h => h)).trans sf1
  have hk02 := kept_trans hk01 hk2
  have hzs2 := Go.Ai.lt_of_cell s0
  clear sf0 sf1 hzs hza
  go_wp2_with fail
  go_loopw [7, 9] (fun ov i V => ∃ k : Nat, k ≤ L.length ∧ i = .int .i64 k ∧ V.ownsRow w2.heap.size 3 1 ov k ((L.take k).map fun n => .int .i64 (n.getD 4 0)) ∧ Kept w2 V) (fun ov i V => L.length - (intOf i).toNat)
  case atStart => exact ⟨0, by omega, by go_num, World.ownsRow_nil _ _ _ _, kept_refl _⟩
  case round =>
    obtain ⟨k, hk, rfl, hR, hkV⟩ := hrel
    by_cases hlt : k < L.length
    · have hltI : (k : Int) < L.length := by omega
      obtain ⟨n, hget⟩ : ∃ n, L[k]? = some n := ⟨_, List.getElem?_eq_getElem hlt⟩
      obtain ⟨c0, c1, c2, c3, c4, c5⟩ := HCELL.out k n hget
      have c := kcell hkV c5
      have hgz := Go.Ai.lt_of_cell c
      have HST := Lib.hid (show (L.take (k + 1)).map (fun n => Value.int .i64 (n.getD 4 0)) = (L.take k).map (fun n => Value.int .i64 (n.getD 4 0)) ++ [.int .i64 (n.getD 4 0)] from by rw [List.take_succ, hget, List.map_append]; rfl)
      generalize n.getD 4 0 = y at *
      have hsz := hkV.size
      have HR := Lib.hid hR
      obtain ⟨i0, hi, hiz, his, hib⟩ := info_parts infoI
      clear c0 c1 c2 c3 c4 c5 hget hR
      have hka := kept_alloc (kept_refl wr) (Obj.cells #[.int .i64 y] 3)
      go_wp2_with (at_builtin
                   refine wpList_append_lies _ rfl _ _ 41 rfl w2.heap.size 3 i0 _ 1 8 Tryz.underlying41 hi hiz his hib rfl (by decide) u7 k _ rfl (HR.out.alloc _) ⟨wr.heap.size, 0, none⟩ 1 1 [.int .i64 y] rfl rfl (cell_one_new _ _ _) (by simp [Value.oneCell']) (by decide) (by unfold maxLen; omega) (by omega) (by simp; omega) _ rfl ?_
                   intro g2 cap2 V3 hown hgrow hat hlt3)
      have hkV3 : Kept w2 V3 := Below.grown (kept_trans hkV hka) hgrow (kept_trans hkV hka).size (fun b e => (HR.out.lt b e).1)
      go_roundw
      case rel => exact ⟨k + 1, by omega, by go_num, by rw [HST.out]; exact hown, hkV3⟩
      case measure => simp [intOf]; omega
    · have hltI : ¬ (k : Int) < L.length := by omega
      obtain rfl : k = L.length := by omega
      rw [List.take_length] at hR
      have hN : NumsAt wr u7 (L.map fun n => n.getD 4 0) := NumsAt.of_row2 (base := w2.heap.size) (e := 3) (by rw [List.length_map, List.map_map]; exact hR) (by rw [List.length_map]; omega)
      have he := ends_any u7 _ wr hN (by simpa using hL)
      generalize hl0 : loOf (L.map fun n => n.getD 4 0) = lo at *
      generalize hh0 : hiOf (L.map fun n => n.getD 4 0) = hi at *
      have HE := Lib.hid he; clear he hN
      have q0 := kcell hkV s0
      have q1 := kcell hkV s1
      have sh0 : wr.frozen? ⟨W.heap.size + 1, 0, none⟩ = false := ((kturns hkV (fun _ => False)).frozen hzs2 (fun h => h)).trans sg0
      have sh1 : wr.frozen? ⟨W.heap.size + 1, 1, none⟩ = false := ((kturns hkV (fun _ => False)).frozen hzs2 (fun h => h)).trans sg1
      have hk0r := kept_trans hk02 hkV
      have HLO := Lib.hid hl0
      have HHO := Lib.hid hh0
      clear s0 s1 sg0 sg1 hl0 hh0 hR
      have hzr := Go.Ai.lt_of_cell q0
      go_wp2_with fail
      refine HE.out.mono ?_
      rintro e w3 ⟨rfl, hk3⟩
      have s0 := kcell hk3 q0
      have s1 := kcell hk3 q1
      have si0 : w3.frozen? ⟨W.heap.size + 1, 0, none⟩ = false := ((kturns hk3 (fun _ => False)).frozen hzr (fun h => h)).trans sh0
      have si1 : w3.frozen? ⟨W.heap.size + 1, 1, none⟩ = false := ((kturns hk3 (fun _ => False)).frozen hzr (fun h => h)).trans sh1
      have hkE := kept_trans hk0r hk3
      have hz3 := Go.Ai.lt_of_cell s0
      clear q0 q1 sh0 sh1 hzr
      go_wp2_with fail
      have v0 := (cell_set_ne (W := w3.setCell ⟨W.heap.size + 1, 0, none⟩ (.int .i64 lo)) (b := W.heap.size + 1) (o := 1) (o' := 0) (v := .int .i64 hi) (by omega)).trans (cell_set_eq s0)
      have v1 := cell_set_eq (v := .int .i64 hi) ((cell_set_ne (W := w3) (b := W.heap.size + 1) (o := 0) (o' := 1) (v := .int .i64 lo) (by omega)).trans s1)
      refine bodyPost_ret (v := .tuple #[.agg #[.int .i64 lo, .int .i64 hi], .int .i64 0]) (by simp [results, Tryz.results15, go_sem, v0, v1]) rfl ?_
      refine ⟨by rw [HLL.out, HLO.out, HHO.out], ?_⟩
      exact Below.setCell (p := ⟨W.heap.size + 1, 1, none⟩) (Below.setCell (p := ⟨W.heap.size + 1, 0, none⟩) hkE (Nat.le_succ _) _) (Nat.le_succ _) _
theorem mem_vgen {lo hi : Nat → Int} {kp : List Int → Bool} : ∀ (d : Nat) (pre x : List Int), x ∈ vgen lo hi kp d pre ↔
    ∃ suf : List Int, suf.length = d ∧ x = pre ++ suf ∧ kp x = true ∧ ∀ i v, suf[i]? = some v → lo (pre.length + i) ≤ v ∧ v ≤ hi (pre.length + i)
  | 0, pre, x => by
    unfold vgen
    constructor
    · intro h
      by_cases hk : kp pre = true
      · rw [if_pos hk] at h
        have : x = pre := by simpa using h
        subst this
        exact ⟨[], rfl, by simp, hk, fun i v hv => by simp at hv⟩
      · rw [if_neg hk] at h; simp at h
    · rintro ⟨suf, hl, rfl, hk, -⟩
      have : suf = [] := List.length_eq_zero_iff.1 hl
      subst this
      rw [List.append_nil] at hk ⊢
      rw [if_pos hk]; simp
  | d + 1, pre, x => by
    rw [vgen_succ]
    unfold vpart
    simp only [List.mem_flatten, List.mem_map, List.mem_range]
    constructor
    · rintro ⟨l, ⟨m, hm, rfl⟩, hx⟩
      obtain ⟨suf, hl, rfl, hk, hs⟩ := (mem_vgen d _ x).1 hx
      refine ⟨(lo pre.length + (m : Int)) :: suf, by simp [hl], by simp, hk, fun i v hv => ?_⟩
      cases i with
      | zero =>
        simp only [List.getElem?_cons_zero, Option.some.injEq] at hv
        subst hv
        exact ⟨by simp only [Nat.add_zero]; omega, by simp only [Nat.add_zero]; omega⟩
      | succ i =>
        have := hs i v (by simpa using hv)
        simp only [List.length_append, List.length_cons, List.length_nil] at this
        rw [show pre.length + (i + 1) = pre.length + (0 + 1) + i by omega]
        exact this
    · rintro ⟨suf, hl, rfl, hk, hs⟩
      match suf, hl with
      | v :: suf, hl =>
        have h0 := hs 0 v rfl
        simp only [Nat.add_zero] at h0
        refine ⟨_, ⟨(v - lo pre.length).toNat, by omega, rfl⟩, ?_⟩
        have e : lo pre.length + (((v - lo pre.length).toNat : Nat) : Int) = v := by omega
        rw [e]
        refine (mem_vgen d _ _).2 ⟨suf, by simpa using hl, by simp, hk, fun i u hu => ?_⟩
        have := hs (i + 1) u (by simpa using hu)
        simp only [List.length_append, List.length_cons, List.length_nil]
        rw [show pre.length + (0 + 1) + i = pre.length + (i + 1) by omega]
        exact this
theorem mem_voices {B : Book} {boy : Nat} {x : Boy} {but : Nat} {n : List Int} : n ∈ B.voices boy x but ↔ n.length = 5 ∧ B.keeps boy x but n = true ∧ ∀ i v, n[i]? = some v → x.lo i ≤ v ∧ v ≤ x.hi i := by
  unfold Book.voices
  rw [mem_vgen]
  constructor
  · rintro ⟨suf, hl, rfl, hk, hs⟩
    simp only [List.nil_append, List.length_nil, Nat.zero_add] at hk hs ⊢
    exact ⟨hl, hk, hs⟩
  · rintro ⟨hl, hk, hs⟩
    exact ⟨n, hl, by simp, hk, fun i v hv => by simpa using hs i v hv⟩
theorem keeps_iff {B : Book} {boy : Nat} {x : Boy} {but : Nat} {n : List Int} : B.keeps boy x but n = true ↔ ∀ j t, B.trials[j]? = some t → t.boy = (boy : Int) → but.testBit j = false → TBn n x.ls t = false := by
  unfold Book.keeps rightB
  rw [List.all_eq_true]
  constructor
  · intro h j t hj hb hbt
    have := h j (List.mem_range.2 (List.getElem?_eq_some_iff.1 hj).1)
    rw [hj] at this
    simp only [badT, hb, hbt, decide_true, Bool.not_false, Bool.true_and, Bool.not_eq_true'] at this
    exact this
  · intro h j hj
    have hj := List.mem_range.1 hj
    rw [List.getElem?_eq_getElem hj]
    simp only [Bool.not_eq_true']
    unfold badT
    by_cases hb : (B.trials[j]).boy = (boy : Int)
    · cases hbt : but.testBit j with
      | true => simp
      | false =>
        have := h j _ (List.getElem?_eq_getElem hj) hb hbt
        unfold TBn at this
        rw [this]; simp
    · simp [hb]
theorem mem_untried_rng {B : Book} {boy : Nat} {x : Boy} {n : List Int} : n ∈ (Book.mk B.boys B.weeks []).truths boy x ↔ n.length = 5 ∧ ∀ i v, n[i]? = some v → x.lo i ≤ v ∧ v ≤ x.hi i := by
  rw [mem_truths]
  constructor
  · rintro ⟨h1, -, h3⟩
    exact ⟨h1, fun i v hv => ⟨(h3 i v hv).1, (h3 i v hv).2.1⟩⟩
  · rintro ⟨h1, h3⟩
    refine ⟨h1, ?_, fun i v hv => ⟨(h3 i v hv).1, (h3 i v hv).2, by simp [fbAt]⟩⟩
    unfold kpOf
    rw [List.all_eq_true]
    intro wk _
    simp [Book.told]
theorem voices_iff {B : Book} (h : B.okB = true) {boy : Nat} {x : Boy} {n : List Int} : n ∈ B.voices boy x 0 ↔ n ∈ B.truths boy x := by
  rw [mem_voices, truths_iff h, mem_untried_rng, keeps_iff]
  constructor
  · rintro ⟨h1, h2, h3⟩
    refine ⟨⟨h1, h3⟩, fun t ht hb => ?_⟩
    obtain ⟨j, hj⟩ := List.getElem?_of_mem ht
    exact h2 j t hj hb (Nat.zero_testBit j)
  · rintro ⟨⟨h1, h3⟩, h2⟩
    exact ⟨h1, fun j t hj hb _ => h2 t (List.mem_of_getElem? hj) hb, h3⟩
theorem voices_nil {B : Book} (h : B.okB = true) {boy : Nat} {x : Boy} : B.voices boy x 0 = [] ↔ B.truths boy x = [] := by
  constructor
  · intro e
    rw [List.eq_nil_iff_forall_not_mem] at e ⊢
    exact fun n hn => e n ((voices_iff h).2 hn)
  · intro e
    rw [List.eq_nil_iff_forall_not_mem] at e ⊢
    exact fun n hn => e n ((voices_iff h).1 hn)
theorem fine_can {B : Book} (h : B.okB = true) : B.fineB 0 = true ↔ Can B := by
  constructor
  · intro hf i x hx e
    have := fineB_false hx ((voices_nil h).2 e)
    rw [hf] at this; cases this
  · intro hc
    exact fineB_true fun i x _ hx e => hc i x hx ((voices_nil h).1 e)
theorem hi_max (l : List Int) : ∀ a : Int, (a ≤ l.foldl max a ∧ ∀ x ∈ l, x ≤ l.foldl max a) ∧ (l.foldl max a = a ∨ l.foldl max a ∈ l) := by
  induction l with
  | nil => exact fun a => ⟨⟨Int.le_refl _, fun x hx => by cases hx⟩, .inl rfl⟩
  | cons y l ih =>
    intro a
    rw [List.foldl_cons]
    obtain ⟨⟨h1, h2⟩, h3⟩ := ih (max a y)
    refine ⟨⟨by omega, fun x hx => ?_⟩, ?_⟩
    · rcases List.mem_cons.1 hx with rfl | hx
      · omega
      · exact h2 x hx
    · rcases h3 with h3 | h3
      · rcases Int.le_total a y with h | h
        · exact .inr (List.mem_cons.2 (.inl (by omega)))
        · exact .inl (by omega)
      · exact .inr (List.mem_cons_of_mem _ h3)
def manyL (L : List (List Int)) (ls week note : Int) (k : Nat) : Nat := ((L.take k).filter fun n => singsB (n.getD 0 0) (n.getD 1 0) (n.getD 2 0) (n.getD 3 0) (n.getD 4 0) ls week note note).length
theorem manyL_step {L : List (List Int)} {ls week note : Int} {k : Nat} {n : List Int} (hn : L[k]? = some n) {b : Bool} (hb : singsB (n.getD 0 0) (n.getD 1 0) (n.getD 2 0) (n.getD 3 0) (n.getD 4 0) ls week note note = b) : manyL L ls week note (k + 1) = manyL L ls week note k + (if b then 1 else 0) := by
  unfold manyL
  rw [List.take_succ, hn, List.filter_append, List.length_append]
  congr 1
  simp only [Option.toList_some, List.filter_cons, List.filter_nil, hb]
  cases b <;> simp
theorem manyL_le (L : List (List Int)) (ls week note : Int) (k : Nat) : manyL L ls week note k ≤ k := by
  unfold manyL
  exact Nat.le_trans (List.length_filter_le _ _) (by rw [List.length_take]; omega)
def oftenV (L : List (List Int)) (ls week note : Int) : Int := if manyL L ls week note L.length = 0 then 0 else if manyL L ls week note L.length = L.length then 2 else 1
set_option maxHeartbeats 8000000 in
theorem rsings_any (p q : Option Addr) (cap capt : Nat) (B : Book) (bn : Nat) (x : Boy) (week note : Int) (W : World) (h : BookAt W p q cap capt B) (hok : B.okB = true) (hx : B.boys[bn]? = some x) (hwk : 0 ≤ week ∧ week ≤ 100) :
    Calls Tryz.prog 88 #[B.val p q cap capt, .int .i64 (bn : Int), .int .i64 week, .int .i64 note] W fun e C => e = .returned (.int .i64 (oftenV (B.voices bn x 0) x.ls week note)) ∧ Kept W C := by
  have hlen : (B.voices bn x 0).length ≤ 1024 := vgen_len (boy_wide ((okB_boys hok).2.1 x (List.mem_of_getElem? hx))) 5 []
  obtain ⟨-, -, -, -, -, hl1, hl2⟩ := boy_nums ((okB_boys hok).2.1 x (List.mem_of_getElem? hx))
  have hls : 0 ≤ x.ls ∧ x.ls ≤ 100 := by omega
  have hrg : ∀ n ∈ B.voices bn x 0, (0 ≤ n.getD 1 0 ∧ n.getD 1 0 ≤ 100) ∧ (0 ≤ n.getD 2 0 ∧ n.getD 2 0 ≤ 100) ∧ (0 ≤ n.getD 3 0 ∧ n.getD 3 0 ≤ 100) := fun n hn => by
    obtain ⟨-, b1, b2, b3, -, -, -⟩ := boy_nums ((okB_boys hok).2.1 x (List.mem_of_getElem? hx))
    obtain ⟨h5, -, hr⟩ := mem_voices.1 hn
    match n, h5 with
    | [n0, n1, n2, n3, n4], _ =>
      have r1 : x.h0 ≤ n1 ∧ n1 ≤ x.h1 := hr 1 n1 rfl
      have r2 : x.g0 ≤ n2 ∧ n2 ≤ x.g1 := hr 2 n2 rfl
      have r3 : x.t0 ≤ n3 ∧ n3 ≤ x.t1 := hr 3 n3 rfl
      simp only [List.getD_cons_succ, List.getD_cons_zero]
      omega
  have HRG := Lib.hid hrg
  clear hl1 hl2 hrg
  obtain ⟨hk0, a0, a1, a2⟩ := bk0 W p q cap capt B
  have hv := voices_any p q cap capt B bn x 0 (W.alloc (Obj.cells #[.slice p B.boys.length cap, .int .i64 B.weeks, .slice q B.trials.length capt] 25)) (h.kept hk0) hok (by omega) hx
  unfold Book.val at hv ⊢
  generalize hLL : B.voices bn x 0 = L at *
  obtain ⟨res, hres⟩ : ∃ res, res = oftenV L x.ls week note := ⟨_, rfl⟩
  rw [← hres]
  have HRES := Lib.hid hres; clear hres
  have HV := Lib.hid hv; clear hv hLL
  have hza := Go.Ai.lt_of_cell a0
  clear h
  go_enter Tryz.func88, Tryz.ntmps88
  go_wp2_with fail
  refine HV.out.mono ?_
  rintro e w2 ⟨v, rfl, hk2, hrow⟩
  generalize (W.alloc (Obj.cells #[.slice p B.boys.length cap, .int .i64 B.weeks, .slice q B.trials.length capt] 25)) = W0 at *
  obtain ⟨pv, capv, rfl, hvr⟩ := VoicesAt.of_row hrow
  have HCELL := Lib.hid hvr
  clear hrow hvr HV hza
  have hk02 := kept_trans hk0 hk2
  go_wp2_with fail
  go_loopw [10, 11] (fun m i V => ∃ k : Nat, k ≤ L.length ∧ i = .int .i64 k ∧ m = .int .i64 (manyL L x.ls week note k : Nat) ∧ Kept w2 V) (fun m i V => L.length - (intOf i).toNat)
  case atStart => exact ⟨0, by omega, by go_num, by simp [manyL], kept_refl _⟩
  case round =>
    obtain ⟨k, hk, rfl, rfl, hkV⟩ := hrel
    by_cases hlt : k < L.length
    · have hltI : (k : Int) < L.length := by omega
      obtain ⟨n, hget⟩ : ∃ n, L[k]? = some n := ⟨_, List.getElem?_eq_getElem hlt⟩
      obtain ⟨g, rfl, hcell⟩ := HCELL.out.resolve_left (fun e => by rw [e] at hlt; cases hlt)
      obtain ⟨c0, c1, c2, c3, c4, c5⟩ := hcell k n hget
      replace c0 := kcell hkV c0
      replace c1 := kcell hkV c1
      replace c2 := kcell hkV c2
      replace c3 := kcell hkV c3
      replace c4 := kcell hkV c4
      replace c5 := kcell hkV c5
      have hgz := Go.Ai.lt_of_cell c0
      obtain ⟨hr1, hr2, hr3⟩ := HRG.out n (List.mem_of_getElem? hget)
      have hlk := manyL_le L x.ls week note k
      have HST := Lib.hid (fun b => show singsB (n.getD 0 0) (n.getD 1 0) (n.getD 2 0) (n.getD 3 0) (n.getD 4 0) x.ls week note note = b → manyL L x.ls week note (k + 1) = manyL L x.ls week note k + (if b then 1 else 0) from fun h => manyL_step hget h)
      generalize n.getD 0 0 = n0 at *
      generalize n.getD 1 0 = n1 at *
      generalize n.getD 2 0 = n2 at *
      generalize n.getD 3 0 = n3 at *
      generalize n.getD 4 0 = n4 at *
      have hc := rcan_any n0 n1 n2 n3 n4 x.ls week note wr hr1 hr2 hr3 hwk hls
      generalize hbl : singsB n0 n1 n2 n3 n4 x.ls week note note = bl at *
      have HS2 := Lib.hid (HST.out bl rfl)
      have HC := Lib.hid hc
      clear HST hc hcell hget hbl
      generalize manyL L x.ls week note k = mk at *
      go_wp2_with fail
      with_reducible refine HC.out.mono ?_
      rintro e w3 ⟨rfl, hk3⟩
      clear c0 c1 c2 c3 c4 c5 HC
      have hw1 : IntKind.i64.wrap ((mk : Int) + 1) = (mk : Int) + 1 := IntWalk.i64_in _ (by omega)
      have hkE := kept_trans hkV hk3
      cases bl with
      | false =>
        go_wp2_with fail
        go_roundw
        case rel => exact ⟨k + 1, by omega, by go_num, by rw [HS2.out]; simp, hkE⟩
        case measure => simp [intOf]; omega
      | true =>
        go_wp2_with fail
        go_roundw
        case rel => exact ⟨k + 1, by omega, by go_num, by rw [HS2.out]; simp, hkE⟩
        case measure => simp [intOf]; omega
    · have hltI : ¬ (k : Int) < L.length := by omega
      obtain rfl : k = L.length := by omega
      have hlk := manyL_le L x.ls week note L.length
      have hkE := kept_trans hk02 hkV
      have HR := Lib.hid (show res = if manyL L x.ls week note L.length = 0 then 0 else if manyL L x.ls week note L.length = L.length then 2 else 1 from HRES.out)
      generalize manyL L x.ls week note L.length = mk at *
      generalize L.length = nl at *
      clear HCELL HRES
      by_cases h0 : mk = 0
      · have p0 : ((mk : Int) == 0) = true := by simp [h0]
        go_wp2_with fail
        refine bodyPost_ret (v := .int .i64 0) (by simp [results, Tryz.results88, go_sem]) rfl ⟨by rw [HR.out, if_pos h0], hkE⟩
      · have p0 : ((mk : Int) == 0) = false := by simp; omega
        by_cases h1 : mk = nl
        · have p1 : ((mk : Int) == (nl : Int)) = true := by simp [h1]
          go_wp2_with fail
          refine bodyPost_ret (v := .int .i64 2) (by simp [results, Tryz.results88, go_sem]) rfl ⟨by rw [HR.out, if_neg h0, if_pos h1], hkE⟩
        · have p1 : ((mk : Int) == (nl : Int)) = false := by simp; omega
          go_wp2_with fail
          refine bodyPost_ret (v := .int .i64 1) (by simp [results, Tryz.results88, go_sem]) rfl ⟨by rw [HR.out, if_neg h0, if_neg h1], hkE⟩
theorem oftenV_eq {B : Book} (hok : B.okB = true) {bn : Nat} {x : Boy} (hx : B.boys[bn]? = some x) (hL : B.voices bn x 0 ≠ []) (week note : Int) : oftenV (B.voices bn x 0) x.ls week note = oftenOf (B.truths bn x) (singsN B week note note bn) := by
  have hs : ∀ n, singsN B week note note bn n = singsB (n.getD 0 0) (n.getD 1 0) (n.getD 2 0) (n.getD 3 0) (n.getD 4 0) x.ls week note note := fun n => by
    unfold singsN; rw [hx]; rfl
  have hT : B.truths bn x ≠ [] := fun e => hL ((voices_nil hok).2 e)
  unfold oftenV manyL
  rw [List.take_length]
  by_cases h0 : ((B.voices bn x 0).filter fun n => singsB (n.getD 0 0) (n.getD 1 0) (n.getD 2 0) (n.getD 3 0) (n.getD 4 0) x.ls week note note).length = 0
  · rw [if_pos h0]
    have h1 : ∀ n ∈ B.truths bn x, singsN B week note note bn n = false := fun n hn => by
      have h2 := List.length_eq_zero_iff.1 h0
      rw [List.filter_eq_nil_iff] at h2
      have := h2 n ((voices_iff hok).2 hn)
      rw [hs]; simpa using this
    exact (often_zero hT h1).symm
  · rw [if_neg h0]
    by_cases h1 : ((B.voices bn x 0).filter fun n => singsB (n.getD 0 0) (n.getD 1 0) (n.getD 2 0) (n.getD 3 0) (n.getD 4 0) x.ls week note note).length = (B.voices bn x 0).length
    · rw [if_pos h1]
      have h2 : ∀ n ∈ B.truths bn x, singsN B week note note bn n = true := fun n hn => by
        rw [List.length_filter_eq_length_iff] at h1
        rw [hs]; exact h1 n ((voices_iff hok).2 hn)
      exact (often_two h2).symm
    · rw [if_neg h1]
      have h3 : (B.truths bn x).all (singsN B week note note bn) = false := by
        rw [List.all_eq_false]
        refine Classical.byContradiction fun hne => h1 ?_
        rw [List.length_filter_eq_length_iff]
        intro n hn
        cases hh : singsN B week note note bn n with
        | true => rw [← hs]; exact hh
        | false => exact absurd ⟨n, (voices_iff hok).1 hn, by simp [hh]⟩ hne
      have h4 : (B.truths bn x).any (singsN B week note note bn) = true := by
        obtain ⟨n, hn⟩ := List.exists_mem_of_length_pos (Nat.pos_of_ne_zero h0)
        obtain ⟨hn1, hn2⟩ := List.mem_filter.1 hn
        exact List.any_eq_true.2 ⟨n, (voices_iff hok).1 hn1, by rw [hs]; exact hn2⟩
      unfold oftenOf
      rw [h3, h4]; rfl
set_option maxHeartbeats 4000000 in
theorem rsing_bad0 (p q : Option Addr) (cap capt : Nat) (B : Book) (boy week note : Int) (er : Int) (W : World) (h : BookAt W p q cap capt B) (hcb : inB boy 0 (B.boys.length - 1) = false) (her : B.err false = er) (hne : (er != 0) = true) :
    Calls Tryz.prog 20 #[B.val p q cap capt, .int .i64 boy, .int .i64 week, .int .i64 note] W fun e C => e = .returned (.tuple #[.int .i64 0, .int .i64 er]) ∧ Kept W C := by
  have hnb := h.nb
  unfold Book.val
  obtain ⟨hk0, a0, a1, a2⟩ := bk0 W p q cap capt B
  have HB := Lib.hid h; clear h
  go_enter Tryz.func20, Tryz.ntmps20
  go_wp2_with fail
  generalize (W.alloc (Obj.cells #[.slice p B.boys.length cap, .int .i64 B.weeks, .slice q B.trials.length capt] 25)) = W0 at *
  have hz := Go.Ai.lt_of_cell a0
  have e0 := cell_regrown a0
  have e1 := cell_regrown a1
  have e2 := cell_regrown a2
  have hc0 := fun d os => Calls.regrown_of (rboy_any p B.boys.length cap (.int .i64 B.weeks) (.slice q B.trials.length capt) boy (grow (redrawn W0 d) os) hnb)
  simp only [hcb] at hc0
  have HC0 := Lib.hid hc0; clear hc0
  have hca := fun d os => Calls.regrown_of (asked_any p q cap capt B false (grow (redrawn W0 d) os) ((HB.out.kept hk0).kept (below_regrown W0 d os)))
  unfold Book.val at hca
  simp only [her] at hca
  have HCA := Lib.hid hca; clear hca
  have HER := Lib.hid her; clear her
  refine wp_region_quiet_below (by kernel_rfl) (by kernel_rfl) ?_
  repeat (any_goals (first | go_big_quiet_skip | quiet_step (first | with_reducible exact HC0.out _ _ | with_reducible exact HCA.out _ _)))
  refine wpQuiet_nil ?_
  rintro _ ⟨⟨dq, osq⟩, rfl⟩
  have hkQ := below_regrown W0 dq osq
  replace a0 := kcell hkQ a0
  replace a1 := kcell hkQ a1
  replace a2 := kcell hkQ a2
  have hk01 := kept_trans hk0 hkQ
  have hza := Go.Ai.lt_of_cell a0
  clear e0 e1 e2
  generalize grow (redrawn W0 dq) osq = w1 at *
  go_wp2_with fail
  refine bodyPost_ret (v := .tuple #[.int .i64 0, .int .i64 er]) (by simp [results, Tryz.results20, go_sem]) rfl ⟨rfl, hk01⟩
set_option maxHeartbeats 4000000 in
theorem rsing_bad1 (p q : Option Addr) (cap capt : Nat) (B : Book) (boy week note : Int) (er : Int) (W : World) (h : BookAt W p q cap capt B) (hcb : inB boy 0 (B.boys.length - 1) = true) (hcw : inB week 0 (wrap64 (B.weeks - 1)) = false) (her : B.err false = er) (hne : (er != 0) = true) :
    Calls Tryz.prog 20 #[B.val p q cap capt, .int .i64 boy, .int .i64 week, .int .i64 note] W fun e C => e = .returned (.tuple #[.int .i64 0, .int .i64 er]) ∧ Kept W C := by
  have hnb := h.nb
  unfold Book.val
  obtain ⟨hk0, a0, a1, a2⟩ := bk0 W p q cap capt B
  have HB := Lib.hid h; clear h
  go_enter Tryz.func20, Tryz.ntmps20
  go_wp2_with fail
  generalize (W.alloc (Obj.cells #[.slice p B.boys.length cap, .int .i64 B.weeks, .slice q B.trials.length capt] 25)) = W0 at *
  have hz := Go.Ai.lt_of_cell a0
  have e0 := cell_regrown a0
  have e1 := cell_regrown a1
  have e2 := cell_regrown a2
  have hc0 := fun d os => Calls.regrown_of (rboy_any p B.boys.length cap (.int .i64 B.weeks) (.slice q B.trials.length capt) boy (grow (redrawn W0 d) os) hnb)
  simp only [hcb] at hc0
  have HC0 := Lib.hid hc0; clear hc0
  have hc1 := fun d os => Calls.regrown_of (rweek_any (.slice p B.boys.length cap) (.slice q B.trials.length capt) B.weeks week (grow (redrawn W0 d) os))
  simp only [hcw] at hc1
  have HC1 := Lib.hid hc1; clear hc1
  have hca := fun d os => Calls.regrown_of (asked_any p q cap capt B false (grow (redrawn W0 d) os) ((HB.out.kept hk0).kept (below_regrown W0 d os)))
  unfold Book.val at hca
  simp only [her] at hca
  have HCA := Lib.hid hca; clear hca
  have HER := Lib.hid her; clear her
  refine wp_region_quiet_below (by kernel_rfl) (by kernel_rfl) ?_
  repeat (any_goals (first | go_big_quiet_skip | quiet_step (first | with_reducible exact HC0.out _ _ | with_reducible exact HC1.out _ _ | with_reducible exact HCA.out _ _)))
  refine wpQuiet_nil ?_
  rintro _ ⟨⟨dq, osq⟩, rfl⟩
  have hkQ := below_regrown W0 dq osq
  replace a0 := kcell hkQ a0
  replace a1 := kcell hkQ a1
  replace a2 := kcell hkQ a2
  have hk01 := kept_trans hk0 hkQ
  have hza := Go.Ai.lt_of_cell a0
  clear e0 e1 e2
  generalize grow (redrawn W0 dq) osq = w1 at *
  go_wp2_with fail
  refine bodyPost_ret (v := .tuple #[.int .i64 0, .int .i64 er]) (by simp [results, Tryz.results20, go_sem]) rfl ⟨rfl, hk01⟩
set_option maxHeartbeats 4000000 in
theorem rsing_bad2 (p q : Option Addr) (cap capt : Nat) (B : Book) (boy week note : Int) (er : Int) (W : World) (h : BookAt W p q cap capt B) (hcb : inB boy 0 (B.boys.length - 1) = true) (hcw : inB week 0 (wrap64 (B.weeks - 1)) = true) (hcn : inB note 0 40 = false) (her : B.err false = er) (hne : (er != 0) = true) :
    Calls Tryz.prog 20 #[B.val p q cap capt, .int .i64 boy, .int .i64 week, .int .i64 note] W fun e C => e = .returned (.tuple #[.int .i64 0, .int .i64 er]) ∧ Kept W C := by
  have hnb := h.nb
  unfold Book.val
  obtain ⟨hk0, a0, a1, a2⟩ := bk0 W p q cap capt B
  have HB := Lib.hid h; clear h
  go_enter Tryz.func20, Tryz.ntmps20
  go_wp2_with fail
  generalize (W.alloc (Obj.cells #[.slice p B.boys.length cap, .int .i64 B.weeks, .slice q B.trials.length capt] 25)) = W0 at *
  have hz := Go.Ai.lt_of_cell a0
  have e0 := cell_regrown a0
  have e1 := cell_regrown a1
  have e2 := cell_regrown a2
  have hc0 := fun d os => Calls.regrown_of (rboy_any p B.boys.length cap (.int .i64 B.weeks) (.slice q B.trials.length capt) boy (grow (redrawn W0 d) os) hnb)
  simp only [hcb] at hc0
  have HC0 := Lib.hid hc0; clear hc0
  have hc1 := fun d os => Calls.regrown_of (rweek_any (.slice p B.boys.length cap) (.slice q B.trials.length capt) B.weeks week (grow (redrawn W0 d) os))
  simp only [hcw] at hc1
  have HC1 := Lib.hid hc1; clear hc1
  have hc2 := fun d os => Calls.regrown_of (rnote_any note (grow (redrawn W0 d) os))
  simp only [hcn] at hc2
  have HC2 := Lib.hid hc2; clear hc2
  have hca := fun d os => Calls.regrown_of (asked_any p q cap capt B false (grow (redrawn W0 d) os) ((HB.out.kept hk0).kept (below_regrown W0 d os)))
  unfold Book.val at hca
  simp only [her] at hca
  have HCA := Lib.hid hca; clear hca
  have HER := Lib.hid her; clear her
  refine wp_region_quiet_below (by kernel_rfl) (by kernel_rfl) ?_
  repeat (any_goals (first | go_big_quiet_skip | quiet_step (first | with_reducible exact HC0.out _ _ | with_reducible exact HC1.out _ _ | with_reducible exact HC2.out _ _ | with_reducible exact HCA.out _ _)))
  refine wpQuiet_nil ?_
  rintro _ ⟨⟨dq, osq⟩, rfl⟩
  have hkQ := below_regrown W0 dq osq
  replace a0 := kcell hkQ a0
  replace a1 := kcell hkQ a1
  replace a2 := kcell hkQ a2
  have hk01 := kept_trans hk0 hkQ
  have hza := Go.Ai.lt_of_cell a0
  clear e0 e1 e2
  generalize grow (redrawn W0 dq) osq = w1 at *
  go_wp2_with fail
  refine bodyPost_ret (v := .tuple #[.int .i64 0, .int .i64 er]) (by simp [results, Tryz.results20, go_sem]) rfl ⟨rfl, hk01⟩
set_option maxHeartbeats 4000000 in
theorem rsing_bad3 (p q : Option Addr) (cap capt : Nat) (B : Book) (boy week note : Int) (er : Int) (W : World) (h : BookAt W p q cap capt B) (hcb : inB boy 0 (B.boys.length - 1) = true) (hcw : inB week 0 (wrap64 (B.weeks - 1)) = true) (hcn : inB note 0 40 = true) (her : B.err true = er) (hne : (er != 0) = true) :
    Calls Tryz.prog 20 #[B.val p q cap capt, .int .i64 boy, .int .i64 week, .int .i64 note] W fun e C => e = .returned (.tuple #[.int .i64 0, .int .i64 er]) ∧ Kept W C := by
  have hnb := h.nb
  unfold Book.val
  obtain ⟨hk0, a0, a1, a2⟩ := bk0 W p q cap capt B
  have HB := Lib.hid h; clear h
  go_enter Tryz.func20, Tryz.ntmps20
  go_wp2_with fail
  generalize (W.alloc (Obj.cells #[.slice p B.boys.length cap, .int .i64 B.weeks, .slice q B.trials.length capt] 25)) = W0 at *
  have hz := Go.Ai.lt_of_cell a0
  have e0 := cell_regrown a0
  have e1 := cell_regrown a1
  have e2 := cell_regrown a2
  have hc0 := fun d os => Calls.regrown_of (rboy_any p B.boys.length cap (.int .i64 B.weeks) (.slice q B.trials.length capt) boy (grow (redrawn W0 d) os) hnb)
  simp only [hcb] at hc0
  have HC0 := Lib.hid hc0; clear hc0
  have hc1 := fun d os => Calls.regrown_of (rweek_any (.slice p B.boys.length cap) (.slice q B.trials.length capt) B.weeks week (grow (redrawn W0 d) os))
  simp only [hcw] at hc1
  have HC1 := Lib.hid hc1; clear hc1
  have hc2 := fun d os => Calls.regrown_of (rnote_any note (grow (redrawn W0 d) os))
  simp only [hcn] at hc2
  have HC2 := Lib.hid hc2; clear hc2
  have hca := fun d os => Calls.regrown_of (asked_any p q cap capt B true (grow (redrawn W0 d) os) ((HB.out.kept hk0).kept (below_regrown W0 d os)))
  unfold Book.val at hca
  simp only [her] at hca
  have HCA := Lib.hid hca; clear hca
  have HER := Lib.hid her; clear her
  refine wp_region_quiet_below (by kernel_rfl) (by kernel_rfl) ?_
  repeat (any_goals (first | go_big_quiet_skip | quiet_step (first | with_reducible exact HC0.out _ _ | with_reducible exact HC1.out _ _ | with_reducible exact HC2.out _ _ | with_reducible exact HCA.out _ _)))
  refine wpQuiet_nil ?_
  rintro _ ⟨⟨dq, osq⟩, rfl⟩
  have hkQ := below_regrown W0 dq osq
  replace a0 := kcell hkQ a0
  replace a1 := kcell hkQ a1
  replace a2 := kcell hkQ a2
  have hk01 := kept_trans hk0 hkQ
  have hza := Go.Ai.lt_of_cell a0
  clear e0 e1 e2
  generalize grow (redrawn W0 dq) osq = w1 at *
  go_wp2_with fail
  refine bodyPost_ret (v := .tuple #[.int .i64 0, .int .i64 er]) (by simp [results, Tryz.results20, go_sem]) rfl ⟨rfl, hk01⟩
set_option maxHeartbeats 4000000 in
theorem rsing_good (p q : Option Addr) (cap capt : Nat) (B : Book) (bn : Nat) (x : Boy) (boy week note : Int) (W : World) (h : BookAt W p q cap capt B) (hbn : boy = (bn : Int)) (hx : B.boys[bn]? = some x) (hcb : inB boy 0 (B.boys.length - 1) = true) (hcw : inB week 0 (wrap64 (B.weeks - 1)) = true) (hcn : inB note 0 40 = true) (hwk : 0 ≤ week ∧ week ≤ 100) (hok : B.okB = true) (her : B.err true = 0) :
    Calls Tryz.prog 20 #[B.val p q cap capt, .int .i64 boy, .int .i64 week, .int .i64 note] W fun e C => e = .returned (.tuple #[.int .i64 (oftenV (B.voices bn x 0) x.ls week note), .int .i64 0]) ∧ Kept W C := by
  have HBN := Lib.hid hbn; clear hbn
  have HOK := Lib.hid hok; clear hok
  have hnb := h.nb
  unfold Book.val
  obtain ⟨hk0, a0, a1, a2⟩ := bk0 W p q cap capt B
  have HB := Lib.hid h; clear h
  go_enter Tryz.func20, Tryz.ntmps20
  go_wp2_with fail
  generalize (W.alloc (Obj.cells #[.slice p B.boys.length cap, .int .i64 B.weeks, .slice q B.trials.length capt] 25)) = W0 at *
  have hz := Go.Ai.lt_of_cell a0
  have e0 := cell_regrown a0
  have e1 := cell_regrown a1
  have e2 := cell_regrown a2
  have hc0 := fun d os => Calls.regrown_of (rboy_any p B.boys.length cap (.int .i64 B.weeks) (.slice q B.trials.length capt) boy (grow (redrawn W0 d) os) hnb)
  simp only [hcb] at hc0
  have HC0 := Lib.hid hc0; clear hc0
  have hc1 := fun d os => Calls.regrown_of (rweek_any (.slice p B.boys.length cap) (.slice q B.trials.length capt) B.weeks week (grow (redrawn W0 d) os))
  simp only [hcw] at hc1
  have HC1 := Lib.hid hc1; clear hc1
  have hc2 := fun d os => Calls.regrown_of (rnote_any note (grow (redrawn W0 d) os))
  simp only [hcn] at hc2
  have HC2 := Lib.hid hc2; clear hc2
  have hca := fun d os => Calls.regrown_of (asked_any p q cap capt B true (grow (redrawn W0 d) os) ((HB.out.kept hk0).kept (below_regrown W0 d os)))
  unfold Book.val at hca
  simp only [her] at hca
  have HCA := Lib.hid hca; clear hca
  have HER := Lib.hid her; clear her
  refine wp_region_quiet_below (by kernel_rfl) (by kernel_rfl) ?_
  repeat (any_goals (first | go_big_quiet_skip | quiet_step (first | with_reducible exact HC0.out _ _ | with_reducible exact HC1.out _ _ | with_reducible exact HC2.out _ _ | with_reducible exact HCA.out _ _)))
  refine wpQuiet_nil ?_
  rintro _ ⟨⟨dq, osq⟩, rfl⟩
  have hkQ := below_regrown W0 dq osq
  replace a0 := kcell hkQ a0
  replace a1 := kcell hkQ a1
  replace a2 := kcell hkQ a2
  have hk01 := kept_trans hk0 hkQ
  have hza := Go.Ai.lt_of_cell a0
  clear e0 e1 e2
  generalize grow (redrawn W0 dq) osq = w1 at *
  have hs := rsings_any p q cap capt B bn x week note w1 (HB.out.kept hk01) HOK.out hx hwk
  rw [← HBN.out] at hs
  unfold Book.val at hs
  generalize hrr : oftenV (B.voices bn x 0) x.ls week note = r at *
  have HS := Lib.hid hs; clear hs
  have HRR := Lib.hid hrr; clear hrr
  go_wp2_with fail
  with_reducible refine HS.out.mono ?_
  rintro e w2 ⟨rfl, hk2⟩
  go_wp2_with fail
  refine bodyPost_ret (v := .tuple #[.int .i64 r, .int .i64 0]) (by simp [results, Tryz.results20, go_sem]) rfl ⟨by rw [HRR.out], kept_trans hk01 hk2⟩
theorem surely_step {B : Book} {sb : Nat → List Int → Bool} {k : Nat} {bb : Bool} (h : surelyB B sb k = bb) : surelyL B sb (k + 1) = surelyL B sb k ++ (if bb then [k] else []) := by
  unfold surelyL
  rw [List.range_succ, List.filter_append]
  congr 1
  simp only [List.filter_cons, List.filter_nil, h]
theorem often_two_iff {l : List (List Int)} {sb : List Int → Bool} (hl : l ≠ []) : (oftenOf l sb == 2) = l.all sb := by
  unfold oftenOf
  cases l.all sb with
  | true => rfl
  | false => cases l.any sb <;> rfl
set_option maxHeartbeats 4000000 in
theorem rsure_bad0 (p q : Option Addr) (cap capt : Nat) (B : Book) (week note : Int) (er : Int) (W : World) (h : BookAt W p q cap capt B) (hcw : inB week 0 (wrap64 (B.weeks - 1)) = false) (her : B.err false = er) (hne : (er != 0) = true) :
    Calls Tryz.prog 22 #[B.val p q cap capt, .int .i64 week, .int .i64 note] W fun e C => e = .returned (.tuple #[.slice none 0 0, .int .i64 er]) ∧ Kept W C := by
  have hnb := h.nb
  unfold Book.val
  obtain ⟨hk0, a0, a1, a2⟩ := bk0 W p q cap capt B
  have HB := Lib.hid h; clear h
  go_enter Tryz.func22, Tryz.ntmps22
  go_wp2_with fail
  generalize (W.alloc (Obj.cells #[.slice p B.boys.length cap, .int .i64 B.weeks, .slice q B.trials.length capt] 25)) = W0 at *
  have hz := Go.Ai.lt_of_cell a0
  have e0 := cell_regrown a0
  have e1 := cell_regrown a1
  have e2 := cell_regrown a2
  have hc0 := fun d os => Calls.regrown_of (rweek_any (.slice p B.boys.length cap) (.slice q B.trials.length capt) B.weeks week (grow (redrawn W0 d) os))
  simp only [hcw] at hc0
  have HC0 := Lib.hid hc0; clear hc0
  have hca := fun d os => Calls.regrown_of (asked_any p q cap capt B false (grow (redrawn W0 d) os) ((HB.out.kept hk0).kept (below_regrown W0 d os)))
  unfold Book.val at hca
  simp only [her] at hca
  have HCA := Lib.hid hca; clear hca
  have HER := Lib.hid her; clear her
  refine wp_region_quiet_below (by kernel_rfl) (by kernel_rfl) ?_
  repeat (any_goals (first | go_big_quiet_skip | quiet_step (first | with_reducible exact HC0.out _ _ | with_reducible exact HCA.out _ _)))
  refine wpQuiet_nil ?_
  rintro _ ⟨⟨dq, osq⟩, rfl⟩
  have hkQ := below_regrown W0 dq osq
  replace a0 := kcell hkQ a0
  replace a1 := kcell hkQ a1
  replace a2 := kcell hkQ a2
  have hk01 := kept_trans hk0 hkQ
  have hza := Go.Ai.lt_of_cell a0
  clear e0 e1 e2
  generalize grow (redrawn W0 dq) osq = w1 at *
  go_wp2_with fail
  refine bodyPost_ret (v := .tuple #[.slice none 0 0, .int .i64 er]) (by simp [results, Tryz.results22, go_sem]) rfl ⟨rfl, hk01⟩
set_option maxHeartbeats 4000000 in
theorem rsure_bad1 (p q : Option Addr) (cap capt : Nat) (B : Book) (week note : Int) (er : Int) (W : World) (h : BookAt W p q cap capt B) (hcw : inB week 0 (wrap64 (B.weeks - 1)) = true) (hcn : inB note 0 40 = false) (her : B.err false = er) (hne : (er != 0) = true) :
    Calls Tryz.prog 22 #[B.val p q cap capt, .int .i64 week, .int .i64 note] W fun e C => e = .returned (.tuple #[.slice none 0 0, .int .i64 er]) ∧ Kept W C := by
  have hnb := h.nb
  unfold Book.val
  obtain ⟨hk0, a0, a1, a2⟩ := bk0 W p q cap capt B
  have HB := Lib.hid h; clear h
  go_enter Tryz.func22, Tryz.ntmps22
  go_wp2_with fail
  generalize (W.alloc (Obj.cells #[.slice p B.boys.length cap, .int .i64 B.weeks, .slice q B.trials.length capt] 25)) = W0 at *
  have hz := Go.Ai.lt_of_cell a0
  have e0 := cell_regrown a0
  have e1 := cell_regrown a1
  have e2 := cell_regrown a2
  have hc0 := fun d os => Calls.regrown_of (rweek_any (.slice p B.boys.length cap) (.slice q B.trials.length capt) B.weeks week (grow (redrawn W0 d) os))
  simp only [hcw] at hc0
  have HC0 := Lib.hid hc0; clear hc0
  have hc1 := fun d os => Calls.regrown_of (rnote_any note (grow (redrawn W0 d) os))
  simp only [hcn] at hc1
  have HC1 := Lib.hid hc1; clear hc1
  have hca := fun d os => Calls.regrown_of (asked_any p q cap capt B false (grow (redrawn W0 d) os) ((HB.out.kept hk0).kept (below_regrown W0 d os)))
  unfold Book.val at hca
  simp only [her] at hca
  have HCA := Lib.hid hca; clear hca
  have HER := Lib.hid her; clear her
  refine wp_region_quiet_below (by kernel_rfl) (by kernel_rfl) ?_
  repeat (any_goals (first | go_big_quiet_skip | quiet_step (first | with_reducible exact HC0.out _ _ | with_reducible exact HC1.out _ _ | with_reducible exact HCA.out _ _)))
  refine wpQuiet_nil ?_
  rintro _ ⟨⟨dq, osq⟩, rfl⟩
  have hkQ := below_regrown W0 dq osq
  replace a0 := kcell hkQ a0
  replace a1 := kcell hkQ a1
  replace a2 := kcell hkQ a2
  have hk01 := kept_trans hk0 hkQ
  have hza := Go.Ai.lt_of_cell a0
  clear e0 e1 e2
  generalize grow (redrawn W0 dq) osq = w1 at *
  go_wp2_with fail
  refine bodyPost_ret (v := .tuple #[.slice none 0 0, .int .i64 er]) (by simp [results, Tryz.results22, go_sem]) rfl ⟨rfl, hk01⟩
set_option maxHeartbeats 4000000 in
theorem rsure_bad2 (p q : Option Addr) (cap capt : Nat) (B : Book) (week note : Int) (er : Int) (W : World) (h : BookAt W p q cap capt B) (hcw : inB week 0 (wrap64 (B.weeks - 1)) = true) (hcn : inB note 0 40 = true) (her : B.err true = er) (hne : (er != 0) = true) :
    Calls Tryz.prog 22 #[B.val p q cap capt, .int .i64 week, .int .i64 note] W fun e C => e = .returned (.tuple #[.slice none 0 0, .int .i64 er]) ∧ Kept W C := by
  have hnb := h.nb
  unfold Book.val
  obtain ⟨hk0, a0, a1, a2⟩ := bk0 W p q cap capt B
  have HB := Lib.hid h; clear h
  go_enter Tryz.func22, Tryz.ntmps22
  go_wp2_with fail
  generalize (W.alloc (Obj.cells #[.slice p B.boys.length cap, .int .i64 B.weeks, .slice q B.trials.length capt] 25)) = W0 at *
  have hz := Go.Ai.lt_of_cell a0
  have e0 := cell_regrown a0
  have e1 := cell_regrown a1
  have e2 := cell_regrown a2
  have hc0 := fun d os => Calls.regrown_of (rweek_any (.slice p B.boys.length cap) (.slice q B.trials.length capt) B.weeks week (grow (redrawn W0 d) os))
  simp only [hcw] at hc0
  have HC0 := Lib.hid hc0; clear hc0
  have hc1 := fun d os => Calls.regrown_of (rnote_any note (grow (redrawn W0 d) os))
  simp only [hcn] at hc1
  have HC1 := Lib.hid hc1; clear hc1
  have hca := fun d os => Calls.regrown_of (asked_any p q cap capt B true (grow (redrawn W0 d) os) ((HB.out.kept hk0).kept (below_regrown W0 d os)))
  unfold Book.val at hca
  simp only [her] at hca
  have HCA := Lib.hid hca; clear hca
  have HER := Lib.hid her; clear her
  refine wp_region_quiet_below (by kernel_rfl) (by kernel_rfl) ?_
  repeat (any_goals (first | go_big_quiet_skip | quiet_step (first | with_reducible exact HC0.out _ _ | with_reducible exact HC1.out _ _ | with_reducible exact HCA.out _ _)))
  refine wpQuiet_nil ?_
  rintro _ ⟨⟨dq, osq⟩, rfl⟩
  have hkQ := below_regrown W0 dq osq
  replace a0 := kcell hkQ a0
  replace a1 := kcell hkQ a1
  replace a2 := kcell hkQ a2
  have hk01 := kept_trans hk0 hkQ
  have hza := Go.Ai.lt_of_cell a0
  clear e0 e1 e2
  generalize grow (redrawn W0 dq) osq = w1 at *
  go_wp2_with fail
  refine bodyPost_ret (v := .tuple #[.slice none 0 0, .int .i64 er]) (by simp [results, Tryz.results22, go_sem]) rfl ⟨rfl, hk01⟩
set_option maxHeartbeats 8000000 in
theorem rsure_good (p q : Option Addr) (cap capt : Nat) (B : Book) (week note : Int) (W : World) (h : BookAt W p q cap capt B) (hcw : inB week 0 (wrap64 (B.weeks - 1)) = true) (hcn : inB note 0 40 = true) (hwk : 0 ≤ week ∧ week < B.weeks) (hok : B.okB = true) (hcan : Can B) (her : B.err true = 0) :
    Calls Tryz.prog 22 #[B.val p q cap capt, .int .i64 week, .int .i64 note] W fun e C => ∃ v, e = .returned (.tuple #[v, .int .i64 0]) ∧ Kept W C ∧ C.ownsRow W.heap.size 3 1 v (surelyL B (singsN B week note note) B.boys.length).length (intsV (surelyL B (singsN B week note note) B.boys.length)) := by
  obtain ⟨⟨q1, q2, q3, q4, q5⟩, -, -⟩ := okB_boys hok
  have HCAN := Lib.hid hcan; clear hcan
  have HOK := Lib.hid hok; clear hok
  have HER2 := Lib.hid her
  have hnb := h.nb
  unfold Book.val
  obtain ⟨hk0, a0, a1, a2⟩ := bk0 W p q cap capt B
  have HB := Lib.hid h; clear h
  go_enter Tryz.func22, Tryz.ntmps22
  go_wp2_with fail
  generalize (W.alloc (Obj.cells #[.slice p B.boys.length cap, .int .i64 B.weeks, .slice q B.trials.length capt] 25)) = W0 at *
  have hz := Go.Ai.lt_of_cell a0
  have e0 := cell_regrown a0
  have e1 := cell_regrown a1
  have e2 := cell_regrown a2
  have hc0 := fun d os => Calls.regrown_of (rweek_any (.slice p B.boys.length cap) (.slice q B.trials.length capt) B.weeks week (grow (redrawn W0 d) os))
  simp only [hcw] at hc0
  have HC0 := Lib.hid hc0; clear hc0
  have hc1 := fun d os => Calls.regrown_of (rnote_any note (grow (redrawn W0 d) os))
  simp only [hcn] at hc1
  have HC1 := Lib.hid hc1; clear hc1
  have hca := fun d os => Calls.regrown_of (asked_any p q cap capt B true (grow (redrawn W0 d) os) ((HB.out.kept hk0).kept (below_regrown W0 d os)))
  unfold Book.val at hca
  simp only [her] at hca
  have HCA := Lib.hid hca; clear hca
  have HER := Lib.hid her; clear her
  refine wp_region_quiet_below (by kernel_rfl) (by kernel_rfl) ?_
  repeat (any_goals (first | go_big_quiet_skip | quiet_step (first | with_reducible exact HC0.out _ _ | with_reducible exact HC1.out _ _ | with_reducible exact HCA.out _ _)))
  refine wpQuiet_nil ?_
  rintro _ ⟨⟨dq, osq⟩, rfl⟩
  have hkQ := below_regrown W0 dq osq
  replace a0 := kcell hkQ a0
  replace a1 := kcell hkQ a1
  replace a2 := kcell hkQ a2
  have hk01 := kept_trans hk0 hkQ
  have hza := Go.Ai.lt_of_cell a0
  clear e0 e1 e2
  generalize grow (redrawn W0 dq) osq = w1 at *
  go_wp2_with fail
  go_loopw [9, 10] (fun ov i V => ∃ k : Nat, k ≤ B.boys.length ∧ i = .int .i64 k ∧ V.ownsRow w1.heap.size 3 1 ov (surelyL B (singsN B week note note) k).length (intsV (surelyL B (singsN B week note note) k)) ∧ Kept w1 V) (fun ov i V => B.boys.length - (intOf i).toNat)
  case atStart => exact ⟨0, by omega, by go_num, ⟨rfl, .inr ⟨w1.heap.size, 0, #[], rfl, Nat.le_refl _, heap_alloc_new _ _, Nat.le_refl _, by decide, rfl, rfl⟩⟩, kept_alloc (kept_refl _) _⟩
  case round =>
    obtain ⟨k, hk, rfl, hR, hkV⟩ := hrel
    replace a0 := kcell hkV a0
    replace a1 := kcell hkV a1
    replace a2 := kcell hkV a2
    have hza := Go.Ai.lt_of_cell a0
    by_cases hlt : k < B.boys.length
    · have hltI : (k : Int) < B.boys.length := by omega
      obtain ⟨x, hget⟩ : ∃ x, B.boys[k]? = some x := ⟨_, List.getElem?_eq_getElem hlt⟩
      have hL : B.voices k x 0 ≠ [] := fun e => HCAN.out k x hget ((voices_nil HOK.out).1 e)
      have hov := oftenV_eq HOK.out hget hL week note
      have hs := rsings_any p q cap capt B k x week note wr (HB.out.kept (kept_trans hk01 hkV)) HOK.out hget (by omega)
      rw [hov] at hs
      unfold Book.val at hs
      obtain ⟨bb, hbb⟩ : ∃ bb, bb = (oftenOf (B.truths k x) (singsN B week note note k) == 2) := ⟨_, rfl⟩
      have HST := Lib.hid (show surelyL B (singsN B week note note) (k + 1) = surelyL B (singsN B week note note) k ++ (if bb then [k] else []) from surely_step (by rw [hbb]; unfold surelyB; rw [hget]; exact (often_two_iff (fun e => hL ((voices_nil HOK.out).2 e))).symm))
      generalize oftenOf (B.truths k x) (singsN B week note note k) = r at *
      have HS := Lib.hid hs; clear hs hov hL
      obtain ⟨sl, hsl⟩ : ∃ sl, sl = surelyL B (singsN B week note note) k := ⟨_, rfl⟩
      have hlsl : sl.length ≤ k := by rw [hsl]; unfold surelyL; exact Nat.le_trans (List.length_filter_le _ _) (by simp)
      rw [← hsl] at hR
      have HSL := Lib.hid hsl; clear hsl
      have HR := Lib.hid hR; clear hR
      clear hget
      go_wp2_with fail
      with_reducible refine HS.out.mono ?_
      rintro e w3 ⟨rfl, hk3⟩
      clear HS
      have hkE := kept_trans hkV hk3
      have hsz3 := hkE.size
      have HR3 := Lib.hid (row_kept HR.out hk3)
      cases bb with
      | false =>
        have HRX := HR3.out
        have hkX := hkE
        have hr2 : (r == 2) = false := hbb.symm
        clear hbb
        simp only [Bool.false_eq_true, if_false, List.append_nil] at HST
        go_wp2_with fail
        go_roundw
        case rel => exact ⟨k + 1, by omega, by go_num, by rw [HST.out, ← HSL.out]; exact HRX, hkX⟩
        case measure => simp [intOf]; omega
      | true =>
        obtain ⟨i0, hinf, hiz, his, hib⟩ := info_parts infoI
        have HRX := Lib.hid HR3.out
        have hkE2 := hkE
        have hr2 : (r == 2) = true := hbb.symm
        clear hbb
        simp only [if_true] at HST
        have hka := kept_alloc (kept_refl w3) (Obj.cells #[.int .i64 (k : Int)] 3)
        go_wp2_with (at_builtin
                     refine wpList_append_lies _ rfl _ _ 41 rfl w1.heap.size 3 i0 _ 1 8 Tryz.underlying41 hinf hiz his hib rfl (by decide) u9 sl.length _ rfl (HRX.out.alloc _) ⟨w3.heap.size, 0, none⟩ 1 1 [.int .i64 (k : Int)] rfl rfl (cell_one_new _ _ _) (by simp [Value.oneCell']) (by decide) (by unfold maxLen; omega) (by omega) (by simp; omega) _ rfl ?_
                     intro g2 cap2 V3 hown hgrow hat hlt3)
        have hkX : Kept w1 V3 := Below.grown (kept_trans hkE2 hka) hgrow (kept_trans hkE2 hka).size (fun b e => (HRX.out.lt b e).1)
        go_roundw
        case rel => exact ⟨k + 1, by omega, by go_num, by rw [HST.out, ← HSL.out]; unfold intsV; rw [List.map_append, List.length_append]; exact hown, hkX⟩
        case measure => simp [intOf]; omega
    · have hltI : ¬ (k : Int) < B.boys.length := by omega
      obtain rfl : k = B.boys.length := by omega
      have HR := Lib.hid hR; clear hR
      have hk1V := kept_trans hk01 hkV
      go_wp2_with fail
      refine bodyPost_ret (v := .tuple #[u9, .int .i64 0]) (by simp [results, Tryz.results22, go_sem]) rfl ⟨_, rfl, hk1V, row_le HR.out (by have := hk01.size; omega)⟩
theorem must_hi {B : Book} (hok : B.okB = true) {k : Nat} {x : Boy} (hL : B.voices k x 0 ≠ []) (week : Int) : (B.truths k x).all (brokenB week) = decide (hiOf ((B.voices k x 0).map fun n => n.getD 4 0) ≤ week) := by
  rw [Bool.eq_iff_iff, List.all_eq_true, decide_eq_true_eq]
  have hne : ((B.voices k x 0).map fun n => n.getD 4 0) ≠ [] := by simpa using hL
  generalize hM : ((B.voices k x 0).map fun n => n.getD 4 0) = M at *
  obtain ⟨⟨b1, b2⟩, b3⟩ := hi_max M (M.headD 0)
  have hd : M.headD 0 ∈ M := by
    cases M with
    | nil => exact absurd rfl hne
    | cons a t => exact List.mem_cons_self
  have b4 : hiOf M ∈ M := by
    rcases b3 with e | h
    · show M.foldl max (M.headD 0) ∈ M
      rw [e]; exact hd
    · exact h
  constructor
  · intro h
    have h4 := b4
    rw [← hM] at h4
    obtain ⟨n, hn, e⟩ := List.mem_map.1 h4
    have := h n ((voices_iff hok).1 hn)
    rw [hM] at e
    rw [← e]
    simpa [brokenB] using this
  · intro h n hn
    have : n.getD 4 0 ∈ M := by rw [← hM]; exact List.mem_map.2 ⟨n, (voices_iff hok).2 hn, rfl⟩
    have := b2 _ this
    unfold hiOf at h
    simp only [brokenB, decide_eq_true_eq]
    omega
set_option maxHeartbeats 4000000 in
theorem rmust_bad0 (p q : Option Addr) (cap capt : Nat) (B : Book) (week : Int) (er : Int) (W : World) (h : BookAt W p q cap capt B) (hcw : inB week 0 (wrap64 (B.weeks - 1)) = false) (her : B.err false = er) (hne : (er != 0) = true) :
    Calls Tryz.prog 25 #[B.val p q cap capt, .int .i64 week] W fun e C => e = .returned (.tuple #[.slice none 0 0, .int .i64 er]) ∧ Kept W C := by
  have hnb := h.nb
  unfold Book.val
  obtain ⟨hk0, a0, a1, a2⟩ := bk0 W p q cap capt B
  have HB := Lib.hid h; clear h
  go_enter Tryz.func25, Tryz.ntmps25
  go_wp2_with fail
  generalize (W.alloc (Obj.cells #[.slice p B.boys.length cap, .int .i64 B.weeks, .slice q B.trials.length capt] 25)) = W0 at *
  have hz := Go.Ai.lt_of_cell a0
  have e0 := cell_regrown a0
  have e1 := cell_regrown a1
  have e2 := cell_regrown a2
  have hc0 := fun d os => Calls.regrown_of (rweek_any (.slice p B.boys.length cap) (.slice q B.trials.length capt) B.weeks week (grow (redrawn W0 d) os))
  simp only [hcw] at hc0
  have HC0 := Lib.hid hc0; clear hc0
  have hca := fun d os => Calls.regrown_of (asked_any p q cap capt B false (grow (redrawn W0 d) os) ((HB.out.kept hk0).kept (below_regrown W0 d os)))
  unfold Book.val at hca
  simp only [her] at hca
  have HCA := Lib.hid hca; clear hca
  have HER := Lib.hid her; clear her
  refine wp_region_quiet_below (by kernel_rfl) (by kernel_rfl) ?_
  repeat (any_goals (first | go_big_quiet_skip | quiet_step (first | with_reducible exact HC0.out _ _ | with_reducible exact HCA.out _ _)))
  refine wpQuiet_nil ?_
  rintro _ ⟨⟨dq, osq⟩, rfl⟩
  have hkQ := below_regrown W0 dq osq
  replace a0 := kcell hkQ a0
  replace a1 := kcell hkQ a1
  replace a2 := kcell hkQ a2
  have hk01 := kept_trans hk0 hkQ
  have hza := Go.Ai.lt_of_cell a0
  clear e0 e1 e2
  generalize grow (redrawn W0 dq) osq = w1 at *
  go_wp2_with fail
  refine bodyPost_ret (v := .tuple #[.slice none 0 0, .int .i64 er]) (by simp [results, Tryz.results25, go_sem]) rfl ⟨rfl, hk01⟩
set_option maxHeartbeats 4000000 in
theorem rmust_bad1 (p q : Option Addr) (cap capt : Nat) (B : Book) (week : Int) (er : Int) (W : World) (h : BookAt W p q cap capt B) (hcw : inB week 0 (wrap64 (B.weeks - 1)) = true) (her : B.err true = er) (hne : (er != 0) = true) :
    Calls Tryz.prog 25 #[B.val p q cap capt, .int .i64 week] W fun e C => e = .returned (.tuple #[.slice none 0 0, .int .i64 er]) ∧ Kept W C := by
  have hnb := h.nb
  unfold Book.val
  obtain ⟨hk0, a0, a1, a2⟩ := bk0 W p q cap capt B
  have HB := Lib.hid h; clear h
  go_enter Tryz.func25, Tryz.ntmps25
  go_wp2_with fail
  generalize (W.alloc (Obj.cells #[.slice p B.boys.length cap, .int .i64 B.weeks, .slice q B.trials.length capt] 25)) = W0 at *
  have hz := Go.Ai.lt_of_cell a0
  have e0 := cell_regrown a0
  have e1 := cell_regrown a1
  have e2 := cell_regrown a2
  have hc0 := fun d os => Calls.regrown_of (rweek_any (.slice p B.boys.length cap) (.slice q B.trials.length capt) B.weeks week (grow (redrawn W0 d) os))
  simp only [hcw] at hc0
  have HC0 := Lib.hid hc0; clear hc0
  have hca := fun d os => Calls.regrown_of (asked_any p q cap capt B true (grow (redrawn W0 d) os) ((HB.out.kept hk0).kept (below_regrown W0 d os)))
  unfold Book.val at hca
  simp only [her] at hca
  have HCA := Lib.hid hca; clear hca
  have HER := Lib.hid her; clear her
  refine wp_region_quiet_below (by kernel_rfl) (by kernel_rfl) ?_
  repeat (any_goals (first | go_big_quiet_skip | quiet_step (first | with_reducible exact HC0.out _ _ | with_reducible exact HCA.out _ _)))
  refine wpQuiet_nil ?_
  rintro _ ⟨⟨dq, osq⟩, rfl⟩
  have hkQ := below_regrown W0 dq osq
  replace a0 := kcell hkQ a0
  replace a1 := kcell hkQ a1
  replace a2 := kcell hkQ a2
  have hk01 := kept_trans hk0 hkQ
  have hza := Go.Ai.lt_of_cell a0
  clear e0 e1 e2
  generalize grow (redrawn W0 dq) osq = w1 at *
  go_wp2_with fail
  refine bodyPost_ret (v := .tuple #[.slice none 0 0, .int .i64 er]) (by simp [results, Tryz.results25, go_sem]) rfl ⟨rfl, hk01⟩
set_option maxHeartbeats 8000000 in
theorem rmust_good (p q : Option Addr) (cap capt : Nat) (B : Book) (week : Int) (W : World) (h : BookAt W p q cap capt B) (hcw : inB week 0 (wrap64 (B.weeks - 1)) = true) (hwk : 0 ≤ week ∧ week < B.weeks) (hok : B.okB = true) (hcan : Can B) (her : B.err true = 0) :
    Calls Tryz.prog 25 #[B.val p q cap capt, .int .i64 week] W fun e C => ∃ v, e = .returned (.tuple #[v, .int .i64 0]) ∧ Kept W C ∧ C.ownsRow W.heap.size 3 1 v (surelyL B (fun _ => brokenB week) B.boys.length).length (intsV (surelyL B (fun _ => brokenB week) B.boys.length)) := by
  obtain ⟨⟨q1, q2, q3, q4, q5⟩, -, -⟩ := okB_boys hok
  have HCAN := Lib.hid hcan; clear hcan
  have HOK := Lib.hid hok; clear hok
  have HER2 := Lib.hid her
  have hnb := h.nb
  unfold Book.val
  obtain ⟨hk0, a0, a1, a2⟩ := bk0 W p q cap capt B
  have HB := Lib.hid h; clear h
  go_enter Tryz.func25, Tryz.ntmps25
  go_wp2_with fail
  generalize (W.alloc (Obj.cells #[.slice p B.boys.length cap, .int .i64 B.weeks, .slice q B.trials.length capt] 25)) = W0 at *
  have hz := Go.Ai.lt_of_cell a0
  have e0 := cell_regrown a0
  have e1 := cell_regrown a1
  have e2 := cell_regrown a2
  have hc0 := fun d os => Calls.regrown_of (rweek_any (.slice p B.boys.length cap) (.slice q B.trials.length capt) B.weeks week (grow (redrawn W0 d) os))
  simp only [hcw] at hc0
  have HC0 := Lib.hid hc0; clear hc0
  have hca := fun d os => Calls.regrown_of (asked_any p q cap capt B true (grow (redrawn W0 d) os) ((HB.out.kept hk0).kept (below_regrown W0 d os)))
  unfold Book.val at hca
  simp only [her] at hca
  have HCA := Lib.hid hca; clear hca
  have HER := Lib.hid her; clear her
  refine wp_region_quiet_below (by kernel_rfl) (by kernel_rfl) ?_
  repeat (any_goals (first | go_big_quiet_skip | quiet_step (first | with_reducible exact HC0.out _ _ | with_reducible exact HCA.out _ _)))
  refine wpQuiet_nil ?_
  rintro _ ⟨⟨dq, osq⟩, rfl⟩
  have hkQ := below_regrown W0 dq osq
  replace a0 := kcell hkQ a0
  replace a1 := kcell hkQ a1
  replace a2 := kcell hkQ a2
  have hk01 := kept_trans hk0 hkQ
  have hza := Go.Ai.lt_of_cell a0
  clear e0 e1 e2
  generalize grow (redrawn W0 dq) osq = w1 at *
  go_wp2_with fail
  go_loopw [7, 8] (fun ov i V => ∃ k : Nat, k ≤ B.boys.length ∧ i = .int .i64 k ∧ V.ownsRow w1.heap.size 3 1 ov (surelyL B (fun _ => brokenB week) k).length (intsV (surelyL B (fun _ => brokenB week) k)) ∧ Kept w1 V) (fun ov i V => B.boys.length - (intOf i).toNat)
  case atStart => exact ⟨0, by omega, by go_num, ⟨rfl, .inr ⟨w1.heap.size, 0, #[], rfl, Nat.le_refl _, heap_alloc_new _ _, Nat.le_refl _, by decide, rfl, rfl⟩⟩, kept_alloc (kept_refl _) _⟩
  case round =>
    obtain ⟨k, hk, rfl, hR, hkV⟩ := hrel
    replace a0 := kcell hkV a0
    replace a1 := kcell hkV a1
    replace a2 := kcell hkV a2
    have hza := Go.Ai.lt_of_cell a0
    by_cases hlt : k < B.boys.length
    · have hltI : (k : Int) < B.boys.length := by omega
      obtain ⟨x, hget⟩ : ∃ x, B.boys[k]? = some x := ⟨_, List.getElem?_eq_getElem hlt⟩
      have hL : B.voices k x 0 ≠ [] := fun e => HCAN.out k x hget ((voices_nil HOK.out).1 e)
      have hcbk : inB (k : Int) 0 (B.boys.length - 1) = true := by simp [inB]; omega
      have hs := rbrk_good p q cap capt B k x true wr (HB.out.kept (kept_trans hk01 hkV)) hget hcbk HOK.out hL HER2.out
      unfold Book.val at hs
      obtain ⟨bb, hbb⟩ : ∃ bb, bb = decide (hiOf ((B.voices k x 0).map fun n => n.getD 4 0) ≤ week) := ⟨_, rfl⟩
      have HST := Lib.hid (show surelyL B (fun _ => brokenB week) (k + 1) = surelyL B (fun _ => brokenB week) k ++ (if bb then [k] else []) from surely_step (by rw [hbb]; unfold surelyB; rw [hget]; exact must_hi HOK.out hL week))
      generalize loOf ((B.voices k x 0).map fun n => n.getD 4 0) = lo at *
      generalize hiOf ((B.voices k x 0).map fun n => n.getD 4 0) = hi at *
      have HS := Lib.hid hs; clear hs hL hcbk
      obtain ⟨sl, hsl⟩ : ∃ sl, sl = surelyL B (fun _ => brokenB week) k := ⟨_, rfl⟩
      have hlsl : sl.length ≤ k := by rw [hsl]; unfold surelyL; exact Nat.le_trans (List.length_filter_le _ _) (by simp)
      rw [← hsl] at hR
      have HSL := Lib.hid hsl; clear hsl
      have HR := Lib.hid hR; clear hR
      clear hget
      go_wp2_with fail
      with_reducible refine HS.out.mono ?_
      rintro e w3 ⟨rfl, hk3'⟩
      clear HS
      have hk3 := kept_trans hk3' (kept_alloc (kept_refl w3) (Obj.cells #[.int .i64 lo, .int .i64 hi] 32))
      have hsz3' := hk3'.size
      have hszV := hkV.size
      have hkE := kept_trans hkV hk3
      have hsz3 := hkE.size
      have HR3 := Lib.hid (row_kept HR.out hk3)
      cases bb with
      | false =>
        have HRX := HR3.out
        have hkX := hkE
        have hr2 : decide (hi ≤ week) = false := hbb.symm
        clear hbb
        simp only [Bool.false_eq_true, if_false, List.append_nil] at HST
        go_wp2_with fail
        go_roundw
        case rel => exact ⟨k + 1, by omega, by go_num, by rw [HST.out, ← HSL.out]; exact HRX, hkX⟩
        case measure => simp [intOf]; omega
      | true =>
        obtain ⟨i0, hinf, hiz, his, hib⟩ := info_parts infoI
        have HRX := Lib.hid HR3.out
        have hkE2 := hkE
        have hr2 : decide (hi ≤ week) = true := hbb.symm
        clear hbb
        simp only [if_true] at HST
        have hka := kept_alloc (kept_refl (w3.alloc (Obj.cells #[.int .i64 lo, .int .i64 hi] 32))) (Obj.cells #[.int .i64 (k : Int)] 3)
        go_wp2_with (at_builtin
                     refine wpList_append_lies _ rfl _ _ 41 rfl w1.heap.size 3 i0 _ 1 8 Tryz.underlying41 hinf hiz his hib rfl (by decide) u7 sl.length _ rfl (HRX.out.alloc _) ⟨w3.heap.size + 1, 0, none⟩ 1 1 [.int .i64 (k : Int)] rfl rfl (fun j u hu => by match j, hu with | 0, hu => cases hu; go_simp) (by simp [Value.oneCell']) (by decide) (by unfold maxLen; omega) (by omega) (by simp; omega) _ rfl ?_
                     intro g2 cap2 V3 hown hgrow hat hlt3)
        have hkX : Kept w1 V3 := Below.grown (kept_trans hkE2 hka) hgrow (kept_trans hkE2 hka).size (fun b e => (HRX.out.lt b e).1)
        go_roundw
        case rel => exact ⟨k + 1, by omega, by go_num, by rw [HST.out, ← HSL.out]; unfold intsV; rw [List.map_append, List.length_append]; exact hown, hkX⟩
        case measure => simp [intOf]; omega
    · have hltI : ¬ (k : Int) < B.boys.length := by omega
      obtain rfl : k = B.boys.length := by omega
      have HR := Lib.hid hR; clear hR
      have hk1V := kept_trans hk01 hkV
      go_wp2_with fail
      refine bodyPost_ret (v := .tuple #[u7, .int .i64 0]) (by simp [results, Tryz.results25, go_sem]) rfl ⟨_, rfl, hk1V, row_le HR.out (by have := hk01.size; omega)⟩
end Go.Proofs.YthkcgengohoboaaGreatDoor
