/- A part of the proof: contracts of the program's functions for every input. No conditions. -/
import Derived.Test.YthkcgengohoboaaGreatDoorGL
import Derived.Test.YthkcgengohoboaaGreatDoorGF
set_option linter.all false
namespace Go.Proofs.YthkcgengohoboaaGreatDoor
open Go.RowKit Go.Sort Go.Rg
set_option maxRecDepth 100000
set_option maxHeartbeats 2000000 in
theorem heir1_any (c : Choir) (boy : Nat) (wk lo hi n0 n1 n2 n3 n4 loss : Int) (bw bn : Nat) (w : World) (hwc : w.cell? ⟨bw, 1, none⟩ = some (.int .i64 wk)) (hlc : w.cell? ⟨bn, 0, none⟩ = some (.int .i64 lo)) (hhc : w.cell? ⟨bn, 1, none⟩ = some (.int .i64 hi))
   (hb : boy < c.B.boys.length) (hl : c.B.boys.length ≤ 4) (hc : w.cell? ⟨c.bb, c.ob + boy * 11 + 8, none⟩ = some (.int .i64 loss)) (hin : c.bb < w.heap.size)
   (h1 : 0 ≤ n1 ∧ n1 ≤ 100) (h2 : 0 ≤ n2 ∧ n2 ≤ 100) (h3 : 0 ≤ n3 ∧ n3 ≤ 100) (h4 : 0 ≤ wk ∧ wk ≤ 100) (h5 : 0 ≤ loss ∧ loss ≤ 100) :
    Calls Tryz.prog 130 #[encT c boy [n0, n1, n2, n3, n4], .pointer (some ⟨bw, 0, none⟩), .pointer (some ⟨bn, 0, none⟩)] w fun e w' => e = .returned (.bool (singsB n0 n1 n2 n3 n4 loss wk lo hi)) ∧ Kept w w' := by
  simp only [encT, List.map_cons, List.map_nil, List.append_toArray, List.cons_append, List.nil_append, Choir.k0, Choir.k2, Choir.m]
  have hzw := Go.Ai.lt_of_cell hwc
  have hzn := Go.Ai.lt_of_cell hlc
  have hk0 : Kept w (w.alloc (Obj.cells #[Value.slice (some ⟨c.bb, c.ob, none⟩) c.B.boys.length c.capb, Value.int IntKind.i64 c.B.weeks, Value.slice c.q c.B.trials.length c.capt, Value.map (some c.bm), Value.int IntKind.i64 ↑boy, Value.int IntKind.i64 n0, Value.int IntKind.i64 n1, Value.int IntKind.i64 n2, Value.int IntKind.i64 n3, Value.int IntKind.i64 n4] 110)) := kept_alloc (kept_refl _) _
  have HC := Lib.hid (kcell hk0 hc); clear hc
  go_enter Tryz.func130, Tryz.ntmps130
  go_wp2_with fail
  refine (sings_any _ _ _ _ _ _ _ _ _ _ _ _ _ _ _ _ _ _ hb hl HC.out (Nat.lt_of_lt_of_le hin hk0.size) h1 h2 h3 h4 h5).mono ?_
  rintro e w2 ⟨rfl, hk2⟩
  go_wp2_with fail
  go_ret
  exact ⟨rfl, kept_trans hk0 hk2⟩
theorem heir_asks (S : Nat → Prop) (c : Choir) (boy : Nat) (wk lo hi : Int) (x : Boy) (hx : c.B.boys[boy]? = some x) (bw bn : Nat) (W : World) (hat : ChoirAt S W c) (h4 : 0 ≤ wk ∧ wk ≤ 100) (hwc : W.cell? ⟨bw, 1, none⟩ = some (.int .i64 wk)) (hlc : W.cell? ⟨bn, 0, none⟩ = some (.int .i64 lo)) (hhc : W.cell? ⟨bn, 1, none⟩ = some (.int .i64 hi)) :
    Asks c boy x W 130 #[.pointer (some ⟨bw, 0, none⟩), .pointer (some ⟨bn, 0, none⟩)] (singsN c.B wk lo hi boy) := by
  have hok := hat.ok
  have hlen : c.B.boys.length ≤ 4 := by
    have := hok
    simp only [Book.okB, inB, Bool.and_eq_true, decide_eq_true_eq] at this
    omega
  have hbl : boy < c.B.boys.length := (List.getElem?_eq_some_iff.1 hx).1
  have hxok : x.okB = true := by
    simp only [Book.okB, Bool.and_eq_true, List.all_eq_true] at hok
    exact hok.1.2 x (List.mem_of_getElem? hx)
  obtain ⟨hsp, hls⟩ := spanAt_ok x hxok
  refine ⟨enters_of Tryz.func130 (by kernel_rfl) rfl, fun A n hA hn => ?_⟩
  obtain ⟨_, _, _, _, _, _, _, _, c8, _⟩ := hat.boys.2 boy x hx
  have hr := truths_rng hn
  obtain ⟨n0, n1, n2, n3, n4, rfl⟩ := truths_len hn
  have r1 := hr 1 n1 rfl
  have r2 := hr 2 n2 rfl
  have r3 := hr 3 n3 rfl
  have s1 := hsp 1 (by omega)
  have s2 := hsp 2 (by omega)
  have s3 := hsp 3 (by omega)
  have := heir1_any c boy wk lo hi n0 n1 n2 n3 n4 x.ls bw bn A (kcell hA hwc) (kcell hA hlc) (kcell hA hhc) hbl hlen (kcell hA c8) (Nat.lt_of_lt_of_le hat.boys.1 hA.size) (by omega) (by omega) (by omega) h4 (by omega)
  simpa [singsN, hx] using this
theorem heirOf_cons (x : Nat) (l : List Nat) (boy : Nat) : heirOf (x :: l) boy = if x = boy then heirOf l boy else some x := by
  unfold heirOf
  rw [List.find?_cons]
  by_cases h : x = boy
  · simp [h]
  · simp [h]
def heirV (o : Option Nat) : Value := match o with
  | some b => .tuple #[.int .i64 (b : Int), .bool true]
  | none => .tuple #[.int .i64 0, .bool false]
set_option maxHeartbeats 4000000 in
theorem cheir_any (S : Nat → Prop) (c : Choir) (boy : Nat) (wk lo hi : Int) (W : World) (h : ChoirAt S W c) (hS : ∀ b, S b → b < W.heap.size) (h4 : 0 ≤ wk ∧ wk ≤ 100) :
    Calls Tryz.prog 93 #[c.val, .agg #[.int .i64 (boy : Int), .int .i64 wk], .agg #[.int .i64 lo, .int .i64 hi]] W fun e C => e = .returned (heirV (heirOf (surelyL c.B (singsN c.B wk lo hi) c.B.boys.length) boy)) ∧ Kept W C := by
  have hlen : c.B.boys.length ≤ 4 := by
    have := h.ok
    simp only [Book.okB, inB, Bool.and_eq_true, decide_eq_true_eq] at this
    omega
  unfold Choir.val
  have hk0 : Kept W (((W.alloc (Obj.cells #[.slice (some ⟨c.bb, c.ob, none⟩) c.B.boys.length c.capb, .int .i64 c.B.weeks, .slice c.q c.B.trials.length c.capt, .map (some c.bm)] 93)).alloc (Obj.cells #[.int .i64 (boy : Int), .int .i64 wk] 129)).alloc (Obj.cells #[.int .i64 lo, .int .i64 hi] 32)) := kept_alloc (kept_alloc (kept_alloc (kept_refl _) _) _) _
  have w0 : (((W.alloc (Obj.cells #[.slice (some ⟨c.bb, c.ob, none⟩) c.B.boys.length c.capb, .int .i64 c.B.weeks, .slice c.q c.B.trials.length c.capt, .map (some c.bm)] 93)).alloc (Obj.cells #[.int .i64 (boy : Int), .int .i64 wk] 129)).alloc (Obj.cells #[.int .i64 lo, .int .i64 hi] 32)).cell? ⟨W.heap.size + 1, 0, none⟩ = some (.int .i64 (boy : Int)) := by go_simp
  have w1 : (((W.alloc (Obj.cells #[.slice (some ⟨c.bb, c.ob, none⟩) c.B.boys.length c.capb, .int .i64 c.B.weeks, .slice c.q c.B.trials.length c.capt, .map (some c.bm)] 93)).alloc (Obj.cells #[.int .i64 (boy : Int), .int .i64 wk] 129)).alloc (Obj.cells #[.int .i64 lo, .int .i64 hi] 32)).cell? ⟨W.heap.size + 1, 1, none⟩ = some (.int .i64 wk) := by go_simp
  have p0 : (((W.alloc (Obj.cells #[.slice (some ⟨c.bb, c.ob, none⟩) c.B.boys.length c.capb, .int .i64 c.B.weeks, .slice c.q c.B.trials.length c.capt, .map (some c.bm)] 93)).alloc (Obj.cells #[.int .i64 (boy : Int), .int .i64 wk] 129)).alloc (Obj.cells #[.int .i64 lo, .int .i64 hi] 32)).cell? ⟨W.heap.size + 1 + 1, 0, none⟩ = some (.int .i64 lo) := by go_simp
  have p1 : (((W.alloc (Obj.cells #[.slice (some ⟨c.bb, c.ob, none⟩) c.B.boys.length c.capb, .int .i64 c.B.weeks, .slice c.q c.B.trials.length c.capt, .map (some c.bm)] 93)).alloc (Obj.cells #[.int .i64 (boy : Int), .int .i64 wk] 129)).alloc (Obj.cells #[.int .i64 lo, .int .i64 hi] 32)).cell? ⟨W.heap.size + 1 + 1, 1, none⟩ = some (.int .i64 hi) := by go_simp
  go_enter Tryz.func93, Tryz.ntmps93
  go_wp2_with fail
  generalize (((W.alloc (Obj.cells #[.slice (some ⟨c.bb, c.ob, none⟩) c.B.boys.length c.capb, .int .i64 c.B.weeks, .slice c.q c.B.trials.length c.capt, .map (some c.bm)] 93)).alloc (Obj.cells #[.int .i64 (boy : Int), .int .i64 wk] 129)).alloc (Obj.cells #[.int .i64 lo, .int .i64 hi] 32)) = V0 at *
  have hch := h.turns (kturns hk0 (fun _ => False)) (fun _ _ h => h)
  have hsu := surely_any S c V0 hch (fun b hb => Nat.lt_of_lt_of_le (hS b hb) hk0.size) _ _ (singsN c.B wk lo hi) (fun boy' x hx => heir_asks S c boy' wk lo hi x hx (W.heap.size + 1) (W.heap.size + 1 + 1) V0 hch h4 w1 p0 p1)
  unfold Choir.val at hsu
  refine hsu.mono ?_
  rintro e V1 ⟨sv, rfl, hk1, hrow⟩
  clear hsu
  have hkW := kept_trans hk0 hk1
  replace w0 := kcell hk1 w0
  replace w1 := kcell hk1 w1
  have hL := ListAt.of_row hrow
  have hl4 := surelyL_len4 (sb := singsN c.B wk lo hi) hlen
  clear hrow p0 p1
  generalize hLL : surelyL c.B (singsN c.B wk lo hi) c.B.boys.length = L at *
  have HLL := Lib.hid hLL; clear hLL
  obtain ⟨sp, sc, rfl⟩ := listAt_len hL
  have hz1 := Go.Ai.lt_of_cell w0
  go_wp2_with fail
  go_loopw [14] (fun i V => ∃ k : Nat, k ≤ L.length ∧ i = .int .i64 k ∧ heirOf L boy = heirOf (L.drop k) boy ∧ Kept V1 V) (fun i V => L.length - (intOf i).toNat)
  case atStart => exact ⟨0, by omega, rfl, rfl, kept_refl _⟩
  case round =>
    obtain ⟨k, hk, rfl, hno, hV⟩ := hrel
    have a0 := kcell hV w0
    have a1 := kcell hV w1
    have hza := Go.Ai.lt_of_cell a0
    by_cases hlt : k < L.length
    · have hltI : (k : Int) < L.length := by omega
      have hget : L[k]? = some L[k] := List.getElem?_eq_getElem hlt
      rw [List.drop_eq_getElem_cons hlt] at hno
      generalize L[k] = x at *
      rcases hL.kept hV with ⟨_, rfl⟩ | ⟨b, cap', e, hb, hc⟩
      · simp at hlt
      cases e
      replace hc := hc k x hget
      rw [heirOf_cons] at hno
      by_cases hxn : x = boy
      · rw [if_pos hxn] at hno
        have HNO := Lib.hid hno; clear hno
        have hx1 : ((boy : Int) == (x : Int)) = true := by simp; omega
        clear hxn hget
        go_wp2_with fail
        go_roundw
        case rel => exact ⟨k + 1, by omega, by go_num, HNO.out, hV⟩
        case measure => simp [intOf]; omega
      · rw [if_neg hxn] at hno
        have HNO := Lib.hid hno; clear hno
        have hx1 : ((boy : Int) == (x : Int)) = false := by simp; omega
        clear hxn hget
        go_wp2_with fail
        refine bodyPost_ret (v := .tuple #[.int .i64 (x : Int), .bool true]) (by simp [results, Tryz.results93, go_sem]) rfl ?_
        exact ⟨by rw [HLL.out, HNO.out]; rfl, kept_trans hkW hV⟩
    · have hltI : ¬ (k : Int) < L.length := by omega
      rw [List.drop_of_length_le (by omega)] at hno
      have HNO := Lib.hid hno; clear hno
      go_wp2_with fail
      refine bodyPost_ret (v := .tuple #[.int .i64 0, .bool false]) (by simp [results, Tryz.results93, go_sem]) rfl ?_
      exact ⟨by rw [HLL.out, HNO.out]; rfl, kept_trans hkW hV⟩
def HeirP (B : Book) (boy : Nat) (week lo hi : Int) (W : World) (e : Ending) (C : World) : Prop :=
  ∃ v err, e = .returned (.tuple #[.int .i64 v, .int .i64 err]) ∧ Kept W C ∧
    ((Can B ∧ ((err = 4 ∧ v = 0 ∧ heirOf (surelyL B (singsN B week lo hi) B.boys.length) boy = none) ∨ (err = 0 ∧ ∃ b : Nat, v = b ∧ heirOf (surelyL B (singsN B week lo hi) B.boys.length) boy = some b))) ∨ (err = 22 ∧ ¬ Can B ∧ v = 0))
set_option maxHeartbeats 4000000 in
theorem heir_all (p q : Option Addr) (cap capt : Nat) (B : Book) (boy : Nat) (week lo hi : Int) (W : World) (h : BookAt W p q cap capt B) (hg : Nothing W) (hok0 : B.okB = true) (hb : boy < B.boys.length) (hwk0 : 0 ≤ week ∧ week < B.weeks) (hsp0 : 0 ≤ lo ∧ lo ≤ hi ∧ hi ≤ 40) :
    Calls Tryz.prog 26 #[B.val p q cap capt, .int .i64 (boy : Int), .int .i64 week, .agg #[.int .i64 lo, .int .i64 hi]] W (HeirP B boy week lo hi W) := by
  have hwk : 0 ≤ B.weeks ∧ B.weeks ≤ 1000 := by
    have := hok0
    simp only [Book.okB, inB, Bool.and_eq_true, decide_eq_true_eq] at this
    omega
  have hwk1 : 0 ≤ week ∧ week ≤ 100 := by
    have := hok0
    simp only [Book.okB, inB, Bool.and_eq_true, decide_eq_true_eq] at this
    omega
  have hnb := h.nb
  have hboyT : inB (boy : Int) 0 (B.boys.length - 1) = true := by simp [inB]; omega
  have hweekT : inB week 0 (B.weeks - 1) = true := by simp [inB]; omega
  have hspanT : (inB lo 0 hi && decide (hi ≤ 40)) = true := by simp [inB]; omega
  refine callsIn_wide.1 (callsIn_of_wp (n := 0) Tryz.func26 rfl trivial ?_ rfl)
  simp only [Tryz.ntmps26, List.size_toArray, List.length_cons, List.length_nil, Nat.reduceAdd, Nat.reduceSub, Array.replicate_succ, Array.replicate_zero, List.push_toArray, List.append_toArray, List.nil_append, List.cons_append]
  unfold Book.val
  gi_wp2_with fail
  obtain ⟨hk0, a0c, a1c, a2c⟩ := bk1 W p q cap capt B (Obj.cells #[.int .i64 lo, .int .i64 hi] 32)
  have lc : ((W.alloc (Obj.cells #[.slice p B.boys.length cap, .int .i64 B.weeks, .slice q B.trials.length capt] 25)).alloc (Obj.cells #[.int .i64 lo, .int .i64 hi] 32)).cell? ⟨W.heap.size + 1, 0, none⟩ = some (.int .i64 lo) := by go_simp
  have hc : ((W.alloc (Obj.cells #[.slice p B.boys.length cap, .int .i64 B.weeks, .slice q B.trials.length capt] 25)).alloc (Obj.cells #[.int .i64 lo, .int .i64 hi] 32)).cell? ⟨W.heap.size + 1, 1, none⟩ = some (.int .i64 hi) := by go_simp
  generalize ((W.alloc (Obj.cells #[.slice p B.boys.length cap, .int .i64 B.weeks, .slice q B.trials.length capt] 25)).alloc (Obj.cells #[.int .i64 lo, .int .i64 hi] 32)) = W0 at *
  refine wpIn_region_invL (StO 13 (fun j => match j with | 0 => (.agg #[.slice p B.boys.length cap, .int .i64 B.weeks, .slice q B.trials.length capt]) | 1 => (.agg #[.slice p B.boys.length cap, .int .i64 B.weeks, .slice q B.trials.length capt]) | 2 => .int .i64 (boy : Int) | 5 => (.agg #[.slice p B.boys.length cap, .int .i64 B.weeks, .slice q B.trials.length capt]) | 6 => .int .i64 week | 10 => (.agg #[.int .i64 lo, .int .i64 hi]) | _ => .bool true) W0 B true) (by kernel_rfl) (by kernel_rfl) StO.start ?hop ?hend
  case hop =>
    rintro i o listed a w hl ho h1 h2 hcl ⟨v, err, pp, ha, hw⟩
    have hi11 : i < 20 := (List.getElem?_eq_some_iff.1 ho).1
    match i, ho with
    | 0, ho =>
      have ST := StO.sm (by kernel_rfl) ha hw ho h1 (by decide)
      cases ho
      rw [if_pos (by rfl)]
      have t4 := ha.old 4 (by kernel_rfl)
      simp at t4
      have r0 := kcell hw.kept a0c
      have r1 := kcell hw.kept a1c
      have r2 := kcell hw.kept a2c
      go_simp
      exact ST.out
    | 1, ho =>
      have ST := StO.sm (by kernel_rfl) ha hw ho h1 (by decide)
      cases ho
      rw [if_pos (by rfl)]
      have t4 := ha.old 4 (by kernel_rfl)
      simp at t4
      have r0 := kcell hw.kept a0c
      have r1 := kcell hw.kept a1c
      have r2 := kcell hw.kept a2c
      go_simp
      exact ST.out
    | 2, ho =>
      have ST := StO.sm (by kernel_rfl) ha hw ho h1 (by decide)
      cases ho
      rw [if_pos (by rfl)]
      have t1 := ha.old 1 (by kernel_rfl)
      simp at t1
      go_simp
      exact ST.out
    | 3, ho =>
      have st := fun w' (k : Kept w w') => StO.same (by kernel_rfl) ha hw ho h1 (by omega) (by omega) (by omega) k
      have ST := Lib.hid st; clear st
      cases ho
      rw [if_pos (by rfl)]
      have t16 := ha.new 1 (h2 ⟨1, .data⟩ (by simp) rfl) (d := 16) rfl rfl (by simp)
      simp [openVs] at t16
      have t17 := ha.new 2 (h2 ⟨2, .data⟩ (by simp) rfl) (d := 17) rfl rfl (by simp)
      simp [openVs] at t17
      have hcall := isBoy_any p B.boys.length cap (.int .i64 B.weeks) (.slice q B.trials.length capt) (boy : Int) w hnb
      rw [hboyT] at hcall
      go_simp
      refine ⟨trivial, rfl, (callsIn_wide.2 hcall).mono ?_⟩
      rintro e w' ⟨rfl, hk⟩
      exact ST.out _ hk
    | 4, ho =>
      have ST := StO.sm (by kernel_rfl) ha hw ho h1 (by decide)
      cases ho
      rw [if_pos (by rfl)]
      have t18 := ha.new 3 (h2 ⟨3, .data⟩ (by simp) rfl) (d := 18) rfl rfl (by simp)
      simp [openVs] at t18
      go_simp
      exact ST.out
    | 5, ho =>
      have ST := StO.sm (by kernel_rfl) ha hw ho h1 (by decide)
      cases ho
      have t19 := ha.new 4 (h2 ⟨4, .guard⟩ (by simp) rfl) (d := 19) rfl rfl (by simp)
      simp [openVs] at t19
      rw [if_pos (by simp [Region.wanted, yielded, getD_bool t19])]
      have t4 := ha.old 4 (by kernel_rfl)
      simp at t4
      have r0 := kcell hw.kept a0c
      have r1 := kcell hw.kept a1c
      have r2 := kcell hw.kept a2c
      go_simp
      exact ST.out
    | 6, ho =>
      have ST := StO.sm (by kernel_rfl) ha hw ho h1 (by decide)
      cases ho
      have t19 := ha.new 4 (h2 ⟨4, .guard⟩ (by simp) rfl) (d := 19) rfl rfl (by simp)
      simp [openVs] at t19
      rw [if_pos (by simp [Region.wanted, yielded, getD_bool t19])]
      have t2 := ha.old 2 (by kernel_rfl)
      simp at t2
      go_simp
      exact ST.out
    | 7, ho =>
      have st := fun w' (k : Kept w w') => StO.same (by kernel_rfl) ha hw ho h1 (by omega) (by omega) (by omega) k
      have ST := Lib.hid st; clear st
      cases ho
      have t19 := ha.new 4 (h2 ⟨4, .guard⟩ (by simp) rfl) (d := 19) rfl rfl (by simp)
      simp [openVs] at t19
      rw [if_pos (by simp [Region.wanted, yielded, getD_bool t19])]
      have t20 := ha.new 5 (h2 ⟨5, .data⟩ (by simp) rfl) (d := 20) rfl rfl (by simp)
      simp [openVs] at t20
      have t21 := ha.new 6 (h2 ⟨6, .data⟩ (by simp) rfl) (d := 21) rfl rfl (by simp)
      simp [openVs] at t21
      have hcall := isWeek_any (.slice p B.boys.length cap) (.slice q B.trials.length capt) B.weeks week w hwk.1 hwk.2
      rw [hweekT] at hcall
      go_simp
      refine ⟨trivial, rfl, (callsIn_wide.2 hcall).mono ?_⟩
      rintro e w' ⟨rfl, hk⟩
      exact ST.out _ hk
    | 8, ho =>
      have ST := StO.sm (by kernel_rfl) ha hw ho h1 (by decide)
      cases ho
      rw [if_pos (by rfl)]
      have t19 := ha.new 4 (h2 ⟨4, .data⟩ (by simp) rfl) (d := 19) rfl rfl (by simp)
      simp [openVs] at t19
      have t22 := ha.new 7 (h2 ⟨7, .data⟩ (by simp) rfl) (d := 22) rfl rfl (by simp)
      simp [openVs] at t22
      go_simp
      exact ST.out
    | 9, ho =>
      have ST := StO.sm (by kernel_rfl) ha hw ho h1 (by decide)
      cases ho
      rw [if_pos (by rfl)]
      have t23 := ha.new 8 (h2 ⟨8, .data⟩ (by simp) rfl) (d := 23) rfl rfl (by simp)
      simp [openVs] at t23
      go_simp
      exact ST.out
    | 10, ho =>
      have ST := StO.sm (by kernel_rfl) ha hw ho h1 (by decide)
      cases ho
      have t24 := ha.new 9 (h2 ⟨9, .guard⟩ (by simp) rfl) (d := 24) rfl rfl (by simp)
      simp [openVs] at t24
      rw [if_pos (by simp [Region.wanted, yielded, getD_bool t24])]
      have t7 := ha.old 7 (by kernel_rfl)
      simp at t7
      have rl0 := kcell hw.kept lc
      have rh0 := kcell hw.kept hc
      go_simp
      exact ST.out
    | 11, ho =>
      have st := fun w' (k : Kept w w') => StO.same (by kernel_rfl) ha hw ho h1 (by omega) (by omega) (by omega) k
      have ST := Lib.hid st; clear st
      cases ho
      have t24 := ha.new 9 (h2 ⟨9, .guard⟩ (by simp) rfl) (d := 24) rfl rfl (by simp)
      simp [openVs] at t24
      rw [if_pos (by simp [Region.wanted, yielded, getD_bool t24])]
      have t25 := ha.new 10 (h2 ⟨10, .data⟩ (by simp) rfl) (d := 25) rfl rfl (by simp)
      simp [openVs] at t25
      have hcall := isSpan_any lo hi 40 w
      rw [hspanT] at hcall
      go_simp
      refine ⟨trivial, rfl, (callsIn_wide.2 hcall).mono ?_⟩
      rintro e w' ⟨rfl, hk⟩
      exact ST.out _ hk
    | 12, ho =>
      have ST := StO.sm (by kernel_rfl) ha hw ho h1 (by decide)
      cases ho
      rw [if_pos (by rfl)]
      have t24 := ha.new 9 (h2 ⟨9, .data⟩ (by simp) rfl) (d := 24) rfl rfl (by simp)
      simp [openVs] at t24
      have t26 := ha.new 11 (h2 ⟨11, .data⟩ (by simp) rfl) (d := 26) rfl rfl (by simp)
      simp [openVs] at t26
      go_simp
      exact ST.out
    | 13, ho =>
      obtain ⟨n5, n6, n7, n9, n10⟩ := open_first hcl h1 ⟨_, rfl, ⟨13, .data⟩, by simp, rfl, rfl⟩ ⟨_, rfl, ⟨14, .data⟩, by simp, rfl, rfl⟩ ⟨_, rfl, ⟨14, .data⟩, by simp, rfl, rfl⟩ ⟨_, rfl, ⟨15, .data⟩, by simp, rfl, rfl⟩ ⟨_, rfl, ⟨16, .data⟩, by simp, rfl, rfl⟩
      have st := fun v' err' w' (k : OpenReg W0 B true v' err' pp true (on listed 17) (on listed 18) w') => StO.opened (by kernel_rfl) ha hl ho h1 n5 n6 n7 n9 n10 k
      have ST := Lib.hid st; clear st
      cases ho
      rw [if_pos (by rfl)]
      have t15 := ha.new 0 (h2 ⟨0, .data⟩ (by simp) rfl) (d := 15) rfl rfl (by simp)
      simp [openVs] at t15
      have t27 := ha.new 12 (h2 ⟨12, .data⟩ (by simp) rfl) (d := 27) rfl rfl (by simp)
      simp [openVs] at t27
      have hcall := open_any p q cap capt B true W w h (kept_trans hk0 hw.kept) (hg.kept (kept_trans hk0 hw.kept))
      unfold Book.val at hcall
      have HOP := Lib.hid (fun e w' => hw.opened (e := e) (w' := w') W.heap.size hk0.size n9)
      go_simp
      refine ⟨trivial, rfl, (callsIn_wide.2 hcall).mono ?_⟩
      intro e w' hop
      obtain ⟨v', err', rfl, hr⟩ := HOP.out e w' hop
      exact ST.out v' err' w' hr
    | 14, ho =>
      have ST := StO.sm (by kernel_rfl) ha hw ho h1 (by decide)
      cases ho
      rw [if_pos (by rfl)]
      have t28 := ha.new 13 (h2 ⟨13, .data⟩ (by simp) rfl) (d := 28) rfl rfl (by simp)
      simp [openVs] at t28
      go_simp
      exact ST.out
    | 15, ho =>
      have ST := StO.sm (by kernel_rfl) ha hw ho h1 (by decide)
      cases ho
      rw [if_pos (by rfl)]
      have t14 := ha.new 14 (h2 ⟨14, .data⟩ (by simp) rfl) (d := 14) rfl rfl (by simp)
      simp [openVs] at t14
      go_simp
      exact ST.out
    | 16, ho =>
      have ST := StO.sm (by kernel_rfl) ha hw ho h1 (by decide)
      cases ho
      rw [if_pos (by rfl)]
      have t14 := ha.new 14 (h2 ⟨14, .data⟩ (by simp) rfl) (d := 14) rfl rfl (by simp)
      simp [openVs] at t14
      go_simp
      exact ST.out
    | 17, ho =>
      have n9 : on listed 18 = false := by
        cases hb : on listed 18 with
        | false => rfl
        | true => have := hcl 18 _ rfl hb ⟨17, .data⟩ (by simp) rfl; rw [on_no h1] at this; cases this
      have st := StO.boxed (by kernel_rfl) ha hw hl ho h1 n9
      have ST := Lib.hid st; clear st
      cases ho
      rw [if_pos (by rfl)]
      go_simp
      exact ST.out
    | 18, ho =>
      have y8 : on listed 17 = true := h2 ⟨17, .data⟩ (by cases ho; simp) rfl
      have y4 : on listed 13 = true := h2 ⟨13, .chain⟩ (by cases ho; simp) rfl
      have t10 := ha.new 17 y8 (d := 10) rfl rfl (by simp)
      simp [openVs] at t10
      have t29 := ha.new 15 (h2 ⟨15, .data⟩ (by cases ho; simp) rfl) (d := 29) rfl rfl (by simp)
      simp [openVs] at t29
      obtain ⟨hbp, ⟨f0, f1, f2, f3, b0, b1, b2, b3⟩, hbf⟩ := hw.box y8
      have bf0 := hbf 0
      have bf1 := hbf 1
      have bf2 := hbf 2
      have bf3 := hbf 3
      rcases hw.res y4 with ⟨_, _, _, _, c, S, hcB, rfl, _⟩ | ⟨rfl, _⟩
      · clear hcB
        have st := StO.stored (by kernel_rfl) ha hw hl ho (by cases ho; rfl) h1 y8 (show c.val = _ from rfl)
        have ST := Lib.hid st; clear st
        cases ho
        rw [if_pos (by rfl)]
        unfold Choir.val at t29
        clear hbf
        go_simp
        exact ST.out
      · have st := StO.stored (by kernel_rfl) ha hw hl ho (by cases ho; rfl) h1 y8 (show zeroChoir = _ from rfl)
        have ST := Lib.hid st; clear st
        cases ho
        rw [if_pos (by rfl)]
        unfold zeroChoir at t29
        clear hbf
        go_simp
        exact ST.out
    | 19, ho =>
      have ST := StO.sm (by kernel_rfl) ha hw ho h1 (by decide)
      cases ho
      rw [if_pos (by rfl)]
      have t30 := ha.new 16 (h2 ⟨16, .data⟩ (by simp) rfl) (d := 30) rfl rfl (by simp)
      simp [openVs] at t30
      go_simp
      exact ST.out
  case hend =>
    rintro listed a w hall ⟨v, err, pp, ha, hw⟩
    rw [show on listed 13 = true from hall 13 (by simp), show on listed 17 = true from hall 17 (by simp), show on listed 18 = true from hall 18 (by simp)] at hw
    obtain ⟨y, hy, hae⟩ := ha.lit (n := 46) rfl
    have y1 := (hy 1).symm.trans (ha.old 1 (by kernel_rfl))
    have y2 := (hy 2).symm.trans (ha.old 2 (by kernel_rfl))
    have y7 := (hy 7).symm.trans (ha.old 7 (by kernel_rfl))
    have y8 := (hy 8).symm.trans (ha.old 8 (by kernel_rfl))
    have y9 := (hy 9).symm.trans (ha.old 9 (by kernel_rfl))
    have y10 := (hy 10).symm.trans (ha.new 17 (hall 17 (by simp)) (d := 10) rfl rfl (by simp))
    have y11 := (hy 11).symm.trans (ha.new 19 (hall 19 (by simp)) (d := 11) rfl rfl (by simp))
    simp at y1 y2 y7 y8 y9
    simp [openVs] at y10 y11
    simp only [List.range, List.range.loop, List.map] at hae
    rw [y1, y2, y7, y8, y9, y10, y11] at hae
    subst hae
    clear ha hy y1 y2 y7 y8 y9 y10 y11
    refine (by assumption : ∀ a w, Code.wpIn _ _ _ _ _ a w → _) _ w ?_
    have wl := kcell hw.kept lc
    have wh := kcell hw.kept hc
    obtain ⟨_, x0, x1, x2, x3, hv, b0, b1, b2, b3⟩ := hw.put rfl
    rcases hw.res rfl with ⟨rfl, hok, _, hcan, c, S, hcB, hvc, hch, hSz, hSp⟩ | ⟨rfl, herr⟩
    · subst hcB
      subst hvc
      have e4 := congrArg (fun u => match u with | Value.agg cs => cs.toList | _ => []) hv
      simp only [Choir.val, List.cons.injEq, and_true] at e4
      obtain ⟨rfl, rfl, rfl, rfl⟩ := e4
      have hzp := Go.Ai.lt_of_cell b0
      have hzw := Go.Ai.lt_of_cell wl
      gi_wp2_with fail
      have hcall := cheir_any S c boy week lo hi w hch hSz hwk1
      unfold Choir.val at hcall
      refine ⟨trivial, rfl, (callsIn_wide.2 hcall).mono ?_⟩
      rintro e w2 ⟨rfl, hk7⟩
      clear hcall
      have hkE := kept_trans (kept_trans hk0 hw.kept) hk7
      cases ho : heirOf (surelyL c.B (singsN c.B week lo hi) c.B.boys.length) boy with
      | none =>
        simp only [heirV]
        have HO := Lib.hid ho; clear ho
        gi_wp2_with fail
        refine bodyPost_ret (v := .tuple #[.int .i64 0, .int .i64 4]) (by simp [results, Tryz.results26, go_sem]) rfl ?_
        exact ⟨_, 4, rfl, hkE, .inl ⟨hcan, .inl ⟨rfl, rfl, HO.out⟩⟩⟩
      | some b =>
        simp only [heirV]
        have HO := Lib.hid ho; clear ho
        gi_wp2_with fail
        refine bodyPost_ret (v := .tuple #[.int .i64 (b : Int), .int .i64 0]) (by simp [results, Tryz.results26, go_sem]) rfl ?_
        exact ⟨_, 0, rfl, hkE, .inl ⟨hcan, .inr ⟨rfl, b, rfl, HO.out⟩⟩⟩
    · rcases herr with ⟨_, he⟩ | ⟨_, _, he⟩ | ⟨rfl, _, _, hnc⟩
      · rw [hok0] at he; cases he
      · cases he
      gi_wp2_with fail
      refine bodyPost_ret (v := .tuple #[.int .i64 0, .int .i64 22]) (by simp [results, Tryz.results26, go_sem]) rfl ?_
      exact ⟨_, 22, rfl, kept_trans hk0 hw.kept, .inr ⟨rfl, hnc, rfl⟩⟩
end Go.Proofs.YthkcgengohoboaaGreatDoor
namespace Go.Proofs.YthkcgengohoboaaGreatDoor
open Go.RowKit Go.Sort Go.Rg
set_option maxRecDepth 100000
attribute [local go_sem] Oper.semAt_some
set_option maxHeartbeats 4000000 in
theorem surely_e0 (p q : Option Addr) (cap capt : Nat) (B : Book) (week note : Int) (W : World) (h : BookAt W p q cap capt B) (hg : Nothing W) (hweekT : inB week 0 (wrap64 (B.weeks - 1)) = false) :
    Calls Tryz.prog 21 #[B.val p q cap capt, .int .i64 week, .int .i64 note] W (ErrQ B (.slice none 0 0) false W) := by
  have hnb := h.nb
  refine callsIn_wide.1 (callsIn_of_wp (n := 0) Tryz.func21 rfl trivial ?_ rfl)
  simp only [Tryz.ntmps21, List.size_toArray, List.length_cons, List.length_nil, Nat.reduceAdd, Nat.reduceSub, Array.replicate_succ, Array.replicate_zero, List.push_toArray, List.append_toArray, List.nil_append, List.cons_append]
  unfold Book.val
  gi_wp2_with fail
  obtain ⟨hk0, a0c, a1c, a2c⟩ := bk2 W p q cap capt B (Obj.cells #[.int .i64 week] 3) (Obj.cells #[.int .i64 note] 3)
  have wc : (((W.alloc (Obj.cells #[.slice p B.boys.length cap, .int .i64 B.weeks, .slice q B.trials.length capt] 25)).alloc (Obj.cells #[.int .i64 week] 3)).alloc (Obj.cells #[.int .i64 note] 3)).cell? ⟨W.heap.size + 1, 0, none⟩ = some (.int .i64 week) := by go_simp
  have nc : (((W.alloc (Obj.cells #[.slice p B.boys.length cap, .int .i64 B.weeks, .slice q B.trials.length capt] 25)).alloc (Obj.cells #[.int .i64 week] 3)).alloc (Obj.cells #[.int .i64 note] 3)).cell? ⟨W.heap.size + 1 + 1, 0, none⟩ = some (.int .i64 note) := by go_simp
  generalize (((W.alloc (Obj.cells #[.slice p B.boys.length cap, .int .i64 B.weeks, .slice q B.trials.length capt] 25)).alloc (Obj.cells #[.int .i64 week] 3)).alloc (Obj.cells #[.int .i64 note] 3)) = W0 at *
  refine wpIn_region_invL (StO 8 (fun j => match j with | 0 => (.agg #[.slice p B.boys.length cap, .int .i64 B.weeks, .slice q B.trials.length capt]) | 1 => (.agg #[.slice p B.boys.length cap, .int .i64 B.weeks, .slice q B.trials.length capt]) | 2 => .int .i64 week | 3 => .bool false | 4 => .bool false | 5 => undef | 6 => undef | 7 => .bool false | _ => undef) W0 B false) (by kernel_rfl) (by kernel_rfl) StO.start ?hop ?hend
  case hop =>
    rintro i o listed a w hl ho h1 h2 hcl ⟨v, err, pp, ha, hw⟩
    have hi11 : i < 15 := (List.getElem?_eq_some_iff.1 ho).1
    match i, ho with
    | 0, ho =>
      have ST := StO.sm (by kernel_rfl) ha hw ho h1 (by decide)
      cases ho
      rw [if_pos (by rfl)]
      have t3 := ha.old 3 (by kernel_rfl)
      simp at t3
      have r0 := kcell hw.kept a0c
      have r1 := kcell hw.kept a1c
      have r2 := kcell hw.kept a2c
      go_simp
      exact ST.out
    | 1, ho =>
      have ST := StO.sm (by kernel_rfl) ha hw ho h1 (by decide)
      cases ho
      rw [if_pos (by rfl)]
      have t3 := ha.old 3 (by kernel_rfl)
      simp at t3
      have r0 := kcell hw.kept a0c
      have r1 := kcell hw.kept a1c
      have r2 := kcell hw.kept a2c
      go_simp
      exact ST.out
    | 2, ho =>
      have ST := StO.sm (by kernel_rfl) ha hw ho h1 (by decide)
      cases ho
      rw [if_pos (by rfl)]
      have t4 := ha.old 4 (by kernel_rfl)
      simp at t4
      have rw0 := kcell hw.kept wc
      go_simp
      exact ST.out
    | 3, ho =>
      have st := fun w' (k : Kept w w') => StO.same (by kernel_rfl) ha hw ho h1 (by omega) (by omega) (by omega) k
      have ST := Lib.hid st; clear st
      cases ho
      rw [if_pos (by rfl)]
      have t12 := ha.new 1 (h2 ⟨1, .data⟩ (by simp) rfl) (d := 12) rfl rfl (by simp)
      simp [openVs] at t12
      have t13 := ha.new 2 (h2 ⟨2, .data⟩ (by simp) rfl) (d := 13) rfl rfl (by simp)
      simp [openVs] at t13
      have hcall := isWeek_gen (.slice p B.boys.length cap) (.slice q B.trials.length capt) B.weeks week w
      rw [hweekT] at hcall
      go_simp
      refine ⟨trivial, rfl, (callsIn_wide.2 hcall).mono ?_⟩
      rintro e w' ⟨rfl, hk⟩
      exact ST.out _ hk
    | 4, ho =>
      have ST := StO.sm (by kernel_rfl) ha hw ho h1 (by decide)
      cases ho
      rw [if_pos (by rfl)]
      have t14 := ha.new 3 (h2 ⟨3, .data⟩ (by simp) rfl) (d := 14) rfl rfl (by simp)
      simp [openVs] at t14
      go_simp
      exact ST.out
    | 5, ho =>
      have ST := StO.sm (by kernel_rfl) ha hw ho h1 (by decide)
      cases ho
      have t15 := ha.new 4 (h2 ⟨4, .guard⟩ (by simp) rfl) (d := 15) rfl rfl (by simp)
      simp [openVs] at t15
      rw [if_neg (by simp [Region.wanted, yielded, getD_bool t15])]
      exact ⟨fun _ _ => trivial, ST.out⟩
    | 6, ho =>
      have ST := StO.sm (by kernel_rfl) ha hw ho h1 (by decide)
      cases ho
      have t15 := ha.new 4 (h2 ⟨4, .guard⟩ (by simp) rfl) (d := 15) rfl rfl (by simp)
      simp [openVs] at t15
      rw [if_neg (by simp [Region.wanted, yielded, getD_bool t15])]
      exact ⟨fun _ _ => trivial, ST.out⟩
    | 7, ho =>
      have ST := StO.sm (by kernel_rfl) ha hw ho h1 (by decide)
      cases ho
      rw [if_pos (by rfl)]
      have t15 := ha.new 4 (h2 ⟨4, .data⟩ (by simp) rfl) (d := 15) rfl rfl (by simp)
      simp [openVs] at t15
      have t17 := ha.new 6 (h2 ⟨6, .data⟩ (by simp) rfl) (d := 17) rfl rfl (by simp)
      simp [openVs] at t17
      go_simp
      exact ST.out
    | 8, ho =>
      obtain ⟨n5, n6, n7, n9, n10⟩ := open_first hcl h1 ⟨_, rfl, ⟨8, .data⟩, by simp, rfl, rfl⟩ ⟨_, rfl, ⟨9, .data⟩, by simp, rfl, rfl⟩ ⟨_, rfl, ⟨9, .data⟩, by simp, rfl, rfl⟩ ⟨_, rfl, ⟨10, .data⟩, by simp, rfl, rfl⟩ ⟨_, rfl, ⟨11, .data⟩, by simp, rfl, rfl⟩
      have st := fun v' err' w' (k : OpenReg W0 B false v' err' pp true (on listed 12) (on listed 13) w') => StO.opened (by kernel_rfl) ha hl ho h1 n5 n6 n7 n9 n10 k
      have ST := Lib.hid st; clear st
      cases ho
      rw [if_pos (by rfl)]
      have t11 := ha.new 0 (h2 ⟨0, .data⟩ (by simp) rfl) (d := 11) rfl rfl (by simp)
      simp [openVs] at t11
      have t18 := ha.new 7 (h2 ⟨7, .data⟩ (by simp) rfl) (d := 18) rfl rfl (by simp)
      simp [openVs] at t18
      have hcall := open_any p q cap capt B false W w h (kept_trans hk0 hw.kept) (hg.kept (kept_trans hk0 hw.kept))
      unfold Book.val at hcall
      have HOP := Lib.hid (fun e w' => hw.opened (e := e) (w' := w') W.heap.size hk0.size n9)
      go_simp
      refine ⟨trivial, rfl, (callsIn_wide.2 hcall).mono ?_⟩
      intro e w' hop
      obtain ⟨v', err', rfl, hr⟩ := HOP.out e w' hop
      exact ST.out v' err' w' hr
    | 9, ho =>
      have ST := StO.sm (by kernel_rfl) ha hw ho h1 (by decide)
      cases ho
      rw [if_pos (by rfl)]
      have t19 := ha.new 8 (h2 ⟨8, .data⟩ (by simp) rfl) (d := 19) rfl rfl (by simp)
      simp [openVs] at t19
      go_simp
      exact ST.out
    | 10, ho =>
      have ST := StO.sm (by kernel_rfl) ha hw ho h1 (by decide)
      cases ho
      rw [if_pos (by rfl)]
      have t10 := ha.new 9 (h2 ⟨9, .data⟩ (by simp) rfl) (d := 10) rfl rfl (by simp)
      simp [openVs] at t10
      go_simp
      exact ST.out
    | 11, ho =>
      have ST := StO.sm (by kernel_rfl) ha hw ho h1 (by decide)
      cases ho
      rw [if_pos (by rfl)]
      have t10 := ha.new 9 (h2 ⟨9, .data⟩ (by simp) rfl) (d := 10) rfl rfl (by simp)
      simp [openVs] at t10
      go_simp
      exact ST.out
    | 12, ho =>
      have n9 : on listed 13 = false := by
        cases hb : on listed 13 with
        | false => rfl
        | true => have := hcl 13 _ rfl hb ⟨12, .data⟩ (by simp) rfl; rw [on_no h1] at this; cases this
      have st := StO.boxed (by kernel_rfl) ha hw hl ho h1 n9
      have ST := Lib.hid st; clear st
      cases ho
      rw [if_pos (by rfl)]
      go_simp
      exact ST.out
    | 13, ho =>
      have y8 : on listed 12 = true := h2 ⟨12, .data⟩ (by cases ho; simp) rfl
      have y4 : on listed 8 = true := h2 ⟨8, .chain⟩ (by cases ho; simp) rfl
      have t8 := ha.new 12 y8 (d := 8) rfl rfl (by simp)
      simp [openVs] at t8
      have t20 := ha.new 10 (h2 ⟨10, .data⟩ (by cases ho; simp) rfl) (d := 20) rfl rfl (by simp)
      simp [openVs] at t20
      obtain ⟨hbp, ⟨f0, f1, f2, f3, b0, b1, b2, b3⟩, hbf⟩ := hw.box y8
      have bf0 := hbf 0
      have bf1 := hbf 1
      have bf2 := hbf 2
      have bf3 := hbf 3
      rcases hw.res y4 with ⟨_, _, he, _⟩ | ⟨rfl, _⟩
      · cases he
      · have st := StO.stored (by kernel_rfl) ha hw hl ho (by cases ho; rfl) h1 y8 (show zeroChoir = _ from rfl)
        have ST := Lib.hid st; clear st
        cases ho
        rw [if_pos (by rfl)]
        unfold zeroChoir at t20
        clear hbf
        go_simp
        exact ST.out
    | 14, ho =>
      have ST := StO.sm (by kernel_rfl) ha hw ho h1 (by decide)
      cases ho
      rw [if_pos (by rfl)]
      have t21 := ha.new 11 (h2 ⟨11, .data⟩ (by simp) rfl) (d := 21) rfl rfl (by simp)
      simp [openVs] at t21
      go_simp
      exact ST.out
  case hend =>
    rintro listed a w hall ⟨v, err, pp, ha, hw⟩
    rw [show on listed 8 = true from hall 8 (by simp), show on listed 12 = true from hall 12 (by simp), show on listed 13 = true from hall 13 (by simp)] at hw
    obtain ⟨y, hy, hae⟩ := ha.lit (n := 28) rfl
    have y4 := (hy 4).symm.trans (ha.old 4 (by kernel_rfl))
    have y5 := (hy 5).symm.trans (ha.old 5 (by kernel_rfl))
    have y6 := (hy 6).symm.trans (ha.old 6 (by kernel_rfl))
    have y7 := (hy 7).symm.trans (ha.old 7 (by kernel_rfl))
    have y8 := (hy 8).symm.trans (ha.new 12 (hall 12 (by simp)) (d := 8) rfl rfl (by simp))
    have y9 := (hy 9).symm.trans (ha.new 14 (hall 14 (by simp)) (d := 9) rfl rfl (by simp))
    simp at y4 y5 y6 y7
    simp [openVs] at y8 y9
    simp only [List.range, List.range.loop, List.map] at hae
    rw [y4, y5, y6, y7, y8, y9] at hae
    subst hae
    clear ha hy y4 y5 y6 y7 y8 y9
    refine (by assumption : ∀ a w, Code.wpIn _ _ _ _ _ a w → _) _ w ?_
    have wk := kcell hw.kept wc
    have wn := kcell hw.kept nc
    obtain ⟨_, x0, x1, x2, x3, hv, b0, b1, b2, b3⟩ := hw.put rfl
    rcases hw.res rfl with ⟨_, _, he, _⟩ | ⟨rfl, herr⟩
    · cases he
    · rcases herr with ⟨rfl, he⟩ | ⟨rfl, he, he2⟩ | ⟨_, _, he, _⟩
      · 
        gi_wp2_with fail
        refine bodyPost_ret (v := .tuple #[.slice none 0 0, .int .i64 20]) (by simp [results, Tryz.results21, go_sem]) rfl ?_
        refine ⟨20, rfl, ?_, .inl ⟨rfl, he⟩⟩
        exact kept_trans hk0 hw.kept
      · 
        gi_wp2_with fail
        refine bodyPost_ret (v := .tuple #[.slice none 0 0, .int .i64 21]) (by simp [results, Tryz.results21, go_sem]) rfl ?_
        refine ⟨21, rfl, ?_, .inr ⟨rfl, he, rfl⟩⟩
        exact kept_trans hk0 hw.kept
      · cases he
set_option maxHeartbeats 4000000 in
theorem surely_e1 (p q : Option Addr) (cap capt : Nat) (B : Book) (week note : Int) (W : World) (h : BookAt W p q cap capt B) (hg : Nothing W) (hweekT : inB week 0 (wrap64 (B.weeks - 1)) = true) (hnoteT : inB note 0 40 = false) :
    Calls Tryz.prog 21 #[B.val p q cap capt, .int .i64 week, .int .i64 note] W (ErrQ B (.slice none 0 0) false W) := by
  have hnb := h.nb
  refine callsIn_wide.1 (callsIn_of_wp (n := 0) Tryz.func21 rfl trivial ?_ rfl)
  simp only [Tryz.ntmps21, List.size_toArray, List.length_cons, List.length_nil, Nat.reduceAdd, Nat.reduceSub, Array.replicate_succ, Array.replicate_zero, List.push_toArray, List.append_toArray, List.nil_append, List.cons_append]
  unfold Book.val
  gi_wp2_with fail
  obtain ⟨hk0, a0c, a1c, a2c⟩ := bk2 W p q cap capt B (Obj.cells #[.int .i64 week] 3) (Obj.cells #[.int .i64 note] 3)
  have wc : (((W.alloc (Obj.cells #[.slice p B.boys.length cap, .int .i64 B.weeks, .slice q B.trials.length capt] 25)).alloc (Obj.cells #[.int .i64 week] 3)).alloc (Obj.cells #[.int .i64 note] 3)).cell? ⟨W.heap.size + 1, 0, none⟩ = some (.int .i64 week) := by go_simp
  have nc : (((W.alloc (Obj.cells #[.slice p B.boys.length cap, .int .i64 B.weeks, .slice q B.trials.length capt] 25)).alloc (Obj.cells #[.int .i64 week] 3)).alloc (Obj.cells #[.int .i64 note] 3)).cell? ⟨W.heap.size + 1 + 1, 0, none⟩ = some (.int .i64 note) := by go_simp
  generalize (((W.alloc (Obj.cells #[.slice p B.boys.length cap, .int .i64 B.weeks, .slice q B.trials.length capt] 25)).alloc (Obj.cells #[.int .i64 week] 3)).alloc (Obj.cells #[.int .i64 note] 3)) = W0 at *
  refine wpIn_region_invL (StO 8 (fun j => match j with | 0 => (.agg #[.slice p B.boys.length cap, .int .i64 B.weeks, .slice q B.trials.length capt]) | 1 => (.agg #[.slice p B.boys.length cap, .int .i64 B.weeks, .slice q B.trials.length capt]) | 2 => .int .i64 week | 3 => .bool true | 4 => .bool true | 5 => .int .i64 note | 6 => .bool false | 7 => .bool false | _ => undef) W0 B false) (by kernel_rfl) (by kernel_rfl) StO.start ?hop ?hend
  case hop =>
    rintro i o listed a w hl ho h1 h2 hcl ⟨v, err, pp, ha, hw⟩
    have hi11 : i < 15 := (List.getElem?_eq_some_iff.1 ho).1
    match i, ho with
    | 0, ho =>
      have ST := StO.sm (by kernel_rfl) ha hw ho h1 (by decide)
      cases ho
      rw [if_pos (by rfl)]
      have t3 := ha.old 3 (by kernel_rfl)
      simp at t3
      have r0 := kcell hw.kept a0c
      have r1 := kcell hw.kept a1c
      have r2 := kcell hw.kept a2c
      go_simp
      exact ST.out
    | 1, ho =>
      have ST := StO.sm (by kernel_rfl) ha hw ho h1 (by decide)
      cases ho
      rw [if_pos (by rfl)]
      have t3 := ha.old 3 (by kernel_rfl)
      simp at t3
      have r0 := kcell hw.kept a0c
      have r1 := kcell hw.kept a1c
      have r2 := kcell hw.kept a2c
      go_simp
      exact ST.out
    | 2, ho =>
      have ST := StO.sm (by kernel_rfl) ha hw ho h1 (by decide)
      cases ho
      rw [if_pos (by rfl)]
      have t4 := ha.old 4 (by kernel_rfl)
      simp at t4
      have rw0 := kcell hw.kept wc
      go_simp
      exact ST.out
    | 3, ho =>
      have st := fun w' (k : Kept w w') => StO.same (by kernel_rfl) ha hw ho h1 (by omega) (by omega) (by omega) k
      have ST := Lib.hid st; clear st
      cases ho
      rw [if_pos (by rfl)]
      have t12 := ha.new 1 (h2 ⟨1, .data⟩ (by simp) rfl) (d := 12) rfl rfl (by simp)
      simp [openVs] at t12
      have t13 := ha.new 2 (h2 ⟨2, .data⟩ (by simp) rfl) (d := 13) rfl rfl (by simp)
      simp [openVs] at t13
      have hcall := isWeek_gen (.slice p B.boys.length cap) (.slice q B.trials.length capt) B.weeks week w
      rw [hweekT] at hcall
      go_simp
      refine ⟨trivial, rfl, (callsIn_wide.2 hcall).mono ?_⟩
      rintro e w' ⟨rfl, hk⟩
      exact ST.out _ hk
    | 4, ho =>
      have ST := StO.sm (by kernel_rfl) ha hw ho h1 (by decide)
      cases ho
      rw [if_pos (by rfl)]
      have t14 := ha.new 3 (h2 ⟨3, .data⟩ (by simp) rfl) (d := 14) rfl rfl (by simp)
      simp [openVs] at t14
      go_simp
      exact ST.out
    | 5, ho =>
      have ST := StO.sm (by kernel_rfl) ha hw ho h1 (by decide)
      cases ho
      have t15 := ha.new 4 (h2 ⟨4, .guard⟩ (by simp) rfl) (d := 15) rfl rfl (by simp)
      simp [openVs] at t15
      rw [if_pos (by simp [Region.wanted, yielded, getD_bool t15])]
      have t5 := ha.old 5 (by kernel_rfl)
      simp at t5
      have rn0 := kcell hw.kept nc
      go_simp
      exact ST.out
    | 6, ho =>
      have st := fun w' (k : Kept w w') => StO.same (by kernel_rfl) ha hw ho h1 (by omega) (by omega) (by omega) k
      have ST := Lib.hid st; clear st
      cases ho
      have t15 := ha.new 4 (h2 ⟨4, .guard⟩ (by simp) rfl) (d := 15) rfl rfl (by simp)
      simp [openVs] at t15
      rw [if_pos (by simp [Region.wanted, yielded, getD_bool t15])]
      have t16 := ha.new 5 (h2 ⟨5, .data⟩ (by simp) rfl) (d := 16) rfl rfl (by simp)
      simp [openVs] at t16
      have hcall := isNote_any note w
      rw [hnoteT] at hcall
      go_simp
      refine ⟨trivial, rfl, (callsIn_wide.2 hcall).mono ?_⟩
      rintro e w' ⟨rfl, hk⟩
      subst hk; exact ST.out _ (kept_refl _)
    | 7, ho =>
      have ST := StO.sm (by kernel_rfl) ha hw ho h1 (by decide)
      cases ho
      rw [if_pos (by rfl)]
      have t15 := ha.new 4 (h2 ⟨4, .data⟩ (by simp) rfl) (d := 15) rfl rfl (by simp)
      simp [openVs] at t15
      have t17 := ha.new 6 (h2 ⟨6, .data⟩ (by simp) rfl) (d := 17) rfl rfl (by simp)
      simp [openVs] at t17
      go_simp
      exact ST.out
    | 8, ho =>
      obtain ⟨n5, n6, n7, n9, n10⟩ := open_first hcl h1 ⟨_, rfl, ⟨8, .data⟩, by simp, rfl, rfl⟩ ⟨_, rfl, ⟨9, .data⟩, by simp, rfl, rfl⟩ ⟨_, rfl, ⟨9, .data⟩, by simp, rfl, rfl⟩ ⟨_, rfl, ⟨10, .data⟩, by simp, rfl, rfl⟩ ⟨_, rfl, ⟨11, .data⟩, by simp, rfl, rfl⟩
      have st := fun v' err' w' (k : OpenReg W0 B false v' err' pp true (on listed 12) (on listed 13) w') => StO.opened (by kernel_rfl) ha hl ho h1 n5 n6 n7 n9 n10 k
      have ST := Lib.hid st; clear st
      cases ho
      rw [if_pos (by rfl)]
      have t11 := ha.new 0 (h2 ⟨0, .data⟩ (by simp) rfl) (d := 11) rfl rfl (by simp)
      simp [openVs] at t11
      have t18 := ha.new 7 (h2 ⟨7, .data⟩ (by simp) rfl) (d := 18) rfl rfl (by simp)
      simp [openVs] at t18
      have hcall := open_any p q cap capt B false W w h (kept_trans hk0 hw.kept) (hg.kept (kept_trans hk0 hw.kept))
      unfold Book.val at hcall
      have HOP := Lib.hid (fun e w' => hw.opened (e := e) (w' := w') W.heap.size hk0.size n9)
      go_simp
      refine ⟨trivial, rfl, (callsIn_wide.2 hcall).mono ?_⟩
      intro e w' hop
      obtain ⟨v', err', rfl, hr⟩ := HOP.out e w' hop
      exact ST.out v' err' w' hr
    | 9, ho =>
      have ST := StO.sm (by kernel_rfl) ha hw ho h1 (by decide)
      cases ho
      rw [if_pos (by rfl)]
      have t19 := ha.new 8 (h2 ⟨8, .data⟩ (by simp) rfl) (d := 19) rfl rfl (by simp)
      simp [openVs] at t19
      go_simp
      exact ST.out
    | 10, ho =>
      have ST := StO.sm (by kernel_rfl) ha hw ho h1 (by decide)
      cases ho
      rw [if_pos (by rfl)]
      have t10 := ha.new 9 (h2 ⟨9, .data⟩ (by simp) rfl) (d := 10) rfl rfl (by simp)
      simp [openVs] at t10
      go_simp
      exact ST.out
    | 11, ho =>
      have ST := StO.sm (by kernel_rfl) ha hw ho h1 (by decide)
      cases ho
      rw [if_pos (by rfl)]
      have t10 := ha.new 9 (h2 ⟨9, .data⟩ (by simp) rfl) (d := 10) rfl rfl (by simp)
      simp [openVs] at t10
      go_simp
      exact ST.out
    | 12, ho =>
      have n9 : on listed 13 = false := by
        cases hb : on listed 13 with
        | false => rfl
        | true => have := hcl 13 _ rfl hb ⟨12, .data⟩ (by simp) rfl; rw [on_no h1] at this; cases this
      have st := StO.boxed (by kernel_rfl) ha hw hl ho h1 n9
      have ST := Lib.hid st; clear st
      cases ho
      rw [if_pos (by rfl)]
      go_simp
      exact ST.out
    | 13, ho =>
      have y8 : on listed 12 = true := h2 ⟨12, .data⟩ (by cases ho; simp) rfl
      have y4 : on listed 8 = true := h2 ⟨8, .chain⟩ (by cases ho; simp) rfl
      have t8 := ha.new 12 y8 (d := 8) rfl rfl (by simp)
      simp [openVs] at t8
      have t20 := ha.new 10 (h2 ⟨10, .data⟩ (by cases ho; simp) rfl) (d := 20) rfl rfl (by simp)
      simp [openVs] at t20
      obtain ⟨hbp, ⟨f0, f1, f2, f3, b0, b1, b2, b3⟩, hbf⟩ := hw.box y8
      have bf0 := hbf 0
      have bf1 := hbf 1
      have bf2 := hbf 2
      have bf3 := hbf 3
      rcases hw.res y4 with ⟨_, _, he, _⟩ | ⟨rfl, _⟩
      · cases he
      · have st := StO.stored (by kernel_rfl) ha hw hl ho (by cases ho; rfl) h1 y8 (show zeroChoir = _ from rfl)
        have ST := Lib.hid st; clear st
        cases ho
        rw [if_pos (by rfl)]
        unfold zeroChoir at t20
        clear hbf
        go_simp
        exact ST.out
    | 14, ho =>
      have ST := StO.sm (by kernel_rfl) ha hw ho h1 (by decide)
      cases ho
      rw [if_pos (by rfl)]
      have t21 := ha.new 11 (h2 ⟨11, .data⟩ (by simp) rfl) (d := 21) rfl rfl (by simp)
      simp [openVs] at t21
      go_simp
      exact ST.out
  case hend =>
    rintro listed a w hall ⟨v, err, pp, ha, hw⟩
    rw [show on listed 8 = true from hall 8 (by simp), show on listed 12 = true from hall 12 (by simp), show on listed 13 = true from hall 13 (by simp)] at hw
    obtain ⟨y, hy, hae⟩ := ha.lit (n := 28) rfl
    have y4 := (hy 4).symm.trans (ha.old 4 (by kernel_rfl))
    have y5 := (hy 5).symm.trans (ha.old 5 (by kernel_rfl))
    have y6 := (hy 6).symm.trans (ha.old 6 (by kernel_rfl))
    have y7 := (hy 7).symm.trans (ha.old 7 (by kernel_rfl))
    have y8 := (hy 8).symm.trans (ha.new 12 (hall 12 (by simp)) (d := 8) rfl rfl (by simp))
    have y9 := (hy 9).symm.trans (ha.new 14 (hall 14 (by simp)) (d := 9) rfl rfl (by simp))
    simp at y4 y5 y6 y7
    simp [openVs] at y8 y9
    simp only [List.range, List.range.loop, List.map] at hae
    rw [y4, y5, y6, y7, y8, y9] at hae
    subst hae
    clear ha hy y4 y5 y6 y7 y8 y9
    refine (by assumption : ∀ a w, Code.wpIn _ _ _ _ _ a w → _) _ w ?_
    have wk := kcell hw.kept wc
    have wn := kcell hw.kept nc
    obtain ⟨_, x0, x1, x2, x3, hv, b0, b1, b2, b3⟩ := hw.put rfl
    rcases hw.res rfl with ⟨_, _, he, _⟩ | ⟨rfl, herr⟩
    · cases he
    · rcases herr with ⟨rfl, he⟩ | ⟨rfl, he, he2⟩ | ⟨_, _, he, _⟩
      · 
        gi_wp2_with fail
        refine bodyPost_ret (v := .tuple #[.slice none 0 0, .int .i64 20]) (by simp [results, Tryz.results21, go_sem]) rfl ?_
        refine ⟨20, rfl, ?_, .inl ⟨rfl, he⟩⟩
        exact kept_trans hk0 hw.kept
      · 
        gi_wp2_with fail
        refine bodyPost_ret (v := .tuple #[.slice none 0 0, .int .i64 21]) (by simp [results, Tryz.results21, go_sem]) rfl ?_
        refine ⟨21, rfl, ?_, .inr ⟨rfl, he, rfl⟩⟩
        exact kept_trans hk0 hw.kept
      · cases he
set_option maxHeartbeats 4000000 in
theorem surely_e2 (p q : Option Addr) (cap capt : Nat) (B : Book) (week note : Int) (W : World) (h : BookAt W p q cap capt B) (hg : Nothing W) (hweekT : inB week 0 (wrap64 (B.weeks - 1)) = true) (hnoteT : inB note 0 40 = true) (hok0 : B.okB = false) :
    Calls Tryz.prog 21 #[B.val p q cap capt, .int .i64 week, .int .i64 note] W (ErrQ B (.slice none 0 0) true W) := by
  have hnb := h.nb
  refine callsIn_wide.1 (callsIn_of_wp (n := 0) Tryz.func21 rfl trivial ?_ rfl)
  simp only [Tryz.ntmps21, List.size_toArray, List.length_cons, List.length_nil, Nat.reduceAdd, Nat.reduceSub, Array.replicate_succ, Array.replicate_zero, List.push_toArray, List.append_toArray, List.nil_append, List.cons_append]
  unfold Book.val
  gi_wp2_with fail
  obtain ⟨hk0, a0c, a1c, a2c⟩ := bk2 W p q cap capt B (Obj.cells #[.int .i64 week] 3) (Obj.cells #[.int .i64 note] 3)
  have wc : (((W.alloc (Obj.cells #[.slice p B.boys.length cap, .int .i64 B.weeks, .slice q B.trials.length capt] 25)).alloc (Obj.cells #[.int .i64 week] 3)).alloc (Obj.cells #[.int .i64 note] 3)).cell? ⟨W.heap.size + 1, 0, none⟩ = some (.int .i64 week) := by go_simp
  have nc : (((W.alloc (Obj.cells #[.slice p B.boys.length cap, .int .i64 B.weeks, .slice q B.trials.length capt] 25)).alloc (Obj.cells #[.int .i64 week] 3)).alloc (Obj.cells #[.int .i64 note] 3)).cell? ⟨W.heap.size + 1 + 1, 0, none⟩ = some (.int .i64 note) := by go_simp
  generalize (((W.alloc (Obj.cells #[.slice p B.boys.length cap, .int .i64 B.weeks, .slice q B.trials.length capt] 25)).alloc (Obj.cells #[.int .i64 week] 3)).alloc (Obj.cells #[.int .i64 note] 3)) = W0 at *
  refine wpIn_region_invL (StO 8 (fun j => match j with | 0 => (.agg #[.slice p B.boys.length cap, .int .i64 B.weeks, .slice q B.trials.length capt]) | 1 => (.agg #[.slice p B.boys.length cap, .int .i64 B.weeks, .slice q B.trials.length capt]) | 2 => .int .i64 week | 3 => .bool true | 4 => .bool true | 5 => .int .i64 note | 6 => .bool true | 7 => .bool true | _ => undef) W0 B true) (by kernel_rfl) (by kernel_rfl) StO.start ?hop ?hend
  case hop =>
    rintro i o listed a w hl ho h1 h2 hcl ⟨v, err, pp, ha, hw⟩
    have hi11 : i < 15 := (List.getElem?_eq_some_iff.1 ho).1
    match i, ho with
    | 0, ho =>
      have ST := StO.sm (by kernel_rfl) ha hw ho h1 (by decide)
      cases ho
      rw [if_pos (by rfl)]
      have t3 := ha.old 3 (by kernel_rfl)
      simp at t3
      have r0 := kcell hw.kept a0c
      have r1 := kcell hw.kept a1c
      have r2 := kcell hw.kept a2c
      go_simp
      exact ST.out
    | 1, ho =>
      have ST := StO.sm (by kernel_rfl) ha hw ho h1 (by decide)
      cases ho
      rw [if_pos (by rfl)]
      have t3 := ha.old 3 (by kernel_rfl)
      simp at t3
      have r0 := kcell hw.kept a0c
      have r1 := kcell hw.kept a1c
      have r2 := kcell hw.kept a2c
      go_simp
      exact ST.out
    | 2, ho =>
      have ST := StO.sm (by kernel_rfl) ha hw ho h1 (by decide)
      cases ho
      rw [if_pos (by rfl)]
      have t4 := ha.old 4 (by kernel_rfl)
      simp at t4
      have rw0 := kcell hw.kept wc
      go_simp
      exact ST.out
    | 3, ho =>
      have st := fun w' (k : Kept w w') => StO.same (by kernel_rfl) ha hw ho h1 (by omega) (by omega) (by omega) k
      have ST := Lib.hid st; clear st
      cases ho
      rw [if_pos (by rfl)]
      have t12 := ha.new 1 (h2 ⟨1, .data⟩ (by simp) rfl) (d := 12) rfl rfl (by simp)
      simp [openVs] at t12
      have t13 := ha.new 2 (h2 ⟨2, .data⟩ (by simp) rfl) (d := 13) rfl rfl (by simp)
      simp [openVs] at t13
      have hcall := isWeek_gen (.slice p B.boys.length cap) (.slice q B.trials.length capt) B.weeks week w
      rw [hweekT] at hcall
      go_simp
      refine ⟨trivial, rfl, (callsIn_wide.2 hcall).mono ?_⟩
      rintro e w' ⟨rfl, hk⟩
      exact ST.out _ hk
    | 4, ho =>
      have ST := StO.sm (by kernel_rfl) ha hw ho h1 (by decide)
      cases ho
      rw [if_pos (by rfl)]
      have t14 := ha.new 3 (h2 ⟨3, .data⟩ (by simp) rfl) (d := 14) rfl rfl (by simp)
      simp [openVs] at t14
      go_simp
      exact ST.out
    | 5, ho =>
      have ST := StO.sm (by kernel_rfl) ha hw ho h1 (by decide)
      cases ho
      have t15 := ha.new 4 (h2 ⟨4, .guard⟩ (by simp) rfl) (d := 15) rfl rfl (by simp)
      simp [openVs] at t15
      rw [if_pos (by simp [Region.wanted, yielded, getD_bool t15])]
      have t5 := ha.old 5 (by kernel_rfl)
      simp at t5
      have rn0 := kcell hw.kept nc
      go_simp
      exact ST.out
    | 6, ho =>
      have st := fun w' (k : Kept w w') => StO.same (by kernel_rfl) ha hw ho h1 (by omega) (by omega) (by omega) k
      have ST := Lib.hid st; clear st
      cases ho
      have t15 := ha.new 4 (h2 ⟨4, .guard⟩ (by simp) rfl) (d := 15) rfl rfl (by simp)
      simp [openVs] at t15
      rw [if_pos (by simp [Region.wanted, yielded, getD_bool t15])]
      have t16 := ha.new 5 (h2 ⟨5, .data⟩ (by simp) rfl) (d := 16) rfl rfl (by simp)
      simp [openVs] at t16
      have hcall := isNote_any note w
      rw [hnoteT] at hcall
      go_simp
      refine ⟨trivial, rfl, (callsIn_wide.2 hcall).mono ?_⟩
      rintro e w' ⟨rfl, hk⟩
      subst hk; exact ST.out _ (kept_refl _)
    | 7, ho =>
      have ST := StO.sm (by kernel_rfl) ha hw ho h1 (by decide)
      cases ho
      rw [if_pos (by rfl)]
      have t15 := ha.new 4 (h2 ⟨4, .data⟩ (by simp) rfl) (d := 15) rfl rfl (by simp)
      simp [openVs] at t15
      have t17 := ha.new 6 (h2 ⟨6, .data⟩ (by simp) rfl) (d := 17) rfl rfl (by simp)
      simp [openVs] at t17
      go_simp
      exact ST.out
    | 8, ho =>
      obtain ⟨n5, n6, n7, n9, n10⟩ := open_first hcl h1 ⟨_, rfl, ⟨8, .data⟩, by simp, rfl, rfl⟩ ⟨_, rfl, ⟨9, .data⟩, by simp, rfl, rfl⟩ ⟨_, rfl, ⟨9, .data⟩, by simp, rfl, rfl⟩ ⟨_, rfl, ⟨10, .data⟩, by simp, rfl, rfl⟩ ⟨_, rfl, ⟨11, .data⟩, by simp, rfl, rfl⟩
      have st := fun v' err' w' (k : OpenReg W0 B true v' err' pp true (on listed 12) (on listed 13) w') => StO.opened (by kernel_rfl) ha hl ho h1 n5 n6 n7 n9 n10 k
      have ST := Lib.hid st; clear st
      cases ho
      rw [if_pos (by rfl)]
      have t11 := ha.new 0 (h2 ⟨0, .data⟩ (by simp) rfl) (d := 11) rfl rfl (by simp)
      simp [openVs] at t11
      have t18 := ha.new 7 (h2 ⟨7, .data⟩ (by simp) rfl) (d := 18) rfl rfl (by simp)
      simp [openVs] at t18
      have hcall := open_any p q cap capt B true W w h (kept_trans hk0 hw.kept) (hg.kept (kept_trans hk0 hw.kept))
      unfold Book.val at hcall
      have HOP := Lib.hid (fun e w' => hw.opened (e := e) (w' := w') W.heap.size hk0.size n9)
      go_simp
      refine ⟨trivial, rfl, (callsIn_wide.2 hcall).mono ?_⟩
      intro e w' hop
      obtain ⟨v', err', rfl, hr⟩ := HOP.out e w' hop
      exact ST.out v' err' w' hr
    | 9, ho =>
      have ST := StO.sm (by kernel_rfl) ha hw ho h1 (by decide)
      cases ho
      rw [if_pos (by rfl)]
      have t19 := ha.new 8 (h2 ⟨8, .data⟩ (by simp) rfl) (d := 19) rfl rfl (by simp)
      simp [openVs] at t19
      go_simp
      exact ST.out
    | 10, ho =>
      have ST := StO.sm (by kernel_rfl) ha hw ho h1 (by decide)
      cases ho
      rw [if_pos (by rfl)]
      have t10 := ha.new 9 (h2 ⟨9, .data⟩ (by simp) rfl) (d := 10) rfl rfl (by simp)
      simp [openVs] at t10
      go_simp
      exact ST.out
    | 11, ho =>
      have ST := StO.sm (by kernel_rfl) ha hw ho h1 (by decide)
      cases ho
      rw [if_pos (by rfl)]
      have t10 := ha.new 9 (h2 ⟨9, .data⟩ (by simp) rfl) (d := 10) rfl rfl (by simp)
      simp [openVs] at t10
      go_simp
      exact ST.out
    | 12, ho =>
      have n9 : on listed 13 = false := by
        cases hb : on listed 13 with
        | false => rfl
        | true => have := hcl 13 _ rfl hb ⟨12, .data⟩ (by simp) rfl; rw [on_no h1] at this; cases this
      have st := StO.boxed (by kernel_rfl) ha hw hl ho h1 n9
      have ST := Lib.hid st; clear st
      cases ho
      rw [if_pos (by rfl)]
      go_simp
      exact ST.out
    | 13, ho =>
      have y8 : on listed 12 = true := h2 ⟨12, .data⟩ (by cases ho; simp) rfl
      have y4 : on listed 8 = true := h2 ⟨8, .chain⟩ (by cases ho; simp) rfl
      have t8 := ha.new 12 y8 (d := 8) rfl rfl (by simp)
      simp [openVs] at t8
      have t20 := ha.new 10 (h2 ⟨10, .data⟩ (by cases ho; simp) rfl) (d := 20) rfl rfl (by simp)
      simp [openVs] at t20
      obtain ⟨hbp, ⟨f0, f1, f2, f3, b0, b1, b2, b3⟩, hbf⟩ := hw.box y8
      have bf0 := hbf 0
      have bf1 := hbf 1
      have bf2 := hbf 2
      have bf3 := hbf 3
      rcases hw.res y4 with ⟨_, _, _, _, c, S, hcB, rfl, _⟩ | ⟨rfl, _⟩
      · clear hcB
        have st := StO.stored (by kernel_rfl) ha hw hl ho (by cases ho; rfl) h1 y8 (show c.val = _ from rfl)
        have ST := Lib.hid st; clear st
        cases ho
        rw [if_pos (by rfl)]
        unfold Choir.val at t20
        clear hbf
        go_simp
        exact ST.out
      · have st := StO.stored (by kernel_rfl) ha hw hl ho (by cases ho; rfl) h1 y8 (show zeroChoir = _ from rfl)
        have ST := Lib.hid st; clear st
        cases ho
        rw [if_pos (by rfl)]
        unfold zeroChoir at t20
        clear hbf
        go_simp
        exact ST.out
    | 14, ho =>
      have ST := StO.sm (by kernel_rfl) ha hw ho h1 (by decide)
      cases ho
      rw [if_pos (by rfl)]
      have t21 := ha.new 11 (h2 ⟨11, .data⟩ (by simp) rfl) (d := 21) rfl rfl (by simp)
      simp [openVs] at t21
      go_simp
      exact ST.out
  case hend =>
    rintro listed a w hall ⟨v, err, pp, ha, hw⟩
    rw [show on listed 8 = true from hall 8 (by simp), show on listed 12 = true from hall 12 (by simp), show on listed 13 = true from hall 13 (by simp)] at hw
    obtain ⟨y, hy, hae⟩ := ha.lit (n := 28) rfl
    have y4 := (hy 4).symm.trans (ha.old 4 (by kernel_rfl))
    have y5 := (hy 5).symm.trans (ha.old 5 (by kernel_rfl))
    have y6 := (hy 6).symm.trans (ha.old 6 (by kernel_rfl))
    have y7 := (hy 7).symm.trans (ha.old 7 (by kernel_rfl))
    have y8 := (hy 8).symm.trans (ha.new 12 (hall 12 (by simp)) (d := 8) rfl rfl (by simp))
    have y9 := (hy 9).symm.trans (ha.new 14 (hall 14 (by simp)) (d := 9) rfl rfl (by simp))
    simp at y4 y5 y6 y7
    simp [openVs] at y8 y9
    simp only [List.range, List.range.loop, List.map] at hae
    rw [y4, y5, y6, y7, y8, y9] at hae
    subst hae
    clear ha hy y4 y5 y6 y7 y8 y9
    refine (by assumption : ∀ a w, Code.wpIn _ _ _ _ _ a w → _) _ w ?_
    have wk := kcell hw.kept wc
    have wn := kcell hw.kept nc
    obtain ⟨_, x0, x1, x2, x3, hv, b0, b1, b2, b3⟩ := hw.put rfl
    rcases hw.res rfl with ⟨_, hok, _⟩ | ⟨rfl, herr⟩
    · rw [hok0] at hok; cases hok
    · rcases herr with ⟨rfl, he⟩ | ⟨_, he, _⟩ | ⟨_, he, _⟩
      · 
        gi_wp2_with fail
        refine bodyPost_ret (v := .tuple #[.slice none 0 0, .int .i64 20]) (by simp [results, Tryz.results21, go_sem]) rfl ?_
        refine ⟨20, rfl, ?_, .inl ⟨rfl, he⟩⟩
        exact kept_trans hk0 hw.kept
      · rw [hok0] at he; cases he
      · rw [hok0] at he; cases he
end Go.Proofs.YthkcgengohoboaaGreatDoor
namespace Go.Proofs.YthkcgengohoboaaGreatDoor
open Go.RowKit Go.Sort Go.Rg
set_option maxRecDepth 100000
attribute [local go_sem] Oper.semAt_some
set_option maxHeartbeats 4000000 in
theorem sings_e0 (p q : Option Addr) (cap capt : Nat) (B : Book) (boy week note : Int) (W : World) (h : BookAt W p q cap capt B) (hg : Nothing W) (hboyT : inB boy 0 (B.boys.length - 1) = false) :
    Calls Tryz.prog 19 #[B.val p q cap capt, .int .i64 boy, .int .i64 week, .int .i64 note] W (ErrQ B (.int .i64 0) false W) := by
  have hnb := h.nb
  refine callsIn_wide.1 (callsIn_of_wp (n := 0) Tryz.func19 rfl trivial ?_ rfl)
  simp only [Tryz.ntmps19, List.size_toArray, List.length_cons, List.length_nil, Nat.reduceAdd, Nat.reduceSub, Array.replicate_succ, Array.replicate_zero, List.push_toArray, List.append_toArray, List.nil_append, List.cons_append]
  unfold Book.val
  gi_wp2_with fail
  obtain ⟨hk0, a0c, a1c, a2c⟩ := bk2 W p q cap capt B (Obj.cells #[.int .i64 week] 3) (Obj.cells #[.int .i64 note] 3)
  have wc : (((W.alloc (Obj.cells #[.slice p B.boys.length cap, .int .i64 B.weeks, .slice q B.trials.length capt] 25)).alloc (Obj.cells #[.int .i64 week] 3)).alloc (Obj.cells #[.int .i64 note] 3)).cell? ⟨W.heap.size + 1, 0, none⟩ = some (.int .i64 week) := by go_simp
  have nc : (((W.alloc (Obj.cells #[.slice p B.boys.length cap, .int .i64 B.weeks, .slice q B.trials.length capt] 25)).alloc (Obj.cells #[.int .i64 week] 3)).alloc (Obj.cells #[.int .i64 note] 3)).cell? ⟨W.heap.size + 1 + 1, 0, none⟩ = some (.int .i64 note) := by go_simp
  generalize (((W.alloc (Obj.cells #[.slice p B.boys.length cap, .int .i64 B.weeks, .slice q B.trials.length capt] 25)).alloc (Obj.cells #[.int .i64 week] 3)).alloc (Obj.cells #[.int .i64 note] 3)) = W0 at *
  refine wpIn_region_invL (StO 13 (fun j => match j with | 0 => (.agg #[.slice p B.boys.length cap, .int .i64 B.weeks, .slice q B.trials.length capt]) | 1 => (.agg #[.slice p B.boys.length cap, .int .i64 B.weeks, .slice q B.trials.length capt]) | 2 => .int .i64 boy | 3 => .bool false | 4 => .bool false | 5 => undef | 6 => undef | 7 => undef | 8 => .bool false | 9 => .bool false | 10 => undef | 11 => undef | 12 => .bool false | _ => undef) W0 B false) (by kernel_rfl) (by kernel_rfl) StO.start ?hop ?hend
  case hop =>
    rintro i o listed a w hl ho h1 h2 hcl ⟨v, err, pp, ha, hw⟩
    have hi11 : i < 20 := (List.getElem?_eq_some_iff.1 ho).1
    match i, ho with
    | 0, ho =>
      have ST := StO.sm (by kernel_rfl) ha hw ho h1 (by decide)
      cases ho
      rw [if_pos (by rfl)]
      have t4 := ha.old 4 (by kernel_rfl)
      simp at t4
      have r0 := kcell hw.kept a0c
      have r1 := kcell hw.kept a1c
      have r2 := kcell hw.kept a2c
      go_simp
      exact ST.out
    | 1, ho =>
      have ST := StO.sm (by kernel_rfl) ha hw ho h1 (by decide)
      cases ho
      rw [if_pos (by rfl)]
      have t4 := ha.old 4 (by kernel_rfl)
      simp at t4
      have r0 := kcell hw.kept a0c
      have r1 := kcell hw.kept a1c
      have r2 := kcell hw.kept a2c
      go_simp
      exact ST.out
    | 2, ho =>
      have ST := StO.sm (by kernel_rfl) ha hw ho h1 (by decide)
      cases ho
      rw [if_pos (by rfl)]
      have t1 := ha.old 1 (by kernel_rfl)
      simp at t1
      go_simp
      exact ST.out
    | 3, ho =>
      have st := fun w' (k : Kept w w') => StO.same (by kernel_rfl) ha hw ho h1 (by omega) (by omega) (by omega) k
      have ST := Lib.hid st; clear st
      cases ho
      rw [if_pos (by rfl)]
      have t14 := ha.new 1 (h2 ⟨1, .data⟩ (by simp) rfl) (d := 14) rfl rfl (by simp)
      simp [openVs] at t14
      have t15 := ha.new 2 (h2 ⟨2, .data⟩ (by simp) rfl) (d := 15) rfl rfl (by simp)
      simp [openVs] at t15
      have hcall := isBoy_any p B.boys.length cap (.int .i64 B.weeks) (.slice q B.trials.length capt) boy w hnb
      rw [hboyT] at hcall
      go_simp
      refine ⟨trivial, rfl, (callsIn_wide.2 hcall).mono ?_⟩
      rintro e w' ⟨rfl, hk⟩
      exact ST.out _ hk
    | 4, ho =>
      have ST := StO.sm (by kernel_rfl) ha hw ho h1 (by decide)
      cases ho
      rw [if_pos (by rfl)]
      have t16 := ha.new 3 (h2 ⟨3, .data⟩ (by simp) rfl) (d := 16) rfl rfl (by simp)
      simp [openVs] at t16
      go_simp
      exact ST.out
    | 5, ho =>
      have ST := StO.sm (by kernel_rfl) ha hw ho h1 (by decide)
      cases ho
      have t17 := ha.new 4 (h2 ⟨4, .guard⟩ (by simp) rfl) (d := 17) rfl rfl (by simp)
      simp [openVs] at t17
      rw [if_neg (by simp [Region.wanted, yielded, getD_bool t17])]
      exact ⟨fun _ _ => trivial, ST.out⟩
    | 6, ho =>
      have ST := StO.sm (by kernel_rfl) ha hw ho h1 (by decide)
      cases ho
      have t17 := ha.new 4 (h2 ⟨4, .guard⟩ (by simp) rfl) (d := 17) rfl rfl (by simp)
      simp [openVs] at t17
      rw [if_neg (by simp [Region.wanted, yielded, getD_bool t17])]
      exact ⟨fun _ _ => trivial, ST.out⟩
    | 7, ho =>
      have ST := StO.sm (by kernel_rfl) ha hw ho h1 (by decide)
      cases ho
      have t17 := ha.new 4 (h2 ⟨4, .guard⟩ (by simp) rfl) (d := 17) rfl rfl (by simp)
      simp [openVs] at t17
      rw [if_neg (by simp [Region.wanted, yielded, getD_bool t17])]
      exact ⟨fun _ _ => trivial, ST.out⟩
    | 8, ho =>
      have ST := StO.sm (by kernel_rfl) ha hw ho h1 (by decide)
      cases ho
      rw [if_pos (by rfl)]
      have t17 := ha.new 4 (h2 ⟨4, .data⟩ (by simp) rfl) (d := 17) rfl rfl (by simp)
      simp [openVs] at t17
      have t20 := ha.new 7 (h2 ⟨7, .data⟩ (by simp) rfl) (d := 20) rfl rfl (by simp)
      simp [openVs] at t20
      go_simp
      exact ST.out
    | 9, ho =>
      have ST := StO.sm (by kernel_rfl) ha hw ho h1 (by decide)
      cases ho
      rw [if_pos (by rfl)]
      have t21 := ha.new 8 (h2 ⟨8, .data⟩ (by simp) rfl) (d := 21) rfl rfl (by simp)
      simp [openVs] at t21
      go_simp
      exact ST.out
    | 10, ho =>
      have ST := StO.sm (by kernel_rfl) ha hw ho h1 (by decide)
      cases ho
      have t22 := ha.new 9 (h2 ⟨9, .guard⟩ (by simp) rfl) (d := 22) rfl rfl (by simp)
      simp [openVs] at t22
      rw [if_neg (by simp [Region.wanted, yielded, getD_bool t22])]
      exact ⟨fun _ _ => trivial, ST.out⟩
    | 11, ho =>
      have ST := StO.sm (by kernel_rfl) ha hw ho h1 (by decide)
      cases ho
      have t22 := ha.new 9 (h2 ⟨9, .guard⟩ (by simp) rfl) (d := 22) rfl rfl (by simp)
      simp [openVs] at t22
      rw [if_neg (by simp [Region.wanted, yielded, getD_bool t22])]
      exact ⟨fun _ _ => trivial, ST.out⟩
    | 12, ho =>
      have ST := StO.sm (by kernel_rfl) ha hw ho h1 (by decide)
      cases ho
      rw [if_pos (by rfl)]
      have t22 := ha.new 9 (h2 ⟨9, .data⟩ (by simp) rfl) (d := 22) rfl rfl (by simp)
      simp [openVs] at t22
      have t24 := ha.new 11 (h2 ⟨11, .data⟩ (by simp) rfl) (d := 24) rfl rfl (by simp)
      simp [openVs] at t24
      go_simp
      exact ST.out
    | 13, ho =>
      obtain ⟨n5, n6, n7, n9, n10⟩ := open_first hcl h1 ⟨_, rfl, ⟨13, .data⟩, by simp, rfl, rfl⟩ ⟨_, rfl, ⟨14, .data⟩, by simp, rfl, rfl⟩ ⟨_, rfl, ⟨14, .data⟩, by simp, rfl, rfl⟩ ⟨_, rfl, ⟨15, .data⟩, by simp, rfl, rfl⟩ ⟨_, rfl, ⟨16, .data⟩, by simp, rfl, rfl⟩
      have st := fun v' err' w' (k : OpenReg W0 B false v' err' pp true (on listed 17) (on listed 18) w') => StO.opened (by kernel_rfl) ha hl ho h1 n5 n6 n7 n9 n10 k
      have ST := Lib.hid st; clear st
      cases ho
      rw [if_pos (by rfl)]
      have t13 := ha.new 0 (h2 ⟨0, .data⟩ (by simp) rfl) (d := 13) rfl rfl (by simp)
      simp [openVs] at t13
      have t25 := ha.new 12 (h2 ⟨12, .data⟩ (by simp) rfl) (d := 25) rfl rfl (by simp)
      simp [openVs] at t25
      have hcall := open_any p q cap capt B false W w h (kept_trans hk0 hw.kept) (hg.kept (kept_trans hk0 hw.kept))
      unfold Book.val at hcall
      have HOP := Lib.hid (fun e w' => hw.opened (e := e) (w' := w') W.heap.size hk0.size n9)
      go_simp
      refine ⟨trivial, rfl, (callsIn_wide.2 hcall).mono ?_⟩
      intro e w' hop
      obtain ⟨v', err', rfl, hr⟩ := HOP.out e w' hop
      exact ST.out v' err' w' hr
    | 14, ho =>
      have ST := StO.sm (by kernel_rfl) ha hw ho h1 (by decide)
      cases ho
      rw [if_pos (by rfl)]
      have t26 := ha.new 13 (h2 ⟨13, .data⟩ (by simp) rfl) (d := 26) rfl rfl (by simp)
      simp [openVs] at t26
      go_simp
      exact ST.out
    | 15, ho =>
      have ST := StO.sm (by kernel_rfl) ha hw ho h1 (by decide)
      cases ho
      rw [if_pos (by rfl)]
      have t12 := ha.new 14 (h2 ⟨14, .data⟩ (by simp) rfl) (d := 12) rfl rfl (by simp)
      simp [openVs] at t12
      go_simp
      exact ST.out
    | 16, ho =>
      have ST := StO.sm (by kernel_rfl) ha hw ho h1 (by decide)
      cases ho
      rw [if_pos (by rfl)]
      have t12 := ha.new 14 (h2 ⟨14, .data⟩ (by simp) rfl) (d := 12) rfl rfl (by simp)
      simp [openVs] at t12
      go_simp
      exact ST.out
    | 17, ho =>
      have n9 : on listed 18 = false := by
        cases hb : on listed 18 with
        | false => rfl
        | true => have := hcl 18 _ rfl hb ⟨17, .data⟩ (by simp) rfl; rw [on_no h1] at this; cases this
      have st := StO.boxed (by kernel_rfl) ha hw hl ho h1 n9
      have ST := Lib.hid st; clear st
      cases ho
      rw [if_pos (by rfl)]
      go_simp
      exact ST.out
    | 18, ho =>
      have y8 : on listed 17 = true := h2 ⟨17, .data⟩ (by cases ho; simp) rfl
      have y4 : on listed 13 = true := h2 ⟨13, .chain⟩ (by cases ho; simp) rfl
      have t10 := ha.new 17 y8 (d := 10) rfl rfl (by simp)
      simp [openVs] at t10
      have t27 := ha.new 15 (h2 ⟨15, .data⟩ (by cases ho; simp) rfl) (d := 27) rfl rfl (by simp)
      simp [openVs] at t27
      obtain ⟨hbp, ⟨f0, f1, f2, f3, b0, b1, b2, b3⟩, hbf⟩ := hw.box y8
      have bf0 := hbf 0
      have bf1 := hbf 1
      have bf2 := hbf 2
      have bf3 := hbf 3
      rcases hw.res y4 with ⟨_, _, he, _⟩ | ⟨rfl, _⟩
      · cases he
      · have st := StO.stored (by kernel_rfl) ha hw hl ho (by cases ho; rfl) h1 y8 (show zeroChoir = _ from rfl)
        have ST := Lib.hid st; clear st
        cases ho
        rw [if_pos (by rfl)]
        unfold zeroChoir at t27
        clear hbf
        go_simp
        exact ST.out
    | 19, ho =>
      have ST := StO.sm (by kernel_rfl) ha hw ho h1 (by decide)
      cases ho
      rw [if_pos (by rfl)]
      have t28 := ha.new 16 (h2 ⟨16, .data⟩ (by simp) rfl) (d := 28) rfl rfl (by simp)
      simp [openVs] at t28
      go_simp
      exact ST.out
  case hend =>
    rintro listed a w hall ⟨v, err, pp, ha, hw⟩
    rw [show on listed 13 = true from hall 13 (by simp), show on listed 17 = true from hall 17 (by simp), show on listed 18 = true from hall 18 (by simp)] at hw
    obtain ⟨y, hy, hae⟩ := ha.lit (n := 36) rfl
    have y1 := (hy 1).symm.trans (ha.old 1 (by kernel_rfl))
    have y6 := (hy 6).symm.trans (ha.old 6 (by kernel_rfl))
    have y7 := (hy 7).symm.trans (ha.old 7 (by kernel_rfl))
    have y8 := (hy 8).symm.trans (ha.old 8 (by kernel_rfl))
    have y9 := (hy 9).symm.trans (ha.old 9 (by kernel_rfl))
    have y10 := (hy 10).symm.trans (ha.new 17 (hall 17 (by simp)) (d := 10) rfl rfl (by simp))
    have y11 := (hy 11).symm.trans (ha.new 19 (hall 19 (by simp)) (d := 11) rfl rfl (by simp))
    simp at y1 y6 y7 y8 y9
    simp [openVs] at y10 y11
    simp only [List.range, List.range.loop, List.map] at hae
    rw [y1, y6, y7, y8, y9, y10, y11] at hae
    subst hae
    clear ha hy y1 y6 y7 y8 y9 y10 y11
    refine (by assumption : ∀ a w, Code.wpIn _ _ _ _ _ a w → _) _ w ?_
    have wk := kcell hw.kept wc
    have wn := kcell hw.kept nc
    obtain ⟨_, x0, x1, x2, x3, hv, b0, b1, b2, b3⟩ := hw.put rfl
    rcases hw.res rfl with ⟨_, _, he, _⟩ | ⟨rfl, herr⟩
    · cases he
    · rcases herr with ⟨rfl, he⟩ | ⟨rfl, he, he2⟩ | ⟨_, _, he, _⟩
      · 
        gi_wp2_with fail
        refine bodyPost_ret (v := .tuple #[.int .i64 0, .int .i64 20]) (by simp [results, Tryz.results19, go_sem]) rfl ?_
        refine ⟨20, rfl, ?_, .inl ⟨rfl, he⟩⟩
        exact kept_trans hk0 hw.kept
      · 
        gi_wp2_with fail
        refine bodyPost_ret (v := .tuple #[.int .i64 0, .int .i64 21]) (by simp [results, Tryz.results19, go_sem]) rfl ?_
        refine ⟨21, rfl, ?_, .inr ⟨rfl, he, rfl⟩⟩
        exact kept_trans hk0 hw.kept
      · cases he
set_option maxHeartbeats 4000000 in
theorem sings_e1 (p q : Option Addr) (cap capt : Nat) (B : Book) (boy week note : Int) (W : World) (h : BookAt W p q cap capt B) (hg : Nothing W) (hboyT : inB boy 0 (B.boys.length - 1) = true) (hweekT : inB week 0 (wrap64 (B.weeks - 1)) = false) :
    Calls Tryz.prog 19 #[B.val p q cap capt, .int .i64 boy, .int .i64 week, .int .i64 note] W (ErrQ B (.int .i64 0) false W) := by
  have hnb := h.nb
  refine callsIn_wide.1 (callsIn_of_wp (n := 0) Tryz.func19 rfl trivial ?_ rfl)
  simp only [Tryz.ntmps19, List.size_toArray, List.length_cons, List.length_nil, Nat.reduceAdd, Nat.reduceSub, Array.replicate_succ, Array.replicate_zero, List.push_toArray, List.append_toArray, List.nil_append, List.cons_append]
  unfold Book.val
  gi_wp2_with fail
  obtain ⟨hk0, a0c, a1c, a2c⟩ := bk2 W p q cap capt B (Obj.cells #[.int .i64 week] 3) (Obj.cells #[.int .i64 note] 3)
  have wc : (((W.alloc (Obj.cells #[.slice p B.boys.length cap, .int .i64 B.weeks, .slice q B.trials.length capt] 25)).alloc (Obj.cells #[.int .i64 week] 3)).alloc (Obj.cells #[.int .i64 note] 3)).cell? ⟨W.heap.size + 1, 0, none⟩ = some (.int .i64 week) := by go_simp
  have nc : (((W.alloc (Obj.cells #[.slice p B.boys.length cap, .int .i64 B.weeks, .slice q B.trials.length capt] 25)).alloc (Obj.cells #[.int .i64 week] 3)).alloc (Obj.cells #[.int .i64 note] 3)).cell? ⟨W.heap.size + 1 + 1, 0, none⟩ = some (.int .i64 note) := by go_simp
  generalize (((W.alloc (Obj.cells #[.slice p B.boys.length cap, .int .i64 B.weeks, .slice q B.trials.length capt] 25)).alloc (Obj.cells #[.int .i64 week] 3)).alloc (Obj.cells #[.int .i64 note] 3)) = W0 at *
  refine wpIn_region_invL (StO 13 (fun j => match j with | 0 => (.agg #[.slice p B.boys.length cap, .int .i64 B.weeks, .slice q B.trials.length capt]) | 1 => (.agg #[.slice p B.boys.length cap, .int .i64 B.weeks, .slice q B.trials.length capt]) | 2 => .int .i64 boy | 3 => .bool true | 4 => .bool true | 5 => (.agg #[.slice p B.boys.length cap, .int .i64 B.weeks, .slice q B.trials.length capt]) | 6 => .int .i64 week | 7 => .bool false | 8 => .bool false | 9 => .bool false | 10 => undef | 11 => undef | 12 => .bool false | _ => undef) W0 B false) (by kernel_rfl) (by kernel_rfl) StO.start ?hop ?hend
  case hop =>
    rintro i o listed a w hl ho h1 h2 hcl ⟨v, err, pp, ha, hw⟩
    have hi11 : i < 20 := (List.getElem?_eq_some_iff.1 ho).1
    match i, ho with
    | 0, ho =>
      have ST := StO.sm (by kernel_rfl) ha hw ho h1 (by decide)
      cases ho
      rw [if_pos (by rfl)]
      have t4 := ha.old 4 (by kernel_rfl)
      simp at t4
      have r0 := kcell hw.kept a0c
      have r1 := kcell hw.kept a1c
      have r2 := kcell hw.kept a2c
      go_simp
      exact ST.out
    | 1, ho =>
      have ST := StO.sm (by kernel_rfl) ha hw ho h1 (by decide)
      cases ho
      rw [if_pos (by rfl)]
      have t4 := ha.old 4 (by kernel_rfl)
      simp at t4
      have r0 := kcell hw.kept a0c
      have r1 := kcell hw.kept a1c
      have r2 := kcell hw.kept a2c
      go_simp
      exact ST.out
    | 2, ho =>
      have ST := StO.sm (by kernel_rfl) ha hw ho h1 (by decide)
      cases ho
      rw [if_pos (by rfl)]
      have t1 := ha.old 1 (by kernel_rfl)
      simp at t1
      go_simp
      exact ST.out
    | 3, ho =>
      have st := fun w' (k : Kept w w') => StO.same (by kernel_rfl) ha hw ho h1 (by omega) (by omega) (by omega) k
      have ST := Lib.hid st; clear st
      cases ho
      rw [if_pos (by rfl)]
      have t14 := ha.new 1 (h2 ⟨1, .data⟩ (by simp) rfl) (d := 14) rfl rfl (by simp)
      simp [openVs] at t14
      have t15 := ha.new 2 (h2 ⟨2, .data⟩ (by simp) rfl) (d := 15) rfl rfl (by simp)
      simp [openVs] at t15
      have hcall := isBoy_any p B.boys.length cap (.int .i64 B.weeks) (.slice q B.trials.length capt) boy w hnb
      rw [hboyT] at hcall
      go_simp
      refine ⟨trivial, rfl, (callsIn_wide.2 hcall).mono ?_⟩
      rintro e w' ⟨rfl, hk⟩
      exact ST.out _ hk
    | 4, ho =>
      have ST := StO.sm (by kernel_rfl) ha hw ho h1 (by decide)
      cases ho
      rw [if_pos (by rfl)]
      have t16 := ha.new 3 (h2 ⟨3, .data⟩ (by simp) rfl) (d := 16) rfl rfl (by simp)
      simp [openVs] at t16
      go_simp
      exact ST.out
    | 5, ho =>
      have ST := StO.sm (by kernel_rfl) ha hw ho h1 (by decide)
      cases ho
      have t17 := ha.new 4 (h2 ⟨4, .guard⟩ (by simp) rfl) (d := 17) rfl rfl (by simp)
      simp [openVs] at t17
      rw [if_pos (by simp [Region.wanted, yielded, getD_bool t17])]
      have t4 := ha.old 4 (by kernel_rfl)
      simp at t4
      have r0 := kcell hw.kept a0c
      have r1 := kcell hw.kept a1c
      have r2 := kcell hw.kept a2c
      go_simp
      exact ST.out
    | 6, ho =>
      have ST := StO.sm (by kernel_rfl) ha hw ho h1 (by decide)
      cases ho
      have t17 := ha.new 4 (h2 ⟨4, .guard⟩ (by simp) rfl) (d := 17) rfl rfl (by simp)
      simp [openVs] at t17
      rw [if_pos (by simp [Region.wanted, yielded, getD_bool t17])]
      have t6 := ha.old 6 (by kernel_rfl)
      simp at t6
      have rw0 := kcell hw.kept wc
      go_simp
      exact ST.out
    | 7, ho =>
      have st := fun w' (k : Kept w w') => StO.same (by kernel_rfl) ha hw ho h1 (by omega) (by omega) (by omega) k
      have ST := Lib.hid st; clear st
      cases ho
      have t17 := ha.new 4 (h2 ⟨4, .guard⟩ (by simp) rfl) (d := 17) rfl rfl (by simp)
      simp [openVs] at t17
      rw [if_pos (by simp [Region.wanted, yielded, getD_bool t17])]
      have t18 := ha.new 5 (h2 ⟨5, .data⟩ (by simp) rfl) (d := 18) rfl rfl (by simp)
      simp [openVs] at t18
      have t19 := ha.new 6 (h2 ⟨6, .data⟩ (by simp) rfl) (d := 19) rfl rfl (by simp)
      simp [openVs] at t19
      have hcall := isWeek_gen (.slice p B.boys.length cap) (.slice q B.trials.length capt) B.weeks week w
      rw [hweekT] at hcall
      go_simp
      refine ⟨trivial, rfl, (callsIn_wide.2 hcall).mono ?_⟩
      rintro e w' ⟨rfl, hk⟩
      exact ST.out _ hk
    | 8, ho =>
      have ST := StO.sm (by kernel_rfl) ha hw ho h1 (by decide)
      cases ho
      rw [if_pos (by rfl)]
      have t17 := ha.new 4 (h2 ⟨4, .data⟩ (by simp) rfl) (d := 17) rfl rfl (by simp)
      simp [openVs] at t17
      have t20 := ha.new 7 (h2 ⟨7, .data⟩ (by simp) rfl) (d := 20) rfl rfl (by simp)
      simp [openVs] at t20
      go_simp
      exact ST.out
    | 9, ho =>
      have ST := StO.sm (by kernel_rfl) ha hw ho h1 (by decide)
      cases ho
      rw [if_pos (by rfl)]
      have t21 := ha.new 8 (h2 ⟨8, .data⟩ (by simp) rfl) (d := 21) rfl rfl (by simp)
      simp [openVs] at t21
      go_simp
      exact ST.out
    | 10, ho =>
      have ST := StO.sm (by kernel_rfl) ha hw ho h1 (by decide)
      cases ho
      have t22 := ha.new 9 (h2 ⟨9, .guard⟩ (by simp) rfl) (d := 22) rfl rfl (by simp)
      simp [openVs] at t22
      rw [if_neg (by simp [Region.wanted, yielded, getD_bool t22])]
      exact ⟨fun _ _ => trivial, ST.out⟩
    | 11, ho =>
      have ST := StO.sm (by kernel_rfl) ha hw ho h1 (by decide)
      cases ho
      have t22 := ha.new 9 (h2 ⟨9, .guard⟩ (by simp) rfl) (d := 22) rfl rfl (by simp)
      simp [openVs] at t22
      rw [if_neg (by simp [Region.wanted, yielded, getD_bool t22])]
      exact ⟨fun _ _ => trivial, ST.out⟩
    | 12, ho =>
      have ST := StO.sm (by kernel_rfl) ha hw ho h1 (by decide)
      cases ho
      rw [if_pos (by rfl)]
      have t22 := ha.new 9 (h2 ⟨9, .data⟩ (by simp) rfl) (d := 22) rfl rfl (by simp)
      simp [openVs] at t22
      have t24 := ha.new 11 (h2 ⟨11, .data⟩ (by simp) rfl) (d := 24) rfl rfl (by simp)
      simp [openVs] at t24
      go_simp
      exact ST.out
    | 13, ho =>
      obtain ⟨n5, n6, n7, n9, n10⟩ := open_first hcl h1 ⟨_, rfl, ⟨13, .data⟩, by simp, rfl, rfl⟩ ⟨_, rfl, ⟨14, .data⟩, by simp, rfl, rfl⟩ ⟨_, rfl, ⟨14, .data⟩, by simp, rfl, rfl⟩ ⟨_, rfl, ⟨15, .data⟩, by simp, rfl, rfl⟩ ⟨_, rfl, ⟨16, .data⟩, by simp, rfl, rfl⟩
      have st := fun v' err' w' (k : OpenReg W0 B false v' err' pp true (on listed 17) (on listed 18) w') => StO.opened (by kernel_rfl) ha hl ho h1 n5 n6 n7 n9 n10 k
      have ST := Lib.hid st; clear st
      cases ho
      rw [if_pos (by rfl)]
      have t13 := ha.new 0 (h2 ⟨0, .data⟩ (by simp) rfl) (d := 13) rfl rfl (by simp)
      simp [openVs] at t13
      have t25 := ha.new 12 (h2 ⟨12, .data⟩ (by simp) rfl) (d := 25) rfl rfl (by simp)
      simp [openVs] at t25
      have hcall := open_any p q cap capt B false W w h (kept_trans hk0 hw.kept) (hg.kept (kept_trans hk0 hw.kept))
      unfold Book.val at hcall
      have HOP := Lib.hid (fun e w' => hw.opened (e := e) (w' := w') W.heap.size hk0.size n9)
      go_simp
      refine ⟨trivial, rfl, (callsIn_wide.2 hcall).mono ?_⟩
      intro e w' hop
      obtain ⟨v', err', rfl, hr⟩ := HOP.out e w' hop
      exact ST.out v' err' w' hr
    | 14, ho =>
      have ST := StO.sm (by kernel_rfl) ha hw ho h1 (by decide)
      cases ho
      rw [if_pos (by rfl)]
      have t26 := ha.new 13 (h2 ⟨13, .data⟩ (by simp) rfl) (d := 26) rfl rfl (by simp)
      simp [openVs] at t26
      go_simp
      exact ST.out
    | 15, ho =>
      have ST := StO.sm (by kernel_rfl) ha hw ho h1 (by decide)
      cases ho
      rw [if_pos (by rfl)]
      have t12 := ha.new 14 (h2 ⟨14, .data⟩ (by simp) rfl) (d := 12) rfl rfl (by simp)
      simp [openVs] at t12
      go_simp
      exact ST.out
    | 16, ho =>
      have ST := StO.sm (by kernel_rfl) ha hw ho h1 (by decide)
      cases ho
      rw [if_pos (by rfl)]
      have t12 := ha.new 14 (h2 ⟨14, .data⟩ (by simp) rfl) (d := 12) rfl rfl (by simp)
      simp [openVs] at t12
      go_simp
      exact ST.out
    | 17, ho =>
      have n9 : on listed 18 = false := by
        cases hb : on listed 18 with
        | false => rfl
        | true => have := hcl 18 _ rfl hb ⟨17, .data⟩ (by simp) rfl; rw [on_no h1] at this; cases this
      have st := StO.boxed (by kernel_rfl) ha hw hl ho h1 n9
      have ST := Lib.hid st; clear st
      cases ho
      rw [if_pos (by rfl)]
      go_simp
      exact ST.out
    | 18, ho =>
      have y8 : on listed 17 = true := h2 ⟨17, .data⟩ (by cases ho; simp) rfl
      have y4 : on listed 13 = true := h2 ⟨13, .chain⟩ (by cases ho; simp) rfl
      have t10 := ha.new 17 y8 (d := 10) rfl rfl (by simp)
      simp [openVs] at t10
      have t27 := ha.new 15 (h2 ⟨15, .data⟩ (by cases ho; simp) rfl) (d := 27) rfl rfl (by simp)
      simp [openVs] at t27
      obtain ⟨hbp, ⟨f0, f1, f2, f3, b0, b1, b2, b3⟩, hbf⟩ := hw.box y8
      have bf0 := hbf 0
      have bf1 := hbf 1
      have bf2 := hbf 2
      have bf3 := hbf 3
      rcases hw.res y4 with ⟨_, _, he, _⟩ | ⟨rfl, _⟩
      · cases he
      · have st := StO.stored (by kernel_rfl) ha hw hl ho (by cases ho; rfl) h1 y8 (show zeroChoir = _ from rfl)
        have ST := Lib.hid st; clear st
        cases ho
        rw [if_pos (by rfl)]
        unfold zeroChoir at t27
        clear hbf
        go_simp
        exact ST.out
    | 19, ho =>
      have ST := StO.sm (by kernel_rfl) ha hw ho h1 (by decide)
      cases ho
      rw [if_pos (by rfl)]
      have t28 := ha.new 16 (h2 ⟨16, .data⟩ (by simp) rfl) (d := 28) rfl rfl (by simp)
      simp [openVs] at t28
      go_simp
      exact ST.out
  case hend =>
    rintro listed a w hall ⟨v, err, pp, ha, hw⟩
    rw [show on listed 13 = true from hall 13 (by simp), show on listed 17 = true from hall 17 (by simp), show on listed 18 = true from hall 18 (by simp)] at hw
    obtain ⟨y, hy, hae⟩ := ha.lit (n := 36) rfl
    have y1 := (hy 1).symm.trans (ha.old 1 (by kernel_rfl))
    have y6 := (hy 6).symm.trans (ha.old 6 (by kernel_rfl))
    have y7 := (hy 7).symm.trans (ha.old 7 (by kernel_rfl))
    have y8 := (hy 8).symm.trans (ha.old 8 (by kernel_rfl))
    have y9 := (hy 9).symm.trans (ha.old 9 (by kernel_rfl))
    have y10 := (hy 10).symm.trans (ha.new 17 (hall 17 (by simp)) (d := 10) rfl rfl (by simp))
    have y11 := (hy 11).symm.trans (ha.new 19 (hall 19 (by simp)) (d := 11) rfl rfl (by simp))
    simp at y1 y6 y7 y8 y9
    simp [openVs] at y10 y11
    simp only [List.range, List.range.loop, List.map] at hae
    rw [y1, y6, y7, y8, y9, y10, y11] at hae
    subst hae
    clear ha hy y1 y6 y7 y8 y9 y10 y11
    refine (by assumption : ∀ a w, Code.wpIn _ _ _ _ _ a w → _) _ w ?_
    have wk := kcell hw.kept wc
    have wn := kcell hw.kept nc
    obtain ⟨_, x0, x1, x2, x3, hv, b0, b1, b2, b3⟩ := hw.put rfl
    rcases hw.res rfl with ⟨_, _, he, _⟩ | ⟨rfl, herr⟩
    · cases he
    · rcases herr with ⟨rfl, he⟩ | ⟨rfl, he, he2⟩ | ⟨_, _, he, _⟩
      · 
        gi_wp2_with fail
        refine bodyPost_ret (v := .tuple #[.int .i64 0, .int .i64 20]) (by simp [results, Tryz.results19, go_sem]) rfl ?_
        refine ⟨20, rfl, ?_, .inl ⟨rfl, he⟩⟩
        exact kept_trans hk0 hw.kept
      · 
        gi_wp2_with fail
        refine bodyPost_ret (v := .tuple #[.int .i64 0, .int .i64 21]) (by simp [results, Tryz.results19, go_sem]) rfl ?_
        refine ⟨21, rfl, ?_, .inr ⟨rfl, he, rfl⟩⟩
        exact kept_trans hk0 hw.kept
      · cases he
end Go.Proofs.YthkcgengohoboaaGreatDoor
