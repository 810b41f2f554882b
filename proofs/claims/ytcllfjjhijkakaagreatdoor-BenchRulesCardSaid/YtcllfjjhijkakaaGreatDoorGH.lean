/- A part of the proof: contracts of the program's functions for every input. No conditions. -/
import Derived.Test.YtcllfjjhijkakaaGreatDoorGG
import Derived.Test.YtcllfjjhijkakaaGreatDoorGF
import Derived.Test.YtcllfjjhijkakaaGreatDoorGD
import Derived.Test.YtcllfjjhijkakaaGreatDoorGC
set_option linter.all false
namespace Go.Proofs.YtcllfjjhijkakaaGreatDoor
open Go.RowKit Go.Sort Go.Rg
set_option maxRecDepth 100000
set_option maxHeartbeats 4000000
attribute [local go_sem] Oper.semAt_some
theorem eql0 (W : World) : (Op.equalIn 10000 162 (.agg #[.int .i64 0, .int .i64 0, .int .i64 0, .int .i64 0]) (.agg #[.int .i64 0, .int .i64 0, .int .i64 0, .int .i64 0])).run Tryz.prog W = .ok true W := by kernel_rfl
theorem eql1 (k : Nat) (b c d : Int) (W : World) : (Op.equalIn 10000 162 (.agg #[.int .i64 ((k + 1 : Nat) : Int), .int .i64 b, .int .i64 c, .int .i64 d]) (.agg #[.int .i64 0, .int .i64 0, .int .i64 0, .int .i64 0])).run Tryz.prog W = .ok false W := by kernel_rfl
theorem eql2 (k : Nat) (c d : Int) (W : World) : (Op.equalIn 10000 162 (.agg #[.int .i64 0, .int .i64 ((k + 1 : Nat) : Int), .int .i64 c, .int .i64 d]) (.agg #[.int .i64 0, .int .i64 0, .int .i64 0, .int .i64 0])).run Tryz.prog W = .ok false W := by kernel_rfl
theorem eql3 (k : Nat) (d : Int) (W : World) : (Op.equalIn 10000 162 (.agg #[.int .i64 0, .int .i64 0, .int .i64 ((k + 1 : Nat) : Int), .int .i64 d]) (.agg #[.int .i64 0, .int .i64 0, .int .i64 0, .int .i64 0])).run Tryz.prog W = .ok false W := by kernel_rfl
theorem eql4 (k : Nat) (W : World) : (Op.equalIn 10000 162 (.agg #[.int .i64 0, .int .i64 0, .int .i64 0, .int .i64 ((k + 1 : Nat) : Int)]) (.agg #[.int .i64 0, .int .i64 0, .int .i64 0, .int .i64 0])).run Tryz.prog W = .ok false W := by kernel_rfl
theorem eqLoad (a b c d : Int) (W : World) (ha : 0 ≤ a) (hb : 0 ≤ b) (hc : 0 ≤ c) (hd : 0 ≤ d) : (Op.equalIn 10000 162 (.agg #[.int .i64 a, .int .i64 b, .int .i64 c, .int .i64 d]) (.agg #[.int .i64 0, .int .i64 0, .int .i64 0, .int .i64 0])).run Tryz.prog W = .ok (a == 0 && b == 0 && c == 0 && d == 0) W := by
 obtain ⟨a, rfl⟩ := Int.eq_ofNat_of_zero_le ha
 obtain ⟨b, rfl⟩ := Int.eq_ofNat_of_zero_le hb
 obtain ⟨c, rfl⟩ := Int.eq_ofNat_of_zero_le hc
 obtain ⟨d, rfl⟩ := Int.eq_ofNat_of_zero_le hd
 cases a with
 | succ a => rw [eql1]; congr 1
 | zero =>
  cases b with
  | succ b => exact (eql2 b c d W).trans (by congr 1)
  | zero =>
   cases c with
   | succ c => exact (eql3 c d W).trans (by congr 1)
   | zero =>
    cases d with
    | succ d => exact (eql4 d W).trans (by congr 1)
    | zero => exact (eql0 W).trans (by congr 1)
def tooB (X : BBook) (l : List Seat) (n : Seat) : Bool := !(ov (countL X (l ++ [n]) (weekOf X n.piece) 0) X.most == 0 && ov (countL X (l ++ [n]) (weekOf X n.piece) 1) X.most == 0 && ov (countL X (l ++ [n]) (weekOf X n.piece) 2) X.most == 0 && ov (countL X (l ++ [n]) (weekOf X n.piece) 3) X.most == 0)
theorem singsTooMuch_any (X : BBook) (m : Nat) (out v : Value) (l : List Seat) (p bo : Nat) (k : Int) (x : Piece) (w : World) (h : BBookAt w X) (hmo : 1 ≤ X.most ∧ X.most ≤ 3) (hr : ∀ i, i < 4 → w.cell? ⟨2, i, none⟩ = some (.int .i64 0)) (hT : SeatsIs w v l) (hn : l.length ≤ 30) (hok : ∀ s ∈ l, SeatOk X s) (hx : X.pieces[p]? = some x) (hb : bo < 4) :
  Calls Tryz.prog 82 #[X.sval m out, v, .agg #[.int .i64 (p : Int), .int .i64 k, .int .i64 (bo : Int)]] w fun e w' => e = .returned (.bool (tooB X l ⟨(p : Int), k, (bo : Int)⟩)) ∧ Kept w w' := by
 have hk0 : Kept w ((w.alloc (Obj.cells #[.slice X.p X.B.boys.length X.cap, .int .i64 X.B.weeks, .slice X.q X.B.trials.length X.capt, .slice X.r X.pieces.length X.capp, .int .i64 X.most, .map (some m), out] 74)).alloc (Obj.cells #[.int .i64 (p : Int), .int .i64 k, .int .i64 (bo : Int)] 68)) := kept_alloc (kept_alloc (kept_refl _) _) _
 have ZZ : ∀ Z, Z = ((w.alloc (Obj.cells #[.slice X.p X.B.boys.length X.cap, .int .i64 X.B.weeks, .slice X.q X.B.trials.length X.capt, .slice X.r X.pieces.length X.capp, .int .i64 X.most, .map (some m), out] 74)).alloc (Obj.cells #[.int .i64 (p : Int), .int .i64 k, .int .i64 (bo : Int)] 68)) → Z.cell? ⟨w.heap.size, 0, none⟩ = some (.slice X.p X.B.boys.length X.cap) ∧ Z.cell? ⟨w.heap.size, 1, none⟩ = some (.int .i64 X.B.weeks) ∧ Z.cell? ⟨w.heap.size, 2, none⟩ = some (.slice X.q X.B.trials.length X.capt) ∧ Z.cell? ⟨w.heap.size, 3, none⟩ = some (.slice X.r X.pieces.length X.capp) ∧ Z.cell? ⟨w.heap.size, 4, none⟩ = some (.int .i64 X.most) ∧ Z.cell? ⟨w.heap.size, 5, none⟩ = some (.map (some m)) ∧ Z.cell? ⟨w.heap.size, 6, none⟩ = some (out) ∧ Z.cell? ⟨w.heap.size + 1, 0, none⟩ = some (.int .i64 (p : Int)) ∧ Z.cell? ⟨w.heap.size + 1, 1, none⟩ = some (.int .i64 k) ∧ Z.cell? ⟨w.heap.size + 1, 2, none⟩ = some (.int .i64 (bo : Int)) := by rintro _ rfl; refine ⟨?_, ?_, ?_, ?_, ?_, ?_, ?_, ?_, ?_, ?_⟩ <;> go_simp
 obtain ⟨a0, a1, a2, a3, a4, a5, a6, s0, s1, s2⟩ := ZZ _ rfl; clear ZZ
 have hwk : weekOf X (p : Int) = x.week := by unfold weekOf; rw [Int.toNat_natCast, hx]
 have HLD := Lib.hid (fun V (kk : Kept w V) => load_any X m out v l x.week V (h.kept kk) (hT.kept kk) hn hok)
 obtain ⟨b, o, hrr, hbz, p0, p1, _⟩ := piece_cells h hx
 have hpl : p < X.pieces.length := (List.getElem?_eq_some_iff.1 hx).1
 have hplI : (p : Int) < X.pieces.length := by omega
 have hp0I : (0 : Int) ≤ p := by omega
 obtain ⟨pv, cap, rfl⟩ := hT.len
 have hres : tooB X l ⟨(p : Int), k, (bo : Int)⟩ = !(ov ((countL X l x.week 0 : Int) + (if 0 = bo then 1 else 0)) X.most == 0 && ov ((countL X l x.week 1 : Int) + (if 1 = bo then 1 else 0)) X.most == 0 && ov ((countL X l x.week 2 : Int) + (if 2 = bo then 1 else 0)) X.most == 0 && ov ((countL X l x.week 3 : Int) + (if 3 = bo then 1 else 0)) X.most == 0) := by
  unfold tooB
  simp only [countL_snoc, hwk, true_and]
  have e : ∀ i : Nat, (((if (bo : Int) = (i : Int) then 1 else 0 : Nat)) : Int) = if i = bo then 1 else 0 := fun i => by
   by_cases e : i = bo
   ·subst e; simp
   ·rw [if_neg (by omega), if_neg e]; rfl
  have e0 := e 0
  have e1 := e 1
  have e2 := e 2
  have e3 := e 3
  push_cast at e0 e1 e2 e3 ⊢
  rw [e0, e1, e2, e3]
 have c0 : countL X l x.week 0 ≤ 30 := Nat.le_trans (countL_le _ _ _ _) hn
 have c1 : countL X l x.week 1 ≤ 30 := Nat.le_trans (countL_le _ _ _ _) hn
 have c2 : countL X l x.week 2 ≤ 30 := Nat.le_trans (countL_le _ _ _ _) hn
 have c3 : countL X l x.week 3 ≤ 30 := Nat.le_trans (countL_le _ _ _ _) hn
 unfold loadV at HLD
 generalize countL X l x.week 0 = q0 at *
 generalize countL X l x.week 1 = q1 at *
 generalize countL X l x.week 2 = q2 at *
 generalize countL X l x.week 3 = q3 at *
 have HRES := Lib.hid hres; clear hres
 generalize tooB X l ⟨(p : Int), k, (bo : Int)⟩ = res at *
 have HREST := Lib.hid hr
 have HRR := Lib.hid hrr; clear hrr hr h hT hx hok hwk p1
 unfold BBook.sval at *
 replace p0 := kcell hk0 p0
 go_enter Tryz.func82, Tryz.ntmps82
 go_wp2_with fail
 generalize ((w.alloc (Obj.cells #[.slice X.p X.B.boys.length X.cap, .int .i64 X.B.weeks, .slice X.q X.B.trials.length X.capt, .slice X.r X.pieces.length X.capp, .int .i64 X.most, .map (some m), out] 74)).alloc (Obj.cells #[.int .i64 (p : Int), .int .i64 k, .int .i64 (bo : Int)] 68)) = W0 at *
 refine (wpIn_wide (n := 0)).1 (wpIn_region_invL (StG (Locs W0 (fun j : Nat => match j with | 0 => .agg #[.slice X.p X.B.boys.length X.cap, .int .i64 X.B.weeks, .slice X.q X.B.trials.length X.capt, .slice X.r X.pieces.length X.capp, .int .i64 X.most, .map (some m), out] | 1 => .slice pv l.length cap | 2 => .pointer (some ⟨w.heap.size, 0, none⟩) | 3 => .pointer (some ⟨w.heap.size, 3, none⟩) | 4 => .slice (some ⟨b, o, none⟩) X.pieces.length X.capp | 5 => .pointer (some ⟨w.heap.size + 1, 0, none⟩) | 6 => .int .i64 (p : Int) | 7 => .pointer (some ⟨b, o + p * 2, none⟩) | 8 => .pointer (some ⟨b, o + p * 2, none⟩) | 9 => .int .i64 x.week | 10 => .agg #[.int .i64 (q0 : Int), .int .i64 (q1 : Int), .int .i64 (q2 : Int), .int .i64 (q3 : Int)] | _ => undef) [⟨11, 12, [.int .i64 0, .int .i64 0, .int .i64 0, .int .i64 0], [.int .i64 (q0 : Int), .int .i64 (q1 : Int), .int .i64 (q2 : Int), .int .i64 (q3 : Int)]⟩])) (by kernel_rfl) (by kernel_rfl) (StG.start Locs.start) ?hop ?hend)
 case hop =>
  rintro i o listed a w hl ho h1 h2 hcl ⟨vs, ha, hI⟩
  have hi11 : i < 13 := (List.getElem?_eq_some_iff.1 ho).1
  match i, ho with
  | 0, ho =>
   have st := StG.step (by kernel_rfl) ha hl ho h1 (hI.pure 0 (by kernel_rfl) (by simp) (kept_refl w))
   have ST := Lib.hid st; clear st
   cases ho
   rw [if_pos (by rfl)]
   have t3 := ha.old 3 (by kernel_rfl)
   simp at t3
   have ra0 := kcell hI.kept a0
   have ra1 := kcell hI.kept a1
   have ra2 := kcell hI.kept a2
   have ra3 := kcell hI.kept a3
   have ra4 := kcell hI.kept a4
   have ra5 := kcell hI.kept a5
   have ra6 := kcell hI.kept a6
   have HI := Lib.hid hI; clear hI
   go_simp
   exact ST.out
  | 1, ho =>
   have st := StG.step (by kernel_rfl) ha hl ho h1 (hI.pure 1 (by kernel_rfl) (by simp) (kept_refl w))
   have ST := Lib.hid st; clear st
   cases ho
   rw [if_pos (by rfl)]
   have t1 := ha.old 1 (by kernel_rfl)
   simp at t1
   have HI := Lib.hid hI; clear hI
   go_simp
   exact ST.out
  | 2, ho =>
   have st := StG.step (by kernel_rfl) ha hl ho h1 (hI.pure 2 (by kernel_rfl) (by simp) (kept_refl w))
   have ST := Lib.hid st; clear st
   cases ho
   rw [if_pos (by rfl)]
   have t3 := ha.old 3 (by kernel_rfl)
   simp at t3
   have HI := Lib.hid hI; clear hI
   go_simp
   exact ST.out
  | 3, ho =>
   have st := StG.step (by kernel_rfl) ha hl ho h1 (hI.pure 3 (by kernel_rfl) (by simp) (kept_refl w))
   have ST := Lib.hid st; clear st
   cases ho
   rw [if_pos (by rfl)]
   have t10 := (ha.new 2 (h2 ⟨2, .data⟩ (by simp) rfl) (d := 10) rfl rfl (by simp)).trans (hI.val 2 (h2 ⟨2, .data⟩ (by simp) rfl) (by kernel_rfl))
   simp at t10
   have HI := Lib.hid hI; clear hI
   go_simp
   exact ST.out
  | 4, ho =>
   have st := StG.step (by kernel_rfl) ha hl ho h1 (hI.pure 4 (by kernel_rfl) (by simp) (kept_refl w))
   have ST := Lib.hid st; clear st
   cases ho
   rw [if_pos (by rfl)]
   have t11 := (ha.new 3 (h2 ⟨3, .data⟩ (by simp) rfl) (d := 11) rfl rfl (by simp)).trans (hI.val 3 (h2 ⟨3, .data⟩ (by simp) rfl) (by kernel_rfl))
   simp at t11
   have ra3 := kcell hI.kept a3
   rw [HRR.out] at ra3
   have HI := Lib.hid hI; clear hI
   go_simp
   exact ST.out
  | 5, ho =>
   have st := StG.step (by kernel_rfl) ha hl ho h1 (hI.pure 5 (by kernel_rfl) (by simp) (kept_refl w))
   have ST := Lib.hid st; clear st
   cases ho
   rw [if_pos (by rfl)]
   have t5 := ha.old 5 (by kernel_rfl)
   simp at t5
   have HI := Lib.hid hI; clear hI
   go_simp
   exact ST.out
  | 6, ho =>
   have st := StG.step (by kernel_rfl) ha hl ho h1 (hI.pure 6 (by kernel_rfl) (by simp) (kept_refl w))
   have ST := Lib.hid st; clear st
   cases ho
   rw [if_pos (by rfl)]
   have t13 := (ha.new 5 (h2 ⟨5, .data⟩ (by simp) rfl) (d := 13) rfl rfl (by simp)).trans (hI.val 5 (h2 ⟨5, .data⟩ (by simp) rfl) (by kernel_rfl))
   simp at t13
   have rs0 := kcell hI.kept s0
   have rs1 := kcell hI.kept s1
   have rs2 := kcell hI.kept s2
   have HI := Lib.hid hI; clear hI
   go_simp
   exact ST.out
  | 7, ho =>
   have st := StG.step (by kernel_rfl) ha hl ho h1 (hI.pure 7 (by kernel_rfl) (by simp) (kept_refl w))
   have ST := Lib.hid st; clear st
   cases ho
   rw [if_pos (by rfl)]
   have t12 := (ha.new 4 (h2 ⟨4, .data⟩ (by simp) rfl) (d := 12) rfl rfl (by simp)).trans (hI.val 4 (h2 ⟨4, .data⟩ (by simp) rfl) (by kernel_rfl))
   simp at t12
   have t14 := (ha.new 6 (h2 ⟨6, .data⟩ (by simp) rfl) (d := 14) rfl rfl (by simp)).trans (hI.val 6 (h2 ⟨6, .data⟩ (by simp) rfl) (by kernel_rfl))
   simp at t14
   have HI := Lib.hid hI; clear hI
   go_simp
   exact ST.out
  | 8, ho =>
   have st := StG.step (by kernel_rfl) ha hl ho h1 (hI.pure 8 (by kernel_rfl) (by simp) (kept_refl w))
   have ST := Lib.hid st; clear st
   cases ho
   rw [if_pos (by rfl)]
   have t15 := (ha.new 7 (h2 ⟨7, .data⟩ (by simp) rfl) (d := 15) rfl rfl (by simp)).trans (hI.val 7 (h2 ⟨7, .data⟩ (by simp) rfl) (by kernel_rfl))
   simp at t15
   have HI := Lib.hid hI; clear hI
   go_simp
   exact ST.out
  | 9, ho =>
   have st := StG.step (by kernel_rfl) ha hl ho h1 (hI.pure 9 (by kernel_rfl) (by simp) (kept_refl w))
   have ST := Lib.hid st; clear st
   cases ho
   rw [if_pos (by rfl)]
   have t16 := (ha.new 8 (h2 ⟨8, .data⟩ (by simp) rfl) (d := 16) rfl rfl (by simp)).trans (hI.val 8 (h2 ⟨8, .data⟩ (by simp) rfl) (by kernel_rfl))
   simp at t16
   have rp0 := kcell hI.kept p0
   have HI := Lib.hid hI; clear hI
   go_simp
   exact ST.out
  | 10, ho =>
   have st := fun w' (kk : Kept w w') => StG.step (by kernel_rfl) ha hl ho h1 (hI.pure 10 (by kernel_rfl) (by simp) kk)
   have ST := Lib.hid st; clear st
   cases ho
   rw [if_pos (by rfl)]
   have t8 := (ha.new 0 (h2 ⟨0, .data⟩ (by simp) rfl) (d := 8) rfl rfl (by simp)).trans (hI.val 0 (h2 ⟨0, .data⟩ (by simp) rfl) (by kernel_rfl))
   simp at t8
   have t9 := (ha.new 1 (h2 ⟨1, .data⟩ (by simp) rfl) (d := 9) rfl rfl (by simp)).trans (hI.val 1 (h2 ⟨1, .data⟩ (by simp) rfl) (by kernel_rfl))
   simp at t9
   have t17 := (ha.new 9 (h2 ⟨9, .data⟩ (by simp) rfl) (d := 17) rfl rfl (by simp)).trans (hI.val 9 (h2 ⟨9, .data⟩ (by simp) rfl) (by kernel_rfl))
   simp at t17
   have hcall := HLD.out w (kept_trans hk0 hI.kept)
   have HCL := Lib.hid hcall; clear hcall
   have HI := Lib.hid hI; clear hI
   go_simp
   refine ⟨trivial, rfl, (callsIn_wide.2 HCL.out).mono ?_⟩
   rintro e w' ⟨rfl, hk⟩
   exact ST.out _ hk
  | 11, ho =>
   have nst : on listed 12 = false := by
    cases hb : on listed 12 with
    | false => rfl
    | true => have := hcl 12 _ rfl hb ⟨11, .data⟩ (by simp) rfl; rw [on_no h1] at this; cases this
   have st := StG.step (by kernel_rfl) ha hl ho h1 (hI.laid ⟨11, 12, [.int .i64 0, .int .i64 0, .int .i64 0, .int .i64 0], [.int .i64 (q0 : Int), .int .i64 (q1 : Int), .int .i64 (q2 : Int), .int .i64 (q3 : Int)]⟩ (by simp) (by simp) (by simp) nst 162)
   have ST := Lib.hid st; clear st
   have HI := Lib.hid hI; clear hI
   cases ho
   rw [if_pos (by rfl)]
   go_simp
   exact ST.out
  | 12, ho =>
   have yal : on listed 11 = true := h2 ⟨11, .data⟩ (by cases ho; simp) rfl
   obtain ⟨bx, hbx, _, hbz, hcs, hbf, _⟩ := hI.loc ⟨11, 12, [.int .i64 0, .int .i64 0, .int .i64 0, .int .i64 0], [.int .i64 (q0 : Int), .int .i64 (q1 : Int), .int .i64 (q2 : Int), .int .i64 (q3 : Int)]⟩ (by simp) yal
   have t7 := (ha.new 11 yal (d := 7) rfl rfl (by simp)).trans hbx
   have t18 := (ha.new 10 (h2 ⟨10, .data⟩ (by cases ho; simp) rfl) (d := 18) rfl rfl (by simp)).trans (hI.val 10 (h2 ⟨10, .data⟩ (by cases ho; simp) rfl) (by kernel_rfl))
   simp at t7 t18
   simp only [List.length_cons, List.length_nil, Nat.reduceAdd] at hcs
   obtain ⟨f0, bc0⟩ := hcs 0 (by simp)
   obtain ⟨f1, bc1⟩ := hcs 1 (by simp)
   obtain ⟨f2, bc2⟩ := hcs 2 (by simp)
   obtain ⟨f3, bc3⟩ := hcs 3 (by simp)
   have bf0 := hbf 0
   have bf1 := hbf 1
   have bf2 := hbf 2
   have bf3 := hbf 3
   have st := StG.step (by kernel_rfl) ha hl ho h1 (hI.stored ⟨11, 12, [.int .i64 0, .int .i64 0, .int .i64 0, .int .i64 0], [.int .i64 (q0 : Int), .int .i64 (q1 : Int), .int .i64 (q2 : Int), .int .i64 (q3 : Int)]⟩ (by simp) (by kernel_rfl) (by simp) (by simp) yal rfl hbx)
   simp only [setAll, Nat.reduceAdd] at st
   have ST := Lib.hid st; clear st
   have HI := Lib.hid hI; clear hI
   clear hbf hcs
   cases ho
   rw [if_pos (by rfl)]
   go_simp
   exact ST.out
 case hend =>
  rintro listed a w1 hall ⟨vs, ha, hI⟩
  have kV := hI.kept
  obtain ⟨b7, e7, g7, z7, _, f7, x7⟩ := hI.loc ⟨11, 12, [.int .i64 0, .int .i64 0, .int .i64 0, .int .i64 0], [.int .i64 (q0 : Int), .int .i64 (q1 : Int), .int .i64 (q2 : Int), .int .i64 (q3 : Int)]⟩ (by simp) (hall 11 (by simp))
  have u0 := x7 (hall 12 (by simp)) 0 _ rfl
  have uf0 := f7 0
  have u1 := x7 (hall 12 (by simp)) 1 _ rfl
  have uf1 := f7 1
  have u2 := x7 (hall 12 (by simp)) 2 _ rfl
  have uf2 := f7 2
  have u3 := x7 (hall 12 (by simp)) 3 _ rfl
  have uf3 := f7 3
  obtain ⟨yy, hy, hae⟩ := ha.lit (n := 32) rfl
  have y3 := (hy 3).symm.trans (ha.old 3 (by kernel_rfl))
  have y5 := (hy 5).symm.trans (ha.old 5 (by kernel_rfl))
  have y6 := (hy 6).symm.trans (ha.old 6 (by kernel_rfl))
  have y7 := ((hy 7).symm.trans (ha.new 11 (hall 11 (by simp)) (d := 7) rfl rfl (by simp))).trans e7
  simp at y3 y5 y6
  simp only [List.range, List.range.loop, List.map] at hae
  rw [y3, y5, y6, y7] at hae
  subst hae
  clear ha hy y3 y5 y6 y7 x7 f7 e7 hI hall
  refine (by assumption : ∀ (a : Act) (w : World), Code.wp Tryz.prog _ _ a w → _) _ w1 ?_
  have hzW0 := Go.Ai.lt_of_cell a0
  replace a0 := kcell kV a0
  replace a1 := kcell kV a1
  replace a2 := kcell kV a2
  replace a3 := kcell kV a3
  replace a4 := kcell kV a4
  replace a5 := kcell kV a5
  replace a6 := kcell kV a6
  replace s0 := kcell kV s0
  replace s1 := kcell kV s1
  replace s2 := kcell kV s2
  have kW := kept_trans hk0 kV
  have hzs := Go.Ai.lt_of_cell a0
  have HRW := Lib.hid (fun i (hi : i < 4) => kcell kW (HREST.out i hi))
  clear HLD p0
  have hb0 : b7 ≠ w.heap.size := by have := hk0.size; omega
  rcases (show bo = 0 ∨ bo = 1 ∨ bo = 2 ∨ bo = 3 by omega) with rfl | rfl | rfl | rfl
  ·have hw1 : IntKind.i64.wrap ((q0 : Int) + 1) = (q0 : Int) + 1 := IntWalk.i64_in _ (by omega)
   have hT : Turns (fun c => c = b7) w1 (w1.setCell ⟨b7, 0, none⟩ (.int .i64 ((q0 : Int) + 1))) := (Turns.refl (fun c => c = b7) w1).setCell rfl _ _
   have kN : Kept w (w1.setCell ⟨b7, 0, none⟩ (.int .i64 ((q0 : Int) + 1))) := Below.trans kW (hT.toBelow (n := w.heap.size) (by rintro c rfl; have := hk0.size; omega) kW.size)
   have v0 : (w1.setCell ⟨b7, 0, none⟩ (.int .i64 ((q0 : Int) + 1))).cell? ⟨b7, 0, none⟩ = some (.int .i64 ((q0 : Int) + 1)) := cell_set_eq u0
   have v1 : (w1.setCell ⟨b7, 0, none⟩ (.int .i64 ((q0 : Int) + 1))).cell? ⟨b7, 1, none⟩ = some (.int .i64 (q1 : Int)) := (cell_set_ne (by omega)).trans u1
   have v2 : (w1.setCell ⟨b7, 0, none⟩ (.int .i64 ((q0 : Int) + 1))).cell? ⟨b7, 2, none⟩ = some (.int .i64 (q2 : Int)) := (cell_set_ne (by omega)).trans u2
   have v3 : (w1.setCell ⟨b7, 0, none⟩ (.int .i64 ((q0 : Int) + 1))).cell? ⟨b7, 3, none⟩ = some (.int .i64 (q3 : Int)) := (cell_set_ne (by omega)).trans u3
   have m4 := tcell hT (by omega) a4
   have m0 := tcell hT (by omega) a0
   have z0 := tcell hT (by have := hk0.size; have := Go.Ai.lt_of_cell (HREST.out 0 (by omega)); omega) (HRW.out 0 (by omega))
   have z1 := tcell hT (by have := hk0.size; have := Go.Ai.lt_of_cell (HREST.out 0 (by omega)); omega) (HRW.out 1 (by omega))
   have z2 := tcell hT (by have := hk0.size; have := Go.Ai.lt_of_cell (HREST.out 0 (by omega)); omega) (HRW.out 2 (by omega))
   have z3 := tcell hT (by have := hk0.size; have := Go.Ai.lt_of_cell (HREST.out 0 (by omega)); omega) (HRW.out 3 (by omega))
   have hE : ∀ V, (Op.equalIn 10000 162 (.agg #[.int .i64 (ov ((q0 : Int) + 1) X.most), .int .i64 (ov (q1 : Int) X.most), .int .i64 (ov (q2 : Int) X.most), .int .i64 (ov (q3 : Int) X.most)]) (.agg #[.int .i64 0, .int .i64 0, .int .i64 0, .int .i64 0])).run Tryz.prog V = .ok (ov ((q0 : Int) + 1) X.most == 0 && ov (q1 : Int) X.most == 0 && ov (q2 : Int) X.most == 0 && ov (q3 : Int) X.most == 0) V := fun V => eqLoad _ _ _ _ V (by unfold ov; omega) (by unfold ov; omega) (by unfold ov; omega) (by unfold ov; omega)
   have HOV := Lib.hid (fun V => over_any ((q0 : Int) + 1) (q1 : Int) (q2 : Int) (q3 : Int) X.most V (by omega) (by omega) (by omega) (by omega) (by omega))
   have HR2 := Lib.hid (show res = !(ov ((q0 : Int) + 1) X.most == 0 && ov (q1 : Int) X.most == 0 && ov (q2 : Int) X.most == 0 && ov (q3 : Int) X.most == 0) by rw [HRES.out]; simp)
   clear HREST
   generalize hd0 : ov ((q0 : Int) + 1) X.most = d0 at *
   generalize hd1 : ov (q1 : Int) X.most = d1 at *
   generalize hd2 : ov (q2 : Int) X.most = d2 at *
   generalize hd3 : ov (q3 : Int) X.most = d3 at *
   clear hd0 hd1 hd2 hd3 HRES
   go_wp2_with fail
   generalize (w1.setCell ⟨b7, 0, none⟩ (.int .i64 ((q0 : Int) + 1))) = WN at *
   have f0 := cell_regrown v0
   have f1 := cell_regrown v1
   have f2 := cell_regrown v2
   have f3 := cell_regrown v3
   have f4 := cell_regrown m4
   have f5 := cell_regrown z0
   have f6 := cell_regrown z1
   have f7 := cell_regrown z2
   have f8 := cell_regrown z3
   have HOW := Lib.hid (fun d os => Calls.regrown_of (HOV.out (grow (redrawn WN d) os)))
   refine wp_region_quiet_below (by kernel_rfl) (by kernel_rfl) ?_
   repeat (any_goals (first | go_big_quiet_skip | quiet_step (first | with_reducible exact HOW.out _ _)))
   refine wpQuiet_nil ?_
   rintro _ ⟨⟨dq, osq⟩, rfl⟩
   have hkQ := kept_trans kN (below_regrown WN dq osq)
   go_wp2_with fail
   go_ret
   exact ⟨by simp [HR2.out], hkQ⟩
  ·have hw1 : IntKind.i64.wrap ((q1 : Int) + 1) = (q1 : Int) + 1 := IntWalk.i64_in _ (by omega)
   have hT : Turns (fun c => c = b7) w1 (w1.setCell ⟨b7, 1, none⟩ (.int .i64 ((q1 : Int) + 1))) := (Turns.refl (fun c => c = b7) w1).setCell rfl _ _
   have kN : Kept w (w1.setCell ⟨b7, 1, none⟩ (.int .i64 ((q1 : Int) + 1))) := Below.trans kW (hT.toBelow (n := w.heap.size) (by rintro c rfl; have := hk0.size; omega) kW.size)
   have v0 : (w1.setCell ⟨b7, 1, none⟩ (.int .i64 ((q1 : Int) + 1))).cell? ⟨b7, 0, none⟩ = some (.int .i64 (q0 : Int)) := (cell_set_ne (by omega)).trans u0
   have v1 : (w1.setCell ⟨b7, 1, none⟩ (.int .i64 ((q1 : Int) + 1))).cell? ⟨b7, 1, none⟩ = some (.int .i64 ((q1 : Int) + 1)) := cell_set_eq u1
   have v2 : (w1.setCell ⟨b7, 1, none⟩ (.int .i64 ((q1 : Int) + 1))).cell? ⟨b7, 2, none⟩ = some (.int .i64 (q2 : Int)) := (cell_set_ne (by omega)).trans u2
   have v3 : (w1.setCell ⟨b7, 1, none⟩ (.int .i64 ((q1 : Int) + 1))).cell? ⟨b7, 3, none⟩ = some (.int .i64 (q3 : Int)) := (cell_set_ne (by omega)).trans u3
   have m4 := tcell hT (by omega) a4
   have m0 := tcell hT (by omega) a0
   have z0 := tcell hT (by have := hk0.size; have := Go.Ai.lt_of_cell (HREST.out 0 (by omega)); omega) (HRW.out 0 (by omega))
   have z1 := tcell hT (by have := hk0.size; have := Go.Ai.lt_of_cell (HREST.out 0 (by omega)); omega) (HRW.out 1 (by omega))
   have z2 := tcell hT (by have := hk0.size; have := Go.Ai.lt_of_cell (HREST.out 0 (by omega)); omega) (HRW.out 2 (by omega))
   have z3 := tcell hT (by have := hk0.size; have := Go.Ai.lt_of_cell (HREST.out 0 (by omega)); omega) (HRW.out 3 (by omega))
   have hE : ∀ V, (Op.equalIn 10000 162 (.agg #[.int .i64 (ov (q0 : Int) X.most), .int .i64 (ov ((q1 : Int) + 1) X.most), .int .i64 (ov (q2 : Int) X.most), .int .i64 (ov (q3 : Int) X.most)]) (.agg #[.int .i64 0, .int .i64 0, .int .i64 0, .int .i64 0])).run Tryz.prog V = .ok (ov (q0 : Int) X.most == 0 && ov ((q1 : Int) + 1) X.most == 0 && ov (q2 : Int) X.most == 0 && ov (q3 : Int) X.most == 0) V := fun V => eqLoad _ _ _ _ V (by unfold ov; omega) (by unfold ov; omega) (by unfold ov; omega) (by unfold ov; omega)
   have HOV := Lib.hid (fun V => over_any (q0 : Int) ((q1 : Int) + 1) (q2 : Int) (q3 : Int) X.most V (by omega) (by omega) (by omega) (by omega) (by omega))
   have HR2 := Lib.hid (show res = !(ov (q0 : Int) X.most == 0 && ov ((q1 : Int) + 1) X.most == 0 && ov (q2 : Int) X.most == 0 && ov (q3 : Int) X.most == 0) by rw [HRES.out]; simp)
   clear HREST
   generalize hd0 : ov (q0 : Int) X.most = d0 at *
   generalize hd1 : ov ((q1 : Int) + 1) X.most = d1 at *
   generalize hd2 : ov (q2 : Int) X.most = d2 at *
   generalize hd3 : ov (q3 : Int) X.most = d3 at *
   clear hd0 hd1 hd2 hd3 HRES
   go_wp2_with fail
   generalize (w1.setCell ⟨b7, 1, none⟩ (.int .i64 ((q1 : Int) + 1))) = WN at *
   have f0 := cell_regrown v0
   have f1 := cell_regrown v1
   have f2 := cell_regrown v2
   have f3 := cell_regrown v3
   have f4 := cell_regrown m4
   have f5 := cell_regrown z0
   have f6 := cell_regrown z1
   have f7 := cell_regrown z2
   have f8 := cell_regrown z3
   have HOW := Lib.hid (fun d os => Calls.regrown_of (HOV.out (grow (redrawn WN d) os)))
   refine wp_region_quiet_below (by kernel_rfl) (by kernel_rfl) ?_
   repeat (any_goals (first | go_big_quiet_skip | quiet_step (first | with_reducible exact HOW.out _ _)))
   refine wpQuiet_nil ?_
   rintro _ ⟨⟨dq, osq⟩, rfl⟩
   have hkQ := kept_trans kN (below_regrown WN dq osq)
   go_wp2_with fail
   go_ret
   exact ⟨by simp [HR2.out], hkQ⟩
  ·have hw1 : IntKind.i64.wrap ((q2 : Int) + 1) = (q2 : Int) + 1 := IntWalk.i64_in _ (by omega)
   have hT : Turns (fun c => c = b7) w1 (w1.setCell ⟨b7, 2, none⟩ (.int .i64 ((q2 : Int) + 1))) := (Turns.refl (fun c => c = b7) w1).setCell rfl _ _
   have kN : Kept w (w1.setCell ⟨b7, 2, none⟩ (.int .i64 ((q2 : Int) + 1))) := Below.trans kW (hT.toBelow (n := w.heap.size) (by rintro c rfl; have := hk0.size; omega) kW.size)
   have v0 : (w1.setCell ⟨b7, 2, none⟩ (.int .i64 ((q2 : Int) + 1))).cell? ⟨b7, 0, none⟩ = some (.int .i64 (q0 : Int)) := (cell_set_ne (by omega)).trans u0
   have v1 : (w1.setCell ⟨b7, 2, none⟩ (.int .i64 ((q2 : Int) + 1))).cell? ⟨b7, 1, none⟩ = some (.int .i64 (q1 : Int)) := (cell_set_ne (by omega)).trans u1
   have v2 : (w1.setCell ⟨b7, 2, none⟩ (.int .i64 ((q2 : Int) + 1))).cell? ⟨b7, 2, none⟩ = some (.int .i64 ((q2 : Int) + 1)) := cell_set_eq u2
   have v3 : (w1.setCell ⟨b7, 2, none⟩ (.int .i64 ((q2 : Int) + 1))).cell? ⟨b7, 3, none⟩ = some (.int .i64 (q3 : Int)) := (cell_set_ne (by omega)).trans u3
   have m4 := tcell hT (by omega) a4
   have m0 := tcell hT (by omega) a0
   have z0 := tcell hT (by have := hk0.size; have := Go.Ai.lt_of_cell (HREST.out 0 (by omega)); omega) (HRW.out 0 (by omega))
   have z1 := tcell hT (by have := hk0.size; have := Go.Ai.lt_of_cell (HREST.out 0 (by omega)); omega) (HRW.out 1 (by omega))
   have z2 := tcell hT (by have := hk0.size; have := Go.Ai.lt_of_cell (HREST.out 0 (by omega)); omega) (HRW.out 2 (by omega))
   have z3 := tcell hT (by have := hk0.size; have := Go.Ai.lt_of_cell (HREST.out 0 (by omega)); omega) (HRW.out 3 (by omega))
   have hE : ∀ V, (Op.equalIn 10000 162 (.agg #[.int .i64 (ov (q0 : Int) X.most), .int .i64 (ov (q1 : Int) X.most), .int .i64 (ov ((q2 : Int) + 1) X.most), .int .i64 (ov (q3 : Int) X.most)]) (.agg #[.int .i64 0, .int .i64 0, .int .i64 0, .int .i64 0])).run Tryz.prog V = .ok (ov (q0 : Int) X.most == 0 && ov (q1 : Int) X.most == 0 && ov ((q2 : Int) + 1) X.most == 0 && ov (q3 : Int) X.most == 0) V := fun V => eqLoad _ _ _ _ V (by unfold ov; omega) (by unfold ov; omega) (by unfold ov; omega) (by unfold ov; omega)
   have HOV := Lib.hid (fun V => over_any (q0 : Int) (q1 : Int) ((q2 : Int) + 1) (q3 : Int) X.most V (by omega) (by omega) (by omega) (by omega) (by omega))
   have HR2 := Lib.hid (show res = !(ov (q0 : Int) X.most == 0 && ov (q1 : Int) X.most == 0 && ov ((q2 : Int) + 1) X.most == 0 && ov (q3 : Int) X.most == 0) by rw [HRES.out]; simp)
   clear HREST
   generalize hd0 : ov (q0 : Int) X.most = d0 at *
   generalize hd1 : ov (q1 : Int) X.most = d1 at *
   generalize hd2 : ov ((q2 : Int) + 1) X.most = d2 at *
   generalize hd3 : ov (q3 : Int) X.most = d3 at *
   clear hd0 hd1 hd2 hd3 HRES
   go_wp2_with fail
   generalize (w1.setCell ⟨b7, 2, none⟩ (.int .i64 ((q2 : Int) + 1))) = WN at *
   have f0 := cell_regrown v0
   have f1 := cell_regrown v1
   have f2 := cell_regrown v2
   have f3 := cell_regrown v3
   have f4 := cell_regrown m4
   have f5 := cell_regrown z0
   have f6 := cell_regrown z1
   have f7 := cell_regrown z2
   have f8 := cell_regrown z3
   have HOW := Lib.hid (fun d os => Calls.regrown_of (HOV.out (grow (redrawn WN d) os)))
   refine wp_region_quiet_below (by kernel_rfl) (by kernel_rfl) ?_
   repeat (any_goals (first | go_big_quiet_skip | quiet_step (first | with_reducible exact HOW.out _ _)))
   refine wpQuiet_nil ?_
   rintro _ ⟨⟨dq, osq⟩, rfl⟩
   have hkQ := kept_trans kN (below_regrown WN dq osq)
   go_wp2_with fail
   go_ret
   exact ⟨by simp [HR2.out], hkQ⟩
  ·have hw1 : IntKind.i64.wrap ((q3 : Int) + 1) = (q3 : Int) + 1 := IntWalk.i64_in _ (by omega)
   have hT : Turns (fun c => c = b7) w1 (w1.setCell ⟨b7, 3, none⟩ (.int .i64 ((q3 : Int) + 1))) := (Turns.refl (fun c => c = b7) w1).setCell rfl _ _
   have kN : Kept w (w1.setCell ⟨b7, 3, none⟩ (.int .i64 ((q3 : Int) + 1))) := Below.trans kW (hT.toBelow (n := w.heap.size) (by rintro c rfl; have := hk0.size; omega) kW.size)
   have v0 : (w1.setCell ⟨b7, 3, none⟩ (.int .i64 ((q3 : Int) + 1))).cell? ⟨b7, 0, none⟩ = some (.int .i64 (q0 : Int)) := (cell_set_ne (by omega)).trans u0
   have v1 : (w1.setCell ⟨b7, 3, none⟩ (.int .i64 ((q3 : Int) + 1))).cell? ⟨b7, 1, none⟩ = some (.int .i64 (q1 : Int)) := (cell_set_ne (by omega)).trans u1
   have v2 : (w1.setCell ⟨b7, 3, none⟩ (.int .i64 ((q3 : Int) + 1))).cell? ⟨b7, 2, none⟩ = some (.int .i64 (q2 : Int)) := (cell_set_ne (by omega)).trans u2
   have v3 : (w1.setCell ⟨b7, 3, none⟩ (.int .i64 ((q3 : Int) + 1))).cell? ⟨b7, 3, none⟩ = some (.int .i64 ((q3 : Int) + 1)) := cell_set_eq u3
   have m4 := tcell hT (by omega) a4
   have m0 := tcell hT (by omega) a0
   have z0 := tcell hT (by have := hk0.size; have := Go.Ai.lt_of_cell (HREST.out 0 (by omega)); omega) (HRW.out 0 (by omega))
   have z1 := tcell hT (by have := hk0.size; have := Go.Ai.lt_of_cell (HREST.out 0 (by omega)); omega) (HRW.out 1 (by omega))
   have z2 := tcell hT (by have := hk0.size; have := Go.Ai.lt_of_cell (HREST.out 0 (by omega)); omega) (HRW.out 2 (by omega))
   have z3 := tcell hT (by have := hk0.size; have := Go.Ai.lt_of_cell (HREST.out 0 (by omega)); omega) (HRW.out 3 (by omega))
   have hE : ∀ V, (Op.equalIn 10000 162 (.agg #[.int .i64 (ov (q0 : Int) X.most), .int .i64 (ov (q1 : Int) X.most), .int .i64 (ov (q2 : Int) X.most), .int .i64 (ov ((q3 : Int) + 1) X.most)]) (.agg #[.int .i64 0, .int .i64 0, .int .i64 0, .int .i64 0])).run Tryz.prog V = .ok (ov (q0 : Int) X.most == 0 && ov (q1 : Int) X.most == 0 && ov (q2 : Int) X.most == 0 && ov ((q3 : Int) + 1) X.most == 0) V := fun V => eqLoad _ _ _ _ V (by unfold ov; omega) (by unfold ov; omega) (by unfold ov; omega) (by unfold ov; omega)
   have HOV := Lib.hid (fun V => over_any (q0 : Int) (q1 : Int) (q2 : Int) ((q3 : Int) + 1) X.most V (by omega) (by omega) (by omega) (by omega) (by omega))
   have HR2 := Lib.hid (show res = !(ov (q0 : Int) X.most == 0 && ov (q1 : Int) X.most == 0 && ov (q2 : Int) X.most == 0 && ov ((q3 : Int) + 1) X.most == 0) by rw [HRES.out]; simp)
   clear HREST
   generalize hd0 : ov (q0 : Int) X.most = d0 at *
   generalize hd1 : ov (q1 : Int) X.most = d1 at *
   generalize hd2 : ov (q2 : Int) X.most = d2 at *
   generalize hd3 : ov ((q3 : Int) + 1) X.most = d3 at *
   clear hd0 hd1 hd2 hd3 HRES
   go_wp2_with fail
   generalize (w1.setCell ⟨b7, 3, none⟩ (.int .i64 ((q3 : Int) + 1))) = WN at *
   have f0 := cell_regrown v0
   have f1 := cell_regrown v1
   have f2 := cell_regrown v2
   have f3 := cell_regrown v3
   have f4 := cell_regrown m4
   have f5 := cell_regrown z0
   have f6 := cell_regrown z1
   have f7 := cell_regrown z2
   have f8 := cell_regrown z3
   have HOW := Lib.hid (fun d os => Calls.regrown_of (HOV.out (grow (redrawn WN d) os)))
   refine wp_region_quiet_below (by kernel_rfl) (by kernel_rfl) ?_
   repeat (any_goals (first | go_big_quiet_skip | quiet_step (first | with_reducible exact HOW.out _ _)))
   refine wpQuiet_nil ?_
   rintro _ ⟨⟨dq, osq⟩, rfl⟩
   have hkQ := kept_trans kN (below_regrown WN dq osq)
   go_wp2_with fail
   go_ret
   exact ⟨by simp [HR2.out], hkQ⟩
end Go.Proofs.YtcllfjjhijkakaaGreatDoor
namespace Go.Proofs.YtcllfjjhijkakaaGreatDoor
open Go.RowKit Go.Sort Go.Rg
set_option maxRecDepth 100000
set_option maxHeartbeats 4000000
def banV (X : BBook) (m f : Nat) (out : Value) : Value := .func (.func f) #[X.sval m out] #[]
structure BansAt (w : World) (X : BBook) (m : Nat) (out : Value) (b : Nat) : Prop where
 c0 : w.cell? ⟨b, 0, none⟩ = some (banV X m 79 out)
 c1 : w.cell? ⟨b, 1, none⟩ = some (banV X m 80 out)
 c2 : w.cell? ⟨b, 2, none⟩ = some (banV X m 81 out)
 c3 : w.cell? ⟨b, 3, none⟩ = some (banV X m 82 out)
theorem BansAt.kept {w W : World} {X : BBook} {m b : Nat} {out : Value} (h : BansAt w X m out b) (k : Kept w W) : BansAt W X m out b := ⟨kcell k h.c0, kcell k h.c1, kcell k h.c2, kcell k h.c3⟩
theorem bans_any (X : BBook) (m : Nat) (out : Value) (w : World) :
  Calls Tryz.prog 54 #[X.sval m out] w fun e w' => ∃ b, e = .returned (.slice (some ⟨b, 0, none⟩) 4 4) ∧ Kept w w' ∧ BansAt w' X m out b := by
 unfold BBook.sval at *
 have hk0 : Kept w (w.alloc (Obj.cells #[.slice X.p X.B.boys.length X.cap, .int .i64 X.B.weeks, .slice X.q X.B.trials.length X.capt, .slice X.r X.pieces.length X.capp, .int .i64 X.most, .map (some m), out] 74)) := kept_alloc (kept_refl _) _
 go_enter Tryz.func54, Tryz.ntmps54
 go_wp2
 go_ret
 refine ⟨w.heap.size + 1, by simp, kept_alloc (kept_alloc (kept_refl _) _) _, ?_⟩
 refine ⟨?_, ?_, ?_, ?_⟩ <;> unfold banV BBook.sval <;> go_simp
theorem eqPlace (a b c d : Int) (w : World) : (Op.equalIn 10000 86 (.agg #[.int .i64 a, .int .i64 b]) (.agg #[.int .i64 c, .int .i64 d])).run Tryz.prog w = .ok (a == c && b == d) w := by
 have u3 := Tryz.underlying3
 have hS : Tryz.prog.underlying 86 = some (.struct (Tryz.prog.fieldsOf 86)) := by kernel_rfl
 have hp : Tryz.prog.stoodInHeld 86 = false := by kernel_rfl
 rw [show (10000 : Nat) = 9999 + 1 from rfl, run_equalIn_agg w 9999 86 _ _ hS hp]
 simp only [Program.fieldsOf, Tryz.underlying86]
 go_simp
 by_cases h1 : a = c <;> by_cases h2 : b = d <;> simp [h1, h2]
end Go.Proofs.YtcllfjjhijkakaaGreatDoor
namespace Go.Proofs.YtcllfjjhijkakaaGreatDoor
open Go.RowKit Go.Sort Go.Rg
set_option maxRecDepth 100000
set_option maxHeartbeats 4000000
attribute [local go_sem] Oper.semAt_some
def singB (X : BBook) (n : Seat) (q : Nat × Nat) : Bool := hasI n.boy (boysAt (triO X X.pieces.length) q.1 q.2)
def okAt (X : BBook) (before : List Seat) (n : Seat) (q : Nat × Nat) : Bool := (n.piece == (q.1 : Int) && n.part == (q.2 : Int)) && (singB X n q && (!notBehB before n && (!twiceB before n && !tooB X before n)))
def rightF (X : BBook) : List Seat → List Seat → List (Nat × Nat) → Bool
 | _, [], [] => true
 | bf, n :: l, q :: ws => okAt X bf n q && rightF X (bf ++ [n]) l ws
 | _, _ :: _, [] => false
 | _, [], _ :: _ => false
theorem rightF_len (X : BBook) : ∀ (l : List Seat) (ws : List (Nat × Nat)) (bf : List Seat), l.length ≠ ws.length → rightF X bf l ws = false
 | [], [], _, h => absurd rfl h
 | n :: l, q :: ws, bf, h => by
  have := rightF_len X l ws (bf ++ [n]) (by simpa using h)
  simp [rightF, this]
 | _ :: _, [], _, _ => rfl
 | [], _ :: _, _, _ => rfl
theorem rightF_at {X : BBook} {l : List Seat} {ws : List (Nat × Nat)} {k : Nat} {s : Seat} {q : Nat × Nat} (hs : l[k]? = some s) (hq : ws[k]? = some q) : rightF X (l.take k) (l.drop k) (ws.drop k) = (okAt X (l.take k) s q && rightF X (l.take (k + 1)) (l.drop (k + 1)) (ws.drop (k + 1))) := by
 obtain ⟨h1, e1⟩ := List.getElem?_eq_some_iff.1 hs
 obtain ⟨h2, e2⟩ := List.getElem?_eq_some_iff.1 hq
 rw [List.drop_eq_getElem_cons h1, List.drop_eq_getElem_cons h2, e1, e2]
 show (okAt X (l.take k) s q && rightF X (l.take k ++ [s]) _ _) = _
 rw [List.take_succ, hs]; rfl
structure StandsAt (n0 : Nat) (w : World) (X : BBook) (m : Nat) : Prop where
 book : BBookAt w X
 stalls : StallsAt n0 w X m
 rest : ∀ i, i < 4 → w.cell? ⟨2, i, none⟩ = some (.int .i64 0)
theorem StandsAt.kept {n0 m : Nat} {w W : World} {X : BBook} (h : StandsAt n0 w X m) (k : Kept w W) : StandsAt n0 W X m := ⟨h.book.kept k, h.stalls.kept k, fun i hi => kcell k (h.rest i hi)⟩
theorem wantL_mem {X : BBook} {l : List (Nat × Nat)} {q : Nat × Nat} (h : q ∈ wantL X l) : q ∈ l := by
 unfold wantL at h
 obtain ⟨a, ha, hq⟩ := List.mem_flatMap.1 h
 obtain ⟨_, rfl⟩ := List.mem_replicate.1 hq
 exact ha
theorem PlacesIs.len {w : World} {v : Value} {l : List (Nat × Nat)} (h : PlacesIs w v l) : ∃ p cap, v = .slice p l.length cap := by
 rcases h with ⟨rfl, rfl⟩ | ⟨g, cap, rfl, _⟩
 ·exact ⟨none, 0, rfl⟩
 ·exact ⟨_, cap, rfl⟩
theorem PlacesIs.at {w : World} {p : Option Addr} {n cap : Nat} {l : List (Nat × Nat)} (h : PlacesIs w (.slice p n cap) l) {i : Nat} {q : Nat × Nat} (hq : l[i]? = some q) : ∃ g, p = some ⟨g, 0, none⟩ ∧ w.cell? ⟨g, i * 2, none⟩ = some (.int .i64 (q.1 : Int)) ∧ w.cell? ⟨g, i * 2 + 1, none⟩ = some (.int .i64 (q.2 : Int)) := by
 rcases h with ⟨_, rfl⟩ | ⟨g, c, e, hp⟩
 ·simp at hq
 ·simp only [Value.slice.injEq] at e
  exact ⟨g, e.1, hp.2 i q hq⟩
theorem SeatsIs.upto {w : World} {p : Option Addr} {n cap : Nat} {l : List Seat} (h : SeatsIs w (.slice p n cap) l) {k : Nat} (hk : k ≤ l.length) (hp : p ≠ none) : SeatsIs w (.slice p k k) (l.take k) := by
 rcases h with ⟨p', c', e, rfl⟩ | ⟨b, o, c, e, hc, hs⟩
 ·obtain rfl : k = 0 := by simpa using hk
  exact .inl ⟨p, 0, rfl, by simp⟩
 ·simp only [Value.slice.injEq] at e
  obtain ⟨rfl, _, _⟩ := e
  refine .inr ⟨b, o, k, by simp [Nat.min_eq_left hk], by simp; omega, hs.1, fun i s hi => hs.2 i s ?_⟩
  rw [List.getElem?_take] at hi
  split at hi
  ·exact hi
  ·cases hi
theorem SeatsIs.cap {w : World} {p : Option Addr} {n cap : Nat} {l : List Seat} (h : SeatsIs w (.slice p n cap) l) : n ≤ cap := by
 rcases h with ⟨p', c', e, rfl⟩ | ⟨b, o, c, e, hc, hs⟩
 ·simp only [Value.slice.injEq] at e; omega
 ·simp only [Value.slice.injEq] at e; omega
theorem hasI_nat {b : Int} {l : List Nat} (h : hasI b l = true) : ∃ x ∈ l, b = (x : Int) := by
 obtain ⟨x, hx, e⟩ := List.any_eq_true.1 h
 exact ⟨x, hx, by simpa using e⟩
theorem boysAt_lt {X : BBook} {p k : Nat} {x : Piece} (hx : X.pieces[p]? = some x) (hk : k < x.parts.length) (hb : X.B.boys.length ≤ 4) : (boysAt (triO X X.pieces.length) p k).length ≤ 4 ∧ ∀ i ∈ boysAt (triO X X.pieces.length) p k, i < 4 := by
 rw [boysAt_eq hx hk]
 refine ⟨Nat.le_trans (List.length_filter_le _ _) (by simpa using hb), fun i hi => ?_⟩
 have := (List.mem_filter.1 hi).1
 have := List.mem_range.1 this
 omega
end Go.Proofs.YtcllfjjhijkakaaGreatDoor
namespace Go.Proofs.YtcllfjjhijkakaaGreatDoor
open Go.RowKit Go.Sort Go.Rg
set_option maxRecDepth 100000
set_option maxHeartbeats 4000000
attribute [local go_sem] Oper.semAt_some
theorem areRight_any (X : BBook) (n0 m : Nat) (v pv : Value) (l : List Seat) (pl : List (Nat × Nat)) (w : World) (h : StandsAt n0 w X m) (hok : X.okB = true) (hT : SeatsIs w v l) (hl : PlacesIs w pv pl) (hlen : pl.length ≤ 9) (hin : ∀ q ∈ pl, ∃ x y, X.pieces[q.1]? = some x ∧ x.parts[q.2]? = some y) :
  Calls Tryz.prog 33 #[X.sval m noneOut, v, pv] w fun e w' => e = .returned (.bool (rightF X [] l (wantL X pl))) ∧ Kept w w' := by
 have hk0 : Kept w (w.alloc (Obj.cells #[.slice X.p X.B.boys.length X.cap, .int .i64 X.B.weeks, .slice X.q X.B.trials.length X.capt, .slice X.r X.pieces.length X.capp, .int .i64 X.most, .map (some m), .func (.func 75) #[] #[]] 74)) := kept_alloc (kept_refl _) _
 have ZZ : ∀ Z, Z = (w.alloc (Obj.cells #[.slice X.p X.B.boys.length X.cap, .int .i64 X.B.weeks, .slice X.q X.B.trials.length X.capt, .slice X.r X.pieces.length X.capp, .int .i64 X.most, .map (some m), .func (.func 75) #[] #[]] 74)) → Z.cell? ⟨w.heap.size, 0, none⟩ = some (.slice X.p X.B.boys.length X.cap) ∧ Z.cell? ⟨w.heap.size, 1, none⟩ = some (.int .i64 X.B.weeks) ∧ Z.cell? ⟨w.heap.size, 2, none⟩ = some (.slice X.q X.B.trials.length X.capt) ∧ Z.cell? ⟨w.heap.size, 3, none⟩ = some (.slice X.r X.pieces.length X.capp) ∧ Z.cell? ⟨w.heap.size, 4, none⟩ = some (.int .i64 X.most) ∧ Z.cell? ⟨w.heap.size, 5, none⟩ = some (.map (some m)) ∧ Z.cell? ⟨w.heap.size, 6, none⟩ = some (.func (.func 75) #[] #[]) := by rintro _ rfl; refine ⟨?_, ?_, ?_, ?_, ?_, ?_, ?_⟩ <;> go_simp
 obtain ⟨a0, a1, a2, a3, a4, a5, a6⟩ := ZZ _ rfl; clear ZZ
 have HWA := Lib.hid (fun V (kk : Kept w V) => wanted_any X m noneOut pv pl V (h.book.kept kk) hok (hl.kept kk) hlen hin)
 have HWI := Lib.hid (fun q (hq : q ∈ wantL X pl) => hin q (wantL_mem hq))
 have HWL := Lib.hid (wantL_len hok pl)
 have HST := Lib.hid h
 have HT := Lib.hid hT
 have HOK := Lib.hid hok
 obtain ⟨p, cap, rfl⟩ := hT.len
 have hcap := hT.cap
 obtain ⟨pp, pcap, rfl⟩ := hl.len
 clear h hl hin hok hT
 unfold BBook.sval noneOut at HWA
 unfold BBook.sval noneOut
 have HRL := Lib.hid (rightF_len X l (wantL X pl) [])
 have HR0 := Lib.hid (show rightF X [] l (wantL X pl) = rightF X (l.take 0) (l.drop 0) ((wantL X pl).drop 0) by simp)
 generalize rightF X [] l (wantL X pl) = res at *
 generalize wantL X pl = ws at *
 go_enter Tryz.func33, Tryz.ntmps33
 go_wp2_with fail
 with_reducible refine (HWA.out _ hk0).mono ?_
 rintro e w1 ⟨v1, rfl, k1, hrow⟩
 have hP := PlacesIs.of_row hrow
 clear hrow
 obtain ⟨pw, capw, rfl⟩ := hP.len
 have HP := Lib.hid hP; clear hP HWA
 have hkw := kept_trans hk0 k1
 replace a0 := kcell k1 a0
 replace a1 := kcell k1 a1
 replace a2 := kcell k1 a2
 replace a3 := kcell k1 a3
 replace a4 := kcell k1 a4
 replace a5 := kcell k1 a5
 replace a6 := kcell k1 a6
 have hzb := Go.Ai.lt_of_cell a0
 clear k1
 by_cases hne : l.length = ws.length
 ·have hneq : ((l.length : Int) != (ws.length : Int)) = false := by simp [hne]
  have HNE := Lib.hid hne; clear hne
  go_wp2_with fail
  go_loopw [22] (fun i V => ∃ k : Nat, k ≤ l.length ∧ i = .int .i64 k ∧ Kept w1 V ∧ res = rightF X (l.take k) (l.drop k) (ws.drop k) ∧ ∀ s ∈ l.take k, SeatOk X s) (fun i V => l.length - (intOf i).toNat)
  case atStart => exact ⟨0, by omega, rfl, kept_refl _, HR0.out, by simp⟩
  case round =>
   obtain ⟨k, hkl, rfl, hk, hres, hso⟩ := hrel
   have HRES := Lib.hid hres; clear hres
   have HSO := Lib.hid hso; clear hso
   have kW := kept_trans hkw hk
   have b0 := kcell hk a0
   have b1 := kcell hk a1
   have b2 := kcell hk a2
   have b3 := kcell hk a3
   have b4 := kcell hk a4
   have b5 := kcell hk a5
   have b6 := kcell hk a6
   by_cases hlt : k < l.length
   ·have hkI : (k : Int) < l.length := by omega
    have hk0I : (0 : Int) ≤ k := by omega
    have hkp : (k : Int) < ws.length := by have := HNE.out; omega
    have hkc : k ≤ cap := by omega
    obtain ⟨s, hget⟩ : ∃ s, l[k]? = some s := ⟨_, List.getElem?_eq_getElem hlt⟩
    obtain ⟨q, hgq⟩ : ∃ q, ws[k]? = some q := ⟨_, List.getElem?_eq_getElem (by have := HNE.out; omega)⟩
    obtain ⟨g, og, rfl, _, c0, c1, c2⟩ := HT.out.at hget
    obtain ⟨gw, rfl, d0, d1⟩ := HP.out.at hgq
    replace c0 := kcell kW c0
    replace c1 := kcell kW c1
    replace c2 := kcell kW c2
    replace d0 := kcell hk d0
    replace d1 := kcell hk d1
    have hzg := Go.Ai.lt_of_cell c0
    have hzw := Go.Ai.lt_of_cell d0
    have hzbr := Go.Ai.lt_of_cell b0
    have HRA := Lib.hid (HRES.out.trans (rightF_at hget hgq))
    obtain ⟨xp, xk, hxp, hxk⟩ := HWI.out q (List.mem_of_getElem? hgq)
    have HX := Lib.hid (And.intro hxp hxk); clear hxp hxk
    have HGET := Lib.hid hget
    clear hget hgq
    have hk9 : Kept wr (wr.alloc (Obj.cells #[.int .i64 s.piece, .int .i64 s.part, .int .i64 s.boy] 68)) := kept_alloc (kept_refl _) _
    have ZZ : ∀ Z, Z = (wr.alloc (Obj.cells #[.int .i64 s.piece, .int .i64 s.part, .int .i64 s.boy] 68)) → Z.cell? ⟨wr.heap.size, 0, none⟩ = some (.int .i64 s.piece) ∧ Z.cell? ⟨wr.heap.size, 1, none⟩ = some (.int .i64 s.part) ∧ Z.cell? ⟨wr.heap.size, 2, none⟩ = some (.int .i64 s.boy) := by rintro _ rfl; refine ⟨?_, ?_, ?_⟩ <;> go_simp
    obtain ⟨e0, e1, e2⟩ := ZZ _ rfl; clear ZZ
    have hp0I : (0 : Int) ≤ k := by omega
    go_wp2_with fail
    replace b0 := kcell hk9 b0
    replace b1 := kcell hk9 b1
    replace b2 := kcell hk9 b2
    replace b3 := kcell hk9 b3
    replace b4 := kcell hk9 b4
    replace b5 := kcell hk9 b5
    replace b6 := kcell hk9 b6
    replace d0 := kcell hk9 d0
    replace d1 := kcell hk9 d1
    generalize (wr.alloc (Obj.cells #[.int .i64 s.piece, .int .i64 s.part, .int .i64 s.boy] 68)) = WN at *
    generalize hbn : wr.heap.size = bn at *
    have HPO := Lib.hid (fun V => placeOf_any s V)
    unfold Seat.val at HPO
    have HPW := Lib.hid (fun d os => Calls.regrown_of (HPO.out (grow (redrawn WN d) os)))
    have f0 := cell_regrown e0
    have f1 := cell_regrown e1
    have f2 := cell_regrown e2
    have f3 := cell_regrown d0
    have f4 := cell_regrown d1
    rcases hg : (s.piece == (q.1 : Int) && s.part == (q.2 : Int)) with _ | _
    ·skip
     have hE : ∀ V, (Op.equalIn 10000 86 (.agg #[.int .i64 s.piece, .int .i64 s.part]) (.agg #[.int .i64 (q.1 : Int), .int .i64 (q.2 : Int)])).run Tryz.prog V = .ok false V := fun V => (eqPlace _ _ _ _ V).trans (by rw [hg])
     have HG := Lib.hid hg; clear hg
     refine wp_region_quiet_below (by kernel_rfl) (by kernel_rfl) ?_
     repeat (any_goals (first | go_big_quiet_skip | quiet_step (first | with_reducible exact HPW.out _ _)))
     refine wpQuiet_nil ?_
     rintro _ ⟨⟨dq, osq⟩, rfl⟩
     have kQ := below_regrown WN dq osq
     have kZ := kept_trans (kept_trans kW hk9) kQ
     have HRF := Lib.hid (show res = false by rw [HRA.out, okAt, HG.out]; rfl)
     go_wp2_with fail
     go_ret
     exact ⟨by simp [HRF.out], kZ⟩
    ·skip
     have hE : ∀ V, (Op.equalIn 10000 86 (.agg #[.int .i64 s.piece, .int .i64 s.part]) (.agg #[.int .i64 (q.1 : Int), .int .i64 (q.2 : Int)])).run Tryz.prog V = .ok true V := fun V => (eqPlace _ _ _ _ V).trans (by rw [hg])
     have HG := Lib.hid hg; clear hg
     refine wp_region_quiet_below (by kernel_rfl) (by kernel_rfl) ?_
     repeat (any_goals (first | go_big_quiet_skip | quiet_step (first | with_reducible exact HPW.out _ _)))
     refine wpQuiet_nil ?_
     rintro _ ⟨⟨dq, osq⟩, rfl⟩
     have kQ := below_regrown WN dq osq
     have kZ := kept_trans (kept_trans kW hk9) kQ
     clear f0 f1 f2 f3 f4 HPW HPO d0 d1 c0 c1 c2
     obtain ⟨hsp, hsq⟩ : s.piece = (q.1 : Int) ∧ s.part = (q.2 : Int) := by have := HG.out; simpa using this
     have HSP := Lib.hid (And.intro hsp hsq); clear hsp hsq
     replace b0 := kcell kQ b0
     replace b1 := kcell kQ b1
     replace b2 := kcell kQ b2
     replace b3 := kcell kQ b3
     replace b4 := kcell kQ b4
     replace b5 := kcell kQ b5
     replace b6 := kcell kQ b6
     replace e0 := kcell kQ e0
     replace e1 := kcell kQ e1
     replace e2 := kcell kQ e2
     generalize grow (redrawn WN dq) osq = WQ at *
     have HB := Lib.hid (bans_any X m noneOut WQ)
     unfold BBook.sval noneOut at HB
     go_wp2_with fail
     with_reducible refine HB.out.mono ?_
     rintro e W2 ⟨bb, rfl, k2, hB⟩
     have HBN := Lib.hid hB; clear hB HB
     replace e0 := kcell k2 e0
     replace e1 := kcell k2 e1
     replace e2 := kcell k2 e2
     have kY := kept_trans kZ k2
     have hle : l.length ≤ 30 := by have := HNE.out; have := HWL.out; omega
     have HTK := Lib.hid (show (l.take k).length ≤ 30 by simp only [List.length_take]; omega)
     have HTS := Lib.hid (HT.out.upto (k := k) (by omega) (by simp))
     obtain ⟨hq1, hq2, hbl, hbe⟩ : q.1 < 3 ∧ q.2 < 3 ∧ (boysAt (triO X X.pieces.length) q.1 q.2).length ≤ 4 ∧ ∀ i ∈ boysAt (triO X X.pieces.length) q.1 q.2, i < 4 := by
      obtain ⟨hx, hy⟩ := HX.out
      have hpl := (List.getElem?_eq_some_iff.1 hx).1
      have hkl := (List.getElem?_eq_some_iff.1 hy).1
      have ho := okB_parts HOK.out
      have h4 : X.B.boys.length ≤ 4 := by
       have := ho.1
       simp only [Book.okB, inB, Bool.and_eq_true, decide_eq_true_eq] at this
       omega
      have := (ho.2.2.2 _ _ hx).2.1
      exact ⟨by omega, by omega, boysAt_lt hx hkl h4⟩
     have HQ := Lib.hid (And.intro hq1 (And.intro hq2 (And.intro hbl hbe))); clear hq1 hq2 hbl hbe
     go_wp2_with fail
     go_loopw [37] (fun i V => ∃ j : Nat, j ≤ 4 ∧ i = .int .i64 j ∧ Kept W2 V ∧ Hid ((0 < j → singB X s q = true) ∧ (1 < j → notBehB (l.take k) s = false) ∧ (2 < j → twiceB (l.take k) s = false) ∧ (3 < j → tooB X (l.take k) s = false))) (fun i V => 4 - (intOf i).toNat)
     case atStart => exact ⟨0, by omega, rfl, kept_refl _, Lib.hid (by simp)⟩
     case round =>
      obtain ⟨j, hj, rfl, k3, HJ⟩ := hrel
      have kX := kept_trans kY k3
      have HS := Lib.hid (HST.out.kept kX)
      have HTR := Lib.hid (HTS.out.kept kX)
      have HBR := Lib.hid (HBN.out.kept k3)
      replace e0 := kcell k3 e0
      replace e1 := kcell k3 e1
      replace e2 := kcell k3 e2
      rcases (show j = 0 ∨ j = 1 ∨ j = 2 ∨ j = 3 ∨ j = 4 by omega) with rfl | rfl | rfl | rfl | rfl
      ·have cb := HBR.out.c0
       unfold banV BBook.sval at cb
       have HC := Lib.hid (show ∀ V, Kept wr V → Calls Tryz.prog 79 #[X.sval m noneOut, .slice (some ⟨g, og, none⟩) k k, .agg #[.int .i64 s.piece, .int .i64 s.part, .int .i64 s.boy]] V fun e w' => e = .returned (.bool (!singB X s q)) ∧ Kept V w' from fun V kk => by
        have hc := (cannotSing_any X n0 m (.slice (some ⟨g, og, none⟩) k k) q.1 q.2 s.boy V (HS.out.stalls.kept kk) HQ.out.1 HQ.out.2.1 HQ.out.2.2.1)
        rw [← HSP.out.1, ← HSP.out.2] at hc
        exact hc)
       unfold BBook.sval noneOut at HC
       go_wp2_with fail
       generalize hgv : (!singB X s q) = gv at *
       have HGV := Lib.hid hgv; clear hgv
       have f0 := cell_regrown e0
       have f1 := cell_regrown e1
       have f2 := cell_regrown e2
       have HCW := Lib.hid (fun d os => Calls.regrown_of (HC.out (grow (redrawn wr d) os) (below_regrown wr d os)))
       refine wp_region_quiet_below (by kernel_rfl) (by kernel_rfl) ?_
       repeat (any_goals (first | go_big_quiet_skip | quiet_step (first | with_reducible exact HCW.out _ _)))
       refine wpQuiet_nil ?_
       intro _ hw'
       obtain ⟨⟨dq2, osq2⟩, hw''⟩ := hw'
       subst hw''
       have kR := below_regrown wr dq2 osq2
       have kF := kept_trans kX kR
       have kG := kept_trans k3 kR
       clear f0 f1 f2 HCW HC
       cases gv with
       | true =>
        have HRF := Lib.hid (show res = false by rw [HRA.out, okAt, show singB X s q = false by have := HGV.out; simpa using this]; simp)
        go_wp2_with fail
        go_ret
        exact ⟨by simp [HRF.out], kF⟩
       | false =>
        go_wp2_with fail
        go_roundw
        case rel => exact ⟨0 + 1, by omega, by go_num, kG, Lib.hid ⟨fun _ => by have := HGV.out; simpa using this, fun h => absurd h (by omega), fun h => absurd h (by omega), fun h => absurd h (by omega)⟩⟩
        case measure => simp [intOf]
      ·have cb := HBR.out.c1
       unfold banV BBook.sval at cb
       have HC := Lib.hid (show ∀ V, Kept wr V → Calls Tryz.prog 80 #[X.sval m noneOut, .slice (some ⟨g, og, none⟩) k k, .agg #[.int .i64 s.piece, .int .i64 s.part, .int .i64 s.boy]] V fun e w' => e = .returned (.bool (notBehB (l.take k) s)) ∧ Kept V w' from fun V kk => by
        exact (isNotBehind_any X m noneOut (.slice (some ⟨g, og, none⟩) k k) (l.take k) s V (HTR.out.kept kk) HTK.out))
       unfold BBook.sval noneOut at HC
       go_wp2_with fail
       generalize hgv : (notBehB (l.take k) s) = gv at *
       have HGV := Lib.hid hgv; clear hgv
       have f0 := cell_regrown e0
       have f1 := cell_regrown e1
       have f2 := cell_regrown e2
       have HCW := Lib.hid (fun d os => Calls.regrown_of (HC.out (grow (redrawn wr d) os) (below_regrown wr d os)))
       refine wp_region_quiet_below (by kernel_rfl) (by kernel_rfl) ?_
       repeat (any_goals (first | go_big_quiet_skip | quiet_step (first | with_reducible exact HCW.out _ _)))
       refine wpQuiet_nil ?_
       intro _ hw'
       obtain ⟨⟨dq2, osq2⟩, hw''⟩ := hw'
       subst hw''
       have kR := below_regrown wr dq2 osq2
       have kF := kept_trans kX kR
       have kG := kept_trans k3 kR
       clear f0 f1 f2 HCW HC
       cases gv with
       | true =>
        have HRF := Lib.hid (show res = false by rw [HRA.out, okAt, HJ.out.1 (by omega), HGV.out]; simp)
        go_wp2_with fail
        go_ret
        exact ⟨by simp [HRF.out], kF⟩
       | false =>
        go_wp2_with fail
        go_roundw
        case rel => exact ⟨1 + 1, by omega, by go_num, kG, Lib.hid ⟨fun _ => HJ.out.1 (by omega), fun _ => by have := HGV.out; simpa using this, fun h => absurd h (by omega), fun h => absurd h (by omega)⟩⟩
        case measure => simp [intOf]
      ·have cb := HBR.out.c2
       unfold banV BBook.sval at cb
       have HC := Lib.hid (show ∀ V, Kept wr V → Calls Tryz.prog 81 #[X.sval m noneOut, .slice (some ⟨g, og, none⟩) k k, .agg #[.int .i64 s.piece, .int .i64 s.part, .int .i64 s.boy]] V fun e w' => e = .returned (.bool (twiceB (l.take k) s)) ∧ Kept V w' from fun V kk => by
        exact (sitsTwice_any X m noneOut (.slice (some ⟨g, og, none⟩) k k) (l.take k) s V (HTR.out.kept kk) HTK.out))
       unfold BBook.sval noneOut at HC
       go_wp2_with fail
       generalize hgv : (twiceB (l.take k) s) = gv at *
       have HGV := Lib.hid hgv; clear hgv
       have f0 := cell_regrown e0
       have f1 := cell_regrown e1
       have f2 := cell_regrown e2
       have HCW := Lib.hid (fun d os => Calls.regrown_of (HC.out (grow (redrawn wr d) os) (below_regrown wr d os)))
       refine wp_region_quiet_below (by kernel_rfl) (by kernel_rfl) ?_
       repeat (any_goals (first | go_big_quiet_skip | quiet_step (first | with_reducible exact HCW.out _ _)))
       refine wpQuiet_nil ?_
       intro _ hw'
       obtain ⟨⟨dq2, osq2⟩, hw''⟩ := hw'
       subst hw''
       have kR := below_regrown wr dq2 osq2
       have kF := kept_trans kX kR
       have kG := kept_trans k3 kR
       clear f0 f1 f2 HCW HC
       cases gv with
       | true =>
        have HRF := Lib.hid (show res = false by rw [HRA.out, okAt, HJ.out.1 (by omega), HJ.out.2.1 (by omega), HGV.out]; simp)
        go_wp2_with fail
        go_ret
        exact ⟨by simp [HRF.out], kF⟩
       | false =>
        go_wp2_with fail
        go_roundw
        case rel => exact ⟨2 + 1, by omega, by go_num, kG, Lib.hid ⟨fun _ => HJ.out.1 (by omega), fun _ => HJ.out.2.1 (by omega), fun _ => by have := HGV.out; simpa using this, fun h => absurd h (by omega)⟩⟩
        case measure => simp [intOf]
      ·have cb := HBR.out.c3
       unfold banV BBook.sval at cb
       obtain ⟨bo, hbm, hbo⟩ := hasI_nat (HJ.out.1 (by omega))
       have hbo4 := HQ.out.2.2.2 bo hbm
       have HC := Lib.hid (show ∀ V, Kept wr V → Calls Tryz.prog 82 #[X.sval m noneOut, .slice (some ⟨g, og, none⟩) k k, .agg #[.int .i64 s.piece, .int .i64 s.part, .int .i64 s.boy]] V fun e w' => e = .returned (.bool (tooB X (l.take k) s)) ∧ Kept V w' from fun V kk => by
        have hc := (singsTooMuch_any X m noneOut (.slice (some ⟨g, og, none⟩) k k) (l.take k) q.1 bo s.part xp V (HS.out.book.kept kk) (okB_parts HOK.out).2.2.1 (fun i hi => kcell kk (HS.out.rest i hi)) (HTR.out.kept kk) HTK.out HSO.out HX.out.1 hbo4)
        rw [← HSP.out.1, ← hbo] at hc
        exact hc)
       have HBO := Lib.hid (And.intro hbo hbo4); clear hbo hbo4
       unfold BBook.sval noneOut at HC
       go_wp2_with fail
       generalize hgv : (tooB X (l.take k) s) = gv at *
       have HGV := Lib.hid hgv; clear hgv
       have f0 := cell_regrown e0
       have f1 := cell_regrown e1
       have f2 := cell_regrown e2
       have HCW := Lib.hid (fun d os => Calls.regrown_of (HC.out (grow (redrawn wr d) os) (below_regrown wr d os)))
       refine wp_region_quiet_below (by kernel_rfl) (by kernel_rfl) ?_
       repeat (any_goals (first | go_big_quiet_skip | quiet_step (first | with_reducible exact HCW.out _ _)))
       refine wpQuiet_nil ?_
       intro _ hw'
       obtain ⟨⟨dq2, osq2⟩, hw''⟩ := hw'
       subst hw''
       have kR := below_regrown wr dq2 osq2
       have kF := kept_trans kX kR
       have kG := kept_trans k3 kR
       clear f0 f1 f2 HCW HC
       cases gv with
       | true =>
        have HRF := Lib.hid (show res = false by rw [HRA.out, okAt, HJ.out.1 (by omega), HJ.out.2.1 (by omega), HJ.out.2.2.1 (by omega), HGV.out]; simp)
        go_wp2_with fail
        go_ret
        exact ⟨by simp [HRF.out], kF⟩
       | false =>
        go_wp2_with fail
        go_roundw
        case rel => exact ⟨3 + 1, by omega, by go_num, kG, Lib.hid ⟨fun _ => HJ.out.1 (by omega), fun _ => HJ.out.2.1 (by omega), fun _ => HJ.out.2.2.1 (by omega), fun _ => by have := HGV.out; simpa using this⟩⟩
        case measure => simp [intOf]
      ·have HRN := Lib.hid (show res = rightF X (l.take (k + 1)) (l.drop (k + 1)) (ws.drop (k + 1)) by
        rw [HRA.out, okAt, HG.out, HJ.out.1 (by omega), HJ.out.2.1 (by omega), HJ.out.2.2.1 (by omega), HJ.out.2.2.2 (by omega)]; simp)
       have HSN := Lib.hid (show ∀ t ∈ l.take (k + 1), SeatOk X t by
        intro t ht
        rw [List.take_succ, HGET.out] at ht
        rcases List.mem_append.1 ht with ht | ht
        ·exact HSO.out t ht
        ·simp at ht
         subst ht
         obtain ⟨bo, hbm, hbo⟩ := hasI_nat (HJ.out.1 (by omega))
         exact ⟨⟨q.1, xp, HSP.out.1, HX.out.1⟩, bo, hbo, HQ.out.2.2.2 bo hbm⟩)
       have kN : Kept w1 wr := kept_trans hk (kept_trans hk9 (kept_trans kQ (kept_trans k2 k3)))
       go_wp2_with fail
       go_roundw
       case rel => exact ⟨k + 1, by omega, by go_num, kN, HRN.out, HSN.out⟩
       case measure => simp [intOf]; omega
   ·have hkI : ¬ (k : Int) < l.length := by omega
    obtain rfl : k = l.length := by omega
    have HRT := Lib.hid (show res = true by rw [HRES.out, List.drop_length, HNE.out, List.drop_length]; rfl)
    go_wp2_with fail
    go_ret
    exact ⟨by simp [HRT.out], kW⟩
 ·have hneq : ((l.length : Int) != (ws.length : Int)) = true := by simp; omega
  have HRF := Lib.hid (HRL.out hne)
  clear hne HRL HR0
  go_wp2_with fail
  go_ret
  exact ⟨by simp [HRF.out], hkw⟩
end Go.Proofs.YtcllfjjhijkakaaGreatDoor
namespace Go.Proofs.YtcllfjjhijkakaaGreatDoor
open Go.RowKit Go.Sort Go.Rg
set_option maxRecDepth 100000
set_option maxHeartbeats 4000000
attribute [local go_sem] Oper.semAt_some
theorem isChoice_true (X : BBook) (v : Value) (l : List Nat) (w : World) (hnp : X.pieces.length ≤ 3) (hl : ListAt w v l) (hlen : l.length ≤ 3) (hlt : ∀ p ∈ l, p < X.pieces.length) (hs : ∀ i a b, l[i]? = some a → l[i + 1]? = some b → a < b) :
  Calls Tryz.prog 32 #[X.val, v] w fun e w' => e = .returned (.bool true) ∧ Kept w w' := by
 have hk0 : Kept w (w.alloc (Obj.cells #[.slice X.p X.B.boys.length X.cap, .int .i64 X.B.weeks, .slice X.q X.B.trials.length X.capt, .slice X.r X.pieces.length X.capp, .int .i64 X.most] 28)) := kept_alloc (kept_refl _) _
 have ZZ : ∀ Z, Z = (w.alloc (Obj.cells #[.slice X.p X.B.boys.length X.cap, .int .i64 X.B.weeks, .slice X.q X.B.trials.length X.capt, .slice X.r X.pieces.length X.capp, .int .i64 X.most] 28)) → Z.cell? ⟨w.heap.size, 0, none⟩ = some (.slice X.p X.B.boys.length X.cap) ∧ Z.cell? ⟨w.heap.size, 1, none⟩ = some (.int .i64 X.B.weeks) ∧ Z.cell? ⟨w.heap.size, 2, none⟩ = some (.slice X.q X.B.trials.length X.capt) ∧ Z.cell? ⟨w.heap.size, 3, none⟩ = some (.slice X.r X.pieces.length X.capp) ∧ Z.cell? ⟨w.heap.size, 4, none⟩ = some (.int .i64 X.most) := by rintro _ rfl; refine ⟨?_, ?_, ?_, ?_, ?_⟩ <;> go_simp
 obtain ⟨a0, a1, a2, a3, a4⟩ := ZZ _ rfl; clear ZZ
 have HL := Lib.hid (hl.kept hk0)
 have HLT := Lib.hid hlt
 have HS := Lib.hid hs
 obtain ⟨p, cap, rfl⟩ : ∃ p cap, v = .slice p l.length cap := by
  rcases hl with ⟨rfl, rfl⟩ | ⟨b, cap, rfl, _⟩
  ·exact ⟨none, 0, rfl⟩
  ·exact ⟨_, cap, rfl⟩
 clear hl hlt hs
 unfold BBook.val
 go_enter Tryz.func32, Tryz.ntmps32
 go_wp2_with fail
 generalize (w.alloc (Obj.cells #[.slice X.p X.B.boys.length X.cap, .int .i64 X.B.weeks, .slice X.q X.B.trials.length X.capt, .slice X.r X.pieces.length X.capp, .int .i64 X.most] 28)) = W0 at *
 go_loopw [9] (fun i V => ∃ k : Nat, k ≤ l.length ∧ i = .int .i64 k ∧ Kept W0 V) (fun i V => l.length - (intOf i).toNat)
 case atStart => exact ⟨0, by omega, rfl, kept_refl _⟩
 case round =>
  obtain ⟨k, hkl, rfl, hk⟩ := hrel
  have b0 := kcell hk a0
  have b1 := kcell hk a1
  have b2 := kcell hk a2
  have b3 := kcell hk a3
  have b4 := kcell hk a4
  by_cases hlt : k < l.length
  ·have hkI : (k : Int) < l.length := by omega
   obtain ⟨x, hget⟩ : ∃ x, l[k]? = some x := ⟨_, List.getElem?_eq_getElem hlt⟩
   obtain ⟨b, rfl, hbz, hcs⟩ : ∃ b, p = some ⟨b, 0, none⟩ ∧ b < W0.heap.size ∧ ∀ i x, l[i]? = some x → W0.cell? ⟨b, i, none⟩ = some (.int .i64 ((x : Nat) : Int)) := by
    rcases HL.out with ⟨_, rfl⟩ | ⟨b, c, e, hb, hcs⟩
    ·simp at hget
    ·simp only [Value.slice.injEq] at e; exact ⟨b, e.1, hb, hcs⟩
   have HCS := Lib.hid hcs; clear hcs
   have c0 := kcell hk (HCS.out k x hget)
   have hxl := HLT.out x (List.mem_of_getElem? hget)
   have HP := Lib.hid (show ∀ W, Calls Tryz.prog 43 #[X.val, .int .i64 (x : Int)] W fun e w' => e = .returned (.bool true) ∧ Kept W w' from fun W => by
    have := isPiece_any X (x : Int) W (by omega)
    rw [show inB (x : Int) 0 (X.pieces.length - 1) = true by simp [inB]; omega] at this
    exact this)
   unfold BBook.val at HP
   have hzb := Go.Ai.lt_of_cell b0
   have hzc := Go.Ai.lt_of_cell c0
   by_cases h0 : k = 0
   ·subst h0
    clear hget
    go_wp2_with (go_at_call 43; with_reducible refine (HP.out _).mono ?_; rintro e w' ⟨rfl, hk'⟩; have kNN := kept_trans hk hk')
    go_roundw
    case rel => exact ⟨1, by omega, by go_num, kNN⟩
    case measure => simp [intOf]; omega
   ·have hk1 : IntKind.i64.wrap ((k : Int) - 1) = ((k - 1 : Nat) : Int) := by rw [IntWalk.i64_in _ (by omega)]; omega
    obtain ⟨y, hgy⟩ : ∃ y, l[k - 1]? = some y := ⟨_, List.getElem?_eq_getElem (by omega)⟩
    have hyx : y < x := HS.out (k - 1) y x hgy (by rw [show k - 1 + 1 = k by omega]; exact hget)
    have hge : ¬ (x : Int) ≤ y := by omega
    have hkp : (0 : Int) < k := by omega
    have hki2 : ((k - 1 : Nat) : Int) < l.length := by omega
    have hki0 : (0 : Int) ≤ ((k - 1 : Nat) : Int) := by omega
    have c1 := kcell hk (HCS.out (k - 1) y hgy)
    clear hget hgy
    generalize hkk : k - 1 = kk at *
    have HKK := Lib.hid hkk; clear hkk
    go_wp2_with (go_at_call 43; with_reducible refine (HP.out _).mono ?_; rintro e w' ⟨rfl, hk'⟩; have kNN := kept_trans hk hk'; replace c1 := kcell hk' c1; have hzc1 := Go.Ai.lt_of_cell c1)
    go_roundw
    case rel => exact ⟨k + 1, by omega, by go_num, kNN⟩
    case measure => simp [intOf]; omega
  ·have hkI : ¬ (k : Int) < l.length := by omega
   have kN := kept_trans hk0 hk
   go_wp2_with fail
   go_ret
   exact ⟨rfl, kN⟩
end Go.Proofs.YtcllfjjhijkakaaGreatDoor
namespace Go.Proofs.YtcllfjjhijkakaaGreatDoor
open Go.RowKit Go.Sort Go.Rg
set_option maxRecDepth 100000
attribute [local go_sem] Oper.semAt_some
structure OneC (c : Nat) (R : Value → World → Prop) (V : World) (vals : Nat → Value) (vs : Nat → Value) (on : Nat → Bool) (w : World) : Prop where
 kept : Kept V w
 val : ∀ j, on j = true → j ≠ c → vs j = vals j
 made : on c = true → R (vs c) w
theorem OneC.start {c : Nat} {R : Value → World → Prop} {V : World} {vals : Nat → Value} : OneC c R V vals (fun _ => undef) (fun _ => false) V.drew := ⟨kept_drew (kept_refl V), nofun, nofun⟩
theorem OneC.pure {c : Nat} {R : Value → World → Prop} {V : World} {vals vs : Nat → Value} {on : Nat → Bool} {w w' : World} (h : OneC c R V vals vs on w) (j : Nat) (hj : j ≠ c) (hR : ∀ v w w', Kept w w' → R v w → R v w') (k : Kept w w') :
  OneC c R V vals (fun i => if i = j then vals j else vs i) (fun i => if i = j then true else on i) w' := by
 refine ⟨kept_trans h.kept k, fun i hi hc => ?_, fun hc => ?_⟩
 ·by_cases e : i = j
  ·subst e; simp
  ·simp only [e, if_false] at hi ⊢; exact h.val i hi hc
 ·simp only [Ne.symm hj, if_false] at hc ⊢
  exact hR _ _ _ k (h.made hc)
theorem OneC.called {c : Nat} {R : Value → World → Prop} {V : World} {vals vs : Nat → Value} {on : Nat → Bool} {w w' : World} (h : OneC c R V vals vs on w) {v : Value} (k : Kept w w') (r : R v w') :
  OneC c R V vals (fun i => if i = c then v else vs i) (fun i => if i = c then true else on i) w' := by
 refine ⟨kept_trans h.kept k, fun i hi hc => ?_, fun _ => by simpa using r⟩
 simp only [hc, if_false] at hi ⊢
 exact h.val i hi hc
theorem partsL_len {X : BBook} (h : X.okB = true) : ∀ (l : List Nat), (partsL X l).length ≤ l.length * 3
 | [] => by simp [partsL]
 | p :: l => by
  have h1 := partsL_len h l
  have h2 := partsOf_len h p
  have e : partsL X (p :: l) = partsOf X p ++ partsL X l := by simp [partsL]
  rw [e, List.length_append, List.length_cons]; omega
theorem partsL_mem {X : BBook} {l : List Nat} {q : Nat × Nat} (h : q ∈ partsL X l) : ∃ x y, X.pieces[q.1]? = some x ∧ x.parts[q.2]? = some y := by
 obtain ⟨p, _, hq⟩ := List.mem_flatMap.1 h
 unfold partsOf at hq
 split at hq
 ·cases hq
 ·rename_i x hx
  obtain ⟨k, hk, rfl⟩ := List.mem_map.1 hq
  exact ⟨x, _, hx, List.getElem?_eq_getElem (List.mem_range.1 hk)⟩
def MayP (X : BBook) (l : List Nat) (sl : List Seat) (W : World) (e : Ending) (C : World) : Prop :=
 ∃ (v : Bool) (err : Int), e = .returned (.tuple #[.bool v, .int .i64 err]) ∧ Kept W C ∧
  ((err = 0 ∧ Can X.B ∧ v = rightF X [] sl (wantL X (partsL X l))) ∨ (err = 72 ∧ ¬ Can X.B ∧ v = false))
set_option maxHeartbeats 8000000 in
theorem bMay_any (X : BBook) (v sv : Value) (l : List Nat) (sl : List Seat) (W : World) (h : BBookAt W X) (hg : Nothing W) (hok : X.okB = true) (hl : ListAt W v l) (hlen : l.length ≤ 3) (hlt : ∀ p ∈ l, p < X.pieces.length) (hs : ∀ i a b, l[i]? = some a → l[i + 1]? = some b → a < b) (hT : SeatsIs W sv sl)
  (hr : ∀ i, i < 4 → W.cell? ⟨2, i, none⟩ = some (.int .i64 0)) :
  Calls Tryz.prog 8 #[X.val, v, sv] W (MayP X l sl W) := by
 obtain ⟨_, hnp3, _, hpp⟩ := okB_parts hok
 have HOP := Lib.hid (fun V (kk : Kept W V) => bOpen_any X true V (h.kept kk) (hg.kept kk))
 have HIP := Lib.hid (fun V (kk : Kept W V) => isChoice_true X v l V hnp3.2 (hl.kept kk) hlen hlt hs)
 have HPA := Lib.hid (fun m V (kk : Kept W V) => parts_any X m noneOut v l V (h.kept kk) (hl.kept kk) hlen hnp3.2 (fun x hx => by
  obtain ⟨i, hi⟩ := List.getElem?_of_mem hx
  exact (hpp i x hi).2.1.2) hlt)
 have HAR := Lib.hid (fun n0 m pv V (kk : Kept W V) (hst : StallsAt n0 V X m) (hp : PlacesIs V pv (partsL X l)) => areRight_any X n0 m sv pv sl (partsL X l) V ⟨h.kept kk, hst, fun i hi => kcell kk (hr i hi)⟩ hok (hT.kept kk) hp (Nat.le_trans (partsL_len hok l) (by omega)) (fun q hq => partsL_mem hq))
 clear hpp h hg hl hlt hs hT hr
 unfold BBook.val at HIP
 unfold BBook.sval noneOut at HPA HAR
 refine callsIn_wide.1 (callsIn_of_wp (n := 0) Tryz.func8 rfl trivial ?_ rfl)
 simp only [Tryz.ntmps8, List.size_toArray, List.length_cons, List.length_nil, Nat.reduceAdd, Nat.reduceSub, Array.replicate_succ, Array.replicate_zero, List.push_toArray, List.append_toArray, List.nil_append, List.cons_append]
 unfold BBook.val
 gi_wp2_with fail
 have hk0 : Kept W (W.alloc (Obj.cells #[.slice X.p X.B.boys.length X.cap, .int .i64 X.B.weeks, .slice X.q X.B.trials.length X.capt, .slice X.r X.pieces.length X.capp, .int .i64 X.most] 28)) := kept_alloc (kept_refl _) _
 have ZZ : ∀ Z, Z = (W.alloc (Obj.cells #[.slice X.p X.B.boys.length X.cap, .int .i64 X.B.weeks, .slice X.q X.B.trials.length X.capt, .slice X.r X.pieces.length X.capp, .int .i64 X.most] 28)) → Z.cell? ⟨W.heap.size, 0, none⟩ = some (.slice X.p X.B.boys.length X.cap) ∧ Z.cell? ⟨W.heap.size, 1, none⟩ = some (.int .i64 X.B.weeks) ∧ Z.cell? ⟨W.heap.size, 2, none⟩ = some (.slice X.q X.B.trials.length X.capt) ∧ Z.cell? ⟨W.heap.size, 3, none⟩ = some (.slice X.r X.pieces.length X.capp) ∧ Z.cell? ⟨W.heap.size, 4, none⟩ = some (.int .i64 X.most) := by rintro _ rfl; refine ⟨?_, ?_, ?_, ?_, ?_⟩ <;> go_simp
 obtain ⟨a0c, a1c, a2c, a3c, a4c⟩ := ZZ _ rfl; clear ZZ
 generalize (W.alloc (Obj.cells #[.slice X.p X.B.boys.length X.cap, .int .i64 X.B.weeks, .slice X.q X.B.trials.length X.capt, .slice X.r X.pieces.length X.capp, .int .i64 X.most] 28)) = W0 at *
 refine wpIn_region_invL (StP 4 (fun j => match j with | 0 => (.agg #[.slice X.p X.B.boys.length X.cap, .int .i64 X.B.weeks, .slice X.q X.B.trials.length X.capt, .slice X.r X.pieces.length X.capp, .int .i64 X.most]) | 1 => (.agg #[.slice X.p X.B.boys.length X.cap, .int .i64 X.B.weeks, .slice X.q X.B.trials.length X.capt, .slice X.r X.pieces.length X.capp, .int .i64 X.most]) | 2 => v | _ => .bool true) W0 zeroL (OpenR X true W.heap.size)) (by kernel_rfl) (by kernel_rfl) StP.start ?hop ?hend
 case hop =>
  rintro i o listed a w hl ho h1 h2 hcl ⟨v, err, pp, ha, hw⟩
  have hi11 : i < 11 := (List.getElem?_eq_some_iff.1 ho).1
  match i, ho with
  | 0, ho =>
   have st := StP.same (by kernel_rfl) ha hw ho h1 (by omega) (by omega) (by omega) (kept_refl w)
   have ST := Lib.hid st; clear st
   cases ho
   rw [if_pos (by rfl)]
   have t3 := ha.old 3 (by kernel_rfl)
   simp at t3
   have r0 := kcell hw.kept a0c
   have r1 := kcell hw.kept a1c
   have r2 := kcell hw.kept a2c
   have r3 := kcell hw.kept a3c
   have r4 := kcell hw.kept a4c
   go_simp
   exact ST.out
  | 1, ho =>
   have st := StP.same (by kernel_rfl) ha hw ho h1 (by omega) (by omega) (by omega) (kept_refl w)
   have ST := Lib.hid st; clear st
   cases ho
   rw [if_pos (by rfl)]
   have t3 := ha.old 3 (by kernel_rfl)
   simp at t3
   have r0 := kcell hw.kept a0c
   have r1 := kcell hw.kept a1c
   have r2 := kcell hw.kept a2c
   have r3 := kcell hw.kept a3c
   have r4 := kcell hw.kept a4c
   go_simp
   exact ST.out
  | 2, ho =>
   have st := StP.same (by kernel_rfl) ha hw ho h1 (by omega) (by omega) (by omega) (kept_refl w)
   have ST := Lib.hid st; clear st
   cases ho
   rw [if_pos (by rfl)]
   have t1 := ha.old 1 (by kernel_rfl)
   simp at t1
   go_simp
   exact ST.out
  | 3, ho =>
   have st := fun w' (k : Kept w w') => StP.same (by kernel_rfl) ha hw ho h1 (by omega) (by omega) (by omega) k
   have ST := Lib.hid st; clear st
   cases ho
   rw [if_pos (by rfl)]
   have t12 := ha.new 1 (h2 ⟨1, .data⟩ (by simp) rfl) (d := 12) rfl rfl (by simp)
   simp [openVs] at t12
   have t13 := ha.new 2 (h2 ⟨2, .data⟩ (by simp) rfl) (d := 13) rfl rfl (by simp)
   simp [openVs] at t13
   have hcall := HIP.out w (kept_trans hk0 hw.kept)
   have HCL := Lib.hid hcall; clear hcall
   go_simp
   refine ⟨trivial, rfl, (callsIn_wide.2 HCL.out).mono ?_⟩
   rintro e w' ⟨rfl, hk⟩
   exact ST.out _ hk
  | 4, ho =>
   obtain ⟨n5, n6, n7, n9, n10⟩ := open_first hcl h1 ⟨_, rfl, ⟨4, .data⟩, by simp, rfl, rfl⟩ ⟨_, rfl, ⟨5, .data⟩, by simp, rfl, rfl⟩ ⟨_, rfl, ⟨5, .data⟩, by simp, rfl, rfl⟩ ⟨_, rfl, ⟨6, .data⟩, by simp, rfl, rfl⟩ ⟨_, rfl, ⟨7, .data⟩, by simp, rfl, rfl⟩
   have st := fun v' err' w' (k : OReg W0 zeroL (OpenR X true W.heap.size) v' err' pp true (on listed 8) (on listed 9) w') => StP.opened (by kernel_rfl) ha hl ho h1 n5 n6 n7 n9 n10 k
   have ST := Lib.hid st; clear st
   cases ho
   rw [if_pos (by rfl)]
   have t11 := ha.new 0 (h2 ⟨0, .data⟩ (by simp) rfl) (d := 11) rfl rfl (by simp)
   simp [openVs] at t11
   have t14 := ha.new 3 (h2 ⟨3, .data⟩ (by simp) rfl) (d := 14) rfl rfl (by simp)
   simp [openVs] at t14
   have hcall := HOP.out w (kept_trans hk0 hw.kept)
   unfold BBook.val at hcall
   have HCL := Lib.hid hcall; clear hcall
   have HW := Lib.hid hw; clear hw
   go_simp
   refine ⟨trivial, rfl, (callsIn_wide.2 HCL.out).mono ?_⟩
   rintro e w' ⟨v', err', rfl, k', hr⟩
   exact ST.out v' err' w' (HW.out.opened n9 k' W.heap.size hk0.size (fun D U kU hU => OpenR.mono (OpenR.turns hr kU (fun b h1 h2 => hU b h2 (.inr h1))) (kept_trans hk0 HW.out.kept).size))
  | 5, ho =>
   have st := StP.same (by kernel_rfl) ha hw ho h1 (by omega) (by omega) (by omega) (kept_refl w)
   have ST := Lib.hid st; clear st
   cases ho
   rw [if_pos (by rfl)]
   have t15 := ha.new 4 (h2 ⟨4, .data⟩ (by simp) rfl) (d := 15) rfl rfl (by simp)
   simp [openVs] at t15
   go_simp
   exact ST.out
  | 6, ho =>
   have st := StP.same (by kernel_rfl) ha hw ho h1 (by omega) (by omega) (by omega) (kept_refl w)
   have ST := Lib.hid st; clear st
   cases ho
   rw [if_pos (by rfl)]
   have t10 := ha.new 5 (h2 ⟨5, .data⟩ (by simp) rfl) (d := 10) rfl rfl (by simp)
   simp [openVs] at t10
   go_simp
   exact ST.out
  | 7, ho =>
   have st := StP.same (by kernel_rfl) ha hw ho h1 (by omega) (by omega) (by omega) (kept_refl w)
   have ST := Lib.hid st; clear st
   cases ho
   rw [if_pos (by rfl)]
   have t10 := ha.new 5 (h2 ⟨5, .data⟩ (by simp) rfl) (d := 10) rfl rfl (by simp)
   simp [openVs] at t10
   go_simp
   exact ST.out
  | 8, ho =>
   have n9 : on listed 9 = false := by
    cases hb : on listed 9 with
    | false => rfl
    | true => have := hcl 9 _ rfl hb ⟨8, .data⟩ (by simp) rfl; rw [on_no h1] at this; cases this
   have st := StP.boxed 74 (by kernel_rfl) ha hw hl ho h1 n9
   have ST := Lib.hid st; clear st
   cases ho
   rw [if_pos (by rfl)]
   go_simp
   exact ST.out
  | 9, ho =>
   have y8 : on listed 8 = true := h2 ⟨8, .data⟩ (by cases ho; simp) rfl
   have y4 : on listed 4 = true := h2 ⟨4, .chain⟩ (by cases ho; simp) rfl
   have t8 := ha.new 8 y8 (d := 8) rfl rfl (by simp)
   simp [openVs] at t8
   have t16 := ha.new 6 (h2 ⟨6, .data⟩ (by cases ho; simp) rfl) (d := 16) rfl rfl (by simp)
   simp [openVs] at t16
   obtain ⟨hbp, hbz, hcs, hbf⟩ := hw.box y8
   obtain ⟨f0, b0⟩ := hcs 0 (by simp [zeroL])
   obtain ⟨f1, b1⟩ := hcs 1 (by simp [zeroL])
   obtain ⟨f2, b2⟩ := hcs 2 (by simp [zeroL])
   obtain ⟨f3, b3⟩ := hcs 3 (by simp [zeroL])
   obtain ⟨f4, b4⟩ := hcs 4 (by simp [zeroL])
   obtain ⟨f5, b5⟩ := hcs 5 (by simp [zeroL])
   obtain ⟨f6, b6⟩ := hcs 6 (by simp [zeroL])
   have bf0 := hbf 0
   have bf1 := hbf 1
   have bf2 := hbf 2
   have bf3 := hbf 3
   have bf4 := hbf 4
   have bf5 := hbf 5
   have bf6 := hbf 6
   rcases (hw.res y4).here with ⟨_, _, _, _, m, rfl, _⟩ | ⟨rfl, _⟩
   ·skip
    have st := StP.stored (by kernel_rfl) ha hw hl ho (by cases ho; rfl) h1 y8 (show X.sval m noneOut = Value.agg (List.toArray _) from rfl) rfl
    simp only [setAll, Nat.reduceAdd] at st
    have ST := Lib.hid st; clear st
    cases ho
    rw [if_pos (by rfl)]
    unfold BBook.sval noneOut at t16
    clear hbf hcs
    go_simp
    exact ST.out
   ·skip
    have st := StP.stored (by kernel_rfl) ha hw hl ho (by cases ho; rfl) h1 y8 (show zeroStalls = Value.agg (List.toArray _) from rfl) rfl
    simp only [setAll, Nat.reduceAdd] at st
    have ST := Lib.hid st; clear st
    cases ho
    rw [if_pos (by rfl)]
    unfold zeroStalls at t16
    clear hbf hcs
    go_simp
    exact ST.out
  | 10, ho =>
   have st := StP.same (by kernel_rfl) ha hw ho h1 (by omega) (by omega) (by omega) (kept_refl w)
   have ST := Lib.hid st; clear st
   cases ho
   rw [if_pos (by rfl)]
   have t17 := ha.new 7 (h2 ⟨7, .data⟩ (by simp) rfl) (d := 17) rfl rfl (by simp)
   simp [openVs] at t17
   go_simp
   exact ST.out
 case hend =>
  rintro listed a w hall ⟨v0, err, pp, ha, hw⟩
  rw [show on listed 4 = true from hall 4 (by simp), show on listed 8 = true from hall 8 (by simp), show on listed 9 = true from hall 9 (by simp)] at hw
  obtain ⟨y, hy, hae⟩ := ha.lit (n := 27) rfl
  have y1 := (hy 1).symm.trans (ha.old 1 (by kernel_rfl))
  have y2 := (hy 2).symm.trans (ha.old 2 (by kernel_rfl))
  have y6 := (hy 6).symm.trans (ha.old 6 (by kernel_rfl))
  have y7 := (hy 7).symm.trans (ha.old 7 (by kernel_rfl))
  have y8 := (hy 8).symm.trans (ha.new 8 (hall 8 (by simp)) (d := 8) rfl rfl (by simp))
  have y9 := (hy 9).symm.trans (ha.new 10 (hall 10 (by simp)) (d := 9) rfl rfl (by simp))
  simp at y1 y2 y6 y7
  simp [openVs] at y8 y9
  simp only [List.range, List.range.loop, List.map] at hae
  rw [y1, y2, y6, y7, y8, y9] at hae
  subst hae
  clear ha hy y1 y2 y6 y7 y8 y9
  refine (by assumption : ∀ a w, Code.wpIn _ _ _ _ _ a w → _) _ w ?_
  have kW := kept_trans hk0 hw.kept
  obtain ⟨_, xs, hv, hxl, hxc⟩ := hw.put rfl
  rcases (hw.res rfl).here with ⟨rfl, _, _, hcan, m, rfl, hst⟩ | ⟨rfl, herr⟩
  ·have e4 := congrArg (fun u => match u with | Value.agg cs => cs.toList | _ => []) hv
   simp only [BBook.sval, noneOut] at e4
   have b0 := hxc 0 (.slice X.p X.B.boys.length X.cap) (by rw [← e4]; rfl)
   have b1 := hxc 1 (.int .i64 X.B.weeks) (by rw [← e4]; rfl)
   have b2 := hxc 2 (.slice X.q X.B.trials.length X.capt) (by rw [← e4]; rfl)
   have b3 := hxc 3 (.slice X.r X.pieces.length X.capp) (by rw [← e4]; rfl)
   have b4 := hxc 4 (.int .i64 X.most) (by rw [← e4]; rfl)
   have b5 := hxc 5 (.map (some m)) (by rw [← e4]; rfl)
   have b6 := hxc 6 (.func (.func 75) #[] #[]) (by rw [← e4]; rfl)
   have HST := Lib.hid hst
   clear e4 hv hxc hxl hst
   gi_wp2_with fail
   have hRm : ∀ (v : Value) (w w' : World), Kept w w' → PlacesIs w v (partsL X l) → PlacesIs w' v (partsL X l) := fun _ _ _ k h => h.kept k
   have HRM := Lib.hid hRm; clear hRm
   generalize hres : rightF X [] sl (wantL X (partsL X l)) = res at *
   have HRES := Lib.hid hres; clear hres
   refine wpIn_region_invL (StG (OneC 4 (fun u U => PlacesIs U u (partsL X l)) w (fun j : Nat => match j with | 0 => .agg #[.slice X.p X.B.boys.length X.cap, .int .i64 X.B.weeks, .slice X.q X.B.trials.length X.capt, .slice X.r X.pieces.length X.capp, .int .i64 X.most, .map (some m), .func (.func 75) #[] #[]] | 1 => sv | 2 => .agg #[.slice X.p X.B.boys.length X.cap, .int .i64 X.B.weeks, .slice X.q X.B.trials.length X.capt, .slice X.r X.pieces.length X.capp, .int .i64 X.most, .map (some m), .func (.func 75) #[] #[]] | 3 => v | 5 => .bool res | 6 => .bool res | 7 => .int .i64 0 | _ => undef))) (by kernel_rfl) (by kernel_rfl) (StG.start OneC.start) ?hop2 ?hend2
   case hop2 =>
    rintro i o listed a V hl ho h1 h2 hcl ⟨vs, ha, hI⟩
    have hi8 : i < 8 := (List.getElem?_eq_some_iff.1 ho).1
    match i, ho with
    | 0, ho =>
     have st := StG.step (by kernel_rfl) ha hl ho h1 (hI.pure 0 (by simp) HRM.out (kept_refl V))
     have ST := Lib.hid st; clear st
     cases ho
     rw [if_pos (by rfl)]
     have t8 := ha.old 8 (by kernel_rfl)
     simp at t8
     have rb0 := kcell hI.kept b0
     have rb1 := kcell hI.kept b1
     have rb2 := kcell hI.kept b2
     have rb3 := kcell hI.kept b3
     have rb4 := kcell hI.kept b4
     have rb5 := kcell hI.kept b5
     have rb6 := kcell hI.kept b6
     have HI := Lib.hid hI; clear hI
     go_simp
     exact ST.out
    | 1, ho =>
     have st := StG.step (by kernel_rfl) ha hl ho h1 (hI.pure 1 (by simp) HRM.out (kept_refl V))
     have ST := Lib.hid st; clear st
     cases ho
     rw [if_pos (by rfl)]
     have t2 := ha.old 2 (by kernel_rfl)
     simp at t2
     have HI := Lib.hid hI; clear hI
     go_simp
     exact ST.out
    | 2, ho =>
     have st := StG.step (by kernel_rfl) ha hl ho h1 (hI.pure 2 (by simp) HRM.out (kept_refl V))
     have ST := Lib.hid st; clear st
     cases ho
     rw [if_pos (by rfl)]
     have t8 := ha.old 8 (by kernel_rfl)
     simp at t8
     have rb0 := kcell hI.kept b0
     have rb1 := kcell hI.kept b1
     have rb2 := kcell hI.kept b2
     have rb3 := kcell hI.kept b3
     have rb4 := kcell hI.kept b4
     have rb5 := kcell hI.kept b5
     have rb6 := kcell hI.kept b6
     have HI := Lib.hid hI; clear hI
     go_simp
     exact ST.out
    | 3, ho =>
     have st := StG.step (by kernel_rfl) ha hl ho h1 (hI.pure 3 (by simp) HRM.out (kept_refl V))
     have ST := Lib.hid st; clear st
     cases ho
     rw [if_pos (by rfl)]
     have t1 := ha.old 1 (by kernel_rfl)
     simp at t1
     have HI := Lib.hid hI; clear hI
     go_simp
     exact ST.out
    | 4, ho =>
     have st := fun pv V' (kk : Kept V V') (r : PlacesIs V' pv (partsL X l)) => StG.step (v := pv) (by kernel_rfl) ha hl ho h1 (hI.called kk r)
     have ST := Lib.hid st; clear st
     cases ho
     rw [if_pos (by rfl)]
     have t23 := (ha.new 2 (h2 ⟨2, .data⟩ (by simp) rfl) (d := 23) rfl rfl (by simp)).trans (hI.val 2 (h2 ⟨2, .data⟩ (by simp) rfl) (by simp))
     simp at t23
     have t24 := (ha.new 3 (h2 ⟨3, .data⟩ (by simp) rfl) (d := 24) rfl rfl (by simp)).trans (hI.val 3 (h2 ⟨3, .data⟩ (by simp) rfl) (by simp))
     simp at t24
     have hcall := HPA.out m V (kept_trans kW hI.kept)
     have HCL := Lib.hid hcall; clear hcall
     have HI := Lib.hid hI; clear hI
     go_simp
     refine ⟨trivial, rfl, (callsIn_wide.2 HCL.out).mono ?_⟩
     rintro e V' ⟨pv, rfl, hk, hrow⟩
     exact ST.out pv V' hk (PlacesIs.of_row hrow)
    | 5, ho =>
     have st := fun V' (kk : Kept V V') => StG.step (by kernel_rfl) ha hl ho h1 (hI.pure 5 (by simp) HRM.out kk)
     have ST := Lib.hid st; clear st
     have y4 : on listed 4 = true := h2 ⟨4, .data⟩ (by cases ho; simp) rfl
     have t25 := ha.new 4 y4 (d := 25) rfl rfl (by simp)
     simp at t25
     have hm := hI.made y4
     generalize vs 4 = pv at *
     cases ho
     rw [if_pos (by rfl)]
     have t21 := (ha.new 0 (h2 ⟨0, .data⟩ (by simp) rfl) (d := 21) rfl rfl (by simp)).trans (hI.val 0 (h2 ⟨0, .data⟩ (by simp) rfl) (by simp))
     simp at t21
     have t22 := (ha.new 1 (h2 ⟨1, .data⟩ (by simp) rfl) (d := 22) rfl rfl (by simp)).trans (hI.val 1 (h2 ⟨1, .data⟩ (by simp) rfl) (by simp))
     simp at t22
     have hcall := HAR.out _ m pv V (kept_trans kW hI.kept) (HST.out.kept hI.kept) hm
     have HCL := Lib.hid hcall; clear hcall hm
     have HI := Lib.hid hI; clear hI
     go_simp
     refine ⟨trivial, rfl, (callsIn_wide.2 HCL.out).mono ?_⟩
     rintro e V' ⟨rfl, hk⟩
     exact ST.out V' hk
    | 6, ho =>
     have st := StG.step (by kernel_rfl) ha hl ho h1 (hI.pure 6 (by simp) HRM.out (kept_refl V))
     have ST := Lib.hid st; clear st
     cases ho
     rw [if_pos (by rfl)]
     have t26 := (ha.new 5 (h2 ⟨5, .data⟩ (by simp) rfl) (d := 26) rfl rfl (by simp)).trans (hI.val 5 (h2 ⟨5, .data⟩ (by simp) rfl) (by simp))
     simp at t26
     have HI := Lib.hid hI; clear hI
     go_simp
     exact ST.out
    | 7, ho =>
     have st := StG.step (by kernel_rfl) ha hl ho h1 (hI.pure 7 (by simp) HRM.out (kept_refl V))
     have ST := Lib.hid st; clear st
     cases ho
     rw [if_pos (by rfl)]
     have HI := Lib.hid hI; clear hI
     go_simp
     exact ST.out
   case hend2 =>
    rintro listed a V hall ⟨vs, ha, hI⟩
    obtain ⟨yy, hy, hae⟩ := ha.lit (n := 27) rfl
    have z6 := ((hy 6).symm.trans (ha.new 6 (hall 6 (by simp)) (d := 6) rfl rfl (by simp))).trans (hI.val 6 (hall 6 (by simp)) (by simp))
    have z7 := ((hy 7).symm.trans (ha.new 7 (hall 7 (by simp)) (d := 7) rfl rfl (by simp))).trans (hI.val 7 (hall 7 (by simp)) (by simp))
    simp only at z6 z7
    simp only [List.range, List.range.loop, List.map] at hae
    rw [z6, z7] at hae
    subst hae
    have kE := kept_trans kW hI.kept
    clear ha hy z6 z7 hI
    refine (by assumption : ∀ a w, Code.wpIn _ _ _ _ _ a w → _) _ V ?_
    gi_wp2_with fail
    refine bodyPost_ret (v := .tuple #[.bool res, .int .i64 0]) (by simp [results, Tryz.results8, go_sem]) rfl ?_
    exact ⟨_, 0, rfl, kE, .inl ⟨rfl, hcan, HRES.out.symm⟩⟩
  ·rcases herr with ⟨_, he⟩ | ⟨_, _, he⟩ | ⟨rfl, _, _, hnc⟩
   ·rw [hok] at he; cases he
   ·cases he
   gi_wp2_with fail
   refine bodyPost_ret (v := .tuple #[.bool false, .int .i64 72]) (by simp [results, Tryz.results8, go_sem]) rfl ?_
   exact ⟨_, 72, rfl, kW, .inr ⟨rfl, hnc, rfl⟩⟩
end Go.Proofs.YtcllfjjhijkakaaGreatDoor
namespace Go.Proofs.YtcllfjjhijkakaaGreatDoor
open Go.RowKit Go.Sort Go.Rg
set_option maxRecDepth 100000
set_option maxHeartbeats 8000000
attribute [local go_sem] Oper.semAt_some
theorem infoLI : (Tryz.prog.info? 32).map (fun i => (i.zero, i.size, i.bytes)) = some (some (.slice none 0 0), 1, 24) := by kernel_rfl
theorem infoLLI : (Tryz.prog.info? 88).map (fun i => (i.zero, i.size, i.bytes)) = some (some (.slice none 0 0), 1, 24) := by kernel_rfl
def noInt (u : Value) : Prop := ∀ n, u ≠ .int .i64 n
theorem ListAt.grown {V V3 : World} {y : Value} {l : List Nat} {r : Option Nat} (h : ListAt V y l) (k : V.grownBy V3 r) (hr : ∀ g, r = some g → ∃ u, V.cell? ⟨g, 0, none⟩ = some u ∧ noInt u) : ListAt V3 y l := by
 rcases h with h | ⟨b, cap, e, hb, hc⟩
 ·exact .inl h
 ·refine .inr ⟨b, cap, e, Nat.lt_of_lt_of_le hb k.size, fun i x hi => ?_⟩
  have hne : r ≠ some b := fun hrb => by
   obtain ⟨u, hu, hn⟩ := hr b hrb
   obtain ⟨x0, h0⟩ : ∃ x0, l[0]? = some x0 := by
    have := (List.getElem?_eq_some_iff.1 hi).1
    exact ⟨_, List.getElem?_eq_getElem (by omega)⟩
   have := hc 0 x0 h0
   rw [this] at hu
   cases hu
   exact hn _ rfl
  have hbl := k.block b hb (fun e => hne e.symm)
  exact (World.cell?_of_block (a := ⟨b, i, none⟩) hbl).trans (hc i x hi)
def AbleP (w : World) (u : Value) (ls : List (List Nat)) : Prop := ∃ base us, w.ownsRow base 32 1 u ls.length us ∧ ∀ (k : Nat) (l : List Nat) (y : Value), ls[k]? = some l → us[k]? = some y → ListAt w y l
theorem row_grown {V V3 : World} {base size n : Nat} {e : TypeId} {u : Value} {xs : List Value} {r : Option Nat} (h : V.ownsRow base e size u n xs) (k : V.grownBy V3 r) (hr : ∀ g, r = some g → ∀ cur, V.heap[g]? ≠ some (.cells cur e (0, 0))) : V3.ownsRow base e size u n xs := by
 refine ⟨h.1, h.2.imp id fun ⟨g, cap, cur, e1, e2, hg, rest⟩ => ⟨g, cap, cur, e1, e2, ?_, rest⟩⟩
 have hz := (Array.getElem?_eq_some_iff.1 hg).1
 exact (k.block g hz (fun e => hr g e.symm cur hg)).trans hg
theorem AbleP.grown {V V3 : World} {u : Value} {ls : List (List Nat)} {r : Option Nat} (h : AbleP V u ls) (k : V.grownBy V3 r) (hr : ∀ g, r = some g → (∃ u, V.cell? ⟨g, 0, none⟩ = some u ∧ noInt u) ∧ ∀ cur, V.heap[g]? ≠ some (.cells cur 32 (0, 0))) : AbleP V3 u ls := by
 obtain ⟨base, us, h1, h2⟩ := h
 exact ⟨base, us, row_grown h1 k fun g e => (hr g e).2, fun i l y hl hy => (h2 i l y hl hy).grown k fun g e => (hr g e).1⟩
theorem kept_grow {V V3 : World} (k : Kept V V3) : V.grownBy V3 none := ⟨k.os, k.tape, k.output, k.size, fun i hi _ => k.block i hi⟩
theorem row_keptB {V V3 : World} {base size n : Nat} {e : TypeId} {u : Value} {xs : List Value} (h : V.ownsRow base e size u n xs) (k : Kept V V3) : V3.ownsRow base e size u n xs := row_grown h (kept_grow k) (fun g e => by cases e)
theorem row_block {V : World} {base n : Nat} {e : TypeId} {u y : Value} {ys : List Value} (h : V.ownsRow base e 1 u n (y :: ys)) (g : Nat) (hg : u.ownBlock = some g) : V.cell? ⟨g, 0, none⟩ = some y ∧ ∃ cur, V.heap[g]? = some (.cells cur e (0, 0)) := by
 rcases h.2 with ⟨rfl, _⟩ | ⟨g2, cap, cur, rfl, _, h3, _⟩
 ·cases hg
 ·cases hg
  have := h.cells (g := g2) rfl 0 y rfl
  exact ⟨by simpa [Addr.add] using this, cur, h3⟩
theorem noInt_slice (p : Option Addr) (n c : Nat) : noInt (.slice p n c) := fun _ h => by cases h
theorem ListAt.noInt {V : World} {y : Value} {l : List Nat} (h : ListAt V y l) : noInt y := by
 rcases h with ⟨rfl, _⟩ | ⟨_, _, rfl, _⟩ <;> exact noInt_slice _ _ _
theorem AbleP.noInt {V : World} {u : Value} {ls : List (List Nat)} (h : AbleP V u ls) : noInt u := by
 obtain ⟨_, _, h1, _⟩ := h
 rcases h1.2 with ⟨rfl, _⟩ | ⟨_, _, _, rfl, _⟩ <;> exact noInt_slice _ _ _
theorem row_own {V : World} {base : Nat} {e : TypeId} {v : Value} {us : List Value} (hrow : V.ownsRow base e 1 v us.length us) (hz : us = [] → v = .slice none 0 0) (hn : ∀ u ∈ us, noInt u) (g : Nat) (hg : v.ownBlock = some g) : (∃ u, V.cell? ⟨g, 0, none⟩ = some u ∧ noInt u) ∧ ∃ cur, V.heap[g]? = some (.cells cur e (0, 0)) := by
 cases us with
 | nil => rw [hz rfl] at hg; cases hg
 | cons u us =>
  obtain ⟨h1, h2⟩ := row_block hrow g hg
  exact ⟨⟨u, h1, hn u (by simp)⟩, h2⟩
theorem lists_push {V V3 : World} {base : Nat} {e : TypeId} {v y : Value} {us : List Value} {ls : List (List Nat)} {l : List Nat} (hrow : V.ownsRow base e 1 v us.length us) (hz : us = [] → v = .slice none 0 0) (hlen : us.length = ls.length)
  (hl : ∀ (j : Nat) (l : List Nat) (y : Value), ls[j]? = some l → us[j]? = some y → ListAt V y l) (hnew : ListAt V y l) (hgrow : V.grownBy V3 v.ownBlock) :
  ∀ (j : Nat) (l' : List Nat) (y' : Value), (ls ++ [l])[j]? = some l' → (us ++ [y])[j]? = some y' → ListAt V3 y' l' := by
 have hn : ∀ u ∈ us, noInt u := fun u hu => by
  obtain ⟨j, hj⟩ := List.getElem?_of_mem hu
  have hjl := (List.getElem?_eq_some_iff.1 hj).1
  exact (hl j _ u (List.getElem?_eq_getElem (by omega)) hj).noInt
 intro j l' y' h1 h2
 by_cases hj : j < us.length
 ·rw [List.getElem?_append_left (by omega)] at h1
  rw [List.getElem?_append_left hj] at h2
  exact (hl j l' y' h1 h2).grown hgrow fun g hg => (row_own hrow hz hn g hg).1
 ·have hjl := (List.getElem?_eq_some_iff.1 h2).1
  simp only [List.length_append, List.length_singleton] at hjl
  obtain rfl : j = us.length := by omega
  rw [hlen, List.getElem?_append_right (Nat.le_refl _)] at h1
  rw [List.getElem?_append_right (Nat.le_refl _)] at h2
  simp at h1 h2
  subst h1; subst h2
  exact hnew.grown hgrow fun g hg => (row_own hrow hz hn g hg).1
theorem ables_push {V V3 : World} {base : Nat} {v y : Value} {us : List Value} {ls : List (List (List Nat))} {l : List (List Nat)} (hrow : V.ownsRow base 88 1 v us.length us) (hz : us = [] → v = .slice none 0 0) (hlen : us.length = ls.length)
  (hl : ∀ (j : Nat) (l : List (List Nat)) (y : Value), ls[j]? = some l → us[j]? = some y → AbleP V y l) (hnew : AbleP V y l) (hgrow : V.grownBy V3 v.ownBlock) :
  ∀ (j : Nat) (l' : List (List Nat)) (y' : Value), (ls ++ [l])[j]? = some l' → (us ++ [y])[j]? = some y' → AbleP V3 y' l' := by
 have hn : ∀ u ∈ us, noInt u := fun u hu => by
  obtain ⟨j, hj⟩ := List.getElem?_of_mem hu
  have hjl := (List.getElem?_eq_some_iff.1 hj).1
  exact (hl j _ u (List.getElem?_eq_getElem (by omega)) hj).noInt
 have hg : ∀ g, v.ownBlock = some g → (∃ u, V.cell? ⟨g, 0, none⟩ = some u ∧ noInt u) ∧ ∀ cur, V.heap[g]? ≠ some (.cells cur 32 (0, 0)) := fun g hg => by
  obtain ⟨h1, cur, h2⟩ := row_own hrow hz hn g hg
  refine ⟨h1, fun cur' h3 => ?_⟩
  rw [h2] at h3
  simp at h3
 intro j l' y' h1 h2
 by_cases hj : j < us.length
 ·rw [List.getElem?_append_left (by omega)] at h1
  rw [List.getElem?_append_left hj] at h2
  exact (hl j l' y' h1 h2).grown hgrow hg
 ·have hjl := (List.getElem?_eq_some_iff.1 h2).1
  simp only [List.length_append, List.length_singleton] at hjl
  obtain rfl : j = us.length := by omega
  rw [hlen, List.getElem?_append_right (Nat.le_refl _)] at h1
  rw [List.getElem?_append_right (Nat.le_refl _)] at h2
  simp at h1 h2
  subst h1; subst h2
  exact hnew.grown hgrow hg
end Go.Proofs.YtcllfjjhijkakaaGreatDoor
namespace Go.Proofs.YtcllfjjhijkakaaGreatDoor
open Go.RowKit Go.Sort Go.Rg
set_option maxRecDepth 100000
set_option maxHeartbeats 8000000
attribute [local go_sem] Oper.semAt_some
def singsP (X : BBook) (p : Nat) (n : Nat) : List (List Nat) := (List.range n).map fun k => boysAt (triO X X.pieces.length) p k
def singsX (X : BBook) (n : Nat) : List (List (List Nat)) := (List.range n).map fun p => match X.pieces[p]? with
 | none => []
 | some x => singsP X p x.parts.length
theorem singsP_succ (X : BBook) (p n : Nat) : singsP X p (n + 1) = singsP X p n ++ [boysAt (triO X X.pieces.length) p n] := by simp [singsP, List.range_succ]
theorem singsX_succ {X : BBook} {p : Nat} {x : Piece} (h : X.pieces[p]? = some x) : singsX X (p + 1) = singsX X p ++ [singsP X p x.parts.length] := by simp [singsX, List.range_succ, h]
theorem cell_one_newB (w : World) (a : Value) (e : TypeId) : ∀ (j : Nat) (u : Value), [a][j]? = some u → (w.alloc (Obj.cells #[a] e)).cell? ((⟨w.heap.size, 0, none⟩ : Addr).add j) = some u
 | 0, u, h => by simp at h; subst h; go_simp
 | j + 1, u, h => by simp at h
def AbleAt (V : World) (v : Value) (X : BBook) : Prop := ∃ base vs, V.ownsRow base 88 1 v X.pieces.length vs ∧ ∀ (p : Nat) (l : List (List Nat)) (u : Value), (singsX X X.pieces.length)[p]? = some l → vs[p]? = some u → AbleP V u l
theorem able_any (X : BBook) (w : World) (h : BBookAt w X) (hg : Nothing w) (hok : X.okB = true) (hcan : Can X.B) :
  Calls Tryz.prog 11 #[X.val] w fun e C => ∃ v, e = .returned (.tuple #[v, .bool true]) ∧ Kept w C ∧ AbleAt C v X := by
 obtain ⟨i1, hi1, hiz1, his1, hib1⟩ := info_parts infoLI
 obtain ⟨i2, hi2, hiz2, his2, hib2⟩ := info_parts infoLLI
 have hk0 : Kept w (w.alloc (Obj.cells #[.slice X.p X.B.boys.length X.cap, .int .i64 X.B.weeks, .slice X.q X.B.trials.length X.capt, .slice X.r X.pieces.length X.capp, .int .i64 X.most] 28)) := kept_alloc (kept_refl _) _
 have ZZ : ∀ Z, Z = (w.alloc (Obj.cells #[.slice X.p X.B.boys.length X.cap, .int .i64 X.B.weeks, .slice X.q X.B.trials.length X.capt, .slice X.r X.pieces.length X.capp, .int .i64 X.most] 28)) → Z.cell? ⟨w.heap.size, 0, none⟩ = some (.slice X.p X.B.boys.length X.cap) ∧ Z.cell? ⟨w.heap.size, 1, none⟩ = some (.int .i64 X.B.weeks) ∧ Z.cell? ⟨w.heap.size, 2, none⟩ = some (.slice X.q X.B.trials.length X.capt) ∧ Z.cell? ⟨w.heap.size, 3, none⟩ = some (.slice X.r X.pieces.length X.capp) ∧ Z.cell? ⟨w.heap.size, 4, none⟩ = some (.int .i64 X.most) := by rintro _ rfl; refine ⟨?_, ?_, ?_, ?_, ?_⟩ <;> go_simp
 obtain ⟨a0, a1, a2, a3, a4⟩ := ZZ _ rfl; clear ZZ
 obtain ⟨hvok, hnp, hmo, hpp⟩ := okB_parts hok
 have hnb : X.B.boys.length ≤ 4 := by
  have := hvok
  simp only [Book.okB, inB, Bool.and_eq_true, decide_eq_true_eq] at this
  omega
 have HX := Lib.hid (h.kept hk0)
 have HPP := Lib.hid hpp
 have HC := Lib.hid (fun i k x V (kk : Kept w V) hx hk => bCan_any X i k x V (h.kept kk) (hg.kept kk) hok hx hk)
 clear h hg hpp hvok hmo
 unfold BBook.val at HC
 unfold BBook.val
 go_enter Tryz.func11, Tryz.ntmps11
 go_wp2_with fail
 generalize (w.alloc (Obj.cells #[.slice X.p X.B.boys.length X.cap, .int .i64 X.B.weeks, .slice X.q X.B.trials.length X.capt, .slice X.r X.pieces.length X.capp, .int .i64 X.most] 28)) = V0 at *
 go_loopw [4, 5] (fun v i V => ∃ (p : Nat) (vs : List Value), p ≤ X.pieces.length ∧ i = .int .i64 p ∧ Kept V0 V ∧ vs.length = p ∧ V.ownsRow V0.heap.size 88 1 v vs.length vs ∧ (vs = [] → v = .slice none 0 0) ∧ ∀ (j : Nat) (l : List (List Nat)) (u : Value), (singsX X p)[j]? = some l → vs[j]? = some u → AbleP V u l) (fun v i V => X.pieces.length - (intOf i).toNat)
 case atStart => exact ⟨0, [], by omega, rfl, kept_refl _, rfl, World.ownsRow_nil _ _ _ _, fun _ => rfl, by simp⟩
 case round =>
  obtain ⟨p, vs, hp, rfl, hV, hvl, hrow, hz, hall⟩ := hrel
  have HALL := Lib.hid (And.intro hz hall); clear hz hall
  have kW := kept_trans hk0 hV
  have b3 := kcell hV a3
  by_cases hpl : p < X.pieces.length
  ·have hplI : (p : Int) < X.pieces.length := by omega
   have hp0I : (0 : Int) ≤ p := by omega
   obtain ⟨x, hx⟩ : ∃ x, X.pieces[p]? = some x := ⟨_, List.getElem?_eq_getElem hpl⟩
   obtain ⟨_, hxl, _⟩ := HPP.out p x hx
   have HSX := Lib.hid (singsX_succ hx)
   have HGX := Lib.hid hx
   obtain ⟨B1, hB1⟩ : ∃ B1, B1 = wr.heap.size := ⟨_, rfl⟩
   have HB1 := Lib.hid hB1; clear hB1
   clear hx
   go_wp2_with fail
   go_loopw [6, 7] (fun v i V => ∃ (k : Nat) (us : List Value), k ≤ x.parts.length ∧ i = .int .i64 k ∧ Kept wr V ∧ us.length = k ∧ V.ownsRow B1 32 1 v us.length us ∧ (us = [] → v = .slice none 0 0) ∧ ∀ (j : Nat) (l : List Nat) (y : Value), (singsP X p k)[j]? = some l → us[j]? = some y → ListAt V y l) (fun v i V => x.parts.length - (intOf i).toNat)
   case atStart => exact ⟨0, [], by omega, rfl, kept_refl _, rfl, World.ownsRow_nil _ _ _ _, fun _ => rfl, by simp⟩
   case round =>
    obtain ⟨k, us, hk, rfl, hV2, hul, hrow2, hz2, hall2⟩ := hrel
    have HA2 := Lib.hid (And.intro hz2 hall2); clear hz2 hall2
    have kV := kept_trans hV hV2
    have kR := kept_trans hk0 kV
    obtain ⟨b, o, hr, hbz, c0, c1, hpi⟩ := piece_cells (HX.out.kept kV) HGX.out
    clear hpi b3
    have HRR := Lib.hid hr; clear hr
    have d0 := kcell kV a0
    have d1 := kcell kV a1
    have d2 := kcell kV a2
    have d3 := kcell kV a3
    have d4 := kcell kV a4
    have d3' := d3
    rw [HRR.out] at d3'
    by_cases hkl : k < x.parts.length
    ·have hklI : (k : Int) < x.parts.length := by omega
     have hk0I : (0 : Int) ≤ k := by omega
     have hBL := boysAt_lt HGX.out hkl hnb
     have hinc : incr (boysAt (triO X X.pieces.length) p k) := by
      rw [boysAt_eq HGX.out hkl]
      exact filter_incr
     have hltb : ∀ i ∈ boysAt (triO X X.pieces.length) p k, i < X.B.boys.length := by
      rw [boysAt_eq HGX.out hkl]
      intro i hi
      exact List.mem_range.1 (List.mem_filter.1 hi).1
     have HCC := Lib.hid (HC.out p k x _ kR HGX.out hkl)
     have HSP := Lib.hid (singsP_succ X p k)
     unfold CanBP at HCC
     generalize boysAt (triO X X.pieces.length) p k = L at *
     have HLI := Lib.hid (And.intro hBL.1 (And.intro hinc hltb)); clear hBL hinc hltb
     have HBG := Lib.hid (show B1 ≤ wr.heap.size by have := HB1.out; have := hV2.size; omega)
     have HD := Lib.hid (show wr.cell? ⟨w.heap.size, 3, none⟩ = some (.slice (some ⟨b, o, none⟩) X.pieces.length X.capp) from d3')
     clear d3'
     rw [HRR.out] at HCC d3
     go_wp2_with fail
     with_reducible refine HCC.out.mono ?_
     rintro e w2 ⟨y, err, rfl, hk2, hcase⟩
     obtain ⟨rfl, hli⟩ : err = 0 ∧ ListAt w2 y L := by
      rcases hcase with ⟨h1, _, h3⟩ | ⟨_, h2, _⟩
      ·exact ⟨h1, h3⟩
      ·exact absurd hcan h2
     clear hcase HCC
     obtain ⟨py, cy, rfl⟩ := listAt_len hli
     have HY := Lib.hid hli; clear hli
     have HO := Lib.hid (fun V (kk : Kept w2 V) => ordered_any _ L X.B.boys.length V (HY.out.kept kk) HLI.out.1 HLI.out.2.2 hnb HLI.out.2.1)
     have e0 := kcell hk2 d0
     have hze := Go.Ai.lt_of_cell e0
     go_wp2_with fail
     with_reducible refine (HO.out _ (kept_refl _)).mono ?_
     rintro e w3 ⟨rfl, hk3⟩
     have hk23 := kept_trans hk2 hk3
     have hrow3 := row_keptB hrow2 hk23
     have hz3 : us.length ≤ 3 := by omega
     have hbase : B1 ≤ w3.heap.size := Nat.le_trans HBG.out hk23.size
     have h3p : Kept wr w3 := hk23
     go_wp2_with (at_builtin; refine wpList_append_lies _ rfl _ _ 88 rfl B1 32 i1 _ 1 24 Tryz.underlying88 hi1 hiz1 his1 hib1 rfl (by decide) _ us.length _ rfl (hrow3.alloc _) ⟨w3.heap.size, 0, none⟩ 1 1 [.slice py L.length cy] rfl rfl (cell_one_newB _ _ _) (by simp [Value.oneCell']) (by decide) (by unfold maxLen; omega) (by omega) (by simp; omega) _ rfl ?_; intro g2 cap2 V3 hown hgrow hat hlt3)
     have kN := kept_grown (kept_trans hV2 hk23) hgrow (fun i e => by have := (hrow3.lt i e).1; have := HB1.out; omega)
     have HLP := Lib.hid (lists_push (hrow3.alloc _) HA2.out.1 (by simp [singsP, hul]) (fun j l y h1 h2 => ((HA2.out.2 j l y h1 h2).kept hk23).kept (kept_alloc (kept_refl _) _)) ((HY.out.kept hk3).kept (kept_alloc (kept_refl _) _)) hgrow)
     rw [← HSP.out] at HLP
     rw [hul] at hown
     go_roundw
     case rel =>
      refine ⟨k + 1, us ++ [.slice py L.length cy], by omega, by go_num, kN, by simp [hul], ?_, by simp, HLP.out⟩
      rw [List.length_append, List.length_singleton, hul]
      exact hown
     case measure => simp [intOf]; omega
    ·have hklI : ¬ (k : Int) < x.parts.length := by omega
     obtain rfl : k = x.parts.length := by omega
     have HAB := Lib.hid (show AbleP wr _ (singsP X p x.parts.length) from ⟨B1, us, by rw [show (singsP X p x.parts.length).length = us.length by simp [singsP, hul]]; exact hrow2, HA2.out.2⟩)
     have hrowO := row_keptB hrow hV2
     have hbase : V0.heap.size ≤ wr.heap.size := kV.size
     have hvs3 : vs.length ≤ 3 := by omega
     obtain ⟨pv6, nv6, cv6, hv6⟩ : ∃ p n c, _ = Value.slice p n c := by
      rcases hrow2.2 with ⟨h, _⟩ | ⟨_, _, _, h, _⟩
      ·exact ⟨_, _, _, h⟩
      ·exact ⟨_, _, _, h⟩
     rw [hv6] at HAB
     subst hv6
     clear hrow2 HC d3'
     rw [HRR.out] at d3
     go_wp2_with (at_builtin; refine wpList_append_lies _ rfl _ _ 41 rfl V0.heap.size 88 i2 _ 1 24 Tryz.underlying41 hi2 hiz2 his2 hib2 rfl (by decide) _ vs.length _ rfl (hrowO.alloc _) ⟨wr.heap.size, 0, none⟩ 1 1 [.slice pv6 nv6 cv6] rfl rfl (cell_one_newB _ _ _) (by simp [Value.oneCell']) (by decide) (by unfold maxLen; omega) (by omega) (by simp; omega) _ rfl ?_; intro g2 cap2 V3 hown hgrow hat hlt3)
     have kN := kept_grown kV hgrow (fun i e => (hrowO.lt i e).1)
     have HLP := Lib.hid (ables_push (hrowO.alloc _) HALL.out.1 (by simp [singsX, hvl]) (fun j l y h1 h2 => (HALL.out.2 j l y h1 h2).grown (kept_grow (kept_trans hV2 (kept_alloc (kept_refl _) _))) (fun g e => by cases e)) (HAB.out.grown (kept_grow (kept_alloc (kept_refl _) _)) (fun g e => by cases e)) hgrow)
     rw [← HSX.out] at HLP
     rw [hvl] at hown
     go_roundw
     case rel =>
      refine ⟨p + 1, vs ++ [.slice pv6 nv6 cv6], by omega, by go_num, kN, by simp [hvl], ?_, by simp, HLP.out⟩
      rw [List.length_append, List.length_singleton, hvl]
      exact hown
     case measure => simp [intOf]; omega
  ·have hplI : ¬ (p : Int) < X.pieces.length := by omega
   obtain rfl : p = X.pieces.length := by omega
   have HFIN := Lib.hid (show AbleAt wr _ X from ⟨_, vs, by rw [← hvl]; exact hrow, HALL.out.2⟩)
   clear hrow
   have kW2 := kW
   go_wp2_with fail
   refine bodyPost_ret (v := .tuple #[_, .bool true]) (by simp [results, Tryz.results11, go_sem]; exact rfl) rfl ?_
   exact ⟨_, rfl, kW2, HFIN.out⟩
end Go.Proofs.YtcllfjjhijkakaaGreatDoor
namespace Go.Proofs.YtcllfjjhijkakaaGreatDoor
open Go.RowKit Go.Sort Go.Rg
set_option maxRecDepth 100000
theorem hasN6 : ∀ s : Nat, s < 64 → ∀ n : Nat, n < 6 → (bits BinOp.and IntKind.i64 ((s : Int) / 2 ^ n) 1 == 1) = s.testBit n := by decide +kernel
theorem has6 (s n : Nat) (w : World) (hs : s < 64) (hn : n < 6) : Calls Tryz.prog 30 #[.int .i64 (s : Int), .int .i64 (n : Int)] w fun e w' => e = .returned (.bool (s.testBit n)) ∧ w = w' := by
 have h1 : decide ((n : Int) ≥ 0) = true := by simp
 have h2 : decide ((n : Int) < 62) = true := by simp; omega
 go_enter Tryz.func30, Tryz.ntmps30
 go_wp2_with fail
 go_ret
 exact ⟨by rw [hasN6 s hs n hn]; rfl, rfl⟩
set_option maxHeartbeats 4000000 in
theorem bits6 (s n : Nat) (W : World) (hs : s < 64) (hn : n ≤ 6) :
  Calls Tryz.prog 6 #[.int .i64 (s : Int), .int .i64 (n : Int)] W fun e C => ∃ v, e = .returned v ∧ Kept W C ∧ C.ownsRow W.heap.size 3 1 v (bitsL s n).length (intsV (bitsL s n)) := by
 obtain ⟨i0, hi, hiz, his, hib⟩ := info_parts infoI
 have hk0 : Kept W (W.alloc (Obj.cells #[] 3)) := kept_alloc (kept_refl _) _
 have hrow0 : (W.alloc (Obj.cells #[] 3)).ownsRow W.heap.size 3 1 (.slice (some ⟨W.heap.size, 0, none⟩) 0 0) 0 [] :=
  ⟨rfl, .inr ⟨W.heap.size, 0, #[], rfl, Nat.le_refl _, heap_alloc_new _ _, Nat.le_refl _, by decide, rfl, rfl⟩⟩
 go_enter Tryz.func6, Tryz.ntmps6
 go_wp2_with fail
 generalize hV0 : W.alloc (Obj.cells #[] 3) = V0 at *
 have hz0 : V0.heap.size = W.heap.size + 1 := by rw [← hV0]; simp
 clear hV0
 go_loopw [5, 6] (fun v i V => ∃ j : Nat, j ≤ n ∧ i = .int .i64 j ∧ V.ownsRow W.heap.size 3 1 v (bitsL s j).length (intsV (bitsL s j)) ∧ Kept W V) (fun v i V => n - (intOf i).toNat)
 case atStart => exact ⟨0, by omega, rfl, hrow0, hk0⟩
 case round =>
  obtain ⟨j, hj, rfl, hrow, hV⟩ := hrel
  by_cases hlt : j < n
  ·have hltI : (j : Int) < n := by omega
   have hblen := bitsL_len s j
   go_wp2_with fail
   refine (has6 s j _ hs (by omega)).mono ?_
   intro e V2 hh
   obtain ⟨h1, h2⟩ := hh
   subst h2
   cases hb : s.testBit j with
   | false =>
    rw [hb] at h1
    subst h1
    have hL : bitsL s (j + 1) = bitsL s j := by rw [bitsL_succ, hb]; simp
    have HL := Lib.hid hL; clear hL hb
    have HROW := Lib.hid hrow; clear hrow
    go_wp2_with fail
    go_roundw
    case rel => exact ⟨j + 1, by omega, by go_num, by rw [HL.out]; exact HROW.out, hV⟩
    case measure => simp [intOf]; omega
   | true =>
    rw [hb] at h1
    subst h1
    have hL : bitsL s (j + 1) = bitsL s j ++ [j] := by rw [bitsL_succ, hb]; simp
    have HL := Lib.hid hL; clear hL hb
    have hbase : W.heap.size ≤ wr.heap.size := hV.size
    go_wp2_with (at_builtin; refine wpList_append_lies _ rfl _ _ 32 rfl W.heap.size 3 i0 _ 1 8 Tryz.underlying32 hi hiz his hib rfl (by decide) u5 (bitsL s j).length _ rfl (hrow.alloc _) ⟨wr.heap.size, 0, none⟩ 1 1 [.int .i64 (j : Int)] rfl rfl (cell_one_new _ _ _) (by simp [Value.oneCell']) (by decide) (by unfold maxLen; omega) (by omega) (by simp; omega) _ rfl ?_; intro g2 cap2 V3 hown hgrow hat hlt3)
    have hkV3 : Kept W V3 := by
     refine Below.trans (kept_trans hV (kept_alloc (kept_refl _) (Obj.cells #[.int .i64 (j : Int)] 3))) ⟨hgrow.os, hgrow.tape, hgrow.output, hgrow.size, fun k hk => hgrow.block k (by simp; omega) (fun e => ?_)⟩
     have := (hrow.lt k e.symm).1
     omega
    go_roundw
    case rel =>
     refine ⟨j + 1, by omega, by go_num, ?_, hkV3⟩
     rw [HL.out]
     simpa [intsV] using hown
    case measure => simp [intOf]; omega
  ·have hltI : ¬ (j : Int) < n := by omega
   have hje : j = n := by omega
   go_wp2_with fail
   go_ret
   exact ⟨_, rfl, hV, by rw [← hje]; exact hrow⟩
theorem hasN16 : ∀ s : Nat, s < 16 → ∀ n : Nat, n < 62 → (bits BinOp.and IntKind.i64 ((s : Int) / 2 ^ n) 1 == 1) = s.testBit n := by decide +kernel
theorem bit16 {s n : Nat} (hs : s < 16) (hn : 4 ≤ n) : s.testBit n = false := Nat.testBit_lt_two_pow (Nat.lt_of_lt_of_le hs (Nat.pow_le_pow_right (n := 2) (by decide) hn))
theorem has_any (s n : Nat) (w : World) (hs : s < 16) : Calls Tryz.prog 30 #[.int .i64 (s : Int), .int .i64 (n : Int)] w fun e w' => e = .returned (.bool (s.testBit n)) ∧ w = w' := by
 have h1 : decide ((n : Int) ≥ 0) = true := by simp
 by_cases h62 : n < 62
 ·have h2 : decide ((n : Int) < 62) = true := by simp; omega
  go_enter Tryz.func30, Tryz.ntmps30
  go_wp2_with fail
  go_ret
  exact ⟨by rw [hasN16 s hs n h62]; rfl, rfl⟩
 ·have h2 : decide ((n : Int) < 62) = false := by simp; omega
  have hb := bit16 hs (n := n) (by omega)
  go_enter Tryz.func30, Tryz.ntmps30
  go_wp2_with fail
  go_ret
  exact ⟨by rw [hb]; rfl, rfl⟩
theorem cmp_lt {a b : Int} (h : b < a) : cmpI a b = 1 := by unfold cmpI; rw [if_neg (by omega), if_pos (by omega)]
theorem cmp_same (a : Int) : cmpI a a = 0 := by unfold cmpI; simp
theorem cmp_pos (a b : Int) : decide (0 < cmpI a b) = decide (b < a) := by
 unfold cmpI
 by_cases h1 : a < b
 ·rw [if_pos h1]; simp; omega
 ·by_cases h2 : b < a
  ·rw [if_neg h1, if_pos (by omega)]; simp [h2]
  ·rw [if_neg h1, if_neg (by omega)]; simp; omega
def ahead (s : Seat) (q k : Nat) : Prop := s.piece < (q : Int) ∨ (s.piece = (q : Int) ∧ s.part < (k : Int))
def LastIs (bf : List Seat) (q k : Nat) (last : Int) : Prop := (last = -1 ∧ ∀ s, bf.getLast? = some s → ahead s q k) ∨ ∃ s, bf.getLast? = some s ∧ s.piece = (q : Int) ∧ s.part = (k : Int) ∧ last = s.boy ∧ 0 ≤ last
theorem notBeh_last {bf : List Seat} {n : Seat} {q k : Nat} {last : Int} (hp : n.piece = (q : Int)) (hk : n.part = (k : Int)) (hb : 0 ≤ n.boy) (h : LastIs bf q k last) : notBehB bf n = decide (n.boy ≤ last) := by
 rcases h with ⟨rfl, h⟩ | ⟨s, hs, h1, h2, rfl, _⟩
 ·have e : decide (n.boy ≤ -1) = false := by simp; omega
  rw [e]
  unfold notBehB
  split
  ·rfl
  ·rename_i b hb2
   rcases h b hb2 with h1 | ⟨h1, h2⟩
   ·have : cmpI n.piece b.piece = 1 := cmp_lt (by omega)
    simp [behB, this]
   ·have e1 : cmpI n.piece b.piece = 0 := by rw [hp, h1]; exact cmp_same _
    have e2 : cmpI n.part b.part = 1 := cmp_lt (by omega)
    simp [behB, e1, e2]
 ·unfold notBehB
  rw [hs]
  have e1 : cmpI n.piece s.piece = 0 := by rw [hp, h1]; exact cmp_same _
  have e2 : cmpI n.part s.part = 0 := by rw [hk, h2]; exact cmp_same _
  simp only [behB, e1, e2, if_true, cmp_pos]
  by_cases h : s.boy < n.boy
  ·simp [h]
  ·simp [h]; omega
def HadIs (bf : List Seat) (q had : Nat) : Prop := had < 16 ∧ ∀ b : Nat, b < 4 → had.testBit b = bf.any fun s => decide (s.piece = (q : Int)) && decide (s.boy = (b : Int))
theorem twice_had {bf : List Seat} {n : Seat} {q b had : Nat} (hp : n.piece = (q : Int)) (hb : n.boy = (b : Int)) (h4 : b < 4) (h : HadIs bf q had) : twiceB bf n = had.testBit b := by
 rw [h.2 b h4]
 unfold twiceB
 rw [hp, hb]
theorem had_push {bf : List Seat} {n : Seat} {q b had : Nat} (hp : n.piece = (q : Int)) (hb : n.boy = (b : Int)) (h4 : b < 4) (h : HadIs bf q had) : HadIs (bf ++ [n]) q (had ||| 2 ^ b) := by
 refine ⟨Nat.or_lt_two_pow (n := 4) h.1 (Nat.pow_lt_pow_right (by decide) h4), fun c hc => ?_⟩
 rw [Nat.testBit_or, h.2 c hc, Nat.testBit_two_pow, List.any_append]
 congr 1
 simp [hp, hb]
 omega
theorem had_none {bf : List Seat} {q : Nat} (h : ∀ s ∈ bf, s.piece < (q : Int)) : HadIs bf q 0 := by
 refine ⟨by decide, fun b _ => ?_⟩
 rw [Nat.zero_testBit]
 symm
 rw [List.any_eq_false]
 intro s hs
 have := h s hs
 simp; omega
theorem ov_zero (c most : Int) : (ov c most == 0) = decide (c ≤ most) := by
 unfold ov
 by_cases h : c ≤ most
 ·simp [h]; omega
 ·simp [h]; omega
theorem too_count {X : BBook} {bf : List Seat} {n : Seat} {week : Int} {b : Nat} (hw : weekOf X n.piece = week) (hb : n.boy = (b : Int)) (h4 : b < 4) (h : ∀ c : Nat, c < 4 → (countL X bf week (c : Int) : Int) ≤ X.most) : tooB X bf n = !decide ((countL X bf week (b : Int) : Int) + 1 ≤ X.most) := by
 unfold tooB
 rw [hw]
 simp only [countL_snoc, hw, hb, true_and, ov_zero]
 congr 1
 have h0 := h 0 (by omega)
 have h1 := h 1 (by omega)
 have h2 := h 2 (by omega)
 have h3 := h 3 (by omega)
 simp only [show ((0 : Nat) : Int) = 0 from rfl, show ((1 : Nat) : Int) = 1 from rfl, show ((2 : Nat) : Int) = 2 from rfl, show ((3 : Nat) : Int) = 3 from rfl] at h0 h1 h2 h3
 rcases (show b = 0 ∨ b = 1 ∨ b = 2 ∨ b = 3 by omega) with rfl | rfl | rfl | rfl <;> simp [h0, h1, h2, h3]
theorem sing_where {X : BBook} {n : Seat} {q k b : Nat} (hb : n.boy = (b : Int)) : singB X n (q, k) = decide (0 ≤ wI b (boysAt (triO X X.pieces.length) q k) 0) := by
 have : (0 ≤ wI b (boysAt (triO X X.pieces.length) q k) 0) ↔ b ∈ boysAt (triO X X.pieces.length) q k := wI_mem _ _ _
 simp only [this]
 unfold singB hasI
 rw [hb]
 by_cases h : b ∈ boysAt (triO X X.pieces.length) q k
 ·rw [decide_eq_true h, List.any_eq_true]
  exact ⟨b, h, by simp⟩
 ·rw [decide_eq_false h, List.any_eq_false]
  intro x hx
  simp
  intro e
  exact h (by rw [show b = x by omega]; exact hx)
end Go.Proofs.YtcllfjjhijkakaaGreatDoor
