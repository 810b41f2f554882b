import Derived.Test.YtbhgicggpkibeaaDoorVXd
set_option linter.all false
set_option linter.all false
namespace Go.Proofs.YtbhgicggpkibeaaDoor
open Go.RowKit Go.Sort Go.Rg
set_option maxRecDepth 100000

theorem infoI : (Tryd.prog.info? 3).map (fun i => (i.zero, i.size, i.bytes)) = some (some (.int .i64 0), 1, 8) := by kernel_rfl
theorem row_le {w : World} {base base' size n : Nat} {e : TypeId} {v : Value} {xs : List Value} (h : w.ownsRow base e size v n xs) (hb : base' ≤ base) : w.ownsRow base' e size v n xs :=
  ⟨h.1, h.2.imp id fun ⟨g, cap, cur, e1, e2, r⟩ => ⟨g, cap, cur, e1, Nat.le_trans hb e2, r⟩⟩
def surelyB (B : Book) (sb : Nat → List Int → Bool) (boy : Nat) : Bool := match B.boys[boy]? with
  | some x => (B.truths boy x).all (sb boy)
  | none => false
def surelyL (B : Book) (sb : Nat → List Int → Bool) (n : Nat) : List Nat := (List.range n).filter (surelyB B sb)
def intsV (l : List Nat) : List Value := l.map fun b : Nat => .int .i64 (b : Int)
theorem surelyL_succ (B : Book) (sb : Nat → List Int → Bool) (n : Nat) : surelyL B sb (n + 1) = surelyL B sb n ++ (if surelyB B sb n then [n] else []) := by
  unfold surelyL
  rw [List.range_succ, List.filter_append]
  congr 1
  simp only [List.filter_cons, List.filter_nil]
theorem surelyL_len (B : Book) (sb : Nat → List Int → Bool) (n : Nat) : (surelyL B sb n).length ≤ n := by
  have := List.length_filter_le (surelyB B sb) (List.range n)
  simpa [surelyL] using this

set_option maxHeartbeats 4000000 in
theorem surely_any (S : Nat → Prop) (c : Choir) (W : World) (h : ChoirAt S W c) (hS : ∀ b, S b → b < W.heap.size)
    (g : Nat) (caps : Array Value) (sb : Nat → List Int → Bool) (hso : ∀ boy x, c.B.boys[boy]? = some x → Asks c boy x W g caps (sb boy)) :
    Calls Tryd.prog 50 #[c.val, .func (.func g) #[] caps] W fun e B => ∃ v, e = .returned v ∧ Kept W B ∧ B.ownsRow W.heap.size 3 1 v (surelyL c.B sb c.B.boys.length).length (intsV (surelyL c.B sb c.B.boys.length)) := by
  have hlen : c.B.boys.length ≤ 4 := by
    have := h.ok
    simp only [Book.okB, inB, Bool.and_eq_true, decide_eq_true_eq] at this
    omega
  have hof := fun V (k : Kept W V) boy x (hx : c.B.boys[boy]? = some x) => often_any S c boy x hx V (h.turns (kturns k (fun _ => False)) (fun _ _ h => h)) (fun b hb => Nat.lt_of_lt_of_le (hS b hb) k.size) g caps (sb boy) ((hso boy x hx).kept k)
  have HOF := Lib.hid hof; clear hof hso
  obtain ⟨i0, hi, hiz, his, hib⟩ := info_parts infoI
  unfold Choir.val at HOF
  unfold Choir.val
  have hk0 : Kept W (W.alloc (Obj.cells #[.slice (some ⟨c.bb, c.ob, none⟩) c.B.boys.length c.capb, .int .i64 c.B.weeks, .slice c.q c.B.trials.length c.capt, .map (some c.bm)] 84)) := kept_alloc (kept_refl _) _
  have hz0 : (W.alloc (Obj.cells #[.slice (some ⟨c.bb, c.ob, none⟩) c.B.boys.length c.capb, .int .i64 c.B.weeks, .slice c.q c.B.trials.length c.capt, .map (some c.bm)] 84)).heap.size = W.heap.size + 1 := by simp
  have c0 : (W.alloc (Obj.cells #[.slice (some ⟨c.bb, c.ob, none⟩) c.B.boys.length c.capb, .int .i64 c.B.weeks, .slice c.q c.B.trials.length c.capt, .map (some c.bm)] 84)).cell? ⟨W.heap.size, 0, none⟩ = some (.slice (some ⟨c.bb, c.ob, none⟩) c.B.boys.length c.capb) := by go_simp
  have c1 : (W.alloc (Obj.cells #[.slice (some ⟨c.bb, c.ob, none⟩) c.B.boys.length c.capb, .int .i64 c.B.weeks, .slice c.q c.B.trials.length c.capt, .map (some c.bm)] 84)).cell? ⟨W.heap.size, 1, none⟩ = some (.int .i64 c.B.weeks) := by go_simp
  have c2 : (W.alloc (Obj.cells #[.slice (some ⟨c.bb, c.ob, none⟩) c.B.boys.length c.capb, .int .i64 c.B.weeks, .slice c.q c.B.trials.length c.capt, .map (some c.bm)] 84)).cell? ⟨W.heap.size, 2, none⟩ = some (.slice c.q c.B.trials.length c.capt) := by go_simp
  have c3 : (W.alloc (Obj.cells #[.slice (some ⟨c.bb, c.ob, none⟩) c.B.boys.length c.capb, .int .i64 c.B.weeks, .slice c.q c.B.trials.length c.capt, .map (some c.bm)] 84)).cell? ⟨W.heap.size, 3, none⟩ = some (.map (some c.bm)) := by go_simp
  go_enter Tryd.func50, Tryd.ntmps50
  go_wp2_with fail
  generalize W.alloc (Obj.cells #[.slice (some ⟨c.bb, c.ob, none⟩) c.B.boys.length c.capb, .int .i64 c.B.weeks, .slice c.q c.B.trials.length c.capt, .map (some c.bm)] 84) = V0 at *
  go_loopw [5, 11] (fun v i V => ∃ j : Nat, j ≤ c.B.boys.length ∧ i = .int .i64 j ∧ V.ownsRow V0.heap.size 3 1 v (surelyL c.B sb j).length (intsV (surelyL c.B sb j)) ∧ Kept V0 V) (fun v i V => c.B.boys.length - (intOf i).toNat)
  case atStart => exact ⟨0, by omega, rfl, World.ownsRow_nil _ _ _ _, kept_refl _⟩
  case round =>
    obtain ⟨j, hj, rfl, hrow, hV⟩ := hrel
    have hkV := kept_trans hk0 hV
    by_cases hlt : j < c.B.boys.length
    · have hltI : (j : Int) < c.B.boys.length := by omega
      have hget : c.B.boys[j]? = some c.B.boys[j] := List.getElem?_eq_getElem hlt
      generalize c.B.boys[j] = x at *
      have a0 := kcell hV c0
      have a1 := kcell hV c1
      have a2 := kcell hV c2
      have a3 := kcell hV c3
      have hslen := surelyL_len c.B sb j
      have hsb : surelyB c.B sb j = (c.B.truths j x).all (sb j) := by simp [surelyB, hget]
      go_wp2_with fail
      refine (HOF.out _ hkV j x hget).mono ?_
      rintro e V2 ⟨rfl, hk2⟩
      have hrow2 := hrow.kept (row := none) ⟨hk2.os, hk2.tape, hk2.output, hk2.size, fun i hi _ => hk2.block i hi⟩ (by cases u5.ownBlock <;> simp)
      have hkV2 := kept_trans hV hk2
      clear a0 a1 a2 a3
      rcases hal : (c.B.truths j x).all (sb j) with _ | _
      · have hL : surelyL c.B sb (j + 1) = surelyL c.B sb j := by rw [surelyL_succ, hsb, hal]; simp
        have HL := Lib.hid hL; clear hL
        have HROW := Lib.hid hrow2; clear hrow2 hrow
        rcases hof : (c.B.truths j x).any (sb j) with _ | _
        · have ho : oftenOf (c.B.truths j x) (sb j) = 0 := by unfold oftenOf; rw [hal, hof]; rfl
          rw [ho]
          clear hsb hal hof ho
          go_wp2_with fail
          go_roundw
          case rel => exact ⟨j + 1, by omega, by go_num, by rw [HL.out]; exact HROW.out, hkV2⟩
          case measure => simp [intOf]; omega
        · have ho : oftenOf (c.B.truths j x) (sb j) = 1 := by unfold oftenOf; rw [hal, hof]; rfl
          rw [ho]
          clear hsb hal hof ho
          go_wp2_with fail
          go_roundw
          case rel => exact ⟨j + 1, by omega, by go_num, by rw [HL.out]; exact HROW.out, hkV2⟩
          case measure => simp [intOf]; omega
      · have hL : surelyL c.B sb (j + 1) = surelyL c.B sb j ++ [j] := by rw [surelyL_succ, hsb, hal]; simp
        have HL := Lib.hid hL; clear hL
        have ho : oftenOf (c.B.truths j x) (sb j) = 2 := by unfold oftenOf; rw [hal]; rfl
        rw [ho]
        clear hsb hal ho hrow
        have hbase : V0.heap.size ≤ V2.heap.size := hkV2.size
        go_wp2_with (at_builtin; refine wpList_append_lies _ rfl _ _ 30 rfl V0.heap.size 3 i0 _ 1 8 Tryd.underlying30 hi hiz his hib rfl (by decide) u5 (surelyL c.B sb j).length _ rfl (hrow2.alloc _) ⟨V2.heap.size, 0, none⟩ 1 1 [.int .i64 (j : Int)] rfl rfl (cell_one_new _ _ _) (by simp [Value.oneCell']) (by decide) (by unfold maxLen; omega) (by omega) (by simp; omega) _ rfl ?_; intro g2 cap2 V3 hown hgrow hat hlt3)
        have hkV3 : Kept V0 V3 := by
          refine Below.trans (kept_trans hkV2 (kept_alloc (kept_refl _) (Obj.cells #[.int .i64 (j : Int)] 3))) ⟨hgrow.os, hgrow.tape, hgrow.output, hgrow.size, fun k hk => hgrow.block k (by simp; omega) (fun e => ?_)⟩
          have := (hrow2.lt k e.symm).1
          omega
        go_roundw
        case rel =>
          refine ⟨j + 1, by omega, by go_num, ?_, hkV3⟩
          rw [HL.out]
          simpa [intsV] using hown
        case measure => simp [intOf]; omega
    · have hltI : ¬ (j : Int) < c.B.boys.length := by omega
      have hje : j = c.B.boys.length := by omega
      go_wp2_with fail
      go_ret
      refine ⟨_, rfl, hkV, ?_⟩
      rw [← hje]
      exact row_le hrow (by omega)
end Go.Proofs.YtbhgicggpkibeaaDoor
