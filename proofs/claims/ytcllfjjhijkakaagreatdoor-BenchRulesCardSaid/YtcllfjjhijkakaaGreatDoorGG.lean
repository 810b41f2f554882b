/- A part of the proof: contracts of the program's functions for every input. No conditions. -/
import Derived.Test.YtcllfjjhijkakaaGreatDoorGF
import Derived.Test.YtcllfjjhijkakaaGreatDoorGD
import Derived.Laws.StructEq
set_option linter.all false
namespace Go.Proofs.YtcllfjjhijkakaaGreatDoor
open Go.RowKit Go.Sort Go.Rg
set_option maxRecDepth 100000
theorem AtSt.others {l : List Oper} {vs : Nat → Value} {a0 a : Act} {listed : Array Bool} (h : AtSt l.toArray vs a0 listed a) (p : Nat → Bool) (hp : l.all (fun o => match o.dst with | none => true | some d => p d) = true) (t : Tmp) (ht : p t = false) : a.tmps.getD t undef = a0.tmps.getD t undef :=
 h.other t fun j o _ ho hd => by
  have := List.all_eq_true.1 hp o (List.mem_of_getElem? (by simpa using ho))
  rw [hd] at this
  simp only at this
  rw [ht] at this; cases this
theorem old_but {l : List Oper} {vs : Nat → Value} {a0 a : Act} {listed : Array Bool} (h : AtSt l.toArray vs a0 listed a) (t : Tmp) (q : Nat) (hq : on listed q = false) (ht : (List.range l.length).all (fun i => Nat.beq i q || match l[i]? with | some o => (match o.dst with | some d => !Nat.beq d t | none => true) | none => true) = true) : a.tmps.getD t undef = a0.tmps.getD t undef :=
 h.other t fun j o hj ho hd => by
  have ho' : l[j]? = some o := by simpa using ho
  have hjl := (List.getElem?_eq_some_iff.1 ho').1
  have := List.all_eq_true.1 ht j (List.mem_range.2 hjl)
  simp only [ho', hd, Bool.or_eq_true, Bool.not_eq_true'] at this
  rcases this with e | e
  ·have e := Nat.eq_of_beq_eq_true e
   subst e
   unfold on at hq
   rw [hj] at hq; cases hq
  ·have : Nat.beq t t = false := e
   simp at this
def StF (s : Nat) (R : Nat → Value → World → Prop) (V : World) (F : Value → World → Prop) (vs : Nat → Value) (on : Nat → Bool) (w : World) : Prop :=
 (on s = false → Kept V w ∧ ∀ i, on i = true → R i (vs i) w) ∧ (on s = true → F (vs s) w ∧ (on (s + 1) = true → vs (s + 1) = vs s)) ∧ (on (s + 1) = true → on s = true)
theorem wpIn_region_app {F : Fence} {n : Nat} {P : Program} {id : Nat} {Q : Exit → Act → World → Prop} {a0 : Act} {V : World} {l : List Oper} (R : Nat → Value → World → Prop) (s : Nat) (Fa : Value → World → Prop)
  (hm : P.follows .mixedOrders = true) (hlow : lowFrom 0 l = true) (hd : distFrom l = true) (hng : l.all (fun o => o.guard.isNone) = true) (hlen : l.length = s + 2)
  (hanc : ∀ listed : Array Bool, Closed l listed → on listed s = true → ∀ j, j < s → on listed j = true) (hanc1 : ∀ listed : Array Bool, Closed l listed → on listed (s + 1) = true → on listed s = true)
  (hst : ∀ i v w w', R i v w → Kept w w' → R i v w')
  (hop : ∀ (i : Nat) (o : Oper) (listed : Array Bool) (a : Act) (w : World) (vs : Nat → Value), i < s → on listed (s + 1) = false → l[i]? = some o → AtSt l.toArray vs a0 listed a → Kept V w → (∀ j, on listed j = true → R j (vs j) w) → (∀ e ∈ o.after, Region.binds .any e = true → on listed e.on = true) →
   ∀ K : Act → World → Prop, (∀ v w', Kept w w' → R i v w' → K (a.put o.dst v) w') → o.wpIn F n P a w K Q)
  (happ : ∀ (o : Oper) (listed : Array Bool) (a : Act) (w : World) (vs : Nat → Value), l[s]? = some o → AtSt l.toArray vs a0 listed a → Kept V w → (∀ j, j < s → on listed j = true ∧ R j (vs j) w) → ∀ K : Act → World → Prop, (∀ v w', Fa v w' → K (a.put o.dst v) w') → o.wpIn F n P a w K Q)
  (hass : ∀ (o : Oper) (listed : Array Bool) (a : Act) (w : World) (vs : Nat → Value), l[s + 1]? = some o → AtSt l.toArray vs a0 listed a → on listed s = true → ∀ K : Act → World → Prop, K (a.put o.dst (vs s)) w → o.wpIn F n P a w K Q)
  (hend : ∀ (listed : Array Bool) (a : Act) (w : World) (vs : Nat → Value), (∀ i, i < l.length → on listed i = true) → AtSt l.toArray vs a0 listed a → Fa (vs s) w → vs (s + 1) = vs s → Q .normal a w) :
  (Code.region id l.toArray true).wpIn F n P Q a0 V := by
 refine wpIn_region_invL (StG (StF s R V Fa)) hm hlow (StG.start ⟨fun _ => ⟨kept_drew (kept_refl V), fun i h => (nomatch h)⟩, fun h => (nomatch h), fun h => (nomatch h)⟩) ?_ ?_
 ·rintro i o listed a w hl ho h1 h2 hcl ⟨vs, ha, hA⟩
  have hg : o.guard = none := by
   have := List.all_eq_true.1 hng o (List.mem_of_getElem? ho)
   simpa using this
  rw [if_pos (by unfold Region.wanted; rw [hg])]
  have hil : i < l.length := (List.getElem?_eq_some_iff.1 ho).1
  have hno := on_no h1
  obtain ⟨A1, A2, A3⟩ := hA
  by_cases e1 : i = s + 1
  ·subst e1
   have hs : on listed s = true := h2 ⟨s, .data⟩ |> fun _ => by
    cases b : on listed s with
    | true => rfl
    | false =>
     exfalso
     have hcl' : Closed l (listed.setIfInBounds (s + 1) true) := fun j x hx hj e he hb => by
      have hz : s + 1 < listed.size := by rw [hl]; exact hil
      by_cases ej : j = s + 1
      ·subst ej
       rw [ho] at hx; cases hx
       have := h2 e he hb
       by_cases ee : e.on = s + 1
       ·rw [ee]; exact on_self hz
       ·rw [on_set ee]; exact this
      ·rw [on_set ej] at hj
       have := hcl j x hx hj e he hb
       by_cases ee : e.on = s + 1
       ·rw [ee]; exact on_self hz
       ·rw [on_set ee]; exact this
     have hz : s + 1 < listed.size := by rw [hl]; exact hil
     have := hanc1 _ hcl' (on_self hz)
     rw [on_set (by omega)] at this
     rw [b] at this; cases this
   obtain ⟨B1, B2⟩ := A2 hs
   refine hass o listed a w vs ho ha hs _ ?_
   refine StG.step hd ha hl ho h1 ⟨fun h => ?_, fun _ => ⟨?_, fun _ => ?_⟩, fun _ => ?_⟩
   ·simp only [show s ≠ s + 1 by omega, if_false] at h
    rw [hs] at h; cases h
   ·simp only [show s ≠ s + 1 by omega, if_false]; exact B1
   ·simp
   ·simp only [show s ≠ s + 1 by omega, if_false]; exact hs
  ·have hn1 : on listed (s + 1) = true → on listed s = true := A3
   by_cases e : i = s
   ·subst e
    have hn1' : on listed (i + 1) = false := by
     cases b : on listed (i + 1) with
     | false => rfl
     | true => have := hn1 b; rw [hno] at this; cases this
    obtain ⟨hk, hR⟩ := A1 hno
    have hz : i < listed.size := by rw [hl]; exact hil
    have hcl' : Closed l (listed.setIfInBounds i true) := fun j x hx hj e he hb => by
     by_cases ej : j = i
     ·subst ej
      rw [ho] at hx; cases hx
      have := h2 e he hb
      by_cases ee : e.on = j
      ·rw [ee]; exact on_self hz
      ·rw [on_set ee]; exact this
     ·rw [on_set ej] at hj
      have := hcl j x hx hj e he hb
      by_cases ee : e.on = i
      ·rw [ee]; exact on_self hz
      ·rw [on_set ee]; exact this
    have hall : ∀ j, j < i → on listed j = true := fun j hj => by
     have := hanc _ hcl' (on_self hz) j hj
     rw [on_set (by omega)] at this
     exact this
    refine happ o listed a w vs ho ha hk (fun j hj => ⟨hall j hj, hR j (hall j hj)⟩) _ fun v w' hF => ?_
    refine StG.step hd ha hl ho h1 ⟨fun h => by simp at h, fun _ => ⟨by simpa using hF, fun h => ?_⟩, fun h => by simp⟩
    simp only [show i + 1 ≠ i by omega, if_false] at h
    rw [hn1'] at h; cases h
   ·have his : i < s := by omega
    have hsn : on listed s = false := by
     cases b : on listed s with
     | false => rfl
     | true => have := hanc listed hcl b i his; rw [hno] at this; cases this
    have hn1' : on listed (s + 1) = false := by
     cases b : on listed (s + 1) with
     | false => rfl
     | true => have := hn1 b; rw [hsn] at this; cases this
    obtain ⟨hk, hR⟩ := A1 hsn
    refine hop i o listed a w vs his hn1' ho ha hk hR h2 _ fun v w' hk' hv => ?_
    refine StG.step hd ha hl ho h1 ⟨fun _ => ⟨kept_trans hk hk', fun j hj => ?_⟩, fun h => ?_, fun h => ?_⟩
    ·by_cases ej : j = i
     ·subst ej; simp only [if_true]; exact hv
     ·simp only [if_neg ej] at hj ⊢
      exact hst j _ _ _ (hR j hj) hk'
    ·simp only [show s ≠ i by omega, if_false] at h
     rw [hsn] at h; cases h
    ·simp only [show s + 1 ≠ i by omega, if_false] at h
     rw [hn1'] at h; cases h
 ·rintro listed a w hall ⟨vs, ha, A1, A2, A3⟩
  have hs := hall s (by omega)
  obtain ⟨B1, B2⟩ := A2 hs
  exact hend listed a w vs hall ha B1 (B2 (hall (s + 1) (by omega)))
end Go.Proofs.YtcllfjjhijkakaaGreatDoor
namespace Go.Proofs.YtcllfjjhijkakaaGreatDoor
open Go.RowKit Go.Sort Go.Rg
set_option maxRecDepth 100000
set_option maxHeartbeats 4000000
attribute [local go_sem] Oper.semAt_some
theorem field_many (lo hi many : Int) (W : World) : (Instr.field 56 (.agg #[.int .i64 lo, .int .i64 hi, .int .i64 many]) 1).run Tryz.prog W = .ok (.int .i64 many) W := by kernel_rfl
attribute [local go_sem] field_many
def manyOf (X : BBook) (q : Nat × Nat) : Nat := match X.pieces[q.1]? with
 | none => 0
 | some x => match x.parts[q.2]? with
  | none => 0
  | some y => y.many.toNat
def wantL (X : BBook) (l : List (Nat × Nat)) : List (Nat × Nat) := l.flatMap fun q => List.replicate (manyOf X q) q
def PlacesIs (w : World) (v : Value) (l : List (Nat × Nat)) : Prop := (v = .slice none 0 0 ∧ l = []) ∨ ∃ g cap, v = .slice (some ⟨g, 0, none⟩) l.length cap ∧ PlacesAt w g l
theorem PlacesAt.kept {w W : World} {g : Nat} {l : List (Nat × Nat)} (h : PlacesAt w g l) (k : Kept w W) : PlacesAt W g l := ⟨Nat.lt_of_lt_of_le h.1 k.size, fun i q hq => ⟨kcell k (h.2 i q hq).1, kcell k (h.2 i q hq).2⟩⟩
theorem PlacesIs.kept {w W : World} {v : Value} {l : List (Nat × Nat)} (h : PlacesIs w v l) (k : Kept w W) : PlacesIs W v l := h.imp id fun ⟨g, cap, e, hp⟩ => ⟨g, cap, e, hp.kept k⟩
theorem PlacesIs.of_row {w : World} {base : Nat} {v : Value} {l : List (Nat × Nat)} (h : w.ownsRow base 86 2 v l.length (placesV l)) : PlacesIs w v l := by
 by_cases hl : l = []
 ·rcases h.2 with ⟨e, _⟩ | ⟨g, cap, cur, e, hb, hg, _⟩
  ·exact .inl ⟨e, hl⟩
  ·exact .inr ⟨g, cap, e, (Array.getElem?_eq_some_iff.1 hg).1, fun i q hq => by rw [hl] at hq; simp at hq⟩
 ·obtain ⟨g, cap, e, _, hp⟩ := PlacesAt.of_row h hl
  exact .inr ⟨g, cap, e, hp⟩
theorem CopiesAt.kept {w W : World} {g o m : Nat} {p k : Int} (h : CopiesAt w g o p k m) (kk : Kept w W) : CopiesAt W g o p k m := ⟨Nat.lt_of_lt_of_le h.1 kk.size, fun i hi => ⟨kcell kk (h.2 i hi).1, kcell kk (h.2 i hi).2⟩⟩
theorem add_nat (g o j : Nat) : (⟨g, o, none⟩ : Addr).add j = ⟨g, o + j, none⟩ := by
 unfold Addr.add
 split
 ·rename_i h0; rw [h0]; rfl
 ·rfl
theorem copies_news {w : World} {g o m : Nat} {p k : Nat} (h : CopiesAt w g o p k m) : ∀ (j : Nat) (u : Value), (placesV (List.replicate m (p, k)))[j]? = some u → w.cell? ((⟨g, o, none⟩ : Addr).add j) = some u := by
 intro j u hu
 have hj : j < m * 2 := by
  have := (List.getElem?_eq_some_iff.1 hu).1
  rw [placesV_len, List.length_replicate] at this
  exact this
 have hg := placesV_get (List.replicate m (p, k)) (j / 2) (p, k) (by rw [List.getElem?_replicate, if_pos (by omega)])
 obtain ⟨c0, c1⟩ := h.2 (j / 2) (by omega)
 rw [add_nat]
 rcases (show j = j / 2 * 2 ∨ j = j / 2 * 2 + 1 by omega) with e | e
 ·rw [e, hg.1] at hu
  cases hu
  rw [e]; exact c0
 ·rw [e, hg.2] at hu
  cases hu
  rw [e]; exact c1
theorem places_one (l : List (Nat × Nat)) : ∀ u ∈ placesV l, u.oneCell' = true := by
 intro u hu
 simp only [placesV, List.mem_flatMap] at hu
 obtain ⟨q, _, hu⟩ := hu
 simp only [placeV, List.mem_cons, List.not_mem_nil, or_false] at hu
 rcases hu with rfl | rfl <;> rfl
theorem wantL_len {X : BBook} (h : X.okB = true) : ∀ (l : List (Nat × Nat)), (wantL X l).length ≤ l.length * 3
 | [] => by simp [wantL]
 | q :: l => by
  have h1 : manyOf X q ≤ 3 := by
   unfold manyOf
   cases hp : X.pieces[q.1]? with
   | none => simp
   | some x =>
    cases hy : x.parts[q.2]? with
    | none => simp [hy]
    | some y =>
     have := ((okB_parts h).2.2.2 q.1 x hp).2.2 q.2 y hy
     simp only [hy]
     omega
  have h2 := wantL_len h l
  have h3 : (wantL X (q :: l)).length = manyOf X q + (wantL X l).length := by simp [wantL]
  rw [h3, List.length_cons]; omega
theorem wanted_any (X : BBook) (m : Nat) (out pv : Value) (l : List (Nat × Nat)) (w : World) (h : BBookAt w X) (hok : X.okB = true) (hl : PlacesIs w pv l) (hlen : l.length ≤ 9) (hin : ∀ q ∈ l, ∃ x y, X.pieces[q.1]? = some x ∧ x.parts[q.2]? = some y) :
  Calls Tryz.prog 52 #[X.sval m out, pv] w fun e w' => ∃ v, e = .returned v ∧ Kept w w' ∧ w'.ownsRow w.heap.size 86 2 v (wantL X l).length (placesV (wantL X l)) := by
 obtain ⟨i0, hi, hiz, his, hib⟩ := info_parts infoPl
 have hk0 : Kept w (w.alloc (Obj.cells #[.slice X.p X.B.boys.length X.cap, .int .i64 X.B.weeks, .slice X.q X.B.trials.length X.capt, .slice X.r X.pieces.length X.capp, .int .i64 X.most, .map (some m), out] 74)) := kept_alloc (kept_refl _) _
 have ZZ : ∀ Z, Z = (w.alloc (Obj.cells #[.slice X.p X.B.boys.length X.cap, .int .i64 X.B.weeks, .slice X.q X.B.trials.length X.capt, .slice X.r X.pieces.length X.capp, .int .i64 X.most, .map (some m), out] 74)) → Z.cell? ⟨w.heap.size, 0, none⟩ = some (.slice X.p X.B.boys.length X.cap) ∧ Z.cell? ⟨w.heap.size, 1, none⟩ = some (.int .i64 X.B.weeks) ∧ Z.cell? ⟨w.heap.size, 2, none⟩ = some (.slice X.q X.B.trials.length X.capt) ∧ Z.cell? ⟨w.heap.size, 3, none⟩ = some (.slice X.r X.pieces.length X.capp) ∧ Z.cell? ⟨w.heap.size, 4, none⟩ = some (.int .i64 X.most) ∧ Z.cell? ⟨w.heap.size, 5, none⟩ = some (.map (some m)) ∧ Z.cell? ⟨w.heap.size, 6, none⟩ = some (out) := by rintro _ rfl; refine ⟨?_, ?_, ?_, ?_, ?_, ?_, ?_⟩ <;> go_simp
 obtain ⟨a0, a1, a2, a3, a4, a5, a6⟩ := ZZ _ rfl; clear ZZ
 have HL := Lib.hid (hl.kept hk0)
 have HX := Lib.hid (h.kept hk0)
 have HIN := Lib.hid hin
 have HOK := Lib.hid hok
 have HWL := Lib.hid (fun q => wantL_len hok q)
 obtain ⟨pl, capl, rfl⟩ : ∃ p cap, pv = .slice p l.length cap := by
  rcases hl with ⟨rfl, rfl⟩ | ⟨g, cap, rfl, _⟩
  ·exact ⟨none, 0, rfl⟩
  ·exact ⟨_, cap, rfl⟩
 have HP := Lib.hid (fun i k x y hx hy w h => part_any X m out i k x y hx hy w h)
 clear hl h hin hok
 unfold BBook.sval Part.val keyV at HP
 unfold BBook.sval
 go_enter Tryz.func52, Tryz.ntmps52
 go_wp2_with fail
 generalize (w.alloc (Obj.cells #[.slice X.p X.B.boys.length X.cap, .int .i64 X.B.weeks, .slice X.q X.B.trials.length X.capt, .slice X.r X.pieces.length X.capp, .int .i64 X.most, .map (some m), out] 74)) = V0 at *
 go_loopw [5, 10] (fun v i V => ∃ j : Nat, j ≤ l.length ∧ i = .int .i64 j ∧ V.ownsRow V0.heap.size 86 2 v (wantL X (l.take j)).length (placesV (wantL X (l.take j))) ∧ Kept V0 V) (fun v i V => l.length - (intOf i).toNat)
 case atStart => exact ⟨0, by omega, rfl, World.ownsRow_nil _ _ _ _, kept_refl _⟩
 case round =>
  obtain ⟨j, hj, rfl, hrow, hV⟩ := hrel
  have hkV := kept_trans hk0 hV
  by_cases hjl : j < l.length
  ·have hjlI : (j : Int) < l.length := by omega
   obtain ⟨⟨p, k⟩, hget⟩ : ∃ q, l[j]? = some q := ⟨_, List.getElem?_eq_getElem hjl⟩
   obtain ⟨x, y, hx, hy⟩ := HIN.out (p, k) (List.mem_of_getElem? hget)
   have hmany := ((okB_parts HOK.out).2.2.2 p x hx).2.2 k y hy
   obtain ⟨g, rfl, c0, c1⟩ : ∃ g, pl = some ⟨g, 0, none⟩ ∧ wr.cell? ⟨g, j * 2, none⟩ = some (.int .i64 (p : Int)) ∧ wr.cell? ⟨g, j * 2 + 1, none⟩ = some (.int .i64 (k : Int)) := by
    rcases HL.out with ⟨_, e⟩ | ⟨g, cap, e, hp⟩
    ·rw [e] at hjl; simp at hjl
    ·simp only [Value.slice.injEq] at e
     exact ⟨g, e.1, kcell hV (hp.2 j _ hget).1, kcell hV (hp.2 j _ hget).2⟩
   have hzg := Go.Ai.lt_of_cell c0
   have kat : Kept wr (wr.alloc (Obj.cells #[.int .i64 (p : Int), .int .i64 (k : Int)] 86)) := kept_alloc (kept_refl _) _
   have q0 : (wr.alloc (Obj.cells #[.int .i64 (p : Int), .int .i64 (k : Int)] 86)).cell? ⟨wr.heap.size, 0, none⟩ = some (.int .i64 (p : Int)) := by go_simp
   have q1 : (wr.alloc (Obj.cells #[.int .i64 (p : Int), .int .i64 (k : Int)] 86)).cell? ⟨wr.heap.size, 1, none⟩ = some (.int .i64 (k : Int)) := by go_simp
   obtain ⟨mm, hmm⟩ := Int.eq_ofNat_of_zero_le (show 0 ≤ y.many by omega)
   have HNX := Lib.hid (show wantL X (l.take (j + 1)) = wantL X (l.take j) ++ List.replicate mm (p, k) by
    rw [List.take_succ, hget]; simp [wantL, manyOf, hx, hy, hmm])
   have HLEN := Lib.hid (show (wantL X (l.take j)).length ≤ 27 from by
    have := HWL.out (l.take j)
    simp only [List.length_take] at this
    omega)
   have hPA := HP.out p k x y hx hy
   rw [hmm] at hPA
   have HPA := Lib.hid hPA
   have HMM := Lib.hid (show 1 ≤ mm ∧ mm ≤ 3 by omega)
   have HROW := Lib.hid hrow
   clear hPA hmany hx hy hget hrow hmm
   generalize wantL X (l.take j) = L0 at *
   go_wp2_with fail
   have kV2 := kept_trans hV kat
   have e0 := kcell kV2 a0
   have e1 := kcell kV2 a1
   have e2 := kcell kV2 a2
   have e3 := kcell kV2 a3
   have e4 := kcell kV2 a4
   have e5 := kcell kV2 a5
   have e6 := kcell kV2 a6
   have HXV := Lib.hid (HX.out.kept kV2)
   have HRW := Lib.hid (HROW.out.alloc (Obj.cells #[.int .i64 (p : Int), .int .i64 (k : Int)] 86))
   have hsz : V0.heap.size ≤ (wr.alloc (Obj.cells #[.int .i64 (p : Int), .int .i64 (k : Int)] 86)).heap.size := kV2.size
   generalize wr.alloc (Obj.cells #[.int .i64 (p : Int), .int .i64 (k : Int)] 86) = V1 at *
   generalize wr.heap.size = hb at *
   refine (wpIn_wide (n := 0)).1 (wpIn_region_app (V := V1) (fun ix : Nat => match ix with | 0 => fun v _ => v = u5 | 1 => fun v _ => v = .agg #[.int .i64 (p : Int), .int .i64 (k : Int)] | 2 => fun v w => ∃ g, v = .slice (some ⟨g, 0, none⟩) 1 1 ∧ w.cell? ⟨g, 0, none⟩ = some (.int .i64 (p : Int)) ∧ w.cell? ⟨g, 1, none⟩ = some (.int .i64 (k : Int)) | 3 => fun v _ => v = .agg #[.slice X.p X.B.boys.length X.cap, .int .i64 X.B.weeks, .slice X.q X.B.trials.length X.capt, .slice X.r X.pieces.length X.capp, .int .i64 X.most, .map (some m), out] | 4 => fun v _ => v = .agg #[.int .i64 (p : Int), .int .i64 (k : Int)] | 5 => fun v _ => v = .agg #[.int .i64 y.lo, .int .i64 y.hi, .int .i64 (mm : Int)] | 6 => fun v _ => v = .int .i64 (mm : Int) | 7 => fun v w => ∃ g o, v = .slice (some ⟨g, o, none⟩) mm mm ∧ CopiesAt w g o p k mm | _ => fun _ _ => True) 8 (fun v w => Kept V0 w ∧ w.ownsRow V0.heap.size 86 2 v (L0 ++ List.replicate mm (p, k)).length (placesV (L0 ++ List.replicate mm (p, k)))) (by kernel_rfl) (by kernel_rfl) (by kernel_rfl) (by kernel_rfl) (by kernel_rfl) ?hanc ?hanc1 ?hst ?hop ?happ ?hass ?hend)
   case hanc =>
    intro listed hcl e8 j hj
    have e0 := hcl 8 _ rfl e8 ⟨0, .data⟩ (by simp) rfl
    have e7 := hcl 8 _ rfl e8 ⟨7, .data⟩ (by simp) rfl
    have e2 := hcl 7 _ rfl e7 ⟨2, .data⟩ (by simp) rfl
    have e6 := hcl 7 _ rfl e7 ⟨6, .data⟩ (by simp) rfl
    have e5 := hcl 6 _ rfl e6 ⟨5, .data⟩ (by simp) rfl
    have e3 := hcl 5 _ rfl e5 ⟨3, .data⟩ (by simp) rfl
    have e4 := hcl 5 _ rfl e5 ⟨4, .data⟩ (by simp) rfl
    have e1 := hcl 2 _ rfl e2 ⟨1, .data⟩ (by simp) rfl
    match j, hj with
    | 0, _ => exact e0
    | 1, _ => exact e1
    | 2, _ => exact e2
    | 3, _ => exact e3
    | 4, _ => exact e4
    | 5, _ => exact e5
    | 6, _ => exact e6
    | 7, _ => exact e7
   case hanc1 =>
    intro listed hcl e
    exact hcl 9 _ rfl e ⟨8, .data⟩ (by simp) rfl
   case hst =>
    intro ix v w w' hv hk
    match ix, hv with
    | 0, hv => exact hv
    | 1, hv => exact hv
    | 2, hv => exact hv.imp fun g h => ⟨h.1, kcell hk h.2.1, kcell hk h.2.2⟩
    | 3, hv => exact hv
    | 4, hv => exact hv
    | 5, hv => exact hv
    | 6, hv => exact hv
    | 7, hv => obtain ⟨g, o, h1, h2⟩ := hv; exact ⟨g, o, h1, h2.kept hk⟩
    | ix + 8, hv => trivial
   case hop =>
    rintro ix o listed a w vs hil hlast ho ha hk hR hdep K hK
    match ix, hil, ho with
    | 0, _, ho =>
     have t5 := old_but ha 5 9 hlast (by kernel_rfl)
     simp at t5
     cases ho
     go_simp
     exact hK _ _ (kept_refl _) rfl
    | 1, _, ho =>
     have t7 := ha.old 7 (by kernel_rfl)
     simp at t7
     have rq0 := kcell hk q0
     have rq1 := kcell hk q1
     cases ho
     go_simp
     exact hK _ _ (kept_refl _) rfl
    | 2, _, ho =>
     have b1 := hdep ⟨1, .data⟩ (by cases ho; simp) rfl
     have t15 := (ha.new 1 b1 (d := 15) rfl rfl (by simp)).trans (hR 1 b1)
     simp at t15
     cases ho
     go_simp
     refine hK _ _ (kept_alloc (kept_refl _) _) ⟨w.heap.size, rfl, ?_, ?_⟩ <;> go_simp
    | 3, _, ho =>
     have t2 := ha.old 2 (by kernel_rfl)
     simp at t2
     have re0 := kcell hk e0
     have re1 := kcell hk e1
     have re2 := kcell hk e2
     have re3 := kcell hk e3
     have re4 := kcell hk e4
     have re5 := kcell hk e5
     have re6 := kcell hk e6
     cases ho
     go_simp
     exact hK _ _ (kept_refl _) rfl
    | 4, _, ho =>
     have t7 := ha.old 7 (by kernel_rfl)
     simp at t7
     have rq0 := kcell hk q0
     have rq1 := kcell hk q1
     cases ho
     go_simp
     exact hK _ _ (kept_refl _) rfl
    | 5, _, ho =>
     have b3 := hdep ⟨3, .data⟩ (by cases ho; simp) rfl
     have t17 := (ha.new 3 b3 (d := 17) rfl rfl (by simp)).trans (hR 3 b3)
     simp at t17
     have b4 := hdep ⟨4, .data⟩ (by cases ho; simp) rfl
     have t18 := (ha.new 4 b4 (d := 18) rfl rfl (by simp)).trans (hR 4 b4)
     simp at t18
     have HCL := Lib.hid (HPA.out w (HXV.out.kept hk))
     cases ho
     go_simp
     refine ⟨trivial, rfl, (callsIn_wide.2 HCL.out).mono ?_⟩
     rintro e w' ⟨rfl, hk'⟩
     exact hK _ _ hk' rfl
    | 6, _, ho =>
     have b5 := hdep ⟨5, .data⟩ (by cases ho; simp) rfl
     have t19 := (ha.new 5 b5 (d := 19) rfl rfl (by simp)).trans (hR 5 b5)
     simp at t19
     cases ho
     go_simp
     exact hK _ _ (kept_refl _) rfl
    | 7, _, ho =>
     have b6 := hdep ⟨6, .data⟩ (by cases ho; simp) rfl
     have t20 := (ha.new 6 b6 (d := 20) rfl rfl (by simp)).trans (hR 6 b6)
     simp at t20
     have b2 := hdep ⟨2, .data⟩ (by cases ho; simp) rfl
     have t16 := ha.new 2 b2 (d := 16) rfl rfl (by simp)
     have r2 := hR 2 b2
     obtain ⟨g2, hv2, z0, z1⟩ := r2
     rw [hv2] at t16
     have HCL := Lib.hid (repeat_any mm HMM.out p k g2 w z0 z1)
     cases ho
     go_simp
     refine ⟨trivial, rfl, (callsIn_wide.2 HCL.out).mono ?_⟩
     rintro e w' ⟨g', o', rfl, hk', hsz', hcp⟩
     exact hK _ _ hk' ⟨g', o', rfl, hcp⟩
    | ix + 8, hil, ho => exact absurd hil (by omega)
   case happ =>
    rintro o listed a w vs ho ha hk hR K hK
    have t14 := ha.new 0 (hR 0 (by omega)).1 (d := 14) rfl rfl (by simp)
    have r0 := (hR 0 (by omega)).2
    replace t14 := t14.trans r0
    have t21 := ha.new 7 (hR 7 (by omega)).1 (d := 21) rfl rfl (by simp)
    have r7 := (hR 7 (by omega)).2
    obtain ⟨g7, o7, h7, hcp⟩ := r7
    rw [h7] at t21
    have hrw2 := HRW.out.kept (row := none) ⟨hk.os, hk.tape, hk.output, hk.size, fun i hi _ => hk.block i hi⟩ (by cases u5.ownBlock <;> simp)
    cases ho
    refine wpIn_append_lies _ (.tmp 14) (.tmp 21) 79 rfl V0.heap.size 86 i0 _ 2 16 Tryz.underlying79 hi hiz his hib rfl (by decide) u5 L0.length _ t14 hrw2 ⟨g7, o7, none⟩ mm mm (placesV (List.replicate mm (p, k))) t21 (by rw [placesV_len, List.length_replicate]) (copies_news hcp) (places_one _) (by have := HMM.out; omega) (by unfold maxLen; have := HMM.out; have := HLEN.out; omega) (by have := HMM.out; have := HLEN.out; omega) (by have := hk.size; omega) ?_
    intro g' cap' w' hown hgrow hat hlt3
    exact hK _ _ ⟨by
     refine Below.trans (kept_trans kV2 hk) ⟨hgrow.os, hgrow.tape, hgrow.output, hgrow.size, fun i hi' => hgrow.block i (by have := kV2.size; have := hk.size; omega) (fun e => ?_)⟩
     have := (hrw2.lt i e.symm).1
     omega, by
     have e1 : placesV (L0 ++ List.replicate mm (p, k)) = placesV L0 ++ placesV (List.replicate mm (p, k)) := by simp [placesV]
     rw [e1, List.length_append, List.length_replicate]; exact hown⟩
   case hass =>
    rintro o listed a w vs ho ha hs K hK
    have t := ha.new 8 hs (d := 22) rfl rfl (by simp)
    simp at t
    have HK := Lib.hid hK; clear hK
    cases ho
    go_simp
    exact HK.out
   case hend =>
    rintro listed a w vs hall ha ⟨hkW, hrowW⟩ he9
    obtain ⟨yy, hy, hae⟩ := ha.lit (n := 25) rfl
    have y0 := (hy 0).symm.trans (ha.old 0 (by kernel_rfl))
    have y1 := (hy 1).symm.trans (ha.old 1 (by kernel_rfl))
    have y2 := (hy 2).symm.trans (ha.old 2 (by kernel_rfl))
    have y3 := (hy 3).symm.trans (ha.old 3 (by kernel_rfl))
    have y4 := (hy 4).symm.trans (ha.old 4 (by kernel_rfl))
    have y6 := (hy 6).symm.trans (ha.old 6 (by kernel_rfl))
    have y7 := (hy 7).symm.trans (ha.old 7 (by kernel_rfl))
    have y8 := (hy 8).symm.trans (ha.old 8 (by kernel_rfl))
    have y9 := (hy 9).symm.trans (ha.old 9 (by kernel_rfl))
    have y10 := (hy 10).symm.trans (ha.old 10 (by kernel_rfl))
    have y11 := (hy 11).symm.trans (ha.old 11 (by kernel_rfl))
    have y12 := (hy 12).symm.trans (ha.old 12 (by kernel_rfl))
    have y13 := (hy 13).symm.trans (ha.old 13 (by kernel_rfl))
    have y23 := (hy 23).symm.trans (ha.old 23 (by kernel_rfl))
    have y24 := (hy 24).symm.trans (ha.old 24 (by kernel_rfl))
    have y5 := ((hy 5).symm.trans (ha.new 9 (hall 9 (by simp)) (d := 5) rfl rfl (by simp))).trans he9
    simp at y0 y1 y2 y3 y4 y6 y7 y8 y9 y10 y11 y12 y13 y23 y24
    simp only [List.range, List.range.loop, List.map] at hae
    rw [y0, y1, y2, y3, y4, y5, y6, y7, y8, y9, y10, y11, y12, y13, y23, y24] at hae
    subst hae
    clear ha hy hall he9 y0 y1 y2 y3 y4 y5 y6 y7 y8 y9 y10 y11 y12 y13 y23 y24
    rw [← HNX.out] at hrowW
    have HRW2 := Lib.hid hrowW; clear hrowW
    generalize vs 8 = v8 at *
    go_wp2_with fail
    go_roundw
    case rel => exact ⟨j + 1, by omega, by go_num, HRW2.out, hkW⟩
    case measure => simp [intOf]; omega
  ·have hjlI : ¬ (j : Int) < l.length := by omega
   obtain rfl : j = l.length := by omega
   rw [List.take_length] at hrow
   go_wp2_with fail
   go_ret
   exact ⟨_, rfl, hkV, row_le hrow hk0.size⟩
end Go.Proofs.YtcllfjjhijkakaaGreatDoor
namespace Go.Proofs.YtcllfjjhijkakaaGreatDoor
open Go.RowKit Go.Sort Go.Rg
set_option maxRecDepth 100000
def cmpI (x y : Int) : Int := if x < y then -1 else if y < x then 1 else 0
theorem cmp_any (x y : Int) (w : World) : Calls Tryz.prog 71 #[.int .i64 x, .int .i64 y] w fun e w' => e = .returned (.int .i64 (cmpI x y)) ∧ w = w' := by
 by_cases h1 : x < y
 ·have h2 : decide (x < y) = true := by simpa using h1
  have H : cmpI x y = -1 := by simp [cmpI, h1]
  rw [H]; clear H h1
  go_enter Tryz.func71, Tryz.ntmps71
  go_wp2
  go_ret
  exact ⟨rfl, rfl⟩
 ·have h2 : decide (x < y) = false := by simpa using h1
  by_cases h3 : y < x
  ·have h4 : decide (y < x) = true := by simpa using h3
   have H : cmpI x y = 1 := by simp [cmpI, h1, h3]
   rw [H]; clear H h1 h3
   go_enter Tryz.func71, Tryz.ntmps71
   go_wp2
   go_ret
   exact ⟨rfl, rfl⟩
  ·have h4 : decide (y < x) = false := by simpa using h3
   have H : cmpI x y = 0 := by simp [cmpI, h1, h3]
   rw [H]; clear H h1 h3
   go_enter Tryz.func71, Tryz.ntmps71
   go_wp2
   go_ret
   exact ⟨rfl, rfl⟩
end Go.Proofs.YtcllfjjhijkakaaGreatDoor
namespace Go.Proofs.YtcllfjjhijkakaaGreatDoor
open Go.RowKit Go.Sort Go.Rg
set_option maxRecDepth 100000
set_option maxHeartbeats 4000000
structure Seat where
 piece : Int
 part : Int
 boy : Int
 deriving Inhabited, DecidableEq
def Seat.val (s : Seat) : Value := .agg #[.int .i64 s.piece, .int .i64 s.part, .int .i64 s.boy]
def Seat.cells (s : Seat) : List Value := [.int .i64 s.piece, .int .i64 s.part, .int .i64 s.boy]
def SeatsAt (w : World) (b o : Nat) (l : List Seat) : Prop := b < w.heap.size ∧ ∀ i s, l[i]? = some s → w.cell? ⟨b, o + i * 3, none⟩ = some (.int .i64 s.piece) ∧ w.cell? ⟨b, o + i * 3 + 1, none⟩ = some (.int .i64 s.part) ∧ w.cell? ⟨b, o + i * 3 + 2, none⟩ = some (.int .i64 s.boy)
theorem SeatsAt.kept {w W : World} {b o : Nat} {l : List Seat} (h : SeatsAt w b o l) (k : Kept w W) : SeatsAt W b o l :=
 ⟨Nat.lt_of_lt_of_le h.1 k.size, fun i x hx => by
  obtain ⟨h1, h2, h3⟩ := h.2 i x hx
  exact ⟨kcell k h1, kcell k h2, kcell k h3⟩⟩
def SeatsIs (w : World) (v : Value) (l : List Seat) : Prop := (∃ p cap, v = .slice p 0 cap ∧ l = []) ∨ ∃ b o cap, v = .slice (some ⟨b, o, none⟩) l.length cap ∧ l.length ≤ cap ∧ SeatsAt w b o l
theorem SeatsIs.kept {w W : World} {v : Value} {l : List Seat} (h : SeatsIs w v l) (k : Kept w W) : SeatsIs W v l := h.imp id fun ⟨b, o, cap, e, hc, hp⟩ => ⟨b, o, cap, e, hc, hp.kept k⟩
theorem SeatsIs.len {w : World} {v : Value} {l : List Seat} (h : SeatsIs w v l) : ∃ p cap, v = .slice p l.length cap := by
 rcases h with ⟨p, cap, rfl, rfl⟩ | ⟨b, o, cap, rfl, _⟩
 ·exact ⟨p, cap, rfl⟩
 ·exact ⟨_, cap, rfl⟩
theorem SeatsIs.at {w : World} {p : Option Addr} {n cap : Nat} {l : List Seat} (h : SeatsIs w (.slice p n cap) l) {i : Nat} {s : Seat} (hs : l[i]? = some s) : ∃ b o, p = some ⟨b, o, none⟩ ∧ SeatsAt w b o l ∧ w.cell? ⟨b, o + i * 3, none⟩ = some (.int .i64 s.piece) ∧ w.cell? ⟨b, o + i * 3 + 1, none⟩ = some (.int .i64 s.part) ∧ w.cell? ⟨b, o + i * 3 + 2, none⟩ = some (.int .i64 s.boy) := by
 rcases h with ⟨_, _, _, rfl⟩ | ⟨b, o, c, e, _, hp⟩
 ·simp at hs
 ·simp only [Value.slice.injEq] at e
  exact ⟨b, o, e.1, hp, hp.2 i s hs⟩
theorem placeOf_any (s : Seat) (w : World) : Calls Tryz.prog 53 #[s.val] w fun e w' => e = .returned (.agg #[.int .i64 s.piece, .int .i64 s.part]) ∧ Kept w w' := by
 unfold Seat.val
 go_enter Tryz.func53, Tryz.ntmps53
 go_wp2_with fail
 refine bodyPost_ret (v := .agg #[.int .i64 s.piece, .int .i64 s.part]) (by simp [results, Tryz.results53, go_sem]) rfl ⟨rfl, ?_⟩
 unfold Kept
 repeat (first | exact Below.refl _ _ | refine Below.alloc ?_ (by simp) _ | refine Below.setCell ?_ (by simp [Addr.add]; done) _ )
theorem byPiece_any (s t : Seat) (w : World) : Calls Tryz.prog 121 #[s.val, t.val] w fun e w' => e = .returned (.int .i64 (cmpI s.piece t.piece)) ∧ Kept w w' := by
 unfold Seat.val
 go_enter Tryz.func121, Tryz.ntmps121
 go_wp2_with (go_at_call 71; with_reducible refine (cmp_any _ _ _).mono ?_; rintro e w' ⟨rfl, rfl⟩)
 go_ret
 exact ⟨rfl, kept_alloc (kept_alloc (kept_refl _) _) _⟩
theorem byPart_any (s t : Seat) (w : World) : Calls Tryz.prog 122 #[s.val, t.val] w fun e w' => e = .returned (.int .i64 (cmpI s.part t.part)) ∧ Kept w w' := by
 unfold Seat.val
 go_enter Tryz.func122, Tryz.ntmps122
 go_wp2_with (go_at_call 71; with_reducible refine (cmp_any _ _ _).mono ?_; rintro e w' ⟨rfl, rfl⟩)
 go_ret
 exact ⟨rfl, kept_alloc (kept_alloc (kept_refl _) _) _⟩
theorem byBoy_any (s t : Seat) (w : World) : Calls Tryz.prog 123 #[s.val, t.val] w fun e w' => e = .returned (.int .i64 (cmpI s.boy t.boy)) ∧ Kept w w' := by
 unfold Seat.val
 go_enter Tryz.func123, Tryz.ntmps123
 go_wp2_with (go_at_call 71; with_reducible refine (cmp_any _ _ _).mono ?_; rintro e w' ⟨rfl, rfl⟩)
 go_ret
 exact ⟨rfl, kept_alloc (kept_alloc (kept_refl _) _) _⟩
def hasI (b : Int) (l : List Nat) : Bool := l.any fun x => decide (b = (x : Int))
theorem indexI_any (v : Value) (l : List Nat) (b : Int) (w : World) (h : ListAt w v l) (hl : l.length ≤ 4) :
  Calls Tryz.prog 98 #[v, .int .i64 b] w (ToldI (FirstA (hasI b l)) w) := by
 obtain ⟨p, cap, rfl⟩ := listAt_len h
 have H := Lib.hid h; clear h
 go_enter Tryz.func98, Tryz.ntmps98
 go_wp2_with fail
 go_loopw [8] (fun i W => ∃ k : Nat, k ≤ l.length ∧ i = .int .i64 k ∧ (∀ j x, j < k → l[j]? = some x → ¬ b = ((x : Nat) : Int)) ∧ Kept w W) (fun i W => l.length - (intOf i).toNat)
 case atStart => exact ⟨0, by omega, rfl, fun j t hj => by omega, kept_refl _⟩
 case round =>
  obtain ⟨k, hk, rfl, hno, hkW⟩ := hrel
  have HNO := Lib.hid hno; clear hno
  by_cases hlt : k < l.length
  ·obtain ⟨x, hget⟩ : ∃ x, l[k]? = some x := ⟨_, List.getElem?_eq_getElem hlt⟩
   have hkI : (k : Int) < l.length := by omega
   obtain ⟨g, rfl, hc⟩ : ∃ g, p = some ⟨g, 0, none⟩ ∧ w.cell? ⟨g, k, none⟩ = some (.int .i64 (x : Int)) := by
    rcases H.out with ⟨_, rfl⟩ | ⟨g, cap', e, _, hc⟩
    ·simp at hlt
    ·simp only [Value.slice.injEq] at e
     exact ⟨g, e.1, hc k x hget⟩
   replace hc := kcell hkW hc
   have HG := Lib.hid hget; clear hget
   by_cases hv : b = (x : Int)
   ·have hv1 : (b == (x : Int)) = true := by simp [hv]
    have HP : Hid (hasI b l = true) := Lib.hid (List.any_eq_true.2 ⟨x, List.mem_of_getElem? HG.out, by simp [hv]⟩)
    have hkz : (0 : Int) ≤ k := by omega
    clear hv
    go_wp2_with fail
    go_ret
    exact ⟨k, (show FirstA _ _ from ⟨fun _ => HP.out, fun _ => hkz⟩), rfl, hkW⟩
   ·have hv1 : (b == (x : Int)) = false := by simp [hv]
    have HNEW : Hid (∀ (j : Nat) (x : Nat), j < k + 1 → l[j]? = some x → ¬ b = (x : Int)) := Lib.hid (by
     intro j t' hj hg
     by_cases e : j = k
     ·subst e; rw [HG.out] at hg; cases hg; exact hv
     ·exact HNO.out j t' (by omega) hg)
    clear hv
    go_wp2_with fail
    go_roundw
    case rel => exact ⟨k + 1, by omega, by go_num, HNEW.out, hkW⟩
    case measure => simp [intOf]; omega
  ·have HP : Hid (hasI b l = false) := Lib.hid (by
    unfold hasI
    rw [List.any_eq_false]
    intro t ht
    obtain ⟨j, hj, rfl⟩ := List.getElem_of_mem ht
    have := HNO.out j l[j] (by omega) (List.getElem?_eq_getElem hj)
    simpa using this)
   have hlt2 : ¬ (k : Int) < l.length := by omega
   go_wp2_with fail
   go_ret
   exact ⟨-1, (show FirstA _ _ from ⟨fun h => by omega, fun h => by rw [HP.out] at h; cases h⟩), rfl, hkW⟩
theorem containsI_any (v : Value) (l : List Nat) (b : Int) (w : World) (h : ListAt w v l) (hl : l.length ≤ 4) :
  Calls Tryz.prog 73 #[v, .int .i64 b] w fun e w' => e = .returned (.bool (hasI b l)) ∧ Kept w w' := by
 have HI := indexI_any v l b w h hl
 generalize hasI b l = g at *
 have H := Lib.hid HI; clear HI h
 go_enter Tryz.func73, Tryz.ntmps73
 go_wp2_with fail
 refine H.out.mono ?_
 rintro e w' ⟨r, hr1, rfl, hk⟩
 have HR := Lib.hid hr1; clear hr1
 go_wp2_with fail
 go_ret
 refine ⟨?_, hk⟩
 have h : FirstA g r := HR.out
 unfold FirstA at h
 have e : decide (0 ≤ r) = g := by cases g <;> simp_all
 simpa using e
theorem noOut_any (b : Int) (w : World) : Calls Tryz.prog 75 #[.int .i64 b] w fun e w' => e = .returned (.bool false) ∧ w = w' := by
 go_enter Tryz.func75, Tryz.ntmps75
 go_wp2
 go_ret
 exact ⟨rfl, rfl⟩
end Go.Proofs.YtcllfjjhijkakaaGreatDoor
namespace Go.Proofs.YtcllfjjhijkakaaGreatDoor
open Go.RowKit Go.Sort Go.Rg
set_option maxRecDepth 100000
set_option maxHeartbeats 4000000
def behB (n b : Seat) : Bool := if cmpI n.piece b.piece = 0 then (if cmpI n.part b.part = 0 then decide (0 < cmpI n.boy b.boy) else decide (0 < cmpI n.part b.part)) else decide (0 < cmpI n.piece b.piece)
theorem tri0 (a0 a1 a2 : Value) (W : World) : (Instr.index 181 (.agg #[a0, a1, a2]) (.int .i64 0)).run Tryz.prog W = .ok a0 W := by kernel_rfl
theorem tri1 (a0 a1 a2 : Value) (W : World) : (Instr.index 181 (.agg #[a0, a1, a2]) (.int .i64 1)).run Tryz.prog W = .ok a1 W := by kernel_rfl
theorem tri2 (a0 a1 a2 : Value) (W : World) : (Instr.index 181 (.agg #[a0, a1, a2]) (.int .i64 2)).run Tryz.prog W = .ok a2 W := by kernel_rfl
attribute [local go_sem] tri0 tri1 tri2
theorem isBehind_any (n b : Seat) (w : World) : Calls Tryz.prog 102 #[n.val, b.val] w fun e w' => e = .returned (.bool (behB n b)) ∧ Kept w w' := by
 have H0 := Lib.hid (fun W => byPiece_any n b W)
 have H1 := Lib.hid (fun W => byPart_any n b W)
 have H2 := Lib.hid (fun W => byBoy_any n b W)
 have HB := Lib.hid (show behB n b = _ from rfl)
 unfold Seat.val at *
 have hk0 : Kept w (((w.alloc (Obj.cells #[.int .i64 n.piece, .int .i64 n.part, .int .i64 n.boy] 68)).alloc (Obj.cells #[.int .i64 b.piece, .int .i64 b.part, .int .i64 b.boy] 68)).alloc (Obj.cells #[.func (.func 121) #[] #[], .func (.func 122) #[] #[], .func (.func 123) #[] #[]] 181)) := kept_alloc (kept_alloc (kept_alloc (kept_refl _) _) _) _
 have ZZ : ∀ Z, Z = (((w.alloc (Obj.cells #[.int .i64 n.piece, .int .i64 n.part, .int .i64 n.boy] 68)).alloc (Obj.cells #[.int .i64 b.piece, .int .i64 b.part, .int .i64 b.boy] 68)).alloc (Obj.cells #[.func (.func 121) #[] #[], .func (.func 122) #[] #[], .func (.func 123) #[] #[]] 181)) → Z.cell? ⟨w.heap.size, 0, none⟩ = some (.int .i64 n.piece) ∧ Z.cell? ⟨w.heap.size, 1, none⟩ = some (.int .i64 n.part) ∧ Z.cell? ⟨w.heap.size, 2, none⟩ = some (.int .i64 n.boy) ∧ Z.cell? ⟨w.heap.size + 1, 0, none⟩ = some (.int .i64 b.piece) ∧ Z.cell? ⟨w.heap.size + 1, 1, none⟩ = some (.int .i64 b.part) ∧ Z.cell? ⟨w.heap.size + 1, 2, none⟩ = some (.int .i64 b.boy) := by rintro _ rfl; refine ⟨?_, ?_, ?_, ?_, ?_, ?_⟩ <;> go_simp
 obtain ⟨a0, a1, a2, b0, b1, b2⟩ := ZZ _ rfl; clear ZZ
 generalize hres : behB n b = res at *
 go_enter Tryz.func102, Tryz.ntmps102
 go_wp2_with fail
 generalize (((w.alloc (Obj.cells #[.int .i64 n.piece, .int .i64 n.part, .int .i64 n.boy] 68)).alloc (Obj.cells #[.int .i64 b.piece, .int .i64 b.part, .int .i64 b.boy] 68)).alloc (Obj.cells #[.func (.func 121) #[] #[], .func (.func 122) #[] #[], .func (.func 123) #[] #[]] 181)) = W1 at *
 go_loopw [11] (fun i W => ∃ k : Nat, k ≤ 3 ∧ i = .int .i64 k ∧ (1 ≤ k → cmpI n.piece b.piece = 0) ∧ (2 ≤ k → cmpI n.part b.part = 0) ∧ (3 ≤ k → cmpI n.boy b.boy = 0) ∧ Kept W1 W) (fun i W => 3 - (intOf i).toNat)
 case atStart => exact ⟨0, by omega, rfl, fun h => by omega, fun h => by omega, fun h => by omega, kept_refl _⟩
 case round =>
  obtain ⟨k, hk, rfl, h1, h2, h3, hkW⟩ := hrel
  have G1 := Lib.hid h1
  have G2 := Lib.hid h2
  have G3 := Lib.hid h3
  clear h1 h2 h3
  have HRES := Lib.hid hres; clear hres
  replace a0 := kcell hkW a0
  replace b0 := kcell hkW b0
  replace a1 := kcell hkW a1
  replace b1 := kcell hkW b1
  replace a2 := kcell hkW a2
  replace b2 := kcell hkW b2
  rcases (show k = 0 ∨ k = 1 ∨ k = 2 ∨ k = 3 by omega) with rfl | rfl | rfl | rfl
  ·go_wp2_with fail
   with_reducible refine (H0.out _).mono ?_
   rintro e w' ⟨rfl, hk2⟩
   have hkW2 := kept_trans hkW hk2
   by_cases hc : cmpI n.piece b.piece = 0
   ·have hc1 : (cmpI n.piece b.piece != 0) = false := by simp [hc]
    have HC := Lib.hid hc; clear hc
    go_wp2_with fail
    go_roundw
    case rel => exact ⟨1, by omega, by go_num, fun _ => HC.out, fun h => by omega, fun h => by omega, hkW2⟩
    case measure => simp [intOf]
   ·have hc1 : (cmpI n.piece b.piece != 0) = true := by simp [hc]
    have HR := Lib.hid (show res = decide (0 < cmpI n.piece b.piece) by rw [← HRES.out]; unfold behB; rw [if_neg hc])
    clear hc
    go_wp2_with fail
    go_ret
    exact ⟨by simp [HR.out], kept_trans hk0 hkW2⟩
  ·go_wp2_with fail
   with_reducible refine (H1.out _).mono ?_
   rintro e w' ⟨rfl, hk2⟩
   have hkW2 := kept_trans hkW hk2
   by_cases hc : cmpI n.part b.part = 0
   ·have hc1 : (cmpI n.part b.part != 0) = false := by simp [hc]
    have HC := Lib.hid hc; clear hc
    go_wp2_with fail
    go_roundw
    case rel => exact ⟨2, by omega, by go_num, fun _ => G1.out (by omega), fun _ => HC.out, fun h => by omega, hkW2⟩
    case measure => simp [intOf]
   ·have hc1 : (cmpI n.part b.part != 0) = true := by simp [hc]
    have HR := Lib.hid (show res = decide (0 < cmpI n.part b.part) by rw [← HRES.out]; unfold behB; rw [if_pos (G1.out (by omega))]; rw [if_neg hc])
    clear hc
    go_wp2_with fail
    go_ret
    exact ⟨by simp [HR.out], kept_trans hk0 hkW2⟩
  ·go_wp2_with fail
   with_reducible refine (H2.out _).mono ?_
   rintro e w' ⟨rfl, hk2⟩
   have hkW2 := kept_trans hkW hk2
   by_cases hc : cmpI n.boy b.boy = 0
   ·have hc1 : (cmpI n.boy b.boy != 0) = false := by simp [hc]
    have HC := Lib.hid hc; clear hc
    go_wp2_with fail
    go_roundw
    case rel => exact ⟨3, by omega, by go_num, fun _ => G1.out (by omega), fun _ => G2.out (by omega), fun _ => HC.out, hkW2⟩
    case measure => simp [intOf]
   ·have hc1 : (cmpI n.boy b.boy != 0) = true := by simp [hc]
    have HR := Lib.hid (show res = decide (0 < cmpI n.boy b.boy) by rw [← HRES.out]; unfold behB; rw [if_pos (G1.out (by omega)), if_pos (G2.out (by omega))])
    clear hc
    go_wp2_with fail
    go_ret
    exact ⟨by simp [HR.out], kept_trans hk0 hkW2⟩
  ·have HR := Lib.hid (show res = false by rw [← HRES.out]; unfold behB; rw [if_pos (G1.out (by omega)), if_pos (G2.out (by omega)), G3.out (by omega)]; rfl)
   go_wp2_with fail
   go_ret
   exact ⟨by simp [HR.out], kept_trans hk0 hkW⟩
def twiceB (l : List Seat) (n : Seat) : Bool := l.any fun s => decide (s.piece = n.piece) && decide (s.boy = n.boy)
theorem twice1_any (s n : Seat) (bn : Nat) (w : World) (h0 : w.cell? ⟨bn, 0, none⟩ = some (.int .i64 n.piece)) (h2 : w.cell? ⟨bn, 2, none⟩ = some (.int .i64 n.boy)) :
  Calls Tryz.prog 104 #[s.val, .pointer (some ⟨bn, 0, none⟩)] w fun e w' => e = .returned (.bool (decide (s.piece = n.piece) && decide (s.boy = n.boy))) ∧ Kept w w' := by
 have hz := Go.Ai.lt_of_cell h0
 have hk0 : Kept w (w.alloc (Obj.cells #[.int .i64 s.piece, .int .i64 s.part, .int .i64 s.boy] 68)) := kept_alloc (kept_refl _) _
 unfold Seat.val
 by_cases h : s.piece = n.piece
 ·have e1 : (s.piece == n.piece) = true := by simp [h]
  have HH := Lib.hid h; clear h
  go_enter Tryz.func104, Tryz.ntmps104
  go_wp2_with fail
  go_ret
  refine ⟨?_, hk0⟩
  rw [HH.out]
  by_cases h' : s.boy = n.boy <;> simp [h']
 ·have e1 : (s.piece == n.piece) = false := by simp [h]
  have HH := Lib.hid h; clear h
  go_enter Tryz.func104, Tryz.ntmps104
  go_wp2_with fail
  go_ret
  refine ⟨?_, hk0⟩
  simp [HH.out]
theorem indexSeat_any (v : Value) (l : List Seat) (n : Seat) (bn : Nat) (w : World) (hT : SeatsIs w v l) (hn : l.length ≤ 30) (h0 : w.cell? ⟨bn, 0, none⟩ = some (.int .i64 n.piece)) (h2 : w.cell? ⟨bn, 2, none⟩ = some (.int .i64 n.boy)) :
  Calls Tryz.prog 124 #[v, .func (.func 104) #[] #[.pointer (some ⟨bn, 0, none⟩)]] w (ToldI (FirstA (twiceB l n)) w) := by
 obtain ⟨p, cap, rfl⟩ := hT.len
 have HT := Lib.hid hT; clear hT
 go_enter Tryz.func124, Tryz.ntmps124
 go_wp2_with fail
 go_loopw [8] (fun i W => ∃ k : Nat, k ≤ l.length ∧ i = .int .i64 k ∧ (∀ (j : Nat) (t : Seat), j < k → l[j]? = some t → (decide (t.piece = n.piece) && decide (t.boy = n.boy)) = false) ∧ Kept w W) (fun i W => l.length - (intOf i).toNat)
 case atStart => exact ⟨0, by omega, rfl, fun j t hj => by omega, kept_refl _⟩
 case round =>
  obtain ⟨k, hk, rfl, hno, hkW⟩ := hrel
  have HNO := Lib.hid hno; clear hno
  by_cases hlt : k < l.length
  ·have hkI : (k : Int) < l.length := by omega
   obtain ⟨t, hget⟩ : ∃ t, l[k]? = some t := ⟨_, List.getElem?_eq_getElem hlt⟩
   obtain ⟨b, o, rfl, _, c0, c1, c2⟩ := HT.out.at hget
   replace c0 := kcell hkW c0
   replace c1 := kcell hkW c1
   replace c2 := kcell hkW c2
   have hzb := Go.Ai.lt_of_cell c0
   have HG := Lib.hid hget; clear hget
   have HB := Lib.hid (fun W (kk : Kept w W) => twice1_any t n bn W (kcell kk h0) (kcell kk h2))
   unfold Seat.val at HB
   rcases hv : (decide (t.piece = n.piece) && decide (t.boy = n.boy)) with _ | _
   ·have HV := Lib.hid hv; clear hv
    have HNEW : Hid (∀ (j : Nat) (s : Seat), j < k + 1 → l[j]? = some s → (decide (s.piece = n.piece) && decide (s.boy = n.boy)) = false) := Lib.hid (by
     intro j t' hj hg
     by_cases e : j = k
     ·subst e; rw [HG.out] at hg; cases hg; exact HV.out
     ·exact HNO.out j t' (by omega) hg)
    go_wp2_with fail
    with_reducible refine (HB.out _ hkW).mono ?_
    rintro e w' ⟨rfl, hk2⟩
    rw [HV.out]
    have hkW2 := kept_trans hkW hk2
    go_wp2_with fail
    go_roundw
    case rel => exact ⟨k + 1, by omega, by go_num, HNEW.out, hkW2⟩
    case measure => simp [intOf]; omega
   ·have HV := Lib.hid hv; clear hv
    have hkz : (0 : Int) ≤ k := by omega
    have HP : Hid (twiceB l n = true) := Lib.hid (List.any_eq_true.2 ⟨t, List.mem_of_getElem? HG.out, HV.out⟩)
    go_wp2_with fail
    with_reducible refine (HB.out _ hkW).mono ?_
    rintro e w' ⟨rfl, hk2⟩
    rw [HV.out]
    go_wp2_with fail
    go_ret
    exact ⟨k, (show FirstA _ _ from ⟨fun _ => HP.out, fun _ => hkz⟩), rfl, kept_trans hkW hk2⟩
  ·have HP : Hid (twiceB l n = false) := Lib.hid (by
    unfold twiceB
    rw [List.any_eq_false]
    intro t ht
    obtain ⟨j, hj, rfl⟩ := List.getElem_of_mem ht
    rw [HNO.out j l[j] (by omega) (List.getElem?_eq_getElem hj)]; simp)
   have hlt2 : ¬ (k : Int) < l.length := by omega
   go_wp2_with fail
   go_ret
   exact ⟨-1, (show FirstA _ _ from ⟨fun h => by omega, fun h => by rw [HP.out] at h; cases h⟩), rfl, hkW⟩
theorem containsSeat_any (v : Value) (l : List Seat) (n : Seat) (bn : Nat) (w : World) (hT : SeatsIs w v l) (hn : l.length ≤ 30) (h0 : w.cell? ⟨bn, 0, none⟩ = some (.int .i64 n.piece)) (h2 : w.cell? ⟨bn, 2, none⟩ = some (.int .i64 n.boy)) :
  Calls Tryz.prog 103 #[v, .func (.func 104) #[] #[.pointer (some ⟨bn, 0, none⟩)]] w fun e w' => e = .returned (.bool (twiceB l n)) ∧ Kept w w' := by
 have HI := indexSeat_any v l n bn w hT hn h0 h2
 generalize twiceB l n = g at *
 have H := Lib.hid HI; clear HI hT
 go_enter Tryz.func103, Tryz.ntmps103
 go_wp2_with fail
 refine H.out.mono ?_
 rintro e w' ⟨r, hr1, rfl, hk⟩
 have HR := Lib.hid hr1; clear hr1
 go_wp2_with fail
 go_ret
 refine ⟨?_, hk⟩
 have h : FirstA g r := HR.out
 unfold FirstA at h
 have e : decide (0 ≤ r) = g := by cases g <;> simp_all
 simpa using e
theorem sitsTwice_any (X : BBook) (m : Nat) (out v : Value) (l : List Seat) (n : Seat) (w : World) (hT : SeatsIs w v l) (hn : l.length ≤ 30) :
  Calls Tryz.prog 81 #[X.sval m out, v, n.val] w fun e w' => e = .returned (.bool (twiceB l n)) ∧ Kept w w' := by
 have hk0 : Kept w ((w.alloc (Obj.cells #[.slice X.p X.B.boys.length X.cap, .int .i64 X.B.weeks, .slice X.q X.B.trials.length X.capt, .slice X.r X.pieces.length X.capp, .int .i64 X.most, .map (some m), out] 74)).alloc (Obj.cells #[.int .i64 n.piece, .int .i64 n.part, .int .i64 n.boy] 68)) := kept_alloc (kept_alloc (kept_refl _) _) _
 have ZZ : ∀ Z, Z = ((w.alloc (Obj.cells #[.slice X.p X.B.boys.length X.cap, .int .i64 X.B.weeks, .slice X.q X.B.trials.length X.capt, .slice X.r X.pieces.length X.capp, .int .i64 X.most, .map (some m), out] 74)).alloc (Obj.cells #[.int .i64 n.piece, .int .i64 n.part, .int .i64 n.boy] 68)) → Z.cell? ⟨w.heap.size + 1, 0, none⟩ = some (.int .i64 n.piece) ∧ Z.cell? ⟨w.heap.size + 1, 2, none⟩ = some (.int .i64 n.boy) := by rintro _ rfl; refine ⟨?_, ?_⟩ <;> go_simp
 obtain ⟨n0, n2⟩ := ZZ _ rfl; clear ZZ
 have HC := Lib.hid (containsSeat_any v l n (w.heap.size + 1) _ (hT.kept hk0) hn n0 n2)
 clear hT
 unfold BBook.sval Seat.val at *
 generalize twiceB l n = g at *
 go_enter Tryz.func81, Tryz.ntmps81
 go_wp2_with fail
 with_reducible refine HC.out.mono ?_
 rintro e w' ⟨rfl, hk⟩
 go_wp2_with fail
 go_ret
 exact ⟨rfl, kept_trans hk0 hk⟩
end Go.Proofs.YtcllfjjhijkakaaGreatDoor
namespace Go.Proofs.YtcllfjjhijkakaaGreatDoor
open Go.RowKit Go.Sort Go.Rg
set_option maxRecDepth 100000
set_option maxHeartbeats 4000000
def notBehB (l : List Seat) (n : Seat) : Bool := match l.getLast? with
 | none => false
 | some b => !behB n b
theorem isNotBehind_any (X : BBook) (m : Nat) (out v : Value) (l : List Seat) (n : Seat) (w : World) (hT : SeatsIs w v l) (hn : l.length ≤ 30) :
  Calls Tryz.prog 80 #[X.sval m out, v, n.val] w fun e w' => e = .returned (.bool (notBehB l n)) ∧ Kept w w' := by
 have hk0 : Kept w ((w.alloc (Obj.cells #[.slice X.p X.B.boys.length X.cap, .int .i64 X.B.weeks, .slice X.q X.B.trials.length X.capt, .slice X.r X.pieces.length X.capp, .int .i64 X.most, .map (some m), out] 74)).alloc (Obj.cells #[.int .i64 n.piece, .int .i64 n.part, .int .i64 n.boy] 68)) := kept_alloc (kept_alloc (kept_refl _) _) _
 have ZZ : ∀ Z, Z = ((w.alloc (Obj.cells #[.slice X.p X.B.boys.length X.cap, .int .i64 X.B.weeks, .slice X.q X.B.trials.length X.capt, .slice X.r X.pieces.length X.capp, .int .i64 X.most, .map (some m), out] 74)).alloc (Obj.cells #[.int .i64 n.piece, .int .i64 n.part, .int .i64 n.boy] 68)) → Z.cell? ⟨w.heap.size + 1, 0, none⟩ = some (.int .i64 n.piece) ∧ Z.cell? ⟨w.heap.size + 1, 1, none⟩ = some (.int .i64 n.part) ∧ Z.cell? ⟨w.heap.size + 1, 2, none⟩ = some (.int .i64 n.boy) := by rintro _ rfl; refine ⟨?_, ?_, ?_⟩ <;> go_simp
 obtain ⟨n0, n1, n2⟩ := ZZ _ rfl; clear ZZ
 obtain ⟨p, cap, rfl⟩ := hT.len
 unfold BBook.sval Seat.val at *
 rcases hgl : l.getLast? with _ | b
 ·obtain rfl : l = [] := by simpa using hgl
  have HR := Lib.hid (show notBehB ([] : List Seat) n = false from rfl)
  clear hgl hT
  go_enter Tryz.func80, Tryz.ntmps80
  go_wp2_with fail
  generalize ((w.alloc (Obj.cells #[.slice X.p X.B.boys.length X.cap, .int .i64 X.B.weeks, .slice X.q X.B.trials.length X.capt, .slice X.r X.pieces.length X.capp, .int .i64 X.most, .map (some m), out] 74)).alloc (Obj.cells #[.int .i64 n.piece, .int .i64 n.part, .int .i64 n.boy] 68)) = W0 at *
  refine wp_region_quiet_below (by kernel_rfl) (by kernel_rfl) ?_
  repeat (any_goals (first | go_big_quiet_skip | quiet_step (fail)))
  refine wpQuiet_nil ?_
  rintro _ ⟨⟨dq, osq⟩, rfl⟩
  have hkQ := kept_trans hk0 (below_regrown W0 dq osq)
  go_wp2_with fail
  go_ret
  exact ⟨by simp [HR.out], hkQ⟩
 ·have hpos : 0 < l.length := by
   rcases l with _ | ⟨a, l⟩
   ·simp at hgl
   ·simp
  have hget : l[l.length - 1]? = some b := by rw [← List.getLast?_eq_getElem?]; exact hgl
  have HR := Lib.hid (show notBehB l n = !behB n b by unfold notBehB; rw [hgl])
  obtain ⟨g, o, rfl, _, c0, c1, c2⟩ := hT.at hget
  have hposI : (0 : Int) < l.length := by omega
  have hlN : ((l.length - 1 : Nat) : Int) = (l.length : Int) - 1 := by omega
  obtain ⟨k, hk⟩ : ∃ k, l.length = k + 1 := ⟨l.length - 1, by omega⟩
  rw [hk] at c0 c1 c2 hposI hn ⊢
  simp only [Nat.add_sub_cancel] at c0 c1 c2
  have hwr : IntKind.i64.wrap (((k + 1 : Nat) : Int) - 1) = (k : Int) := by
   rw [show ((k + 1 : Nat) : Int) - 1 = (k : Int) by omega]
   exact IntWalk.i64_in _ (by omega)
  have hkI : (k : Int) < ((k + 1 : Nat) : Int) := by omega
  have hk0I : (0 : Int) ≤ k := by omega
  have hwr2 : IntKind.i64.wrap ((k : Int) + 1 - 1) = (k : Int) := by rw [show (k : Int) + 1 - 1 = k by omega]; exact IntWalk.i64_in _ (by omega)
  have hkI2 : (k : Int) < (k : Int) + 1 := by omega
  have hkI3 : IntKind.i64.wrap (k : Int) = k := IntWalk.i64_in _ (by omega)
  clear hgl hget hlN hk hpos hT
  have HB := Lib.hid (fun W => isBehind_any n b W)
  unfold Seat.val at HB
  replace c0 := kcell hk0 c0
  replace c1 := kcell hk0 c1
  replace c2 := kcell hk0 c2
  go_enter Tryz.func80, Tryz.ntmps80
  go_wp2_with fail
  generalize ((w.alloc (Obj.cells #[.slice X.p X.B.boys.length X.cap, .int .i64 X.B.weeks, .slice X.q X.B.trials.length X.capt, .slice X.r X.pieces.length X.capp, .int .i64 X.most, .map (some m), out] 74)).alloc (Obj.cells #[.int .i64 n.piece, .int .i64 n.part, .int .i64 n.boy] 68)) = W0 at *
  have e0 := cell_regrown c0
  have e1 := cell_regrown c1
  have e2 := cell_regrown c2
  have f0 := cell_regrown n0
  have f1 := cell_regrown n1
  have f2 := cell_regrown n2
  have HBW := Lib.hid (fun d os => Calls.regrown_of (HB.out (grow (redrawn W0 d) os)))
  generalize behB n b = g at *
  refine wp_region_quiet_below (by kernel_rfl) (by kernel_rfl) ?_
  repeat (any_goals (first | go_big_quiet_skip | quiet_step (first | with_reducible exact HBW.out _ _)))
  refine wpQuiet_nil ?_
  rintro _ ⟨⟨dq, osq⟩, rfl⟩
  have hkQ := kept_trans hk0 (below_regrown W0 dq osq)
  go_wp2_with fail
  go_ret
  exact ⟨by simp [HR.out], hkQ⟩
theorem cannotSing_any (X : BBook) (n0 m : Nat) (v : Value) (p k : Nat) (b : Int) (w : World) (hs : StallsAt n0 w X m) (hp : p < 3) (hk : k < 3) (hlen : (boysAt (triO X X.pieces.length) p k).length ≤ 4) :
  Calls Tryz.prog 79 #[X.sval m noneOut, v, .agg #[.int .i64 (p : Int), .int .i64 (k : Int), .int .i64 b]] w fun e w' => e = .returned (.bool (!hasI b (boysAt (triO X X.pieces.length) p k))) ∧ Kept w w' := by
 obtain ⟨base, l, _, hl⟩ := hs.told
 obtain ⟨u, hlu, hlist⟩ := hl.look hp hk
 have hbmz := (Array.getElem?_eq_some_iff.1 hl.map).1
 unfold BBook.sval noneOut
 have hk0 : Kept w ((w.alloc (Obj.cells #[.slice X.p X.B.boys.length X.cap, .int .i64 X.B.weeks, .slice X.q X.B.trials.length X.capt, .slice X.r X.pieces.length X.capp, .int .i64 X.most, .map (some m), .func (.func 75) #[] #[]] 74)).alloc (Obj.cells #[.int .i64 (p : Int), .int .i64 (k : Int), .int .i64 b] 68)) := kept_alloc (kept_alloc (kept_refl _) _) _
 have ZZ : ∀ Z, Z = ((w.alloc (Obj.cells #[.slice X.p X.B.boys.length X.cap, .int .i64 X.B.weeks, .slice X.q X.B.trials.length X.capt, .slice X.r X.pieces.length X.capp, .int .i64 X.most, .map (some m), .func (.func 75) #[] #[]] 74)).alloc (Obj.cells #[.int .i64 (p : Int), .int .i64 (k : Int), .int .i64 b] 68)) → Z.cell? ⟨w.heap.size, 5, none⟩ = some (.map (some m)) ∧ Z.cell? ⟨w.heap.size, 6, none⟩ = some (.func (.func 75) #[] #[]) ∧ Z.cell? ⟨w.heap.size + 1, 0, none⟩ = some (.int .i64 (p : Int)) ∧ Z.cell? ⟨w.heap.size + 1, 1, none⟩ = some (.int .i64 (k : Int)) ∧ Z.cell? ⟨w.heap.size + 1, 2, none⟩ = some (.int .i64 b) := by rintro _ rfl; refine ⟨?_, ?_, ?_, ?_, ?_⟩ <;> go_simp
 obtain ⟨a5, a6, s0, s1, s2⟩ := ZZ _ rfl; clear ZZ
 have HP := Lib.hid (fun W => placeOf_any ⟨(p : Int), (k : Int), b⟩ W)
 have HC := Lib.hid (fun W (kk : Kept w W) => containsI_any u _ b W (hlist.kept kk) hlen)
 have HLK := Lib.hid (fun W (kk : Kept w W) => hlu W (kk.block m hbmz))
 unfold keyV at HLK
 unfold Seat.val at HP
 simp only at HP
 clear hlu hlist hl hs hlen
 generalize hasI b (boysAt (triO X X.pieces.length) p k) = res at *
 go_enter Tryz.func79, Tryz.ntmps79
 go_wp2_with fail
 generalize ((w.alloc (Obj.cells #[.slice X.p X.B.boys.length X.cap, .int .i64 X.B.weeks, .slice X.q X.B.trials.length X.capt, .slice X.r X.pieces.length X.capp, .int .i64 X.most, .map (some m), .func (.func 75) #[] #[]] 74)).alloc (Obj.cells #[.int .i64 (p : Int), .int .i64 (k : Int), .int .i64 b] 68)) = W0 at *
 have e5 := cell_regrown a5
 have e6 := cell_regrown a6
 have f0 := cell_regrown s0
 have f1 := cell_regrown s1
 have f2 := cell_regrown s2
 have HPW := Lib.hid (fun d os => Calls.regrown_of (HP.out (grow (redrawn W0 d) os)))
 have HCW := Lib.hid (fun d os => Calls.regrown_of (HC.out (grow (redrawn W0 d) os) (kept_trans hk0 (below_regrown W0 d os))))
 have HOW := Lib.hid (fun d os => Calls.regrown_of ((noOut_any b (grow (redrawn W0 d) os)).mono (by rintro e w' ⟨rfl, rfl⟩; exact ⟨rfl, kept_refl _⟩)))
 have hlkW : ∀ d os, (Instr.lookup 71 (.map (some m)) (.agg #[.int .i64 (p : Int), .int .i64 (k : Int)]) false).run Tryz.prog (grow (redrawn W0 d) os) = .ok u (grow (redrawn W0 d) os) := fun d os => HLK.out _ (kept_trans hk0 (below_regrown W0 d os))
 refine wp_region_quiet_below (by kernel_rfl) (by kernel_rfl) ?_
 repeat (any_goals (first | go_big_quiet_skip | quiet_step (first | with_reducible exact HOW.out _ _ | with_reducible exact HPW.out _ _ | with_reducible exact HCW.out _ _)))
 refine wpQuiet_nil ?_
 rintro _ ⟨⟨dq, osq⟩, rfl⟩
 have hkQ := kept_trans hk0 (below_regrown W0 dq osq)
 go_wp2_with fail
 go_ret
 exact ⟨rfl, hkQ⟩
def weekOf (X : BBook) (p : Int) : Int := match X.pieces[p.toNat]? with
 | none => 0
 | some x => x.week
def countL (X : BBook) (l : List Seat) (week b : Int) : Nat := (l.filter fun s => decide (weekOf X s.piece = week) && decide (s.boy = b)).length
theorem countL_snoc (X : BBook) (l : List Seat) (s : Seat) (week b : Int) : countL X (l ++ [s]) week b = countL X l week b + (if weekOf X s.piece = week ∧ s.boy = b then 1 else 0) := by
 unfold countL
 rw [List.filter_append, List.length_append]
 congr 1
 by_cases h : weekOf X s.piece = week ∧ s.boy = b
 ·rw [if_pos h]; simp [List.filter_cons, h]
 ·rw [if_neg h]
  simp only [List.filter_cons, List.filter_nil]
  split
  ·rename_i h'; simp at h'; exact absurd h' h
  ·rfl
theorem countL_le (X : BBook) (l : List Seat) (week b : Int) : countL X l week b ≤ l.length := List.length_filter_le _ _
def SeatOk (X : BBook) (s : Seat) : Prop := (∃ (p : Nat) (x : Piece), s.piece = (p : Int) ∧ X.pieces[p]? = some x) ∧ ∃ b : Nat, s.boy = (b : Int) ∧ b < 4
def loadV (X : BBook) (l : List Seat) (week : Int) : List Value := [.int .i64 (countL X l week 0 : Int), .int .i64 (countL X l week 1 : Int), .int .i64 (countL X l week 2 : Int), .int .i64 (countL X l week 3 : Int)]
structure LoadAt (X : BBook) (V0 : World) (tb : Nat) (week : Int) (l : List Seat) (V : World) : Prop where
 turns : Turns (fun b => b = tb) V0 V
 cell : ∀ i : Nat, i < 4 → V.cell? ⟨tb, i, none⟩ = some (.int .i64 (countL X l week (i : Int) : Int))
 fr : ∀ i : Nat, V.frozen? ⟨tb, i, none⟩ = false
theorem LoadAt.go {X : BBook} {V0 V V' : World} {tb : Nat} {week : Int} {l : List Seat} (h : LoadAt X V0 tb week l V) (k : Kept V V') : LoadAt X V0 tb week l V' where
 turns := h.turns.trans (Ext.refl _ _) (kturns k _)
 cell := fun i hi => kcell k (h.cell i hi)
 fr := fun i => ((kturns k (fun _ => False)).frozen (Go.Ai.lt_of_cell (h.cell 0 (by omega))) (fun h => h)).trans (h.fr i)
theorem LoadAt.skip {X : BBook} {V0 V : World} {tb : Nat} {week : Int} {l : List Seat} {s : Seat} (h : LoadAt X V0 tb week l V) (hn : ¬ weekOf X s.piece = week) : LoadAt X V0 tb week (l ++ [s]) V :=
 ⟨h.turns, fun i hi => by rw [countL_snoc, if_neg (fun e => hn e.1)]; simpa using h.cell i hi, h.fr⟩
theorem LoadAt.add {X : BBook} {V0 V : World} {tb b : Nat} {week : Int} {l : List Seat} {s : Seat} (h : LoadAt X V0 tb week l V) (hw : weekOf X s.piece = week) (hb : s.boy = (b : Int)) (hb4 : b < 4) :
  LoadAt X V0 tb week (l ++ [s]) (V.setCell ⟨tb, b, none⟩ (.int .i64 ((countL X l week (b : Int) : Int) + 1))) where
 turns := h.turns.trans (Ext.refl _ _) ((Turns.refl (fun c => c = tb) V).setCell rfl _ _)
 cell := fun i hi => by
  rw [countL_snoc]
  by_cases e : i = b
  ·subst e
   rw [if_pos ⟨hw, hb⟩]
   rw [cell_set_eq (h.cell i hi)]
   push_cast; rfl
  ·rw [if_neg (fun e' => e (by have := e'.2; omega))]
   rw [cell_set_ne (by omega)]
   simpa using h.cell i hi
 fr := fun i => (World.frozen?_setCell _ _ _ _).trans (h.fr i)
theorem load_any (X : BBook) (m : Nat) (out v : Value) (l : List Seat) (week : Int) (w : World) (h : BBookAt w X) (hT : SeatsIs w v l) (hn : l.length ≤ 30) (hok : ∀ s ∈ l, SeatOk X s) :
  Calls Tryz.prog 105 #[X.sval m out, v, .int .i64 week] w fun e w' => e = .returned (.agg (loadV X l week).toArray) ∧ Kept w w' := by
 have hk0 : Kept w (((w.alloc (Obj.cells #[.slice X.p X.B.boys.length X.cap, .int .i64 X.B.weeks, .slice X.q X.B.trials.length X.capt, .slice X.r X.pieces.length X.capp, .int .i64 X.most, .map (some m), out] 74)).alloc (Obj.cells #[.int .i64 0, .int .i64 0, .int .i64 0, .int .i64 0] 162)).alloc (Obj.cells #[.int .i64 0, .int .i64 0, .int .i64 0, .int .i64 0] 162)) := kept_alloc (kept_alloc (kept_alloc (kept_refl _) _) _) _
 have ZZ : ∀ Z, Z = (((w.alloc (Obj.cells #[.slice X.p X.B.boys.length X.cap, .int .i64 X.B.weeks, .slice X.q X.B.trials.length X.capt, .slice X.r X.pieces.length X.capp, .int .i64 X.most, .map (some m), out] 74)).alloc (Obj.cells #[.int .i64 0, .int .i64 0, .int .i64 0, .int .i64 0] 162)).alloc (Obj.cells #[.int .i64 0, .int .i64 0, .int .i64 0, .int .i64 0] 162)) → Z.cell? ⟨w.heap.size, 3, none⟩ = some (.slice X.r X.pieces.length X.capp) ∧ Z.cell? ⟨w.heap.size + 1, 0, none⟩ = some (.int .i64 0) ∧ Z.frozen? ⟨w.heap.size + 1, 0, none⟩ = false ∧ Z.cell? ⟨w.heap.size + 1, 1, none⟩ = some (.int .i64 0) ∧ Z.frozen? ⟨w.heap.size + 1, 1, none⟩ = false ∧ Z.cell? ⟨w.heap.size + 1, 2, none⟩ = some (.int .i64 0) ∧ Z.frozen? ⟨w.heap.size + 1, 2, none⟩ = false ∧ Z.cell? ⟨w.heap.size + 1, 3, none⟩ = some (.int .i64 0) ∧ Z.frozen? ⟨w.heap.size + 1, 3, none⟩ = false := by rintro _ rfl; refine ⟨?_, ?_, ?_, ?_, ?_, ?_, ?_, ?_, ?_⟩ <;> go_simp
 obtain ⟨a3, r0, rf0, r1, rf1, r2, rf2, r3, rf3⟩ := ZZ _ rfl; clear ZZ
 have hL0 : LoadAt X (((w.alloc (Obj.cells #[.slice X.p X.B.boys.length X.cap, .int .i64 X.B.weeks, .slice X.q X.B.trials.length X.capt, .slice X.r X.pieces.length X.capp, .int .i64 X.most, .map (some m), out] 74)).alloc (Obj.cells #[.int .i64 0, .int .i64 0, .int .i64 0, .int .i64 0] 162)).alloc (Obj.cells #[.int .i64 0, .int .i64 0, .int .i64 0, .int .i64 0] 162)) (w.heap.size + 1 + 1) week [] (((w.alloc (Obj.cells #[.slice X.p X.B.boys.length X.cap, .int .i64 X.B.weeks, .slice X.q X.B.trials.length X.capt, .slice X.r X.pieces.length X.capp, .int .i64 X.most, .map (some m), out] 74)).alloc (Obj.cells #[.int .i64 0, .int .i64 0, .int .i64 0, .int .i64 0] 162)).alloc (Obj.cells #[.int .i64 0, .int .i64 0, .int .i64 0, .int .i64 0] 162)) := ⟨Turns.refl _ _, fun i hi => by
  match i, hi with
  | 0, _ => show _ = some (Value.int IntKind.i64 0); go_simp
  | 1, _ => show _ = some (Value.int IntKind.i64 0); go_simp
  | 2, _ => show _ = some (Value.int IntKind.i64 0); go_simp
  | 3, _ => show _ = some (Value.int IntKind.i64 0); go_simp, fun i => by go_simp⟩
 obtain ⟨p, cap, rfl⟩ := hT.len
 have HT := Lib.hid hT
 have HX := Lib.hid h
 have HOK := Lib.hid hok
 clear hT h hok
 unfold BBook.sval loadV
 go_enter Tryz.func105, Tryz.ntmps105
 go_wp2_with fail
 generalize (((w.alloc (Obj.cells #[.slice X.p X.B.boys.length X.cap, .int .i64 X.B.weeks, .slice X.q X.B.trials.length X.capt, .slice X.r X.pieces.length X.capp, .int .i64 X.most, .map (some m), out] 74)).alloc (Obj.cells #[.int .i64 0, .int .i64 0, .int .i64 0, .int .i64 0] 162)).alloc (Obj.cells #[.int .i64 0, .int .i64 0, .int .i64 0, .int .i64 0] 162)) = V0 at *
 generalize hrb : w.heap.size + 1 = rb at *
 generalize htb : rb + 1 = tb at *
 go_loopw [12] (fun i V => ∃ k : Nat, k ≤ l.length ∧ i = .int .i64 k ∧ LoadAt X V0 tb week (l.take k) V) (fun i V => l.length - (intOf i).toNat)
 case atStart => exact ⟨0, by omega, rfl, by simpa using hL0⟩
 case round =>
  obtain ⟨k, hk, rfl, hLA⟩ := hrel
  have kW : Kept w wr := Below.trans hk0 (hLA.turns.toBelow (n := w.heap.size) (by rintro b rfl; omega) hk0.size)
  by_cases hlt : k < l.length
  ·have hkI : (k : Int) < l.length := by omega
   obtain ⟨s, hget⟩ : ∃ s, l[k]? = some s := ⟨_, List.getElem?_eq_getElem hlt⟩
   obtain ⟨⟨pi, x, hpi, hx⟩, bo, hbo, hbo4⟩ := HOK.out s (List.mem_of_getElem? hget)
   obtain ⟨g, og, rfl, _, c0, c1, c2⟩ := HT.out.at hget
   replace c0 := kcell kW c0
   replace c1 := kcell kW c1
   replace c2 := kcell kW c2
   have HNX := Lib.hid (show l.take (k + 1) = l.take k ++ [s] by rw [List.take_succ, hget]; rfl)
   have hwk : weekOf X s.piece = x.week := by unfold weekOf; rw [hpi, Int.toNat_natCast, hx]
   have hzg := Go.Ai.lt_of_cell c0
   obtain ⟨b, ob, hr, hbz, p0, p1, _⟩ := piece_cells (HX.out.kept kW) hx
   have hpl : pi < X.pieces.length := (List.getElem?_eq_some_iff.1 hx).1
   have hplI : (pi : Int) < X.pieces.length := by omega
   have hp0I : (0 : Int) ≤ pi := by omega
   have e3 := tcell hLA.turns (by omega) a3
   rw [hr] at e3
   have HRR := Lib.hid hr; clear hr
   rw [hpi] at c0
   rw [hbo] at c2
   have HPI := Lib.hid (And.intro hpi hbo); clear hpi hbo hx hget
   have hze := Go.Ai.lt_of_cell e3
   have kat : Kept wr (wr.alloc (Obj.cells #[.int .i64 (pi : Int), .int .i64 s.part, .int .i64 (bo : Int)] 68)) := kept_alloc (kept_refl _) _
   have hL1 := hLA.go kat
   have z0 := kcell kat (hLA.cell bo hbo4)
   have zf := hL1.fr bo
   have hztb := Go.Ai.lt_of_cell (hLA.cell 0 (by omega))
   have hcnt := countL_le X (l.take k) week (bo : Int)
   have hcl : countL X (l.take k) week (bo : Int) ≤ 30 := by
    have : (l.take k).length ≤ 30 := by simp only [List.length_take]; omega
    omega
   have hwr1 : IntKind.i64.wrap ((countL X (l.take k) week (bo : Int) : Int) + 1) = (countL X (l.take k) week (bo : Int) : Int) + 1 := IntWalk.i64_in _ (by omega)
   have hboI : (bo : Int) < 4 := by omega
   have hbo0 : (0 : Int) ≤ bo := by omega
   have HL0 := Lib.hid hLA
   have HL1 := Lib.hid hL1; clear hL1 hLA
   by_cases hw : x.week = week
   ·have hw1 : (x.week == week) = true := by simp [hw]
    have HADD := Lib.hid ((HL0.out.add (s := s) (hwk.trans hw) HPI.out.2 hbo4).go (kept_alloc (kept_refl _) (Obj.cells #[.int .i64 (pi : Int), .int .i64 s.part, .int .i64 (bo : Int)] 68)))
    clear hw hwk hcnt
    generalize countL X (l.take k) week (bo : Int) = cn at *
    go_wp2_with fail
    rw [← HNX.out] at HADD
    generalize (wr.setCell ⟨tb, bo, none⟩ (.int .i64 ((cn : Int) + 1))).alloc (Obj.cells #[.int .i64 (pi : Int), .int .i64 s.part, .int .i64 (bo : Int)] 68) = WN at *
    go_roundw
    case rel => exact ⟨k + 1, by omega, by go_num, HADD.out⟩
    case measure => simp [intOf]; omega
   ·have hw1 : (x.week == week) = false := by simp [hw]
    have HSK := Lib.hid (HL1.out.skip (s := s) (fun e => hw (hwk.symm.trans e)))
    clear hw hwk hcnt
    go_wp2_with fail
    rw [← HNX.out] at HSK
    go_roundw
    case rel => exact ⟨k + 1, by omega, by go_num, HSK.out⟩
    case measure => simp [intOf]; omega
  ·have hkI : ¬ (k : Int) < l.length := by omega
   obtain rfl : k = l.length := by omega
   rw [List.take_length] at hLA
   have z0 := hLA.cell 0 (by omega)
   have z1 := hLA.cell 1 (by omega)
   have z2 := hLA.cell 2 (by omega)
   have z3 := hLA.cell 3 (by omega)
   simp only [show ((0 : Nat) : Int) = 0 from rfl, show ((1 : Nat) : Int) = 1 from rfl, show ((2 : Nat) : Int) = 2 from rfl, show ((3 : Nat) : Int) = 3 from rfl] at z0 z1 z2 z3
   have s0 := tcell hLA.turns (by omega) r0
   have sf0 := (hLA.turns.frozen (b := rb) (o := 0) (Go.Ai.lt_of_cell r0) (show ¬ rb = tb by omega)).trans rf0
   have s1 := tcell hLA.turns (by omega) r1
   have sf1 := (hLA.turns.frozen (b := rb) (o := 1) (Go.Ai.lt_of_cell r0) (show ¬ rb = tb by omega)).trans rf1
   have s2 := tcell hLA.turns (by omega) r2
   have sf2 := (hLA.turns.frozen (b := rb) (o := 2) (Go.Ai.lt_of_cell r0) (show ¬ rb = tb by omega)).trans rf2
   have s3 := tcell hLA.turns (by omega) r3
   have sf3 := (hLA.turns.frozen (b := rb) (o := 3) (Go.Ai.lt_of_cell r0) (show ¬ rb = tb by omega)).trans rf3
   clear hLA
   generalize hc0 : countL X l week 0 = c0 at *
   generalize hc1 : countL X l week 1 = c1 at *
   generalize hc2 : countL X l week 2 = c2 at *
   generalize hc3 : countL X l week 3 = c3 at *
   have HCS := Lib.hid (And.intro hc0 (And.intro hc1 (And.intro hc2 hc3)))
   clear hc0 hc1 hc2 hc3
   go_wp2_with fail
   have ZZ : ∀ Z, Z = ((((wr.setCell ⟨rb, 0, none⟩ (.int .i64 (c0 : Int))).setCell ⟨rb, 1, none⟩ (.int .i64 (c1 : Int))).setCell ⟨rb, 2, none⟩ (.int .i64 (c2 : Int))).setCell ⟨rb, 3, none⟩ (.int .i64 (c3 : Int))) → Z.cell? ⟨rb, 0, none⟩ = some (.int .i64 (c0 : Int)) ∧ Z.cell? ⟨rb, 1, none⟩ = some (.int .i64 (c1 : Int)) ∧ Z.cell? ⟨rb, 2, none⟩ = some (.int .i64 (c2 : Int)) ∧ Z.cell? ⟨rb, 3, none⟩ = some (.int .i64 (c3 : Int)) := by rintro _ rfl; refine ⟨?_, ?_, ?_, ?_⟩ <;> go_simp
   obtain ⟨g0, g1, g2, g3⟩ := ZZ _ rfl; clear ZZ
   have hTC : Turns (fun b => b = rb) wr ((((wr.setCell ⟨rb, 0, none⟩ (.int .i64 (c0 : Int))).setCell ⟨rb, 1, none⟩ (.int .i64 (c1 : Int))).setCell ⟨rb, 2, none⟩ (.int .i64 (c2 : Int))).setCell ⟨rb, 3, none⟩ (.int .i64 (c3 : Int))) := (((((Turns.refl (fun b => b = rb) wr).setCell rfl _ _).setCell rfl _ _).setCell rfl _ _).setCell rfl _ _)
   generalize ((((wr.setCell ⟨rb, 0, none⟩ (.int .i64 (c0 : Int))).setCell ⟨rb, 1, none⟩ (.int .i64 (c1 : Int))).setCell ⟨rb, 2, none⟩ (.int .i64 (c2 : Int))).setCell ⟨rb, 3, none⟩ (.int .i64 (c3 : Int))) = C at *
   have kC : Kept w C := Below.trans kW (hTC.toBelow (n := w.heap.size) (by rintro b rfl; omega) kW.size)
   refine bodyPost_ret (v := .agg #[.int .i64 (c0 : Int), .int .i64 (c1 : Int), .int .i64 (c2 : Int), .int .i64 (c3 : Int)]) (by simp [results, Tryz.results105, go_sem, g0, g1, g2, g3]) rfl ?_
   exact ⟨by rw [HCS.out.1, HCS.out.2.1, HCS.out.2.2.1, HCS.out.2.2.2], kC⟩
end Go.Proofs.YtcllfjjhijkakaaGreatDoor
namespace Go.Proofs.YtcllfjjhijkakaaGreatDoor
open Go.RowKit Go.Sort Go.Rg
set_option maxRecDepth 100000
set_option maxHeartbeats 4000000
theorem bLeast2 (n x : Int) (a : Addr) (w : World) (hc : w.cell? a = some (.int .i64 x)) : Calls Tryz.prog 125 #[.int .i64 n, .slice (some a) 1 1] w fun e w' => e = .returned (.int .i64 (min n x)) ∧ w = w' := by
 go_enter Tryz.func125, Tryz.ntmps125
 go_wp2
 go_loop [0, 9] (fun s i => ∃ k : Nat, k ≤ 1 ∧ i = .int .i64 k ∧ s = .int .i64 (if k = 0 then n else min n x)) (fun _ i => 1 - (intOf i).toNat)
 case atStart => exact ⟨0, by omega, rfl, rfl⟩
 case round =>
  obtain ⟨k, hk, rfl, rfl⟩ := hrel
  by_cases h0 : k = 0
  ·subst h0
   have hc2 : w.cell? (a.add 0) = some (.int .i64 x) := by simpa [Addr.add] using hc
   by_cases hx : x < n
   ·have hmin : min n x = x := by omega
    go_wp2
    go_round
    case rel => exact ⟨1, by omega, by go_num, by simp [hmin]⟩
    case measure => simp [intOf]
   ·have hmin : min n x = n := by omega
    go_wp2
    go_round
    case rel => exact ⟨1, by omega, by go_num, by simp [hmin]⟩
    case measure => simp [intOf]
  ·have h1 : k = 1 := by omega
   subst h1
   go_wp2
   go_ret
   exact ⟨by simp, rfl⟩
theorem quad0 (a0 a1 a2 a3 : Value) (W : World) : (Instr.index 162 (.agg #[a0, a1, a2, a3]) (.int .i64 0)).run Tryz.prog W = .ok a0 W := by kernel_rfl
theorem quad1 (a0 a1 a2 a3 : Value) (W : World) : (Instr.index 162 (.agg #[a0, a1, a2, a3]) (.int .i64 1)).run Tryz.prog W = .ok a1 W := by kernel_rfl
theorem quad2 (a0 a1 a2 a3 : Value) (W : World) : (Instr.index 162 (.agg #[a0, a1, a2, a3]) (.int .i64 2)).run Tryz.prog W = .ok a2 W := by kernel_rfl
theorem quad3 (a0 a1 a2 a3 : Value) (W : World) : (Instr.index 162 (.agg #[a0, a1, a2, a3]) (.int .i64 3)).run Tryz.prog W = .ok a3 W := by kernel_rfl
attribute [local go_sem] quad0 quad1 quad2 quad3
def ov (c most : Int) : Int := c - min c most
theorem over_any (c0 c1 c2 c3 most : Int) (w : World) (h0 : 0 ≤ c0 ∧ c0 ≤ 100) (h1 : 0 ≤ c1 ∧ c1 ≤ 100) (h2 : 0 ≤ c2 ∧ c2 ≤ 100) (h3 : 0 ≤ c3 ∧ c3 ≤ 100) (hm : 0 ≤ most ∧ most ≤ 100) :
  Calls Tryz.prog 106 #[.agg #[.int .i64 c0, .int .i64 c1, .int .i64 c2, .int .i64 c3], .int .i64 most] w fun e w' => e = .returned (.agg #[.int .i64 (ov c0 most), .int .i64 (ov c1 most), .int .i64 (ov c2 most), .int .i64 (ov c3 most)]) ∧ Kept w w' := by
 have hk0 : Kept w ((w.alloc (Obj.cells #[.int .i64 c0, .int .i64 c1, .int .i64 c2, .int .i64 c3] 162)).alloc (Obj.cells #[.int .i64 0, .int .i64 0, .int .i64 0, .int .i64 0] 162)) := kept_alloc (kept_alloc (kept_refl _) _) _
 have ZZ : ∀ Z, Z = ((w.alloc (Obj.cells #[.int .i64 c0, .int .i64 c1, .int .i64 c2, .int .i64 c3] 162)).alloc (Obj.cells #[.int .i64 0, .int .i64 0, .int .i64 0, .int .i64 0] 162)) → Z.cell? ⟨w.heap.size, 0, none⟩ = some (.int .i64 c0) ∧ Z.frozen? ⟨w.heap.size, 0, none⟩ = false ∧ Z.cell? ⟨w.heap.size + 1, 0, none⟩ = some (.int .i64 0) ∧ Z.frozen? ⟨w.heap.size + 1, 0, none⟩ = false ∧ Z.cell? ⟨w.heap.size, 1, none⟩ = some (.int .i64 c1) ∧ Z.frozen? ⟨w.heap.size, 1, none⟩ = false ∧ Z.cell? ⟨w.heap.size + 1, 1, none⟩ = some (.int .i64 0) ∧ Z.frozen? ⟨w.heap.size + 1, 1, none⟩ = false ∧ Z.cell? ⟨w.heap.size, 2, none⟩ = some (.int .i64 c2) ∧ Z.frozen? ⟨w.heap.size, 2, none⟩ = false ∧ Z.cell? ⟨w.heap.size + 1, 2, none⟩ = some (.int .i64 0) ∧ Z.frozen? ⟨w.heap.size + 1, 2, none⟩ = false ∧ Z.cell? ⟨w.heap.size, 3, none⟩ = some (.int .i64 c3) ∧ Z.frozen? ⟨w.heap.size, 3, none⟩ = false ∧ Z.cell? ⟨w.heap.size + 1, 3, none⟩ = some (.int .i64 0) ∧ Z.frozen? ⟨w.heap.size + 1, 3, none⟩ = false := by rintro _ rfl; refine ⟨?_, ?_, ?_, ?_, ?_, ?_, ?_, ?_, ?_, ?_, ?_, ?_, ?_, ?_, ?_, ?_⟩ <;> go_simp
 obtain ⟨a0, af0, r0, rf0, a1, af1, r1, rf1, a2, af2, r2, rf2, a3, af3, r3, rf3⟩ := ZZ _ rfl; clear ZZ
 have HLE := Lib.hid (fun n W a hc => bLeast2 n most a W hc)
 go_enter Tryz.func106, Tryz.ntmps106
 go_wp2_with fail
 generalize ((w.alloc (Obj.cells #[.int .i64 c0, .int .i64 c1, .int .i64 c2, .int .i64 c3] 162)).alloc (Obj.cells #[.int .i64 0, .int .i64 0, .int .i64 0, .int .i64 0] 162)) = V0 at *
 generalize hlb : w.heap.size = lb at *
 have hzl := Go.Ai.lt_of_cell a0
 have hzr := Go.Ai.lt_of_cell r0
 go_loopw [8] (fun i V => ∃ k : Nat, k ≤ 4 ∧ i = .int .i64 k ∧ Turns (fun b => b = lb) V0 V ∧ (∀ i : Nat, i < 4 → V.cell? ⟨lb, i, none⟩ = some (.int .i64 (if i < k then ov (match i with | 0 => c0 | 1 => c1 | 2 => c2 | _ => c3) most else (match i with | 0 => c0 | 1 => c1 | 2 => c2 | _ => c3)))) ∧ ∀ i : Nat, i < 4 → V.frozen? ⟨lb, i, none⟩ = false) (fun i V => 4 - (intOf i).toNat)
 case atStart =>
  refine ⟨0, by omega, rfl, Turns.refl _ _, fun i hi => ?_, fun i hi => ?_⟩
  ·match i, hi with
   | 0, _ => exact a0
   | 1, _ => exact a1
   | 2, _ => exact a2
   | 3, _ => exact a3
  ·match i, hi with
   | 0, _ => exact af0
   | 1, _ => exact af1
   | 2, _ => exact af2
   | 3, _ => exact af3
 case round =>
  obtain ⟨k, hk, rfl, hV, hc, hf⟩ := hrel
  have HC := Lib.hid hc
  have HF := Lib.hid hf
  have HV := Lib.hid hV
  have kW : Kept w wr := Below.trans hk0 (hV.toBelow (n := w.heap.size) (by rintro b rfl; omega) hk0.size)
  clear hc hf
  rcases (show k = 0 ∨ k = 1 ∨ k = 2 ∨ k = 3 ∨ k = 4 by omega) with rfl | rfl | rfl | rfl | rfl
  ·have zf := HF.out 0 (by omega)
   have z0 : wr.cell? ⟨lb, 0, none⟩ = some (.int .i64 c0) := HC.out 0 (by omega)
   have hzw := Go.Ai.lt_of_cell z0
   have hw1 : IntKind.i64.wrap (c0 - min c0 most) = c0 - min c0 most := IntWalk.i64_in _ (by omega)
   have kb : Kept wr (wr.alloc (Obj.cells #[.int .i64 most] 3)) := kept_alloc (kept_refl _) _
   have hq : (wr.alloc (Obj.cells #[.int .i64 most] 3)).cell? ⟨wr.heap.size, 0, none⟩ = some (.int .i64 most) := by go_simp
   have HLQ := Lib.hid (HLE.out c0 _ _ hq)
   clear hV hq
   go_wp2_with fail
   with_reducible refine HLQ.out.mono ?_
   rintro e w' ⟨rfl, rfl⟩
   have HN := Lib.hid (show Turns (fun b => b = lb) V0 ((wr.setCell ⟨lb, 0, none⟩ (.int .i64 (c0 - min c0 most))).alloc (Obj.cells #[.int .i64 most] 3)) ∧ (∀ i : Nat, i < 4 → ((wr.setCell ⟨lb, 0, none⟩ (.int .i64 (c0 - min c0 most))).alloc (Obj.cells #[.int .i64 most] 3)).cell? ⟨lb, i, none⟩ = some (.int .i64 (if i < 1 then ov (match i with | 0 => c0 | 1 => c1 | 2 => c2 | _ => c3) most else (match i with | 0 => c0 | 1 => c1 | 2 => c2 | _ => c3)))) ∧ ∀ i : Nat, i < 4 → ((wr.setCell ⟨lb, 0, none⟩ (.int .i64 (c0 - min c0 most))).alloc (Obj.cells #[.int .i64 most] 3)).frozen? ⟨lb, i, none⟩ = false from by
    have kk : Kept (wr.setCell ⟨lb, 0, none⟩ (.int .i64 (c0 - min c0 most))) ((wr.setCell ⟨lb, 0, none⟩ (.int .i64 (c0 - min c0 most))).alloc (Obj.cells #[.int .i64 most] 3)) := kept_alloc (kept_refl _) _
    refine ⟨(HV.out.trans (Ext.refl _ _) ((Turns.refl (fun c => c = lb) wr).setCell rfl _ _)).trans (Ext.refl _ _) (kturns kk _), fun i hi => kcell kk ?_, fun i hi => ?_⟩
    ·match i, hi with
     | 0, _ => exact cell_set_eq z0
     | 1, _ => exact (cell_set_ne (by omega)).trans (HC.out 1 (by omega))
     | 2, _ => exact (cell_set_ne (by omega)).trans (HC.out 2 (by omega))
     | 3, _ => exact (cell_set_ne (by omega)).trans (HC.out 3 (by omega))
    ·refine ((kturns kk (fun _ => False)).frozen (by simpa using hzw) (fun h => h)).trans ((World.frozen?_setCell _ _ _ _).trans (HF.out i hi)))
   go_wp2_with fail
   generalize (wr.setCell ⟨lb, 0, none⟩ (.int .i64 (c0 - min c0 most))).alloc (Obj.cells #[.int .i64 most] 3) = WN at *
   go_roundw
   case rel => exact ⟨1, by omega, by go_num, HN.out.1, HN.out.2.1, HN.out.2.2⟩
   case measure => simp [intOf]
  ·have zf := HF.out 1 (by omega)
   have z0 : wr.cell? ⟨lb, 1, none⟩ = some (.int .i64 c1) := HC.out 1 (by omega)
   have hzw := Go.Ai.lt_of_cell z0
   have hw1 : IntKind.i64.wrap (c1 - min c1 most) = c1 - min c1 most := IntWalk.i64_in _ (by omega)
   have kb : Kept wr (wr.alloc (Obj.cells #[.int .i64 most] 3)) := kept_alloc (kept_refl _) _
   have hq : (wr.alloc (Obj.cells #[.int .i64 most] 3)).cell? ⟨wr.heap.size, 0, none⟩ = some (.int .i64 most) := by go_simp
   have HLQ := Lib.hid (HLE.out c1 _ _ hq)
   clear hV hq
   go_wp2_with fail
   with_reducible refine HLQ.out.mono ?_
   rintro e w' ⟨rfl, rfl⟩
   have HN := Lib.hid (show Turns (fun b => b = lb) V0 ((wr.setCell ⟨lb, 1, none⟩ (.int .i64 (c1 - min c1 most))).alloc (Obj.cells #[.int .i64 most] 3)) ∧ (∀ i : Nat, i < 4 → ((wr.setCell ⟨lb, 1, none⟩ (.int .i64 (c1 - min c1 most))).alloc (Obj.cells #[.int .i64 most] 3)).cell? ⟨lb, i, none⟩ = some (.int .i64 (if i < 2 then ov (match i with | 0 => c0 | 1 => c1 | 2 => c2 | _ => c3) most else (match i with | 0 => c0 | 1 => c1 | 2 => c2 | _ => c3)))) ∧ ∀ i : Nat, i < 4 → ((wr.setCell ⟨lb, 1, none⟩ (.int .i64 (c1 - min c1 most))).alloc (Obj.cells #[.int .i64 most] 3)).frozen? ⟨lb, i, none⟩ = false from by
    have kk : Kept (wr.setCell ⟨lb, 1, none⟩ (.int .i64 (c1 - min c1 most))) ((wr.setCell ⟨lb, 1, none⟩ (.int .i64 (c1 - min c1 most))).alloc (Obj.cells #[.int .i64 most] 3)) := kept_alloc (kept_refl _) _
    refine ⟨(HV.out.trans (Ext.refl _ _) ((Turns.refl (fun c => c = lb) wr).setCell rfl _ _)).trans (Ext.refl _ _) (kturns kk _), fun i hi => kcell kk ?_, fun i hi => ?_⟩
    ·match i, hi with
     | 0, _ => exact (cell_set_ne (by omega)).trans (HC.out 0 (by omega))
     | 1, _ => exact cell_set_eq z0
     | 2, _ => exact (cell_set_ne (by omega)).trans (HC.out 2 (by omega))
     | 3, _ => exact (cell_set_ne (by omega)).trans (HC.out 3 (by omega))
    ·refine ((kturns kk (fun _ => False)).frozen (by simpa using hzw) (fun h => h)).trans ((World.frozen?_setCell _ _ _ _).trans (HF.out i hi)))
   go_wp2_with fail
   generalize (wr.setCell ⟨lb, 1, none⟩ (.int .i64 (c1 - min c1 most))).alloc (Obj.cells #[.int .i64 most] 3) = WN at *
   go_roundw
   case rel => exact ⟨2, by omega, by go_num, HN.out.1, HN.out.2.1, HN.out.2.2⟩
   case measure => simp [intOf]
  ·have zf := HF.out 2 (by omega)
   have z0 : wr.cell? ⟨lb, 2, none⟩ = some (.int .i64 c2) := HC.out 2 (by omega)
   have hzw := Go.Ai.lt_of_cell z0
   have hw1 : IntKind.i64.wrap (c2 - min c2 most) = c2 - min c2 most := IntWalk.i64_in _ (by omega)
   have kb : Kept wr (wr.alloc (Obj.cells #[.int .i64 most] 3)) := kept_alloc (kept_refl _) _
   have hq : (wr.alloc (Obj.cells #[.int .i64 most] 3)).cell? ⟨wr.heap.size, 0, none⟩ = some (.int .i64 most) := by go_simp
   have HLQ := Lib.hid (HLE.out c2 _ _ hq)
   clear hV hq
   go_wp2_with fail
   with_reducible refine HLQ.out.mono ?_
   rintro e w' ⟨rfl, rfl⟩
   have HN := Lib.hid (show Turns (fun b => b = lb) V0 ((wr.setCell ⟨lb, 2, none⟩ (.int .i64 (c2 - min c2 most))).alloc (Obj.cells #[.int .i64 most] 3)) ∧ (∀ i : Nat, i < 4 → ((wr.setCell ⟨lb, 2, none⟩ (.int .i64 (c2 - min c2 most))).alloc (Obj.cells #[.int .i64 most] 3)).cell? ⟨lb, i, none⟩ = some (.int .i64 (if i < 3 then ov (match i with | 0 => c0 | 1 => c1 | 2 => c2 | _ => c3) most else (match i with | 0 => c0 | 1 => c1 | 2 => c2 | _ => c3)))) ∧ ∀ i : Nat, i < 4 → ((wr.setCell ⟨lb, 2, none⟩ (.int .i64 (c2 - min c2 most))).alloc (Obj.cells #[.int .i64 most] 3)).frozen? ⟨lb, i, none⟩ = false from by
    have kk : Kept (wr.setCell ⟨lb, 2, none⟩ (.int .i64 (c2 - min c2 most))) ((wr.setCell ⟨lb, 2, none⟩ (.int .i64 (c2 - min c2 most))).alloc (Obj.cells #[.int .i64 most] 3)) := kept_alloc (kept_refl _) _
    refine ⟨(HV.out.trans (Ext.refl _ _) ((Turns.refl (fun c => c = lb) wr).setCell rfl _ _)).trans (Ext.refl _ _) (kturns kk _), fun i hi => kcell kk ?_, fun i hi => ?_⟩
    ·match i, hi with
     | 0, _ => exact (cell_set_ne (by omega)).trans (HC.out 0 (by omega))
     | 1, _ => exact (cell_set_ne (by omega)).trans (HC.out 1 (by omega))
     | 2, _ => exact cell_set_eq z0
     | 3, _ => exact (cell_set_ne (by omega)).trans (HC.out 3 (by omega))
    ·refine ((kturns kk (fun _ => False)).frozen (by simpa using hzw) (fun h => h)).trans ((World.frozen?_setCell _ _ _ _).trans (HF.out i hi)))
   go_wp2_with fail
   generalize (wr.setCell ⟨lb, 2, none⟩ (.int .i64 (c2 - min c2 most))).alloc (Obj.cells #[.int .i64 most] 3) = WN at *
   go_roundw
   case rel => exact ⟨3, by omega, by go_num, HN.out.1, HN.out.2.1, HN.out.2.2⟩
   case measure => simp [intOf]
  ·have zf := HF.out 3 (by omega)
   have z0 : wr.cell? ⟨lb, 3, none⟩ = some (.int .i64 c3) := HC.out 3 (by omega)
   have hzw := Go.Ai.lt_of_cell z0
   have hw1 : IntKind.i64.wrap (c3 - min c3 most) = c3 - min c3 most := IntWalk.i64_in _ (by omega)
   have kb : Kept wr (wr.alloc (Obj.cells #[.int .i64 most] 3)) := kept_alloc (kept_refl _) _
   have hq : (wr.alloc (Obj.cells #[.int .i64 most] 3)).cell? ⟨wr.heap.size, 0, none⟩ = some (.int .i64 most) := by go_simp
   have HLQ := Lib.hid (HLE.out c3 _ _ hq)
   clear hV hq
   go_wp2_with fail
   with_reducible refine HLQ.out.mono ?_
   rintro e w' ⟨rfl, rfl⟩
   have HN := Lib.hid (show Turns (fun b => b = lb) V0 ((wr.setCell ⟨lb, 3, none⟩ (.int .i64 (c3 - min c3 most))).alloc (Obj.cells #[.int .i64 most] 3)) ∧ (∀ i : Nat, i < 4 → ((wr.setCell ⟨lb, 3, none⟩ (.int .i64 (c3 - min c3 most))).alloc (Obj.cells #[.int .i64 most] 3)).cell? ⟨lb, i, none⟩ = some (.int .i64 (if i < 4 then ov (match i with | 0 => c0 | 1 => c1 | 2 => c2 | _ => c3) most else (match i with | 0 => c0 | 1 => c1 | 2 => c2 | _ => c3)))) ∧ ∀ i : Nat, i < 4 → ((wr.setCell ⟨lb, 3, none⟩ (.int .i64 (c3 - min c3 most))).alloc (Obj.cells #[.int .i64 most] 3)).frozen? ⟨lb, i, none⟩ = false from by
    have kk : Kept (wr.setCell ⟨lb, 3, none⟩ (.int .i64 (c3 - min c3 most))) ((wr.setCell ⟨lb, 3, none⟩ (.int .i64 (c3 - min c3 most))).alloc (Obj.cells #[.int .i64 most] 3)) := kept_alloc (kept_refl _) _
    refine ⟨(HV.out.trans (Ext.refl _ _) ((Turns.refl (fun c => c = lb) wr).setCell rfl _ _)).trans (Ext.refl _ _) (kturns kk _), fun i hi => kcell kk ?_, fun i hi => ?_⟩
    ·match i, hi with
     | 0, _ => exact (cell_set_ne (by omega)).trans (HC.out 0 (by omega))
     | 1, _ => exact (cell_set_ne (by omega)).trans (HC.out 1 (by omega))
     | 2, _ => exact (cell_set_ne (by omega)).trans (HC.out 2 (by omega))
     | 3, _ => exact cell_set_eq z0
    ·refine ((kturns kk (fun _ => False)).frozen (by simpa using hzw) (fun h => h)).trans ((World.frozen?_setCell _ _ _ _).trans (HF.out i hi)))
   go_wp2_with fail
   generalize (wr.setCell ⟨lb, 3, none⟩ (.int .i64 (c3 - min c3 most))).alloc (Obj.cells #[.int .i64 most] 3) = WN at *
   go_roundw
   case rel => exact ⟨4, by omega, by go_num, HN.out.1, HN.out.2.1, HN.out.2.2⟩
   case measure => simp [intOf]
  ·have z0 : wr.cell? ⟨lb, 0, none⟩ = some (.int .i64 (ov c0 most)) := HC.out 0 (by omega)
   have z1 : wr.cell? ⟨lb, 1, none⟩ = some (.int .i64 (ov c1 most)) := HC.out 1 (by omega)
   have z2 : wr.cell? ⟨lb, 2, none⟩ = some (.int .i64 (ov c2 most)) := HC.out 2 (by omega)
   have z3 : wr.cell? ⟨lb, 3, none⟩ = some (.int .i64 (ov c3 most)) := HC.out 3 (by omega)
   have s0 := tcell hV (by omega) r0
   have sf0 := (hV.frozen (b := lb + 1) (o := 0) (Go.Ai.lt_of_cell r0) (by omega)).trans rf0
   have s1 := tcell hV (by omega) r1
   have sf1 := (hV.frozen (b := lb + 1) (o := 1) (Go.Ai.lt_of_cell r0) (by omega)).trans rf1
   have s2 := tcell hV (by omega) r2
   have sf2 := (hV.frozen (b := lb + 1) (o := 2) (Go.Ai.lt_of_cell r0) (by omega)).trans rf2
   have s3 := tcell hV (by omega) r3
   have sf3 := (hV.frozen (b := lb + 1) (o := 3) (Go.Ai.lt_of_cell r0) (by omega)).trans rf3
   generalize hd0 : ov c0 most = d0 at *
   generalize hd1 : ov c1 most = d1 at *
   generalize hd2 : ov c2 most = d2 at *
   generalize hd3 : ov c3 most = d3 at *
   have HD := Lib.hid (And.intro hd0 (And.intro hd1 (And.intro hd2 hd3)))
   clear hd0 hd1 hd2 hd3 hV
   go_wp2_with fail
   have ZZ : ∀ Z, Z = ((((wr.setCell ⟨lb + 1, 0, none⟩ (.int .i64 d0)).setCell ⟨lb + 1, 1, none⟩ (.int .i64 d1)).setCell ⟨lb + 1, 2, none⟩ (.int .i64 d2)).setCell ⟨lb + 1, 3, none⟩ (.int .i64 d3)) → Z.cell? ⟨lb + 1, 0, none⟩ = some (.int .i64 d0) ∧ Z.cell? ⟨lb + 1, 1, none⟩ = some (.int .i64 d1) ∧ Z.cell? ⟨lb + 1, 2, none⟩ = some (.int .i64 d2) ∧ Z.cell? ⟨lb + 1, 3, none⟩ = some (.int .i64 d3) := by rintro _ rfl; refine ⟨?_, ?_, ?_, ?_⟩ <;> go_simp
   obtain ⟨g0, g1, g2, g3⟩ := ZZ _ rfl; clear ZZ
   have hTC : Turns (fun b => b = lb + 1) wr ((((wr.setCell ⟨lb + 1, 0, none⟩ (.int .i64 d0)).setCell ⟨lb + 1, 1, none⟩ (.int .i64 d1)).setCell ⟨lb + 1, 2, none⟩ (.int .i64 d2)).setCell ⟨lb + 1, 3, none⟩ (.int .i64 d3)) := (((((Turns.refl (fun b => b = lb + 1) wr).setCell rfl _ _).setCell rfl _ _).setCell rfl _ _).setCell rfl _ _)
   generalize ((((wr.setCell ⟨lb + 1, 0, none⟩ (.int .i64 d0)).setCell ⟨lb + 1, 1, none⟩ (.int .i64 d1)).setCell ⟨lb + 1, 2, none⟩ (.int .i64 d2)).setCell ⟨lb + 1, 3, none⟩ (.int .i64 d3)) = C at *
   have kC : Kept w C := Below.trans kW (hTC.toBelow (n := w.heap.size) (by rintro b rfl; omega) kW.size)
   refine bodyPost_ret (v := .agg #[.int .i64 d0, .int .i64 d1, .int .i64 d2, .int .i64 d3]) (by simp [results, Tryz.results106, go_sem, g0, g1, g2, g3]) rfl ?_
   exact ⟨by rw [HD.out.1, HD.out.2.1, HD.out.2.2.1, HD.out.2.2.2], kC⟩
end Go.Proofs.YtcllfjjhijkakaaGreatDoor
namespace Go.Proofs.YtcllfjjhijkakaaGreatDoor
open Go.RowKit Go.Sort Go.Rg
set_option maxRecDepth 100000
structure Loc where
 al : Nat
 st : Nat
 zs : List Value
 xs : List Value
def isLoc (A : List Loc) (j : Nat) : Bool := A.any fun a => a.al == j
structure Locs (V : World) (vals : Nat → Value) (A : List Loc) (vs : Nat → Value) (on : Nat → Bool) (w : World) : Prop where
 kept : Kept V w
 val : ∀ j, on j = true → isLoc A j = false → vs j = vals j
 loc : ∀ a ∈ A, on a.al = true → ∃ b, vs a.al = .pointer (some ⟨b, 0, none⟩) ∧ V.heap.size ≤ b ∧ b < w.heap.size ∧ (∀ i, i < a.zs.length → ∃ f, w.cell? ⟨b, i, none⟩ = some f) ∧ (∀ i, w.frozen? ⟨b, i, none⟩ = false) ∧ (on a.st = true → ∀ i x, a.xs[i]? = some x → w.cell? ⟨b, i, none⟩ = some x)
 apart : ∀ a ∈ A, ∀ c ∈ A, a.al ≠ c.al → on a.al = true → on c.al = true → vs a.al ≠ vs c.al
section
variable {V w w' : World} {vals : Nat → Value} {A : List Loc} {vs : Nat → Value} {on : Nat → Bool} {v : Value}
theorem Locs.start : Locs V vals A (fun _ => undef) (fun _ => false) V.drew := ⟨kept_drew (kept_refl V), nofun, nofun, nofun⟩
theorem Locs.pure (h : Locs V vals A vs on w) (j : Nat) (hj : isLoc A j = false) (hs : ∀ a ∈ A, a.st ≠ j) (k : Kept w w') : Locs V vals A (fun i => if i = j then vals j else vs i) (fun i => if i = j then true else on i) w' := by
 have hne : ∀ a ∈ A, a.al ≠ j := fun a ha e => by
  have : isLoc A j = true := List.any_eq_true.2 ⟨a, ha, by simp [e]⟩
  rw [hj] at this; cases this
 refine ⟨kept_trans h.kept k, fun i hi hl => ?_, fun a ha hon => ?_, fun a ha c hc hac h1 h2 => ?_⟩
 ·by_cases e : i = j
  ·subst e; simp
  ·simp only [e, if_false] at hi ⊢; exact h.val i hi hl
 ·simp only [hne a ha, if_false] at hon ⊢
  obtain ⟨b, e1, e2, e3, e4, e5, e6⟩ := h.loc a ha hon
  refine ⟨b, e1, e2, Nat.lt_of_lt_of_le e3 k.size, fun i hi => (e4 i hi).imp fun f hf => kcell k hf, fun i => ((kturns k (fun _ => False)).frozen e3 (fun h => h)).trans (e5 i), fun hst i x hx => ?_⟩
  simp only [hs a ha, if_false] at hst
  exact kcell k (e6 hst i x hx)
 ·simp only [hne a ha, hne c hc, if_false] at h1 h2 ⊢
  exact h.apart a ha c hc hac h1 h2
theorem Locs.laid (h : Locs V vals A vs on w) (a : Loc) (ha : a ∈ A) (hu : ∀ c ∈ A, c.al = a.al → c = a) (hs : ∀ c ∈ A, c.st ≠ a.al) (hst : on a.st = false) (T : TypeId) :
  Locs V vals A (fun i => if i = a.al then .pointer (some ⟨w.heap.size, 0, none⟩) else vs i) (fun i => if i = a.al then true else on i) (w.alloc (Obj.cells a.zs.toArray T)) := by
 have k : Kept w (w.alloc (Obj.cells a.zs.toArray T)) := kept_alloc (kept_refl _) _
 refine ⟨kept_trans h.kept k, fun i hi hl => ?_, fun c hc hon => ?_, fun c hc d hd hcd h1 h2 => ?_⟩
 ·by_cases e : i = a.al
  ·subst e
   have : isLoc A a.al = true := List.any_eq_true.2 ⟨a, ha, by simp⟩
   rw [hl] at this; cases this
  ·simp only [e, if_false] at hi ⊢; exact h.val i hi hl
 ·by_cases e : c.al = a.al
  ·have := hu c hc e
   subst this
   simp only [if_true]
   refine ⟨w.heap.size, rfl, h.kept.size, by simp, fun i hi => ⟨c.zs[i], ?_⟩, fun i => by go_simp, fun hst' => ?_⟩
   ·have := World.news_of_block (World.alloc_heap_new w (Obj.cells c.zs.toArray T)) i c.zs[i] (by simp)
    have e : (⟨w.heap.size, 0, none⟩ : Addr).add i = ⟨w.heap.size, i, none⟩ := by
     unfold Addr.add
     split
     ·rename_i h0; rw [h0]
     ·simp
    rw [← e]; exact this
   ·simp only [hs c hc, if_false] at hst'
    rw [hst] at hst'; cases hst'
  ·simp only [e, if_false] at hon ⊢
   obtain ⟨b, e1, e2, e3, e4, e5, e6⟩ := h.loc c hc hon
   refine ⟨b, e1, e2, Nat.lt_of_lt_of_le e3 k.size, fun i hi => (e4 i hi).imp fun f hf => kcell k hf, fun i => ((kturns k (fun _ => False)).frozen e3 (fun h => h)).trans (e5 i), fun hst i x hx => ?_⟩
   simp only [hs c hc, if_false] at hst
   exact kcell k (e6 hst i x hx)
 ·by_cases e : c.al = a.al
  ·by_cases e' : d.al = a.al
   ·exact absurd (e.trans e'.symm) hcd
   ·simp only [e, e', if_true, if_false] at h1 h2 ⊢
    obtain ⟨b, e1, _, e3, _⟩ := h.loc d hd h2
    rw [e1]
    intro he
    simp only [Value.pointer.injEq, Option.some.injEq, Addr.mk.injEq] at he
    omega
  ·by_cases e' : d.al = a.al
   ·simp only [e, e', if_true, if_false] at h1 h2 ⊢
    obtain ⟨b, e1, _, e3, _⟩ := h.loc c hc h1
    rw [e1]
    intro he
    simp only [Value.pointer.injEq, Option.some.injEq, Addr.mk.injEq] at he
    omega
   ·simp only [e, e', if_false] at h1 h2 ⊢
    exact h.apart c hc d hd hcd h1 h2
theorem Locs.stored (h : Locs V vals A vs on w) (a : Loc) (ha : a ∈ A) (hal : isLoc A a.st = false) (hu : ∀ c ∈ A, c.st = a.st → c = a) (hal' : ∀ c ∈ A, ∀ d ∈ A, c.al = d.al → c = d) (hon : on a.al = true) (hl : a.xs.length = a.zs.length) {b : Nat} (hb : vs a.al = .pointer (some ⟨b, 0, none⟩)) :
  Locs V vals A (fun i => if i = a.st then vals a.st else vs i) (fun i => if i = a.st then true else on i) (setAll w b 0 a.xs) := by
 have hne : ∀ c ∈ A, c.al ≠ a.st := fun c hc e => by
  have : isLoc A a.st = true := List.any_eq_true.2 ⟨c, hc, by simp [e]⟩
  rw [hal] at this; cases this
 have hT := setAll_turns a.xs w b 0
 obtain ⟨b', e1, e2, e3, e4, e5, e6⟩ := h.loc a ha hon
 rw [hb] at e1
 obtain rfl : b = b' := by simp only [Value.pointer.injEq, Option.some.injEq, Addr.mk.injEq] at e1; omega
 have hK : Kept V (setAll w b 0 a.xs) := Below.trans h.kept (hT.toBelow (n := V.heap.size) (by rintro i rfl; exact e2) h.kept.size)
 refine ⟨hK, fun i hi hl' => ?_, fun c hc hc1 => ?_, fun c hc d hd hcd h1 h2 => ?_⟩
 ·by_cases e : i = a.st
  ·subst e; simp
  ·simp only [e, if_false] at hi ⊢; exact h.val i hi hl'
 ·simp only [hne c hc, if_false] at hc1 ⊢
  obtain ⟨b2, f1, f2, f3, f4, f5, f6⟩ := h.loc c hc hc1
  refine ⟨b2, f1, f2, Nat.lt_of_lt_of_le f3 hT.size, fun i hi => ?_, fun i => (setAll_frozen _ _ _ _ _).trans (f5 i), fun hst i x hx => ?_⟩
  ·by_cases e : b2 = b
   ·subst e
    by_cases hca : c = a
    ·subst hca
     have hi2 : i < c.xs.length := by omega
     exact ⟨c.xs[i], by simpa using setAll_cell c.xs w b2 0 (fun j hj => by simpa using e4 j (by omega)) i _ (List.getElem?_eq_getElem hi2)⟩
    ·exact absurd (f1.trans hb.symm) (h.apart c hc a ha (fun e => hca (hal' c hc a ha e)) hc1 hon)
   ·obtain ⟨f, hf⟩ := f4 i hi
    exact ⟨f, tcell hT e hf⟩
  ·by_cases hca : c = a
   ·subst hca
    obtain rfl : b2 = b := by
     rw [hb] at f1
     simp only [Value.pointer.injEq, Option.some.injEq, Addr.mk.injEq] at f1; omega
    simpa using setAll_cell c.xs w b2 0 (fun j hj => by simpa using e4 j (by omega)) i x hx
   ·have hst' : c.st ≠ a.st := fun e => hca (hu c hc e)
    simp only [hst', if_false] at hst
    have e : b2 ≠ b := fun e => by
     subst e
     exact absurd (f1.trans hb.symm) (h.apart c hc a ha (fun e => hca (hal' c hc a ha e)) hc1 hon)
    exact tcell hT e (f6 hst i x hx)
 ·simp only [hne c hc, hne d hd, if_false] at h1 h2 ⊢
  exact h.apart c hc d hd hcd h1 h2
end
end Go.Proofs.YtcllfjjhijkakaaGreatDoor
