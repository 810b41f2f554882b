/- A part of the proof: contracts of the program's functions for every input. No conditions. -/
import Derived.Test.YthkcgengohoboaaGreatDoorGF
import Derived.Test.YthkcgengohoboaaGreatDoorGE
import Derived.Test.YthkcgengohoboaaGreatDoorGC
set_option linter.all false
set_option linter.all false
namespace Go.Proofs.YthkcgengohoboaaGreatDoor
open Go.RowKit Go.Sort Go.Rg
set_option maxRecDepth 100000
attribute [local go_sem] Oper.semAt_some

set_option maxHeartbeats 4000000 in
theorem truly7 (V : World) (a0 : Act) (Q : Exit → Act → World → Prop) (x : Boy) (xb i : Nat) (bv : Value) (bits : List Int) (hx : x.okB = true) (hi : i < 100) (hb : NumsAt V bv bits)
    (c2 : V.cell? ⟨xb, 2, none⟩ = some (.int .i64 x.h0)) (c3 : V.cell? ⟨xb, 3, none⟩ = some (.int .i64 x.h1)) (c4 : V.cell? ⟨xb, 4, none⟩ = some (.int .i64 x.g0)) (c5 : V.cell? ⟨xb, 5, none⟩ = some (.int .i64 x.g1)) (c6 : V.cell? ⟨xb, 6, none⟩ = some (.int .i64 x.t0)) (c7 : V.cell? ⟨xb, 7, none⟩ = some (.int .i64 x.t1))
    (hz : a0.tmps.size = 87) (o1 : a0.tmps.getD 1 undef = bv) (o6 : a0.tmps.getD 6 undef = .int .i64 (i : Int)) (o7 : a0.tmps.getD 7 undef = .pointer (some ⟨xb, 0, none⟩))
    (hend : ∀ a W, Kept V W → (∀ t, t < 9 ∨ (11 < t ∧ t < 39) ∨ 59 < t → a.tmps.getD t undef = a0.tmps.getD t undef) → a.tmps.getD 9 undef = .int .i64 (drawI x.h0 x.h1 (nthI bits ((i : Int) + 2))) → a.tmps.getD 10 undef = .int .i64 (drawI x.g0 x.g1 (nthI bits ((i : Int) + 3))) → a.tmps.getD 11 undef = .int .i64 (drawI x.t0 x.t1 (nthI bits ((i : Int) + 4))) → a.tmps.size = a0.tmps.size → a.defers = a0.defers → Q .normal a W) :
    (Code.region 7 #[{ dst := some 39, op := Op.fieldAddr 97 (Operand.tmp 7) 1, type := 0, pos := "outright.go:75", after := #[], guard := none }, { dst := some 40, op := Op.load 32 (Operand.tmp 39), type := 32, pos := "outright.go:75", after := #[{ on := 0, ground := Ground.data }], guard := none }, { dst := some 41, op := Op.move (Operand.tmp 1), type := 41, pos := "outright.go:75", after := #[], guard := none }, { dst := some 42, op := Op.move (Operand.tmp 6), type := 3, pos := "outright.go:75", after := #[], guard := none }, { dst := some 43, op := Op.binOp BinOp.add 3 (Operand.tmp 42) (Operand.const (Value.int IntKind.i64 2)) 3, type := 3, pos := "outright.go:75", after := #[{ on := 3, ground := Ground.data }], guard := none }, { dst := some 44, op := Op.call { callee := Callee.value (Operand.func 100), args := #[Operand.tmp 41, Operand.tmp 43], argTypes := #[41, 3] }, type := 3, pos := "outright.go:75", after := #[{ on := 2, ground := Ground.data }, { on := 4, ground := Ground.data }], guard := none }, { dst := some 45, op := Op.call { callee := Callee.value (Operand.func 99), args := #[Operand.tmp 40, Operand.tmp 44], argTypes := #[32, 3] }, type := 3, pos := "outright.go:75", after := #[{ on := 1, ground := Ground.data }, { on := 5, ground := Ground.data }, { on := 5, ground := Ground.chain }], guard := none }, { dst := some 46, op := Op.fieldAddr 97 (Operand.tmp 7) 2, type := 0, pos := "outright.go:75", after := #[], guard := none }, { dst := some 47, op := Op.load 32 (Operand.tmp 46), type := 32, pos := "outright.go:75", after := #[{ on := 7, ground := Ground.data }], guard := none }, { dst := some 48, op := Op.move (Operand.tmp 1), type := 41, pos := "outright.go:75", after := #[], guard := none }, { dst := some 49, op := Op.move (Operand.tmp 6), type := 3, pos := "outright.go:75", after := #[], guard := none }, { dst := some 50, op := Op.binOp BinOp.add 3 (Operand.tmp 49) (Operand.const (Value.int IntKind.i64 3)) 3, type := 3, pos := "outright.go:75", after := #[{ on := 10, ground := Ground.data }], guard := none }, { dst := some 51, op := Op.call { callee := Callee.value (Operand.func 100), args := #[Operand.tmp 48, Operand.tmp 50], argTypes := #[41, 3] }, type := 3, pos := "outright.go:75", after := #[{ on := 9, ground := Ground.data }, { on := 11, ground := Ground.data }, { on := 6, ground := Ground.chain }], guard := none }, { dst := some 52, op := Op.call { callee := Callee.value (Operand.func 99), args := #[Operand.tmp 47, Operand.tmp 51], argTypes := #[32, 3] }, type := 3, pos := "outright.go:75", after := #[{ on := 8, ground := Ground.data }, { on := 12, ground := Ground.data }, { on := 12, ground := Ground.chain }], guard := none }, { dst := some 53, op := Op.fieldAddr 97 (Operand.tmp 7) 3, type := 0, pos := "outright.go:75", after := #[], guard := none }, { dst := some 54, op := Op.load 32 (Operand.tmp 53), type := 32, pos := "outright.go:75", after := #[{ on := 14, ground := Ground.data }], guard := none }, { dst := some 55, op := Op.move (Operand.tmp 1), type := 41, pos := "outright.go:75", after := #[], guard := none }, { dst := some 56, op := Op.move (Operand.tmp 6), type := 3, pos := "outright.go:75", after := #[], guard := none }, { dst := some 57, op := Op.binOp BinOp.add 3 (Operand.tmp 56) (Operand.const (Value.int IntKind.i64 4)) 3, type := 3, pos := "outright.go:75", after := #[{ on := 17, ground := Ground.data }], guard := none }, { dst := some 58, op := Op.call { callee := Callee.value (Operand.func 100), args := #[Operand.tmp 55, Operand.tmp 57], argTypes := #[41, 3] }, type := 3, pos := "outright.go:75", after := #[{ on := 16, ground := Ground.data }, { on := 18, ground := Ground.data }, { on := 13, ground := Ground.chain }], guard := none }, { dst := some 59, op := Op.call { callee := Callee.value (Operand.func 99), args := #[Operand.tmp 54, Operand.tmp 58], argTypes := #[32, 3] }, type := 3, pos := "outright.go:75", after := #[{ on := 15, ground := Ground.data }, { on := 19, ground := Ground.data }, { on := 19, ground := Ground.chain }], guard := none }, { dst := some 9, op := Op.assign (Operand.tmp 45), type := 3, pos := "outright.go:75", after := #[{ on := 6, ground := Ground.data }, { on := 20, ground := Ground.chain }, { on := 0, ground := Ground.phase }, { on := 1, ground := Ground.phase }, { on := 2, ground := Ground.phase }, { on := 3, ground := Ground.phase }, { on := 4, ground := Ground.phase }, { on := 5, ground := Ground.phase }, { on := 6, ground := Ground.phase }, { on := 7, ground := Ground.textOnly Departure.lateStores }, { on := 8, ground := Ground.textOnly Departure.lateStores }, { on := 9, ground := Ground.textOnly Departure.lateStores }, { on := 10, ground := Ground.textOnly Departure.lateStores }, { on := 11, ground := Ground.textOnly Departure.lateStores }, { on := 12, ground := Ground.textOnly Departure.lateStoresUnsure }, { on := 13, ground := Ground.textOnly Departure.lateStoresUnsure }, { on := 14, ground := Ground.textOnly Departure.lateStores }, { on := 15, ground := Ground.textOnly Departure.lateStores }, { on := 16, ground := Ground.textOnly Departure.lateStores }, { on := 17, ground := Ground.textOnly Departure.lateStores }, { on := 18, ground := Ground.textOnly Departure.lateStores }, { on := 19, ground := Ground.textOnly Departure.lateStoresUnsure }, { on := 20, ground := Ground.textOnly Departure.lateStoresUnsure }], guard := none }, { dst := some 10, op := Op.assign (Operand.tmp 52), type := 3, pos := "outright.go:75", after := #[{ on := 13, ground := Ground.data }, { on := 21, ground := Ground.chain }, { on := 0, ground := Ground.phase }, { on := 1, ground := Ground.phase }, { on := 2, ground := Ground.phase }, { on := 3, ground := Ground.phase }, { on := 4, ground := Ground.phase }, { on := 5, ground := Ground.phase }, { on := 6, ground := Ground.phase }, { on := 7, ground := Ground.phase }, { on := 8, ground := Ground.phase }, { on := 9, ground := Ground.phase }, { on := 10, ground := Ground.phase }, { on := 11, ground := Ground.phase }, { on := 12, ground := Ground.phase }, { on := 13, ground := Ground.phase }, { on := 14, ground := Ground.textOnly Departure.lateStores }, { on := 15, ground := Ground.textOnly Departure.lateStores }, { on := 16, ground := Ground.textOnly Departure.lateStores }, { on := 17, ground := Ground.textOnly Departure.lateStores }, { on := 18, ground := Ground.textOnly Departure.lateStores }, { on := 19, ground := Ground.textOnly Departure.lateStoresUnsure }, { on := 20, ground := Ground.textOnly Departure.lateStoresUnsure }, { on := 21, ground := Ground.phase }], guard := none }, { dst := some 11, op := Op.assign (Operand.tmp 59), type := 3, pos := "outright.go:75", after := #[{ on := 20, ground := Ground.data }, { on := 22, ground := Ground.chain }, { on := 0, ground := Ground.phase }, { on := 1, ground := Ground.phase }, { on := 2, ground := Ground.phase }, { on := 3, ground := Ground.phase }, { on := 4, ground := Ground.phase }, { on := 5, ground := Ground.phase }, { on := 6, ground := Ground.phase }, { on := 7, ground := Ground.phase }, { on := 8, ground := Ground.phase }, { on := 9, ground := Ground.phase }, { on := 10, ground := Ground.phase }, { on := 11, ground := Ground.phase }, { on := 12, ground := Ground.phase }, { on := 13, ground := Ground.phase }, { on := 14, ground := Ground.phase }, { on := 15, ground := Ground.phase }, { on := 16, ground := Ground.phase }, { on := 17, ground := Ground.phase }, { on := 18, ground := Ground.phase }, { on := 19, ground := Ground.phase }, { on := 20, ground := Ground.phase }, { on := 21, ground := Ground.phase }, { on := 22, ground := Ground.phase }], guard := none }] true).wpIn Fence.wide 0 Tryz.prog Q a0 V := by
  obtain ⟨-, ⟨l1, l2, l3, l4⟩, ⟨b1, b2, b3, b4⟩, ⟨t1, t2, t3, t4⟩, -, -, -⟩ := boy_nums hx
  refine wpIn_region_kept (V := V) (fun ix => match ix with | 0 => fun v _ => v = .pointer (some ⟨xb, 2, none⟩) | 1 => fun v _ => v = .agg #[.int .i64 x.h0, .int .i64 x.h1] | 2 => fun v _ => v = bv | 3 => fun v _ => v = .int .i64 (i : Int) | 4 => fun v _ => v = .int .i64 ((i : Int) + 2) | 5 => fun v _ => v = .int .i64 (nthI bits ((i : Int) + 2)) | 6 => fun v _ => v = .int .i64 (drawI x.h0 x.h1 (nthI bits ((i : Int) + 2))) | 7 => fun v _ => v = .pointer (some ⟨xb, 4, none⟩) | 8 => fun v _ => v = .agg #[.int .i64 x.g0, .int .i64 x.g1] | 9 => fun v _ => v = bv | 10 => fun v _ => v = .int .i64 (i : Int) | 11 => fun v _ => v = .int .i64 ((i : Int) + 3) | 12 => fun v _ => v = .int .i64 (nthI bits ((i : Int) + 3)) | 13 => fun v _ => v = .int .i64 (drawI x.g0 x.g1 (nthI bits ((i : Int) + 3))) | 14 => fun v _ => v = .pointer (some ⟨xb, 6, none⟩) | 15 => fun v _ => v = .agg #[.int .i64 x.t0, .int .i64 x.t1] | 16 => fun v _ => v = bv | 17 => fun v _ => v = .int .i64 (i : Int) | 18 => fun v _ => v = .int .i64 ((i : Int) + 4) | 19 => fun v _ => v = .int .i64 (nthI bits ((i : Int) + 4)) | 20 => fun v _ => v = .int .i64 (drawI x.t0 x.t1 (nthI bits ((i : Int) + 4))) | 21 => fun v _ => v = .int .i64 (drawI x.h0 x.h1 (nthI bits ((i : Int) + 2))) | 22 => fun v _ => v = .int .i64 (drawI x.g0 x.g1 (nthI bits ((i : Int) + 3))) | 23 => fun v _ => v = .int .i64 (drawI x.t0 x.t1 (nthI bits ((i : Int) + 4))) | _ => fun _ _ => True) 24 (fun _ w => w) (by kernel_rfl) (by kernel_rfl) (by kernel_rfl) (by kernel_rfl) (by kernel_rfl) ?hwr ?hst ?hop ?hlast ?hend
  case hwr =>
    intro vs vs' w hvv
    rfl
  case hst =>
    intro ix v w w' hv hk
    match ix, hv with
    | 0, hv => exact hv
    | 1, hv => exact hv
    | 2, hv => exact hv
    | 3, hv => exact hv
    | 4, hv => exact hv
    | 5, hv => exact hv
    | 6, hv => exact hv
    | 7, hv => exact hv
    | 8, hv => exact hv
    | 9, hv => exact hv
    | 10, hv => exact hv
    | 11, hv => exact hv
    | 12, hv => exact hv
    | 13, hv => exact hv
    | 14, hv => exact hv
    | 15, hv => exact hv
    | 16, hv => exact hv
    | 17, hv => exact hv
    | 18, hv => exact hv
    | 19, hv => exact hv
    | 20, hv => exact hv
    | 21, hv => exact hv
    | 22, hv => exact hv
    | 23, hv => exact hv
    | ix + 24, hv => trivial
  case hop =>
    rintro ix o listed a w vs his ho ha hk hR hdep K hK
    have hil : ix < 24 := (List.getElem?_eq_some_iff.1 ho).1
    match ix, ho with
    | 0, ho =>
      have t7 := (ha.old 7 (by kernel_rfl)).trans o7
      simp at t7
      cases ho
      go_simp
      exact hK _ _ (kept_refl _) rfl
    | 1, ho =>
      have b0 := hdep ⟨0, .data⟩ (by cases ho; simp) rfl
      have t39 := ha.new 0 b0 (d := 39) rfl rfl (by rw [hz]; decide)
      have r0 := hR 0 b0
      replace t39 := t39.trans r0
      simp at t39
      have q0 := kcell hk c2
      have q1 := kcell hk c3
      cases ho
      go_simp
      exact hK _ _ (kept_refl _) rfl
    | 2, ho =>
      have t1 := (ha.old 1 (by kernel_rfl)).trans o1
      simp at t1
      cases ho
      go_simp
      exact hK _ _ (kept_refl _) rfl
    | 3, ho =>
      have t6 := (ha.old 6 (by kernel_rfl)).trans o6
      simp at t6
      cases ho
      go_simp
      exact hK _ _ (kept_refl _) rfl
    | 4, ho =>
      have b3 := hdep ⟨3, .data⟩ (by cases ho; simp) rfl
      have t42 := ha.new 3 b3 (d := 42) rfl rfl (by rw [hz]; decide)
      have r3 := hR 3 b3
      replace t42 := t42.trans r3
      simp at t42
      have w1 : IntKind.i64.wrap ((i : Int) + 2) = (i : Int) + 2 := IntWalk.i64_in _ (by omega)
      cases ho
      go_simp
      exact hK _ _ (kept_refl _) rfl
    | 5, ho =>
      have b2 := hdep ⟨2, .data⟩ (by cases ho; simp) rfl
      have t41 := ha.new 2 b2 (d := 41) rfl rfl (by rw [hz]; decide)
      have r2 := hR 2 b2
      replace t41 := t41.trans r2
      simp at t41
      have b4 := hdep ⟨4, .data⟩ (by cases ho; simp) rfl
      have t43 := ha.new 4 b4 (d := 43) rfl rfl (by rw [hz]; decide)
      have r4 := hR 4 b4
      replace t43 := t43.trans r4
      simp at t43
      have hcall := nth_is bv bits ((i : Int) + 2) w (hb.kept hk)
      cases ho
      go_simp
      refine ⟨trivial, rfl, (callsIn_wide.2 hcall).mono ?_⟩
      rintro e w' ⟨rfl, rfl⟩
      exact hK _ _ (kept_refl _) rfl
    | 6, ho =>
      have b1 := hdep ⟨1, .data⟩ (by cases ho; simp) rfl
      have t40 := ha.new 1 b1 (d := 40) rfl rfl (by rw [hz]; decide)
      have r1 := hR 1 b1
      replace t40 := t40.trans r1
      simp at t40
      have b5 := hdep ⟨5, .data⟩ (by cases ho; simp) rfl
      have t44 := ha.new 5 b5 (d := 44) rfl rfl (by rw [hz]; decide)
      have r5 := hR 5 b5
      replace t44 := t44.trans r5
      simp at t44
      have hcall := draw_is x.h0 x.h1 (nthI bits ((i : Int) + 2)) (by omega) (by omega) (by omega) w
      cases ho
      go_simp
      refine ⟨trivial, rfl, (callsIn_wide.2 hcall).mono ?_⟩
      rintro e w' ⟨rfl, hk'⟩
      exact hK _ _ hk' rfl
    | 7, ho =>
      have t7 := (ha.old 7 (by kernel_rfl)).trans o7
      simp at t7
      cases ho
      go_simp
      exact hK _ _ (kept_refl _) rfl
    | 8, ho =>
      have b7 := hdep ⟨7, .data⟩ (by cases ho; simp) rfl
      have t46 := ha.new 7 b7 (d := 46) rfl rfl (by rw [hz]; decide)
      have r7 := hR 7 b7
      replace t46 := t46.trans r7
      simp at t46
      have q0 := kcell hk c4
      have q1 := kcell hk c5
      cases ho
      go_simp
      exact hK _ _ (kept_refl _) rfl
    | 9, ho =>
      have t1 := (ha.old 1 (by kernel_rfl)).trans o1
      simp at t1
      cases ho
      go_simp
      exact hK _ _ (kept_refl _) rfl
    | 10, ho =>
      have t6 := (ha.old 6 (by kernel_rfl)).trans o6
      simp at t6
      cases ho
      go_simp
      exact hK _ _ (kept_refl _) rfl
    | 11, ho =>
      have b10 := hdep ⟨10, .data⟩ (by cases ho; simp) rfl
      have t49 := ha.new 10 b10 (d := 49) rfl rfl (by rw [hz]; decide)
      have r10 := hR 10 b10
      replace t49 := t49.trans r10
      simp at t49
      have w1 : IntKind.i64.wrap ((i : Int) + 3) = (i : Int) + 3 := IntWalk.i64_in _ (by omega)
      cases ho
      go_simp
      exact hK _ _ (kept_refl _) rfl
    | 12, ho =>
      have b9 := hdep ⟨9, .data⟩ (by cases ho; simp) rfl
      have t48 := ha.new 9 b9 (d := 48) rfl rfl (by rw [hz]; decide)
      have r9 := hR 9 b9
      replace t48 := t48.trans r9
      simp at t48
      have b11 := hdep ⟨11, .data⟩ (by cases ho; simp) rfl
      have t50 := ha.new 11 b11 (d := 50) rfl rfl (by rw [hz]; decide)
      have r11 := hR 11 b11
      replace t50 := t50.trans r11
      simp at t50
      have hcall := nth_is bv bits ((i : Int) + 3) w (hb.kept hk)
      cases ho
      go_simp
      refine ⟨trivial, rfl, (callsIn_wide.2 hcall).mono ?_⟩
      rintro e w' ⟨rfl, rfl⟩
      exact hK _ _ (kept_refl _) rfl
    | 13, ho =>
      have b8 := hdep ⟨8, .data⟩ (by cases ho; simp) rfl
      have t47 := ha.new 8 b8 (d := 47) rfl rfl (by rw [hz]; decide)
      have r8 := hR 8 b8
      replace t47 := t47.trans r8
      simp at t47
      have b12 := hdep ⟨12, .data⟩ (by cases ho; simp) rfl
      have t51 := ha.new 12 b12 (d := 51) rfl rfl (by rw [hz]; decide)
      have r12 := hR 12 b12
      replace t51 := t51.trans r12
      simp at t51
      have hcall := draw_is x.g0 x.g1 (nthI bits ((i : Int) + 3)) (by omega) (by omega) (by omega) w
      cases ho
      go_simp
      refine ⟨trivial, rfl, (callsIn_wide.2 hcall).mono ?_⟩
      rintro e w' ⟨rfl, hk'⟩
      exact hK _ _ hk' rfl
    | 14, ho =>
      have t7 := (ha.old 7 (by kernel_rfl)).trans o7
      simp at t7
      cases ho
      go_simp
      exact hK _ _ (kept_refl _) rfl
    | 15, ho =>
      have b14 := hdep ⟨14, .data⟩ (by cases ho; simp) rfl
      have t53 := ha.new 14 b14 (d := 53) rfl rfl (by rw [hz]; decide)
      have r14 := hR 14 b14
      replace t53 := t53.trans r14
      simp at t53
      have q0 := kcell hk c6
      have q1 := kcell hk c7
      cases ho
      go_simp
      exact hK _ _ (kept_refl _) rfl
    | 16, ho =>
      have t1 := (ha.old 1 (by kernel_rfl)).trans o1
      simp at t1
      cases ho
      go_simp
      exact hK _ _ (kept_refl _) rfl
    | 17, ho =>
      have t6 := (ha.old 6 (by kernel_rfl)).trans o6
      simp at t6
      cases ho
      go_simp
      exact hK _ _ (kept_refl _) rfl
    | 18, ho =>
      have b17 := hdep ⟨17, .data⟩ (by cases ho; simp) rfl
      have t56 := ha.new 17 b17 (d := 56) rfl rfl (by rw [hz]; decide)
      have r17 := hR 17 b17
      replace t56 := t56.trans r17
      simp at t56
      have w1 : IntKind.i64.wrap ((i : Int) + 4) = (i : Int) + 4 := IntWalk.i64_in _ (by omega)
      cases ho
      go_simp
      exact hK _ _ (kept_refl _) rfl
    | 19, ho =>
      have b16 := hdep ⟨16, .data⟩ (by cases ho; simp) rfl
      have t55 := ha.new 16 b16 (d := 55) rfl rfl (by rw [hz]; decide)
      have r16 := hR 16 b16
      replace t55 := t55.trans r16
      simp at t55
      have b18 := hdep ⟨18, .data⟩ (by cases ho; simp) rfl
      have t57 := ha.new 18 b18 (d := 57) rfl rfl (by rw [hz]; decide)
      have r18 := hR 18 b18
      replace t57 := t57.trans r18
      simp at t57
      have hcall := nth_is bv bits ((i : Int) + 4) w (hb.kept hk)
      cases ho
      go_simp
      refine ⟨trivial, rfl, (callsIn_wide.2 hcall).mono ?_⟩
      rintro e w' ⟨rfl, rfl⟩
      exact hK _ _ (kept_refl _) rfl
    | 20, ho =>
      have b15 := hdep ⟨15, .data⟩ (by cases ho; simp) rfl
      have t54 := ha.new 15 b15 (d := 54) rfl rfl (by rw [hz]; decide)
      have r15 := hR 15 b15
      replace t54 := t54.trans r15
      simp at t54
      have b19 := hdep ⟨19, .data⟩ (by cases ho; simp) rfl
      have t58 := ha.new 19 b19 (d := 58) rfl rfl (by rw [hz]; decide)
      have r19 := hR 19 b19
      replace t58 := t58.trans r19
      simp at t58
      have hcall := draw_is x.t0 x.t1 (nthI bits ((i : Int) + 4)) (by omega) (by omega) (by omega) w
      cases ho
      go_simp
      refine ⟨trivial, rfl, (callsIn_wide.2 hcall).mono ?_⟩
      rintro e w' ⟨rfl, hk'⟩
      exact hK _ _ hk' rfl
    | 21, ho =>
      have b6 := hdep ⟨6, .data⟩ (by cases ho; simp) rfl
      have t45 := ha.new 6 b6 (d := 45) rfl rfl (by rw [hz]; decide)
      have r6 := hR 6 b6
      replace t45 := t45.trans r6
      simp at t45
      cases ho
      go_simp
      exact hK _ _ (kept_refl _) rfl
    | 22, ho =>
      have b13 := hdep ⟨13, .data⟩ (by cases ho; simp) rfl
      have t52 := ha.new 13 b13 (d := 52) rfl rfl (by rw [hz]; decide)
      have r13 := hR 13 b13
      replace t52 := t52.trans r13
      simp at t52
      cases ho
      go_simp
      exact hK _ _ (kept_refl _) rfl
    | 23, ho =>
      have b20 := hdep ⟨20, .data⟩ (by cases ho; simp) rfl
      have t59 := ha.new 20 b20 (d := 59) rfl rfl (by rw [hz]; decide)
      have r20 := hR 20 b20
      replace t59 := t59.trans r20
      simp at t59
      cases ho
      go_simp
      exact hK _ _ (kept_refl _) rfl
  case hlast =>
    rintro o listed a w vs ho
    simp at ho
  case hend =>
    intro listed a w vs hall ha hk hR
    have h9 := (ha.new 21 (hall 21 (by simp)) (d := 9) rfl rfl (by rw [hz]; decide)).trans (hR 21 (by simp) (by simp))
    have h10 := (ha.new 22 (hall 22 (by simp)) (d := 10) rfl rfl (by rw [hz]; decide)).trans (hR 22 (by simp) (by simp))
    have h11 := (ha.new 23 (hall 23 (by simp)) (d := 11) rfl rfl (by rw [hz]; decide)).trans (hR 23 (by simp) (by simp))
    have := hend a w hk (fun t h => AtSt.others ha (fun d => decide ((9 ≤ d ∧ d ≤ 11) ∨ 39 ≤ d ∧ d ≤ 59)) (by kernel_rfl) t (decide_eq_false (by omega))) h9 h10 h11 ha.size ha.defers
    simpa using this
end Go.Proofs.YthkcgengohoboaaGreatDoor
set_option linter.all false
namespace Go.Proofs.YthkcgengohoboaaGreatDoor
open Go.RowKit Go.Sort Go.Rg
set_option maxRecDepth 100000

def cmpI (x y : Int) : Int := if x < y then -1 else if y < x then 1 else 0
def lexC : List Nat → List Nat → Int
  | [], [] => 0
  | [], _ :: _ => -1
  | _ :: _, [] => 1
  | x :: xs, y :: ys => if cmpI x y = 0 then lexC xs ys else cmpI x y
def ordC (l m : List Nat) : Int := if cmpI l.length m.length = 0 then lexC l m else cmpI l.length m.length

theorem cmp_any (x y : Int) (w : World) : Calls Tryz.prog 146 #[.int .i64 x, .int .i64 y] w fun e w' => e = .returned (.int .i64 (cmpI x y)) ∧ w = w' := by
  by_cases h1 : x < y
  · have h2 : decide (x < y) = true := by simpa using h1
    have H : cmpI x y = -1 := by simp [cmpI, h1]
    rw [H]; clear H h1
    go_enter Tryz.func146, Tryz.ntmps146
    go_wp2
    go_ret
    exact ⟨rfl, rfl⟩
  · have h2 : decide (x < y) = false := by simpa using h1
    by_cases h3 : y < x
    · have h4 : decide (y < x) = true := by simpa using h3
      have H : cmpI x y = 1 := by simp [cmpI, h1, h3]
      rw [H]; clear H h1 h3
      go_enter Tryz.func146, Tryz.ntmps146
      go_wp2
      go_ret
      exact ⟨rfl, rfl⟩
    · have h4 : decide (y < x) = false := by simpa using h3
      have H : cmpI x y = 0 := by simp [cmpI, h1, h3]
      rw [H]; clear H h1 h3
      go_enter Tryz.func146, Tryz.ntmps146
      go_wp2
      go_ret
      exact ⟨rfl, rfl⟩

set_option maxHeartbeats 2000000 in
theorem lex_any (v1 v2 : Value) (l m : List Nat) (w : World) (h1 : ListAt w v1 l) (h2 : ListAt w v2 m) (hl : l.length ≤ 100) (hm : m.length ≤ 100) :
    Calls Tryz.prog 147 #[v1, v2] w fun e w' => e = .returned (.int .i64 (lexC l m)) ∧ Kept w w' := by
  obtain ⟨p1, cap1, rfl⟩ := listAt_len h1
  obtain ⟨p2, cap2, rfl⟩ := listAt_len h2
  go_enter Tryz.func147, Tryz.ntmps147
  go_wp2_with fail
  go_loopw [11] (fun i W => ∃ k : Nat, k ≤ l.length ∧ k ≤ m.length ∧ i = .int .i64 k ∧ lexC l m = lexC (l.drop k) (m.drop k) ∧ Kept w W) (fun i W => l.length - (intOf i).toNat)
  case atStart => exact ⟨0, by omega, by omega, rfl, rfl, kept_refl _⟩
  case round =>
    obtain ⟨k, hk, hkm, rfl, hlex, hkW⟩ := hrel
    rename_i W
    by_cases hlt : k < l.length
    · have hltI : (k : Int) < l.length := by omega
      have hget : l[k]? = some l[k] := List.getElem?_eq_getElem hlt
      have hd1 : l.drop k = l[k] :: l.drop (k + 1) := List.drop_eq_getElem_cons hlt
      rw [hd1] at hlex
      generalize l[k] = x at *
      rcases h1.kept hkW with ⟨_, rfl⟩ | ⟨b, cap', e, hb, hc⟩
      · simp at hlt
      cases e
      replace hc := hc k x hget
      clear hd1 hget
      by_cases hlt2 : k < m.length
      · have hltJ : ¬ (k : Int) ≥ m.length := by omega
        have hltK : (k : Int) < m.length := by omega
        have hget2 : m[k]? = some m[k] := List.getElem?_eq_getElem hlt2
        have hd2 : m.drop k = m[k] :: m.drop (k + 1) := List.drop_eq_getElem_cons hlt2
        rw [hd2] at hlex
        generalize m[k] = y at *
        rcases h2.kept hkW with ⟨_, rfl⟩ | ⟨b2, cap2', e, hb2, hc2⟩
        · simp at hlt2
        cases e
        replace hc2 := hc2 k y hget2
        clear hd2 hget2
        simp only [lexC] at hlex
        by_cases hz : cmpI x y = 0
        · rw [if_pos hz] at hlex
          have HL := Lib.hid hlex; clear hlex
          have hz1 : (cmpI x y == 0) = true := by simpa using hz
          have HC := Lib.hid (cmp_any x y)
          generalize cmpI x y = c at *
          subst hz
          clear hz1
          go_wp2_with (go_at_call 146; refine (HC.out _).mono ?_; rintro e w' ⟨rfl, rfl⟩)
          go_roundw
          case rel => exact ⟨k + 1, by omega, by omega, by go_num, HL.out, hkW⟩
          case measure => simp [intOf]; omega
        · rw [if_neg hz] at hlex
          have HL := Lib.hid hlex; clear hlex
          have hz1 : (cmpI x y == 0) = false := by simpa using hz
          have HC := Lib.hid (cmp_any x y)
          generalize cmpI x y = c at *
          go_wp2_with (go_at_call 146; refine (HC.out _).mono ?_; rintro e w' ⟨rfl, rfl⟩)
          go_ret
          rw [HL.out]
          exact ⟨rfl, hkW⟩
      · have hltJ : (k : Int) ≥ m.length := by omega
        have hd2 : m.drop k = [] := List.drop_eq_nil_iff.2 (by omega)
        rw [hd2] at hlex
        simp only [lexC] at hlex
        have HL := Lib.hid hlex; clear hlex hd2
        go_wp2_with fail
        go_ret
        rw [HL.out]
        exact ⟨rfl, hkW⟩
    · have hltI : ¬ (k : Int) < l.length := by omega
      have hd1 : l.drop k = [] := List.drop_eq_nil_iff.2 (by omega)
      rw [hd1] at hlex
      by_cases hlt2 : (l.length : Int) < m.length
      · have hd2 : lexC [] (m.drop k) = -1 := by
          cases e : m.drop k with
          | nil => have := List.drop_eq_nil_iff.1 e; omega
          | cons a b => rfl
        rw [hd2] at hlex
        have HL := Lib.hid hlex; clear hlex hd2 hd1
        go_wp2_with fail
        go_ret
        rw [HL.out]
        exact ⟨rfl, hkW⟩
      · have hd2 : m.drop k = [] := List.drop_eq_nil_iff.2 (by omega)
        rw [hd2] at hlex
        simp only [lexC] at hlex
        have HL := Lib.hid hlex; clear hlex hd2 hd1
        go_wp2_with fail
        go_ret
        rw [HL.out]
        exact ⟨rfl, hkW⟩

set_option maxHeartbeats 1000000 in
theorem or2_any (x y : Int) (b cap : Nat) (w : World) (h0 : w.cell? ⟨b, 0, none⟩ = some (.int .i64 x)) (h1 : w.cell? ⟨b, 1, none⟩ = some (.int .i64 y)) :
    Calls Tryz.prog 145 #[.slice (some ⟨b, 0, none⟩) 2 cap] w fun e w' => e = .returned (.int .i64 (if x = 0 then y else x)) ∧ Kept w w' := by
  generalize hr : (if x = 0 then y else x) = r
  go_enter Tryz.func145, Tryz.ntmps145
  go_wp2_with fail
  go_loopw [8] (fun i W => (i = .int .i64 0 ∨ i = .int .i64 1 ∧ x = 0 ∨ i = .int .i64 2 ∧ x = 0 ∧ y = 0) ∧ Kept w W) (fun i W => 2 - (intOf i).toNat)
  case atStart => exact ⟨.inl rfl, kept_refl _⟩
  case round =>
    rename_i W
    obtain ⟨hi, hkW⟩ := hrel
    have c0 := kcell hkW h0
    have c1 := kcell hkW h1
    rcases hi with rfl | ⟨rfl, rfl⟩ | ⟨rfl, rfl, rfl⟩
    · by_cases hz : x = 0
      · rw [if_pos hz] at hr
        subst hz hr
        go_wp2_with fail
        go_roundw
        case rel => exact ⟨by simp, hkW⟩
        case measure => simp [intOf]
      · rw [if_neg hz] at hr
        subst hr
        have hz1 : (x == 0) = false := by simpa using hz
        go_wp2_with fail
        go_ret
        exact ⟨rfl, hkW⟩
    · rw [if_pos rfl] at hr
      subst hr
      by_cases hz : y = 0
      · subst hz
        go_wp2_with fail
        go_roundw
        case rel => exact ⟨by simp, hkW⟩
        case measure => simp [intOf]
      · have hz1 : (y == 0) = false := by simpa using hz
        go_wp2_with fail
        go_ret
        exact ⟨rfl, hkW⟩
    · rw [if_pos rfl] at hr
      subst hr
      go_wp2_with fail
      go_ret
      exact ⟨rfl, hkW⟩
end Go.Proofs.YthkcgengohoboaaGreatDoor
set_option linter.all false
namespace Go.Proofs.YthkcgengohoboaaGreatDoor
open Go.RowKit Go.Sort Go.Rg
set_option maxRecDepth 100000

set_option maxHeartbeats 2000000 in
theorem ord_any (v1 v2 : Value) (l m : List Nat) (w : World) (h1 : ListAt w v1 l) (h2 : ListAt w v2 m) (hl : l.length ≤ 100) (hm : m.length ≤ 100) :
    Calls Tryz.prog 160 #[v1, v2] w fun e w' => e = .returned (.int .i64 (ordC l m)) ∧ Kept w w' := by
  obtain ⟨p1, cap1, e1⟩ := listAt_len h1
  obtain ⟨p2, cap2, e2⟩ := listAt_len h2
  have HLx := Lib.hid (fun W (k : Kept w W) => lex_any v1 v2 l m W (h1.kept k) (h2.kept k) hl hm)
  rw [e1, e2] at HLx
  subst e1 e2
  have ho : (if cmpI l.length m.length = 0 then lexC l m else cmpI l.length m.length) = ordC l m := rfl
  have HC := Lib.hid (cmp_any (l.length : Int) (m.length : Int))
  generalize lexC l m = y at *
  generalize cmpI (l.length : Int) (m.length : Int) = x at *
  generalize ordC l m = r at *
  have HO := Lib.hid ho; clear ho
  go_enter Tryz.func160, Tryz.ntmps160
  go_wp2_with (first
    | (go_at_call 146; refine (HC.out _).mono ?_; rintro e w' ⟨rfl, rfl⟩)
    | (go_at_call 147; refine (HLx.out _ (kept_refl _)).mono ?_; rintro e W2 ⟨rfl, hk2⟩)
    | (go_at_call 145; refine (or2_any x y _ _ _ (by go_simp) (by go_simp)).mono ?_; rintro e W3 ⟨rfl, hk3⟩; rw [HO.out]))
  go_ret
  refine ⟨rfl, ?_⟩
  exact kept_trans (kept_alloc hk2 _) hk3
end Go.Proofs.YthkcgengohoboaaGreatDoor
set_option linter.all false
namespace Go.Proofs.YthkcgengohoboaaGreatDoor
open Go.RowKit Go.Sort Go.Rg
set_option maxRecDepth 100000

/-- a list of lists that can be read -/
def ListsAt (w : World) (v : Value) (L : List (List Nat)) : Prop :=
  ∃ b cap, v = .slice (some ⟨b, 0, none⟩) L.length cap ∧ ∀ i l, L[i]? = some l → ∃ x, w.cell? ⟨b, i, none⟩ = some x ∧ ListAt w x l
def minStep (m l : List Nat) : List Nat := if ordC l m < 0 then l else m
def minL : List (List Nat) → List Nat
  | [] => []
  | l :: L => L.foldl minStep l
theorem minL_succ (L : List (List Nat)) (k : Nat) (l : List Nat) (h : L[k]? = some l) (hk : 0 < k) : minL (L.take (k + 1)) = minStep (minL (L.take k)) l := by
  cases L with
  | nil => simp at h
  | cons a L =>
    obtain ⟨k, rfl⟩ : ∃ j, k = j + 1 := ⟨k - 1, by omega⟩
    simp only [List.getElem?_cons_succ] at h
    simp only [List.take_succ_cons, minL]
    rw [List.take_add_one, h]
    simp

set_option maxHeartbeats 2000000 in
theorem min_any (v : Value) (L : List (List Nat)) (w : World) (h : ListsAt w v L) (h0 : L ≠ []) (hl : ∀ l ∈ L, l.length ≤ 100) (hL : L.length ≤ 100000) :
    Calls Tryz.prog 143 #[v, .func (.func 160) #[] #[]] w fun e w' => ∃ x, e = .returned x ∧ Kept w w' ∧ ListAt w' x (minL L) := by
  obtain ⟨b, cap, rfl, hc⟩ := h
  have hlen : 0 < L.length := List.length_pos_iff.2 h0
  have hlt1 : ¬ (L.length : Int) < 1 := by omega
  have hltn : 0 < (L.length : Int) := by omega
  obtain ⟨x0, hx0, hx0l⟩ := hc 0 L[0] (List.getElem?_eq_getElem hlen)
  have hm0 : minL (L.take 1) = L[0] := by
    cases L with
    | nil => exact absurd rfl h0
    | cons a L => rfl
  rw [← hm0] at hx0l
  go_enter Tryz.func143, Tryz.ntmps143
  go_wp2_with fail
  go_loopw [5, 6] (fun m i W => ∃ k : Nat, 0 < k ∧ k ≤ L.length ∧ i = .int .i64 k ∧ ListAt W m (minL (L.take k)) ∧ Kept w W) (fun m i W => L.length - (intOf i).toNat)
  case atStart => exact ⟨1, by omega, by omega, rfl, hx0l, kept_refl _⟩
  case round =>
    obtain ⟨k, hk0, hk, rfl, hm, hkW⟩ := hrel
    by_cases hlt : k < L.length
    · have hltI : (k : Int) < L.length := by omega
      have hget : L[k]? = some L[k] := List.getElem?_eq_getElem hlt
      have hmin := minL_succ L k _ hget hk0
      have hml : ∀ j, j < k → (minL (L.take (j + 1))).length ≤ 100 := by
        intro j
        induction j with
        | zero => intro _; rw [hm0]; exact hl _ (List.getElem_mem _)
        | succ j ih =>
          intro hj
          rw [minL_succ L (j + 1) L[j + 1] (List.getElem?_eq_getElem (by omega)) (by omega)]
          unfold minStep
          split
          · exact hl _ (List.getElem_mem _)
          · exact ih (by omega)
      have hml2 := hml (k - 1) (by omega)
      rw [show k - 1 + 1 = k by omega] at hml2
      have hlk := hl _ (List.getElem_mem hlt)
      obtain ⟨x, hx, hxl⟩ := hc k L[k] hget
      generalize L[k] = l at *
      replace hx := kcell hkW hx
      replace hxl := hxl.kept hkW
      have HC := Lib.hid (ord_any x u5 l (minL (L.take k)) wr hxl hm hlk hml2)
      by_cases hneg : ordC l (minL (L.take k)) < 0
      · have hn : decide (ordC l (minL (L.take k)) < 0) = true := by simpa using hneg
        have HM := Lib.hid (show minL (L.take (k + 1)) = l by rw [hmin]; simp [minStep, hneg])
        have HX := Lib.hid hxl
        generalize ordC l (minL (L.take k)) = c at *
        clear hml hml2 hmin hm0 hm hx0l hxl hneg
        go_wp2_with (go_at_call 160; refine HC.out.mono ?_; rintro e W2 ⟨rfl, hk2⟩; have hx := kcell hk2 hx)
        go_roundw
        case rel => exact ⟨k + 1, by omega, by omega, by go_num, by rw [HM.out]; exact HX.out.kept hk2, kept_trans hkW hk2⟩
        case measure => simp [intOf]; omega
      · have hn : decide (ordC l (minL (L.take k)) < 0) = false := by simpa using hneg
        have HM := Lib.hid (show minL (L.take (k + 1)) = minL (L.take k) by rw [hmin]; simp [minStep, hneg])
        have HX := Lib.hid hm
        generalize ordC l (minL (L.take k)) = c at *
        clear hml hml2 hmin hm0 hm hx0l hxl hneg
        go_wp2_with (go_at_call 160; refine HC.out.mono ?_; rintro e W2 ⟨rfl, hk2⟩)
        go_roundw
        case rel => exact ⟨k + 1, by omega, by omega, by go_num, by rw [HM.out]; exact HX.out.kept hk2, kept_trans hkW hk2⟩
        case measure => simp [intOf]; omega
    · have hltI : ¬ (k : Int) < L.length := by omega
      have hke : L.take k = L := List.take_of_length_le (by omega)
      rw [hke] at hm
      have HX := Lib.hid hm; clear hm hx0l hm0
      go_wp2_with fail
      go_ret
      exact ⟨u5, rfl, hkW, HX.out⟩
end Go.Proofs.YthkcgengohoboaaGreatDoor
set_option linter.all false
namespace Go.Proofs.YthkcgengohoboaaGreatDoor
open Go.RowKit Go.Sort Go.Rg
set_option maxRecDepth 100000

def TBn (n : List Int) (loss : Int) (t : Trial) : Bool := TB (n.getD 0 0) (n.getD 1 0) (n.getD 2 0) (n.getD 3 0) (n.getD 4 0) loss t
def belB (B : Book) (boy : Nat) (x : Boy) (n : List Int) (i : Nat) : Bool := match B.trials[i]? with
  | some t => decide (t.boy = (boy : Int)) && TBn n x.ls t
  | none => false
/-- the trials of a boy that a truth belies, among the first k -/
def belL (B : Book) (boy : Nat) (x : Boy) (n : List Int) (k : Nat) : List Nat := (List.range k).filter (belB B boy x n)
theorem belL_succ (B : Book) (boy : Nat) (x : Boy) (n : List Int) (k : Nat) : belL B boy x n (k + 1) = belL B boy x n k ++ (if belB B boy x n k then [k] else []) := by
  unfold belL
  rw [List.range_succ, List.filter_append]
  congr 1
  simp only [List.filter_cons, List.filter_nil]
theorem belL_len (B : Book) (boy : Nat) (x : Boy) (n : List Int) (k : Nat) : (belL B boy x n k).length ≤ k := by
  have := List.length_filter_le (belB B boy x n) (List.range k)
  simpa [belL] using this

set_option maxHeartbeats 4000000 in
theorem belied_any (S : Nat → Prop) (c : Choir) (boy : Nat) (x : Boy) (hx : c.B.boys[boy]? = some x) (W : World) (h : ChoirAt S W c) (S2 : Nat → Prop) (cc : Choir) (hcc : ChoirAt S2 W cc) (hx2 : cc.B.boys[boy]? = some x) (n0 n1 n2 n3 n4 : Int) (hr : Rng x.lo x.hi [n0, n1, n2, n3, n4]) :
    Calls Tryz.prog 159 #[c.val, .agg #[.slice (some ⟨cc.bb, cc.ob, none⟩) cc.B.boys.length cc.capb, .int .i64 cc.B.weeks, .slice cc.q cc.B.trials.length cc.capt, .map (some cc.bm), .int .i64 (boy : Int), .int .i64 n0, .int .i64 n1, .int .i64 n2, .int .i64 n3, .int .i64 n4]] W fun e B => ∃ v, e = .returned v ∧ Kept W B ∧ B.ownsRow W.heap.size 3 1 v (belL c.B boy x [n0, n1, n2, n3, n4] c.B.trials.length).length (intsV (belL c.B boy x [n0, n1, n2, n3, n4] c.B.trials.length)) := by
  have hbl : boy < c.B.boys.length := (List.getElem?_eq_some_iff.1 hx).1
  have hok := h.ok
  simp only [Book.okB, inB, Bool.and_eq_true, decide_eq_true_eq, List.all_eq_true] at hok
  obtain ⟨⟨⟨⟨⟨hb1, hb4⟩, hw1, hw6⟩, ht6⟩, hbo⟩, hto⟩ := hok
  have hxo := hbo x (List.mem_of_getElem? hx)
  obtain ⟨hsp, hls⟩ := spanAt_ok x hxo
  have r1 := hr 1 n1 rfl
  have r2 := hr 2 n2 rfl
  have r3 := hr 3 n3 rfl
  have s1 := hsp 1 (by omega)
  have s2 := hsp 2 (by omega)
  have s3 := hsp 3 (by omega)
  have q1 : 0 ≤ n1 ∧ n1 ≤ 100 := by omega
  have q2 : 0 ≤ n2 ∧ n2 ≤ 100 := by omega
  have q3 : 0 ≤ n3 ∧ n3 ≤ 100 := by omega
  have q5 : 0 ≤ x.ls ∧ x.ls ≤ 100 := by omega
  have hTO : Hid (∀ t ∈ c.B.trials, 0 ≤ t.week ∧ t.week ≤ 100) := Lib.hid (fun t ht => by
    have := hto t ht
    simp only [validTrialB, inB, Bool.and_eq_true, decide_eq_true_eq] at this
    omega)
  clear hbo hto hxo hsp r1 r2 r3 s1 s2 s3 hr
  obtain ⟨i0, hi, hiz, his, hib⟩ := info_parts infoI
  unfold Choir.val
  have hls8 := (hcc.boys.2 boy x hx2).2.2.2.2.2.2.2.2.1
  have hbb := hcc.boys.1
  have hbl2 : boy < cc.B.boys.length := (List.getElem?_eq_some_iff.1 hx2).1
  have hb42 : cc.B.boys.length ≤ 4 := by
    have := hcc.ok
    simp only [Book.okB, inB, Bool.and_eq_true, decide_eq_true_eq] at this
    omega
  have htr := h.trials
  generalize c.q = q at *
  have HTR := Lib.hid htr; clear htr
  have hk0 : Kept W ((W.alloc (Obj.cells #[.slice (some ⟨c.bb, c.ob, none⟩) c.B.boys.length c.capb, .int .i64 c.B.weeks, .slice q c.B.trials.length c.capt, .map (some c.bm)] 93)).alloc (Obj.cells #[.slice (some ⟨cc.bb, cc.ob, none⟩) cc.B.boys.length cc.capb, .int .i64 cc.B.weeks, .slice cc.q cc.B.trials.length cc.capt, .map (some cc.bm), .int .i64 (boy : Int), .int .i64 n0, .int .i64 n1, .int .i64 n2, .int .i64 n3, .int .i64 n4] 110)) := kept_alloc (kept_alloc (kept_refl _) _) _
  have hz0 : ((W.alloc (Obj.cells #[.slice (some ⟨c.bb, c.ob, none⟩) c.B.boys.length c.capb, .int .i64 c.B.weeks, .slice q c.B.trials.length c.capt, .map (some c.bm)] 93)).alloc (Obj.cells #[.slice (some ⟨cc.bb, cc.ob, none⟩) cc.B.boys.length cc.capb, .int .i64 cc.B.weeks, .slice cc.q cc.B.trials.length cc.capt, .map (some cc.bm), .int .i64 (boy : Int), .int .i64 n0, .int .i64 n1, .int .i64 n2, .int .i64 n3, .int .i64 n4] 110)).heap.size = W.heap.size + 1 + 1 := by simp
  have c0 : ((W.alloc (Obj.cells #[.slice (some ⟨c.bb, c.ob, none⟩) c.B.boys.length c.capb, .int .i64 c.B.weeks, .slice q c.B.trials.length c.capt, .map (some c.bm)] 93)).alloc (Obj.cells #[.slice (some ⟨cc.bb, cc.ob, none⟩) cc.B.boys.length cc.capb, .int .i64 cc.B.weeks, .slice cc.q cc.B.trials.length cc.capt, .map (some cc.bm), .int .i64 (boy : Int), .int .i64 n0, .int .i64 n1, .int .i64 n2, .int .i64 n3, .int .i64 n4] 110)).cell? ⟨W.heap.size, 0, none⟩ = some (.slice (some ⟨c.bb, c.ob, none⟩) c.B.boys.length c.capb) := by go_simp
  have c1 : ((W.alloc (Obj.cells #[.slice (some ⟨c.bb, c.ob, none⟩) c.B.boys.length c.capb, .int .i64 c.B.weeks, .slice q c.B.trials.length c.capt, .map (some c.bm)] 93)).alloc (Obj.cells #[.slice (some ⟨cc.bb, cc.ob, none⟩) cc.B.boys.length cc.capb, .int .i64 cc.B.weeks, .slice cc.q cc.B.trials.length cc.capt, .map (some cc.bm), .int .i64 (boy : Int), .int .i64 n0, .int .i64 n1, .int .i64 n2, .int .i64 n3, .int .i64 n4] 110)).cell? ⟨W.heap.size, 1, none⟩ = some (.int .i64 c.B.weeks) := by go_simp
  have c2 : ((W.alloc (Obj.cells #[.slice (some ⟨c.bb, c.ob, none⟩) c.B.boys.length c.capb, .int .i64 c.B.weeks, .slice q c.B.trials.length c.capt, .map (some c.bm)] 93)).alloc (Obj.cells #[.slice (some ⟨cc.bb, cc.ob, none⟩) cc.B.boys.length cc.capb, .int .i64 cc.B.weeks, .slice cc.q cc.B.trials.length cc.capt, .map (some cc.bm), .int .i64 (boy : Int), .int .i64 n0, .int .i64 n1, .int .i64 n2, .int .i64 n3, .int .i64 n4] 110)).cell? ⟨W.heap.size, 2, none⟩ = some (.slice q c.B.trials.length c.capt) := by go_simp
  have c3 : ((W.alloc (Obj.cells #[.slice (some ⟨c.bb, c.ob, none⟩) c.B.boys.length c.capb, .int .i64 c.B.weeks, .slice q c.B.trials.length c.capt, .map (some c.bm)] 93)).alloc (Obj.cells #[.slice (some ⟨cc.bb, cc.ob, none⟩) cc.B.boys.length cc.capb, .int .i64 cc.B.weeks, .slice cc.q cc.B.trials.length cc.capt, .map (some cc.bm), .int .i64 (boy : Int), .int .i64 n0, .int .i64 n1, .int .i64 n2, .int .i64 n3, .int .i64 n4] 110)).cell? ⟨W.heap.size, 3, none⟩ = some (.map (some c.bm)) := by go_simp
  have d0 : ((W.alloc (Obj.cells #[.slice (some ⟨c.bb, c.ob, none⟩) c.B.boys.length c.capb, .int .i64 c.B.weeks, .slice q c.B.trials.length c.capt, .map (some c.bm)] 93)).alloc (Obj.cells #[.slice (some ⟨cc.bb, cc.ob, none⟩) cc.B.boys.length cc.capb, .int .i64 cc.B.weeks, .slice cc.q cc.B.trials.length cc.capt, .map (some cc.bm), .int .i64 (boy : Int), .int .i64 n0, .int .i64 n1, .int .i64 n2, .int .i64 n3, .int .i64 n4] 110)).cell? ⟨W.heap.size + 1, 0, none⟩ = some (.slice (some ⟨cc.bb, cc.ob, none⟩) cc.B.boys.length cc.capb) := by go_simp
  have d1 : ((W.alloc (Obj.cells #[.slice (some ⟨c.bb, c.ob, none⟩) c.B.boys.length c.capb, .int .i64 c.B.weeks, .slice q c.B.trials.length c.capt, .map (some c.bm)] 93)).alloc (Obj.cells #[.slice (some ⟨cc.bb, cc.ob, none⟩) cc.B.boys.length cc.capb, .int .i64 cc.B.weeks, .slice cc.q cc.B.trials.length cc.capt, .map (some cc.bm), .int .i64 (boy : Int), .int .i64 n0, .int .i64 n1, .int .i64 n2, .int .i64 n3, .int .i64 n4] 110)).cell? ⟨W.heap.size + 1, 1, none⟩ = some (.int .i64 cc.B.weeks) := by go_simp
  have d2 : ((W.alloc (Obj.cells #[.slice (some ⟨c.bb, c.ob, none⟩) c.B.boys.length c.capb, .int .i64 c.B.weeks, .slice q c.B.trials.length c.capt, .map (some c.bm)] 93)).alloc (Obj.cells #[.slice (some ⟨cc.bb, cc.ob, none⟩) cc.B.boys.length cc.capb, .int .i64 cc.B.weeks, .slice cc.q cc.B.trials.length cc.capt, .map (some cc.bm), .int .i64 (boy : Int), .int .i64 n0, .int .i64 n1, .int .i64 n2, .int .i64 n3, .int .i64 n4] 110)).cell? ⟨W.heap.size + 1, 2, none⟩ = some (.slice cc.q cc.B.trials.length cc.capt) := by go_simp
  have d3 : ((W.alloc (Obj.cells #[.slice (some ⟨c.bb, c.ob, none⟩) c.B.boys.length c.capb, .int .i64 c.B.weeks, .slice q c.B.trials.length c.capt, .map (some c.bm)] 93)).alloc (Obj.cells #[.slice (some ⟨cc.bb, cc.ob, none⟩) cc.B.boys.length cc.capb, .int .i64 cc.B.weeks, .slice cc.q cc.B.trials.length cc.capt, .map (some cc.bm), .int .i64 (boy : Int), .int .i64 n0, .int .i64 n1, .int .i64 n2, .int .i64 n3, .int .i64 n4] 110)).cell? ⟨W.heap.size + 1, 3, none⟩ = some (.map (some cc.bm)) := by go_simp
  have d4 : ((W.alloc (Obj.cells #[.slice (some ⟨c.bb, c.ob, none⟩) c.B.boys.length c.capb, .int .i64 c.B.weeks, .slice q c.B.trials.length c.capt, .map (some c.bm)] 93)).alloc (Obj.cells #[.slice (some ⟨cc.bb, cc.ob, none⟩) cc.B.boys.length cc.capb, .int .i64 cc.B.weeks, .slice cc.q cc.B.trials.length cc.capt, .map (some cc.bm), .int .i64 (boy : Int), .int .i64 n0, .int .i64 n1, .int .i64 n2, .int .i64 n3, .int .i64 n4] 110)).cell? ⟨W.heap.size + 1, 4, none⟩ = some (.int .i64 (boy : Int)) := by go_simp
  have d5 : ((W.alloc (Obj.cells #[.slice (some ⟨c.bb, c.ob, none⟩) c.B.boys.length c.capb, .int .i64 c.B.weeks, .slice q c.B.trials.length c.capt, .map (some c.bm)] 93)).alloc (Obj.cells #[.slice (some ⟨cc.bb, cc.ob, none⟩) cc.B.boys.length cc.capb, .int .i64 cc.B.weeks, .slice cc.q cc.B.trials.length cc.capt, .map (some cc.bm), .int .i64 (boy : Int), .int .i64 n0, .int .i64 n1, .int .i64 n2, .int .i64 n3, .int .i64 n4] 110)).cell? ⟨W.heap.size + 1, 5, none⟩ = some (.int .i64 n0) := by go_simp
  have d6 : ((W.alloc (Obj.cells #[.slice (some ⟨c.bb, c.ob, none⟩) c.B.boys.length c.capb, .int .i64 c.B.weeks, .slice q c.B.trials.length c.capt, .map (some c.bm)] 93)).alloc (Obj.cells #[.slice (some ⟨cc.bb, cc.ob, none⟩) cc.B.boys.length cc.capb, .int .i64 cc.B.weeks, .slice cc.q cc.B.trials.length cc.capt, .map (some cc.bm), .int .i64 (boy : Int), .int .i64 n0, .int .i64 n1, .int .i64 n2, .int .i64 n3, .int .i64 n4] 110)).cell? ⟨W.heap.size + 1, 6, none⟩ = some (.int .i64 n1) := by go_simp
  have d7 : ((W.alloc (Obj.cells #[.slice (some ⟨c.bb, c.ob, none⟩) c.B.boys.length c.capb, .int .i64 c.B.weeks, .slice q c.B.trials.length c.capt, .map (some c.bm)] 93)).alloc (Obj.cells #[.slice (some ⟨cc.bb, cc.ob, none⟩) cc.B.boys.length cc.capb, .int .i64 cc.B.weeks, .slice cc.q cc.B.trials.length cc.capt, .map (some cc.bm), .int .i64 (boy : Int), .int .i64 n0, .int .i64 n1, .int .i64 n2, .int .i64 n3, .int .i64 n4] 110)).cell? ⟨W.heap.size + 1, 7, none⟩ = some (.int .i64 n2) := by go_simp
  have d8 : ((W.alloc (Obj.cells #[.slice (some ⟨c.bb, c.ob, none⟩) c.B.boys.length c.capb, .int .i64 c.B.weeks, .slice q c.B.trials.length c.capt, .map (some c.bm)] 93)).alloc (Obj.cells #[.slice (some ⟨cc.bb, cc.ob, none⟩) cc.B.boys.length cc.capb, .int .i64 cc.B.weeks, .slice cc.q cc.B.trials.length cc.capt, .map (some cc.bm), .int .i64 (boy : Int), .int .i64 n0, .int .i64 n1, .int .i64 n2, .int .i64 n3, .int .i64 n4] 110)).cell? ⟨W.heap.size + 1, 8, none⟩ = some (.int .i64 n3) := by go_simp
  have d9 : ((W.alloc (Obj.cells #[.slice (some ⟨c.bb, c.ob, none⟩) c.B.boys.length c.capb, .int .i64 c.B.weeks, .slice q c.B.trials.length c.capt, .map (some c.bm)] 93)).alloc (Obj.cells #[.slice (some ⟨cc.bb, cc.ob, none⟩) cc.B.boys.length cc.capb, .int .i64 cc.B.weeks, .slice cc.q cc.B.trials.length cc.capt, .map (some cc.bm), .int .i64 (boy : Int), .int .i64 n0, .int .i64 n1, .int .i64 n2, .int .i64 n3, .int .i64 n4] 110)).cell? ⟨W.heap.size + 1, 9, none⟩ = some (.int .i64 n4) := by go_simp
  go_enter Tryz.func159, Tryz.ntmps159
  go_wp2_with fail
  generalize ((W.alloc (Obj.cells #[.slice (some ⟨c.bb, c.ob, none⟩) c.B.boys.length c.capb, .int .i64 c.B.weeks, .slice q c.B.trials.length c.capt, .map (some c.bm)] 93)).alloc (Obj.cells #[.slice (some ⟨cc.bb, cc.ob, none⟩) cc.B.boys.length cc.capb, .int .i64 cc.B.weeks, .slice cc.q cc.B.trials.length cc.capt, .map (some cc.bm), .int .i64 (boy : Int), .int .i64 n0, .int .i64 n1, .int .i64 n2, .int .i64 n3, .int .i64 n4] 110)) = V0 at *
  go_loopw [5, 12] (fun v i V => ∃ j : Nat, j ≤ c.B.trials.length ∧ i = .int .i64 j ∧ V.ownsRow V0.heap.size 3 1 v (belL c.B boy x [n0, n1, n2, n3, n4] j).length (intsV (belL c.B boy x [n0, n1, n2, n3, n4] j)) ∧ Kept V0 V) (fun v i V => c.B.trials.length - (intOf i).toNat)
  case atStart => exact ⟨0, by omega, rfl, World.ownsRow_nil _ _ _ _, kept_refl _⟩
  case round =>
    obtain ⟨j, hj, rfl, hrow, hV⟩ := hrel
    have hkV := kept_trans hk0 hV
    by_cases hlt : j < c.B.trials.length
    · have hltI : (j : Int) < c.B.trials.length := by omega
      have hget : c.B.trials[j]? = some c.B.trials[j] := List.getElem?_eq_getElem hlt
      have h4 := hTO.out _ (List.getElem_mem hlt)
      generalize c.B.trials[j] = t at *
      rcases HTR.out with e | ⟨tb, tof, eq, _, hT⟩
      · rw [e] at hlt; simp at hlt
      subst eq
      obtain ⟨t0, t1, t2, t3⟩ := (hT.kept hkV).2 j t hget
      have hbB : belB c.B boy x [n0, n1, n2, n3, n4] j = (decide (t.boy = (boy : Int)) && beliesB n0 n1 n2 n3 n4 x.ls t.week t.note t.sang) := by
        unfold belB; rw [hget]; rfl
      have hsucc := belL_succ c.B boy x [n0, n1, n2, n3, n4] j
      rw [hbB] at hsucc
      have hslen := belL_len c.B boy x [n0, n1, n2, n3, n4] j
      have hcL := kcell hkV hls8
      have hbW := Nat.lt_of_lt_of_le hbb hkV.size
      have hzV := hV.size
      have a0 := kcell hV d0
      have a1 := kcell hV d1
      have a2 := kcell hV d2
      have a3 := kcell hV d3
      have a4 := kcell hV d4
      have a5 := kcell hV d5
      have a6 := kcell hV d6
      have a7 := kcell hV d7
      have a8 := kcell hV d8
      have a9 := kcell hV d9
      have hb1 := Go.Ai.lt_of_cell a4
      have hb2 := Go.Ai.lt_of_cell t0
      clear c0 c1 c2 c3 d0 d1 d2 d3 d4 d5 d6 d7 d8 d9 hget hbB
      have hwr : Kept wr ((wr.alloc (Obj.cells #[.int .i64 t.boy, .int .i64 t.week, .int .i64 t.note, .int .i64 t.sang] 49))) := kept_alloc (kept_refl _) _
      by_cases hown : t.boy = (boy : Int)
      · have hob : (t.boy == (boy : Int)) = true := by simpa using hown
        have hcall := fun V (k : Kept wr V) => belies_any cc.bb cc.ob cc.B.boys.length cc.capb (.int .i64 cc.B.weeks) (.slice cc.q cc.B.trials.length cc.capt) (.map (some cc.bm)) boy n0 n1 n2 n3 n4 x.ls t.boy t.week t.note t.sang V hbl2 hb42 (kcell k hcL) (Nat.lt_of_lt_of_le hbW k.size) q1 q2 q3 h4 q5
        rw [show decide (t.boy = (boy : Int)) = true by simpa using hown, Bool.true_and] at hsucc
        have HCALL := Lib.hid hcall; clear hcall
        generalize beliesB n0 n1 n2 n3 n4 x.ls t.week t.note t.sang = bb at *
        cases bb with
        | true =>
          rw [if_pos rfl] at hsucc
          have HS := Lib.hid hsucc; clear hsucc hown
          have HROW := Lib.hid hrow; clear hrow
          go_wp2_with (first
            | (go_at_call 181; refine (HCALL.out _ (kept_alloc (kept_refl _) _)).mono ?_; rintro e V2 ⟨rfl, hk2⟩
               have hkw2 := kept_trans hwr hk2
               have hrow2 := HROW.out.kept (row := none) ⟨hkw2.os, hkw2.tape, hkw2.output, hkw2.size, fun i hi _ => hkw2.block i hi⟩ (by cases u5.ownBlock <;> simp)
               have hbase : V0.heap.size ≤ V2.heap.size := Nat.le_trans hzV hkw2.size)
            | (at_builtin; refine wpList_append_lies _ rfl _ _ 41 rfl V0.heap.size 3 i0 _ 1 8 Tryz.underlying41 hi hiz his hib rfl (by decide) u5 (belL c.B boy x [n0, n1, n2, n3, n4] j).length _ rfl (hrow2.alloc _) ⟨V2.heap.size, 0, none⟩ 1 1 [.int .i64 (j : Int)] rfl rfl (cell_one_new _ _ _) (by simp [Value.oneCell']) (by decide) (by unfold maxLen; omega) (by omega) (by simp; omega) _ rfl ?_; intro g2 cap2 V3 hown hgrow hat hlt3))
          have hkV3 : Kept V0 V3 := by
            refine Below.trans (kept_trans (kept_trans hV hkw2) (kept_alloc (kept_refl _) (Obj.cells #[.int .i64 (j : Int)] 3))) ⟨hgrow.os, hgrow.tape, hgrow.output, hgrow.size, fun k hk => hgrow.block k (by simp; omega) (fun e => ?_)⟩
            have := (hrow2.lt k e.symm).1
            omega
          go_roundw
          case rel =>
            refine ⟨j + 1, by omega, by go_num, ?_, hkV3⟩
            rw [HS.out]
            simpa [intsV] using hown
          case measure => simp [intOf]; omega
        | false =>
          rw [if_neg Bool.false_ne_true, List.append_nil] at hsucc
          have HS := Lib.hid hsucc; clear hsucc hown
          have HROW := Lib.hid hrow; clear hrow
          go_wp2_with (go_at_call 181; refine (HCALL.out _ (kept_alloc (kept_refl _) _)).mono ?_; rintro e V2 ⟨rfl, hk2⟩; have hkw2 := kept_trans hwr hk2)
          have hrow2 := HROW.out.kept (row := none) ⟨hkw2.os, hkw2.tape, hkw2.output, hkw2.size, fun i hi _ => hkw2.block i hi⟩ (by cases u5.ownBlock <;> simp)
          go_roundw
          case rel => exact ⟨j + 1, by omega, by go_num, by rw [HS.out]; exact hrow2, kept_trans hV hkw2⟩
          case measure => simp [intOf]; omega
      · have hob : (t.boy == (boy : Int)) = false := by simpa using hown
        rw [show decide (t.boy = (boy : Int)) = false by simpa using hown, Bool.false_and, if_neg Bool.false_ne_true, List.append_nil] at hsucc
        have HS := Lib.hid hsucc; clear hsucc hown
        have HROW := Lib.hid hrow; clear hrow
        go_wp2_with fail
        have hrow2 := HROW.out.kept (row := none) ⟨hwr.os, hwr.tape, hwr.output, hwr.size, fun i hi _ => hwr.block i hi⟩ (by cases u5.ownBlock <;> simp)
        go_roundw
        case rel => exact ⟨j + 1, by omega, by go_num, by rw [HS.out]; exact hrow2, kept_trans hV hwr⟩
        case measure => simp [intOf]; omega
    · have hltI : ¬ (j : Int) < c.B.trials.length := by omega
      have hje : j = c.B.trials.length := by omega
      have HROW := Lib.hid hrow; clear hrow
      go_wp2_with fail
      go_ret
      refine ⟨_, rfl, hkV, ?_⟩
      rw [← hje]
      exact row_le HROW.out (by omega)
end Go.Proofs.YthkcgengohoboaaGreatDoor
set_option linter.all false
namespace Go.Proofs.YthkcgengohoboaaGreatDoor
open Go.RowKit Go.Sort Go.Rg
open Go.ChangeMaps (setBlock)
set_option maxRecDepth 100000

set_option maxHeartbeats 4000000 in
theorem newChoir_in (S0 : Nat → Prop) (p q : Option Addr) (cap capt : Nat) (B : Book) (W : World) (hok : B.okB = true) (hb : BookAt W p q cap capt B) (hSb : ∀ b o, p = some ⟨b, o, none⟩ → S0 b) (hSt : B.trials ≠ [] → ∀ b o, q = some ⟨b, o, none⟩ → S0 b) :
    Calls Tryz.prog 58 #[.agg #[.slice p B.boys.length cap, .int .i64 B.weeks, .slice q B.trials.length capt]] W fun e C => ∃ c : Choir, c.B = B ∧ e = .returned c.val ∧ Kept W C ∧ ChoirAt (fun b => b < C.heap.size ∧ (S0 b ∨ W.heap.size ≤ b)) C c := by
  have h := hb
  have hmm := @run_makeMap Tryz.prog
  go_enter Tryz.func58, Tryz.ntmps58
  go_wp2_with fail
  have hk0 : Kept W ((((W.alloc (Obj.cells #[.slice p B.boys.length cap, .int .i64 B.weeks, .slice q B.trials.length capt] 25)).alloc (Obj.cells #[.slice none 0 0, .int .i64 0, .slice none 0 0, .map none] 93)).alloc (Obj.map #[] 0)).alloc (Obj.cells #[.slice p B.boys.length cap, .int .i64 B.weeks, .slice q B.trials.length capt, .map (some (W.heap.size + 1 + 1))] 93)) := kept_alloc (kept_alloc (kept_alloc (kept_alloc (kept_refl _) _) _) _) _
  have hz0 : ((((W.alloc (Obj.cells #[.slice p B.boys.length cap, .int .i64 B.weeks, .slice q B.trials.length capt] 25)).alloc (Obj.cells #[.slice none 0 0, .int .i64 0, .slice none 0 0, .map none] 93)).alloc (Obj.map #[] 0)).alloc (Obj.cells #[.slice p B.boys.length cap, .int .i64 B.weeks, .slice q B.trials.length capt, .map (some (W.heap.size + 1 + 1))] 93)).heap.size = W.heap.size + 4 := by simp
  have hmap : ((((W.alloc (Obj.cells #[.slice p B.boys.length cap, .int .i64 B.weeks, .slice q B.trials.length capt] 25)).alloc (Obj.cells #[.slice none 0 0, .int .i64 0, .slice none 0 0, .map none] 93)).alloc (Obj.map #[] 0)).alloc (Obj.cells #[.slice p B.boys.length cap, .int .i64 B.weeks, .slice q B.trials.length capt, .map (some (W.heap.size + 1 + 1))] 93)).heap[W.heap.size + 1 + 1]? = some (.map #[] 0) := by
    have h1 := World.alloc_heap_new ((W.alloc (Obj.cells #[.slice p B.boys.length cap, .int .i64 B.weeks, .slice q B.trials.length capt] 25)).alloc (Obj.cells #[.slice none 0 0, .int .i64 0, .slice none 0 0, .map none] 93)) (Obj.map #[] 0)
    simp only [World.size_alloc] at h1
    exact (Below.heap_alloc _ _ _ (by simp)).trans h1
  have c0 : ((((W.alloc (Obj.cells #[.slice p B.boys.length cap, .int .i64 B.weeks, .slice q B.trials.length capt] 25)).alloc (Obj.cells #[.slice none 0 0, .int .i64 0, .slice none 0 0, .map none] 93)).alloc (Obj.map #[] 0)).alloc (Obj.cells #[.slice p B.boys.length cap, .int .i64 B.weeks, .slice q B.trials.length capt, .map (some (W.heap.size + 1 + 1))] 93)).cell? ⟨W.heap.size + 1 + 1 + 1, 0, none⟩ = some (.slice p B.boys.length cap) := by go_simp
  have c1 : ((((W.alloc (Obj.cells #[.slice p B.boys.length cap, .int .i64 B.weeks, .slice q B.trials.length capt] 25)).alloc (Obj.cells #[.slice none 0 0, .int .i64 0, .slice none 0 0, .map none] 93)).alloc (Obj.map #[] 0)).alloc (Obj.cells #[.slice p B.boys.length cap, .int .i64 B.weeks, .slice q B.trials.length capt, .map (some (W.heap.size + 1 + 1))] 93)).cell? ⟨W.heap.size + 1 + 1 + 1, 1, none⟩ = some (.int .i64 B.weeks) := by go_simp
  have c2 : ((((W.alloc (Obj.cells #[.slice p B.boys.length cap, .int .i64 B.weeks, .slice q B.trials.length capt] 25)).alloc (Obj.cells #[.slice none 0 0, .int .i64 0, .slice none 0 0, .map none] 93)).alloc (Obj.map #[] 0)).alloc (Obj.cells #[.slice p B.boys.length cap, .int .i64 B.weeks, .slice q B.trials.length capt, .map (some (W.heap.size + 1 + 1))] 93)).cell? ⟨W.heap.size + 1 + 1 + 1, 2, none⟩ = some (.slice q B.trials.length capt) := by go_simp
  have c3 : ((((W.alloc (Obj.cells #[.slice p B.boys.length cap, .int .i64 B.weeks, .slice q B.trials.length capt] 25)).alloc (Obj.cells #[.slice none 0 0, .int .i64 0, .slice none 0 0, .map none] 93)).alloc (Obj.map #[] 0)).alloc (Obj.cells #[.slice p B.boys.length cap, .int .i64 B.weeks, .slice q B.trials.length capt, .map (some (W.heap.size + 1 + 1))] 93)).cell? ⟨W.heap.size + 1 + 1 + 1, 3, none⟩ = some (.map (some (W.heap.size + 1 + 1))) := by go_simp
  have d0 : ((((W.alloc (Obj.cells #[.slice p B.boys.length cap, .int .i64 B.weeks, .slice q B.trials.length capt] 25)).alloc (Obj.cells #[.slice none 0 0, .int .i64 0, .slice none 0 0, .map none] 93)).alloc (Obj.map #[] 0)).alloc (Obj.cells #[.slice p B.boys.length cap, .int .i64 B.weeks, .slice q B.trials.length capt, .map (some (W.heap.size + 1 + 1))] 93)).cell? ⟨W.heap.size + 1, 0, none⟩ = some (.slice none 0 0) := by go_simp
  have d1 : ((((W.alloc (Obj.cells #[.slice p B.boys.length cap, .int .i64 B.weeks, .slice q B.trials.length capt] 25)).alloc (Obj.cells #[.slice none 0 0, .int .i64 0, .slice none 0 0, .map none] 93)).alloc (Obj.map #[] 0)).alloc (Obj.cells #[.slice p B.boys.length cap, .int .i64 B.weeks, .slice q B.trials.length capt, .map (some (W.heap.size + 1 + 1))] 93)).cell? ⟨W.heap.size + 1, 1, none⟩ = some (.int .i64 0) := by go_simp
  have d2 : ((((W.alloc (Obj.cells #[.slice p B.boys.length cap, .int .i64 B.weeks, .slice q B.trials.length capt] 25)).alloc (Obj.cells #[.slice none 0 0, .int .i64 0, .slice none 0 0, .map none] 93)).alloc (Obj.map #[] 0)).alloc (Obj.cells #[.slice p B.boys.length cap, .int .i64 B.weeks, .slice q B.trials.length capt, .map (some (W.heap.size + 1 + 1))] 93)).cell? ⟨W.heap.size + 1, 2, none⟩ = some (.slice none 0 0) := by go_simp
  have d3 : ((((W.alloc (Obj.cells #[.slice p B.boys.length cap, .int .i64 B.weeks, .slice q B.trials.length capt] 25)).alloc (Obj.cells #[.slice none 0 0, .int .i64 0, .slice none 0 0, .map none] 93)).alloc (Obj.map #[] 0)).alloc (Obj.cells #[.slice p B.boys.length cap, .int .i64 B.weeks, .slice q B.trials.length capt, .map (some (W.heap.size + 1 + 1))] 93)).cell? ⟨W.heap.size + 1, 3, none⟩ = some (.map none) := by go_simp
  have df : ∀ i, ((((W.alloc (Obj.cells #[.slice p B.boys.length cap, .int .i64 B.weeks, .slice q B.trials.length capt] 25)).alloc (Obj.cells #[.slice none 0 0, .int .i64 0, .slice none 0 0, .map none] 93)).alloc (Obj.map #[] 0)).alloc (Obj.cells #[.slice p B.boys.length cap, .int .i64 B.weeks, .slice q B.trials.length capt, .map (some (W.heap.size + 1 + 1))] 93)).frozen? ⟨W.heap.size + 1, i, none⟩ = false := by intro i; go_simp
  generalize ((((W.alloc (Obj.cells #[.slice p B.boys.length cap, .int .i64 B.weeks, .slice q B.trials.length capt] 25)).alloc (Obj.cells #[.slice none 0 0, .int .i64 0, .slice none 0 0, .map none] 93)).alloc (Obj.map #[] 0)).alloc (Obj.cells #[.slice p B.boys.length cap, .int .i64 B.weeks, .slice q B.trials.length capt, .map (some (W.heap.size + 1 + 1))] 93)) = V0 at *
  generalize hcb : W.heap.size + 1 + 1 + 1 = cb at *
  generalize hbm : W.heap.size + 1 + 1 = bm at *
  generalize hrb : W.heap.size + 1 = rb at *
  have hbook : ∀ (i : Nat) (x : Trial), B.trials[i]? = some x → validTrialB B.boys.length B.weeks.toNat x = true := by
    simp only [Book.okB, Bool.and_eq_true, List.all_eq_true] at hok
    exact fun i x hx => hok.2 x (List.mem_of_getElem? hx)
  have hlen : B.boys.length ≤ 4 ∧ B.weeks ≤ 6 ∧ B.trials.length ≤ 6 := by
    simp only [Book.okB, inB, Bool.and_eq_true, decide_eq_true_eq] at hok
    omega
  go_loopw [13] (fun i V => ∃ (j : Nat) (l : List Slot), j ≤ B.trials.length ∧ i = .int .i64 j ∧ Tried V bm (W.heap.size + 4) l (B.trials.take j) ∧ Turns (fun b => b = bm ∨ W.heap.size + 4 ≤ b) V0 V) (fun i V => B.trials.length - (intOf i).toNat)
  case atStart =>
    exact ⟨0, [], by omega, rfl, ⟨hmap, (fun s hs => nomatch hs), (fun i j s t h => by simp at h), (fun s hs => nomatch hs), (fun i j s t h => by simp at h), (fun b k _ _ => .inr ⟨(fun s hs => nomatch hs), rfl⟩)⟩, Turns.refl _ _⟩
  case round =>
    obtain ⟨j, l, hj, rfl, hT, hV⟩ := hrel
    by_cases hlt : j < B.trials.length
    · have hltI : (j : Int) < B.trials.length := by omega
      have hget : B.trials[j]? = some B.trials[j] := List.getElem?_eq_getElem hlt
      generalize B.trials[j] = t at *
      rcases h.trials with h00 | ⟨bT, oT, rfl, hTT⟩
      · rw [h00] at hlt; cases hlt
      have hTV := (hTT.kept hk0).turns hV (by have := hTT.1; omega)
      obtain ⟨t0, t1, t2, t3⟩ := hTV.2 j t hget
      have hbT := hTV.1
      have e3 := tcell hV (by omega) c3
      have hzc := Go.Ai.lt_of_cell e3
      have HT := Lib.hid hT; clear hT
      have HG := Lib.hid hget; clear hget
      have HB := Lib.hid hbook; clear hbook
      have HH := Lib.hid h; clear h
      clear hTT hTV hmap
      have hval := HB.out j t HG.out
      obtain ⟨tb, tw, tn, tg⟩ := t
      simp only [validTrialB, inB, Bool.and_eq_true, decide_eq_true_eq] at hval
      simp only at t0 t1 t2 t3
      obtain ⟨b, rfl⟩ := Int.eq_ofNat_of_zero_le (show 0 ≤ tb by omega)
      obtain ⟨k, rfl⟩ := Int.eq_ofNat_of_zero_le (show 0 ≤ tw by omega)
      have hb4 : b < 4 := by omega
      have hk6 : k < 6 := by omega
      have HV := Lib.hid hval; clear hval
      go_wp2_with fail
      have hk3 : Kept wr (((wr.alloc (Obj.cells #[.int .i64 (b : Int), .int .i64 (k : Int), .int .i64 tn, .int .i64 tg] 49)).alloc (Obj.cells #[.int .i64 (b : Int), .int .i64 (k : Int)] 129)).alloc (Obj.cells #[.int .i64 (b : Int), .int .i64 (k : Int), .int .i64 tn, .int .i64 tg] 49)) := kept_alloc (kept_alloc (kept_alloc (kept_refl _) _) _) _
      have hz3 : (((wr.alloc (Obj.cells #[.int .i64 (b : Int), .int .i64 (k : Int), .int .i64 tn, .int .i64 tg] 49)).alloc (Obj.cells #[.int .i64 (b : Int), .int .i64 (k : Int)] 129)).alloc (Obj.cells #[.int .i64 (b : Int), .int .i64 (k : Int), .int .i64 tn, .int .i64 tg] 49)).heap.size = wr.heap.size + 3 := by simp
      have hnb : (((wr.alloc (Obj.cells #[.int .i64 (b : Int), .int .i64 (k : Int), .int .i64 tn, .int .i64 tg] 49)).alloc (Obj.cells #[.int .i64 (b : Int), .int .i64 (k : Int)] 129)).alloc (Obj.cells #[.int .i64 (b : Int), .int .i64 (k : Int), .int .i64 tn, .int .i64 tg] 49)).heap[wr.heap.size + 1 + 1]? = some (.cells #[.int .i64 (b : Int), .int .i64 (k : Int), .int .i64 tn, .int .i64 tg] 49 (0, 0)) := by
        have h1 := World.alloc_heap_new ((wr.alloc (Obj.cells #[.int .i64 (b : Int), .int .i64 (k : Int), .int .i64 tn, .int .i64 tg] 49)).alloc (Obj.cells #[.int .i64 (b : Int), .int .i64 (k : Int)] 129)) (Obj.cells #[.int .i64 (b : Int), .int .i64 (k : Int), .int .i64 tn, .int .i64 tg] 49)
        simp only [World.size_alloc] at h1
        exact h1
      generalize (((wr.alloc (Obj.cells #[.int .i64 (b : Int), .int .i64 (k : Int), .int .i64 tn, .int .i64 tg] 49)).alloc (Obj.cells #[.int .i64 (b : Int), .int .i64 (k : Int)] 129)).alloc (Obj.cells #[.int .i64 (b : Int), .int .i64 (k : Int), .int .i64 tn, .int .i64 tg] 49)) = W3 at *
      obtain ⟨W3', l', j', s, hme, hT', hs, e1, e2, hW3, hz3'⟩ := entry_any (HT.out.kept hk3) hb4 hk6
      unfold keyV at hme
      rw [hme]
      have HT' := Lib.hid hT'; clear hT'
      have hbmz : bm < wr.heap.size := (Array.getElem?_eq_some_iff.1 HT.out.map).1
      have hnews := World.news_of_block ((hW3.block _ (by omega) (by omega)).trans hnb)
      obtain ⟨i0, hi, hiz, his, hib⟩ := info_parts infoT
      have hrow := (HT'.out.rows s (List.mem_of_getElem? hs)).1
      have hrl : s.ts.length ≤ 6 := by
        have := (HT'.out.rows s (List.mem_of_getElem? hs)).2
        simp only [List.length_take] at this
        omega
      have hbase : W.heap.size + 4 ≤ wr.heap.size := by have := hV.size; omega
      go_wp2_with (at_builtin; refine wpList_append_lies _ rfl _ _ 23 rfl (W.heap.size + 4) 49 i0 _ 4 32 Tryz.underlying23 hi hiz his hib rfl (by decide) s.v s.ts.length _ rfl hrow ⟨wr.heap.size + 1 + 1, 0, none⟩ 1 1 [.int .i64 (b : Int), .int .i64 (k : Int), .int .i64 tn, .int .i64 tg] rfl rfl hnews (by simp [Value.oneCell']) (by decide) (by unfold maxLen; omega) (by omega) (by omega) _ rfl ?_; intro g cap' W4 hown hgrow hat hlt4)
      have hm4 : W4.heap[bm]? = some (.map (entries l') l'.length) := (hgrow.block bm (by omega) (fun e => by
        rcases row_not_map hrow HT'.out.map with h1 | h1
        · rw [h1] at e; cases e
        · exact h1 e.symm)).trans HT'.out.map
      have hes := entryStore_at W4 bm l' l'.length j' s (.slice (some ⟨g, 0, none⟩) (s.ts.length + 1) cap') (s.ts ++ [⟨(b : Int), (k : Int), tn, tg⟩]) hm4 hs
      have htk : B.trials.take (j + 1) = B.trials.take j ++ [⟨(b : Int), (k : Int), tn, tg⟩] := by
        rw [List.take_succ, HG.out]; rfl
      have hend := HT'.out.append (t := ⟨(b : Int), (k : Int), tn, tg⟩) hs (by simp [isAt, e1, e2]) hgrow hown hat
      rw [← htk] at hend
      have hT4 : Turns (fun b => b = bm ∨ W.heap.size + 4 ≤ b) W3' W4 := ⟨hgrow.os, hgrow.tape, hgrow.output, hgrow.size, fun i hi hne => hgrow.block i hi (fun e => hne (.inr (hrow.lt i e.symm).1))⟩
      have hTs := grown_set (W := W4) (bm := bm) (o := .map (entries (l'.set j' { s with v := .slice (some ⟨g, 0, none⟩) (s.ts.length + 1) cap', ts := s.ts ++ [⟨(b : Int), (k : Int), tn, tg⟩] })) l'.length)
      have hT5 : Turns (fun b => b = bm ∨ W.heap.size + 4 ≤ b) V0 (setBlock W4 bm (.map (entries (l'.set j' { s with v := .slice (some ⟨g, 0, none⟩) (s.ts.length + 1) cap', ts := s.ts ++ [⟨(b : Int), (k : Int), tn, tg⟩] })) l'.length)) :=
        (((hV.trans (Ext.refl _ _) (kturns hk3 _)).trans (Ext.refl _ _) (hW3.mono fun _ _ h => .inl h)).trans (Ext.refl _ _) hT4).trans (Ext.refl _ _)
          ⟨hTs.os, hTs.tape, hTs.output, hTs.size, fun i hi hne => hTs.block i hi (fun e => hne (.inl (by cases e; rfl)))⟩
      have HEND : Hid (∃ (j2 : Nat) (l2 : List Slot), j2 ≤ B.trials.length ∧ Value.int .i64 ((j : Int) + 1) = .int .i64 (j2 : Int) ∧ Tried (setBlock W4 bm (.map (entries (l'.set j' { s with v := .slice (some ⟨g, 0, none⟩) (s.ts.length + 1) cap', ts := s.ts ++ [⟨(b : Int), (k : Int), tn, tg⟩] })) l'.length)) bm (W.heap.size + 4) l2 (B.trials.take j2) ∧ Turns (fun b => b = bm ∨ W.heap.size + 4 ≤ b) V0 (setBlock W4 bm (.map (entries (l'.set j' { s with v := .slice (some ⟨g, 0, none⟩) (s.ts.length + 1) cap', ts := s.ts ++ [⟨(b : Int), (k : Int), tn, tg⟩] })) l'.length))) :=
        Lib.hid ⟨j + 1, _, by omega, by simp, hend, hT5⟩
      clear hend hT5 hTs hT4
      rw [hes]
      clear hes hm4 hown hgrow hat hrow
      generalize setBlock W4 bm (.map (entries (l'.set j' { s with v := .slice (some ⟨g, 0, none⟩) (s.ts.length + 1) cap', ts := s.ts ++ [⟨(b : Int), (k : Int), tn, tg⟩] })) l'.length) = W5 at *
      go_wp2_with fail
      go_roundw
      case rel => exact HEND.out
      case measure => simp [intOf]; omega
    · have hltI : ¬ (j : Int) < B.trials.length := by omega
      have e0 := tcell hV (by omega) c0
      have e1 := tcell hV (by omega) c1
      have e2 := tcell hV (by omega) c2
      have e3 := tcell hV (by omega) c3
      have g0 := tcell hV (by omega) d0
      have g1 := tcell hV (by omega) d1
      have g2 := tcell hV (by omega) d2
      have g3 := tcell hV (by omega) d3
      have gf : ∀ i, wr.frozen? ⟨rb, i, none⟩ = false := fun i => (hV.frozen (by omega) (by omega)).trans (df i)
      have gf0 := gf 0
      have gf1 := gf 1
      have gf2 := gf 2
      have gf3 := gf 3
      go_wp2_with fail
      have hje : j = B.trials.length := by omega
      have hTC : Turns (fun b => b = rb) wr ((((wr.setCell ⟨rb, 0, none⟩ (.slice p B.boys.length cap)).setCell ⟨rb, 1, none⟩ (.int .i64 B.weeks)).setCell ⟨rb, 2, none⟩ (.slice q B.trials.length capt)).setCell ⟨rb, 3, none⟩ (.map (some bm))) := ((((Turns.refl (fun b => b = rb) wr).setCell rfl _ _).setCell rfl _ _).setCell rfl _ _).setCell rfl _ _
      have r0 : ((((wr.setCell ⟨rb, 0, none⟩ (.slice p B.boys.length cap)).setCell ⟨rb, 1, none⟩ (.int .i64 B.weeks)).setCell ⟨rb, 2, none⟩ (.slice q B.trials.length capt)).setCell ⟨rb, 3, none⟩ (.map (some bm))).cell? ⟨rb, 0, none⟩ = some (.slice p B.boys.length cap) := by go_simp
      have r1 : ((((wr.setCell ⟨rb, 0, none⟩ (.slice p B.boys.length cap)).setCell ⟨rb, 1, none⟩ (.int .i64 B.weeks)).setCell ⟨rb, 2, none⟩ (.slice q B.trials.length capt)).setCell ⟨rb, 3, none⟩ (.map (some bm))).cell? ⟨rb, 1, none⟩ = some (.int .i64 B.weeks) := by go_simp
      have r2 : ((((wr.setCell ⟨rb, 0, none⟩ (.slice p B.boys.length cap)).setCell ⟨rb, 1, none⟩ (.int .i64 B.weeks)).setCell ⟨rb, 2, none⟩ (.slice q B.trials.length capt)).setCell ⟨rb, 3, none⟩ (.map (some bm))).cell? ⟨rb, 2, none⟩ = some (.slice q B.trials.length capt) := by go_simp
      have r3 : ((((wr.setCell ⟨rb, 0, none⟩ (.slice p B.boys.length cap)).setCell ⟨rb, 1, none⟩ (.int .i64 B.weeks)).setCell ⟨rb, 2, none⟩ (.slice q B.trials.length capt)).setCell ⟨rb, 3, none⟩ (.map (some bm))).cell? ⟨rb, 3, none⟩ = some (.map (some bm)) := by go_simp
      generalize ((((wr.setCell ⟨rb, 0, none⟩ (.slice p B.boys.length cap)).setCell ⟨rb, 1, none⟩ (.int .i64 B.weeks)).setCell ⟨rb, 2, none⟩ (.slice q B.trials.length capt)).setCell ⟨rb, 3, none⟩ (.map (some bm))) = C at *
      have hbl : B.boys ≠ [] := by
        intro e
        simp only [Book.okB, inB, Bool.and_eq_true, decide_eq_true_eq] at hok
        rw [e] at hok; simp at hok
      obtain ⟨bb, ob, rfl, hboysb⟩ : ∃ b o, p = some ⟨b, o, none⟩ ∧ BoysAt W b o B.boys := hb.boys.resolve_left hbl
      have hboys := hboysb
      have hWC : Kept W C := by
        refine Below.trans (Below.trans hk0 (hV.toBelow (n := W.heap.size) ?_ (by omega))) (hTC.toBelow (n := W.heap.size) ?_ ?_)
        · rintro b (rfl | h) <;> omega
        · rintro b rfl; omega
        · have := hV.size; omega
      refine bodyPost_ret (v := .agg #[.slice (some ⟨bb, ob, none⟩) B.boys.length cap, .int .i64 B.weeks, .slice q B.trials.length capt, .map (some bm)]) (by simp [results, Tryz.results58, go_sem, r0, r1, r2, r3]) rfl ?_
      refine ⟨⟨bb, ob, cap, capt, q, bm, B⟩, rfl, rfl, hWC, hok, ?_, hboys.kept hWC, ?_, ?_, hb.nt.2⟩
      · exact ⟨Nat.lt_of_lt_of_le hboys.1 hWC.size, .inl (hSb _ _ rfl)⟩
      · rcases hb.trials with h1 | ⟨b, o, e, ht⟩
        · exact .inl h1
        · by_cases h0 : B.trials = []
          · exact .inl h0
          · exact .inr ⟨b, o, e, ⟨Nat.lt_of_lt_of_le ht.1 hWC.size, .inl (hSt h0 b o e)⟩, ht.kept hWC⟩
      · intro boy wk hb5 hw
        have hT' := hT
        rw [hje, List.take_length] at hT'
        exact hT'.look hTC (by omega) (by rintro b hb2 rfl; omega) ⟨by have := hTC.size; have := (Array.getElem?_eq_some_iff.1 hT.map).1; omega, .inr (by omega)⟩ (fun b hb2 hb3 => ⟨hb3, .inr (by omega)⟩) (by have h5 : boy < B.boys.length := hb5; omega) (by have h6 : (wk : Int) < B.weeks := hw; omega)
end Go.Proofs.YthkcgengohoboaaGreatDoor
set_option linter.all false
namespace Go.Proofs.YthkcgengohoboaaGreatDoor
open Go.RowKit Go.Sort Go.Rg
set_option maxRecDepth 100000
set_option maxHeartbeats 4000000 in
theorem untried_any (c : Choir) (W : World) (S : Nat → Prop) (h : ChoirAt S W c) (n0 : Nat) (hn0 : n0 ≤ W.heap.size) (hS : ∀ b, S b → b < n0) (hL : Laid W) :
    Calls Tryz.prog 158 #[c.val] W fun e C =>
      ∃ c' : Choir, c'.B = ⟨c.B.boys, c.B.weeks, []⟩ ∧ e = .returned c'.val ∧ Kept W C ∧ ∃ S', ChoirAt S' C c' ∧ ∀ b, S' b → b < C.heap.size ∧ (b < n0 ∨ W.heap.size ≤ b) := by
  have hok : (Book.mk c.B.boys c.B.weeks []).okB = true := by
    have := h.ok
    simp only [Book.okB, Bool.and_eq_true] at this
    unfold Book.okB
    rw [this.1.1.1.1, this.1.1.1.2, this.1.2]
    rfl
  have hbl : c.B.boys.length ≤ 140737488355328 := by
    have := h.ok
    simp only [Book.okB, inB, Bool.and_eq_true, decide_eq_true_eq] at this
    omega
  unfold Choir.val
  have hk0 : Kept W (((W.alloc (Obj.cells #[.slice (some ⟨c.bb, c.ob, none⟩) c.B.boys.length c.capb, .int .i64 c.B.weeks, .slice c.q c.B.trials.length c.capt, .map (some c.bm)] 93)).alloc (Obj.cells #[.slice none 0 0, .int .i64 0, .slice none 0 0, .map none] 93)).alloc (Obj.cells #[.slice (some ⟨c.bb, c.ob, none⟩) c.B.boys.length c.capb, .int .i64 c.B.weeks, .slice none 0 0] 25)) := kept_alloc (kept_alloc (kept_alloc (kept_refl _) _) _) _
  have r0 : (((W.alloc (Obj.cells #[.slice (some ⟨c.bb, c.ob, none⟩) c.B.boys.length c.capb, .int .i64 c.B.weeks, .slice c.q c.B.trials.length c.capt, .map (some c.bm)] 93)).alloc (Obj.cells #[.slice none 0 0, .int .i64 0, .slice none 0 0, .map none] 93)).alloc (Obj.cells #[.slice (some ⟨c.bb, c.ob, none⟩) c.B.boys.length c.capb, .int .i64 c.B.weeks, .slice none 0 0] 25)).cell? ⟨W.heap.size + 1, 0, none⟩ = some (.slice none 0 0) := by go_simp
  have r1 : (((W.alloc (Obj.cells #[.slice (some ⟨c.bb, c.ob, none⟩) c.B.boys.length c.capb, .int .i64 c.B.weeks, .slice c.q c.B.trials.length c.capt, .map (some c.bm)] 93)).alloc (Obj.cells #[.slice none 0 0, .int .i64 0, .slice none 0 0, .map none] 93)).alloc (Obj.cells #[.slice (some ⟨c.bb, c.ob, none⟩) c.B.boys.length c.capb, .int .i64 c.B.weeks, .slice none 0 0] 25)).cell? ⟨W.heap.size + 1, 1, none⟩ = some (.int .i64 0) := by go_simp
  have r2 : (((W.alloc (Obj.cells #[.slice (some ⟨c.bb, c.ob, none⟩) c.B.boys.length c.capb, .int .i64 c.B.weeks, .slice c.q c.B.trials.length c.capt, .map (some c.bm)] 93)).alloc (Obj.cells #[.slice none 0 0, .int .i64 0, .slice none 0 0, .map none] 93)).alloc (Obj.cells #[.slice (some ⟨c.bb, c.ob, none⟩) c.B.boys.length c.capb, .int .i64 c.B.weeks, .slice none 0 0] 25)).cell? ⟨W.heap.size + 1, 2, none⟩ = some (.slice none 0 0) := by go_simp
  have r3 : (((W.alloc (Obj.cells #[.slice (some ⟨c.bb, c.ob, none⟩) c.B.boys.length c.capb, .int .i64 c.B.weeks, .slice c.q c.B.trials.length c.capt, .map (some c.bm)] 93)).alloc (Obj.cells #[.slice none 0 0, .int .i64 0, .slice none 0 0, .map none] 93)).alloc (Obj.cells #[.slice (some ⟨c.bb, c.ob, none⟩) c.B.boys.length c.capb, .int .i64 c.B.weeks, .slice none 0 0] 25)).cell? ⟨W.heap.size + 1, 3, none⟩ = some (.map none) := by go_simp
  have rf : ∀ i, (((W.alloc (Obj.cells #[.slice (some ⟨c.bb, c.ob, none⟩) c.B.boys.length c.capb, .int .i64 c.B.weeks, .slice c.q c.B.trials.length c.capt, .map (some c.bm)] 93)).alloc (Obj.cells #[.slice none 0 0, .int .i64 0, .slice none 0 0, .map none] 93)).alloc (Obj.cells #[.slice (some ⟨c.bb, c.ob, none⟩) c.B.boys.length c.capb, .int .i64 c.B.weeks, .slice none 0 0] 25)).frozen? ⟨W.heap.size + 1, i, none⟩ = false := by intro i; go_simp
  go_enter Tryz.func158, Tryz.ntmps158
  go_wp2_with fail
  generalize (((W.alloc (Obj.cells #[.slice (some ⟨c.bb, c.ob, none⟩) c.B.boys.length c.capb, .int .i64 c.B.weeks, .slice c.q c.B.trials.length c.capt, .map (some c.bm)] 93)).alloc (Obj.cells #[.slice none 0 0, .int .i64 0, .slice none 0 0, .map none] 93)).alloc (Obj.cells #[.slice (some ⟨c.bb, c.ob, none⟩) c.B.boys.length c.capb, .int .i64 c.B.weeks, .slice none 0 0] 25)) = V at *
  have hbook : BookAt V (some ⟨c.bb, c.ob, none⟩) none c.capb 0 ⟨c.B.boys, c.B.weeks, []⟩ := ⟨hL.kept hk0, hbl, (by simp), .inr ⟨_, _, rfl, h.boys.kept hk0⟩, .inl rfl⟩
  refine (newChoir_in (fun b => b < n0) (some ⟨c.bb, c.ob, none⟩) none c.capb 0 ⟨c.B.boys, c.B.weeks, []⟩ V hok hbook (fun b o e => by cases e; exact hS _ h.sb) (fun h => absurd rfl h)).mono ?_
  rintro e C ⟨c', hcB, rfl, hkC, hat⟩
  have HCB := Lib.hid hcB; clear hcB hok hbl hbook
  have hW5 : W.heap.size + 1 < V.heap.size := Go.Ai.lt_of_cell r0
  unfold Choir.val
  replace r0 := kcell hkC r0
  replace r1 := kcell hkC r1
  replace r2 := kcell hkC r2
  replace r3 := kcell hkC r3
  have rf0 := ((kturns hkC (fun _ => False)).frozen hW5 (fun h => h)).trans (rf 0)
  have rf1 := ((kturns hkC (fun _ => False)).frozen hW5 (fun h => h)).trans (rf 1)
  have rf2 := ((kturns hkC (fun _ => False)).frozen hW5 (fun h => h)).trans (rf 2)
  have rf3 := ((kturns hkC (fun _ => False)).frozen hW5 (fun h => h)).trans (rf 3)
  go_wp2_with fail
  have hTC : Turns (fun b => b = W.heap.size + 1) C ((((C.setCell ⟨W.heap.size + 1, 0, none⟩ (.slice (some ⟨c'.bb, c'.ob, none⟩) c'.B.boys.length c'.capb)).setCell ⟨W.heap.size + 1, 1, none⟩ (.int .i64 c'.B.weeks)).setCell ⟨W.heap.size + 1, 2, none⟩ (.slice c'.q c'.B.trials.length c'.capt)).setCell ⟨W.heap.size + 1, 3, none⟩ (.map (some c'.bm))) := ((((Turns.refl (fun b => b = W.heap.size + 1) C).setCell rfl _ _).setCell rfl _ _).setCell rfl _ _).setCell rfl _ _
  have s0 : ((((C.setCell ⟨W.heap.size + 1, 0, none⟩ (.slice (some ⟨c'.bb, c'.ob, none⟩) c'.B.boys.length c'.capb)).setCell ⟨W.heap.size + 1, 1, none⟩ (.int .i64 c'.B.weeks)).setCell ⟨W.heap.size + 1, 2, none⟩ (.slice c'.q c'.B.trials.length c'.capt)).setCell ⟨W.heap.size + 1, 3, none⟩ (.map (some c'.bm))).cell? ⟨W.heap.size + 1, 0, none⟩ = some (.slice (some ⟨c'.bb, c'.ob, none⟩) c'.B.boys.length c'.capb) := by go_simp
  have s1 : ((((C.setCell ⟨W.heap.size + 1, 0, none⟩ (.slice (some ⟨c'.bb, c'.ob, none⟩) c'.B.boys.length c'.capb)).setCell ⟨W.heap.size + 1, 1, none⟩ (.int .i64 c'.B.weeks)).setCell ⟨W.heap.size + 1, 2, none⟩ (.slice c'.q c'.B.trials.length c'.capt)).setCell ⟨W.heap.size + 1, 3, none⟩ (.map (some c'.bm))).cell? ⟨W.heap.size + 1, 1, none⟩ = some (.int .i64 c'.B.weeks) := by go_simp
  have s2 : ((((C.setCell ⟨W.heap.size + 1, 0, none⟩ (.slice (some ⟨c'.bb, c'.ob, none⟩) c'.B.boys.length c'.capb)).setCell ⟨W.heap.size + 1, 1, none⟩ (.int .i64 c'.B.weeks)).setCell ⟨W.heap.size + 1, 2, none⟩ (.slice c'.q c'.B.trials.length c'.capt)).setCell ⟨W.heap.size + 1, 3, none⟩ (.map (some c'.bm))).cell? ⟨W.heap.size + 1, 2, none⟩ = some (.slice c'.q c'.B.trials.length c'.capt) := by go_simp
  have s3 : ((((C.setCell ⟨W.heap.size + 1, 0, none⟩ (.slice (some ⟨c'.bb, c'.ob, none⟩) c'.B.boys.length c'.capb)).setCell ⟨W.heap.size + 1, 1, none⟩ (.int .i64 c'.B.weeks)).setCell ⟨W.heap.size + 1, 2, none⟩ (.slice c'.q c'.B.trials.length c'.capt)).setCell ⟨W.heap.size + 1, 3, none⟩ (.map (some c'.bm))).cell? ⟨W.heap.size + 1, 3, none⟩ = some (.map (some c'.bm)) := by go_simp
  have hkD : Kept W ((((C.setCell ⟨W.heap.size + 1, 0, none⟩ (.slice (some ⟨c'.bb, c'.ob, none⟩) c'.B.boys.length c'.capb)).setCell ⟨W.heap.size + 1, 1, none⟩ (.int .i64 c'.B.weeks)).setCell ⟨W.heap.size + 1, 2, none⟩ (.slice c'.q c'.B.trials.length c'.capt)).setCell ⟨W.heap.size + 1, 3, none⟩ (.map (some c'.bm))) := Below.setCell (p := ⟨W.heap.size + 1, 3, none⟩) (Below.setCell (p := ⟨W.heap.size + 1, 2, none⟩) (Below.setCell (p := ⟨W.heap.size + 1, 1, none⟩) (Below.setCell (p := ⟨W.heap.size + 1, 0, none⟩) (kept_trans hk0 hkC) (show W.heap.size ≤ W.heap.size + 1 by omega) _) (show W.heap.size ≤ W.heap.size + 1 by omega) _) (show W.heap.size ≤ W.heap.size + 1 by omega) _) (show W.heap.size ≤ W.heap.size + 1 by omega) _
  generalize ((((C.setCell ⟨W.heap.size + 1, 0, none⟩ (.slice (some ⟨c'.bb, c'.ob, none⟩) c'.B.boys.length c'.capb)).setCell ⟨W.heap.size + 1, 1, none⟩ (.int .i64 c'.B.weeks)).setCell ⟨W.heap.size + 1, 2, none⟩ (.slice c'.q c'.B.trials.length c'.capt)).setCell ⟨W.heap.size + 1, 3, none⟩ (.map (some c'.bm))) = D at *
  refine bodyPost_ret (v := .agg #[.slice (some ⟨c'.bb, c'.ob, none⟩) c'.B.boys.length c'.capb, .int .i64 c'.B.weeks, .slice c'.q c'.B.trials.length c'.capt, .map (some c'.bm)]) (by simp [results, Tryz.results158, go_sem, s0, s1, s2, s3]) rfl ?_
  exact ⟨c', HCB.out, rfl, hkD, _, hat.turns hTC (fun b hb e => by
    obtain ⟨_, h1 | h1⟩ := hb
    · omega
    · omega), fun b hb => ⟨Nat.lt_of_lt_of_le hb.1 hTC.size, hb.2.imp id fun h1 => by have := hk0.size; omega⟩⟩
end Go.Proofs.YthkcgengohoboaaGreatDoor
set_option linter.all false
namespace Go.Proofs.YthkcgengohoboaaGreatDoor
open Go.RowKit Go.Sort Go.Rg
set_option maxRecDepth 100000
attribute [local go_sem] Oper.semAt_some

theorem turns_grown {A B : World} {r : Option Nat} (h : A.grownBy B r) : Turns (fun b => r = some b) A B :=
  ⟨h.os, h.tape, h.output, h.size, fun b hb hn => h.block b hb (fun e => hn e.symm)⟩
theorem ListAt.turns {A B : World} {U : Nat → Prop} {v : Value} {l : List Nat} (h : ListAt A v l) (k : Turns U A B) (hu : ∀ b, v.ownBlock = some b → ¬ U b) : ListAt B v l :=
  h.imp id fun ⟨b, cap, e, hb, hc⟩ => ⟨b, cap, e, Nat.lt_of_lt_of_le hb k.size, fun i x hx => tcell k (hu b (by rw [e]; rfl)) (hc i x hx)⟩
theorem ListAt.quiet {A B : World} {lo : Nat} {T : Nat → Prop} {v : Value} {l : List Nat} (h : ListAt A v l) (k : Quiet lo T A B) (hu : ∀ b, v.ownBlock = some b → T b) : ListAt B v l :=
  h.imp id fun ⟨b, cap, e, hb, hc⟩ => ⟨b, cap, e, Nat.lt_of_lt_of_le hb k.size, fun i x hx => (k.cell (Go.Ai.lt_of_cell (hc i x hx)) (.inr (hu b (by rw [e]; rfl)))).trans (hc i x hx)⟩
theorem row_quiet {A B : World} {lo : Nat} {T : Nat → Prop} {base size n : Nat} {e : TypeId} {v : Value} {xs : List Value} (h : A.ownsRow base e size v n xs) (k : Quiet lo T A B) (hu : ∀ b, v.ownBlock = some b → T b) : B.ownsRow base e size v n xs := by
  obtain ⟨h1, h2⟩ := h
  refine ⟨h1, h2.imp id ?_⟩
  rintro ⟨g, cap', cur, e1, e2, e3, e4⟩
  exact ⟨g, cap', cur, e1, e2, (k.block g (Array.getElem?_eq_some_iff.1 e3).1 (.inr (hu g (by rw [e1]; rfl)))).trans e3, e4⟩
theorem row_turns {A B : World} {U : Nat → Prop} {base size n : Nat} {e : TypeId} {v : Value} {xs : List Value} (h : A.ownsRow base e size v n xs) (k : Turns U A B) (hu : ∀ b, v.ownBlock = some b → ¬ U b) : B.ownsRow base e size v n xs := by
  obtain ⟨h1, h2⟩ := h
  refine ⟨h1, h2.imp id ?_⟩
  rintro ⟨g, cap', cur, e1, e2, e3, e4⟩
  exact ⟨g, cap', cur, e1, e2, (k.block g (Array.getElem?_eq_some_iff.1 e3).1 (hu g (by rw [e1]; rfl))).trans e3, e4⟩

/-- the lists so far -/
structure Gath (bl base : Nat) (ls : List (List Nat)) (k : Nat) (T : Nat → Prop) (A : World) : Prop where
  tb : T bl
  lt : bl < base
  at' : ∃ row xs, A.cell? ⟨bl, 0, none⟩ = some row ∧ A.frozen? ⟨bl, 0, none⟩ = false ∧ A.ownsRow base 41 1 row k xs ∧ (∀ b, row.ownBlock = some b → T b) ∧
    ∀ i l, i < k → ls[i]? = some l → ∃ v, xs[i]? = some v ∧ ListAt A v l ∧ ∀ b, v.ownBlock = some b → T b ∧ b ≠ bl ∧ row.ownBlock ≠ some b
theorem Gath.quiet {bl base : Nat} {ls : List (List Nat)} {k lo : Nat} {T : Nat → Prop} {A B : World} (h : Gath bl base ls k T A) (q : Quiet lo T A B) : Gath bl base ls k T B := by
  obtain ⟨h1, h2, row, xs, a1, a2, a3, a4, a5⟩ := h
  have z := Go.Ai.lt_of_cell a1
  refine ⟨h1, h2, row, xs, (q.cell z (.inr h1)).trans a1, (q.frozen z (.inr h1)).trans a2, row_quiet a3 q a4, a4, fun i l hi hl => ?_⟩
  obtain ⟨v, b1, b2, b3⟩ := a5 i l hi hl
  exact ⟨v, b1, b2.quiet q fun b hb => (b3 b hb).1, b3⟩
end Go.Proofs.YthkcgengohoboaaGreatDoor
set_option linter.all false
namespace Go.Proofs.YthkcgengohoboaaGreatDoor
open Go.RowKit Go.Sort Go.Rg
set_option maxRecDepth 100000

structure Know where
  low : Int
  brk : Int
  tops : List Int
def KRow (V : World) (base : Nat) (v : Value) (ks : List Know) : Prop := ∃ xs, V.ownsRow base 59 3 v ks.length xs ∧
  ∀ i k, ks[i]? = some k → ∃ tv, xs[i * 3]? = some (.int .i64 k.low) ∧ xs[i * 3 + 1]? = some (.int .i64 k.brk) ∧ xs[i * 3 + 2]? = some tv ∧ NumsAt V tv k.tops ∧ ∀ g, tv.ownBlock = some g → v.ownBlock ≠ some g
/-- what is drawn for a boy -/
def drawn (x : Boy) (bits : List Int) (i : Nat) : List Int := [drawI x.l0 x.l1 (nthI bits (i : Int)), drawI x.h0 x.h1 (nthI bits ((i : Int) + 2)), drawI x.g0 x.g1 (nthI bits ((i : Int) + 3)), drawI x.t0 x.t1 (nthI bits ((i : Int) + 4)), drawI x.b0 x.b1 (nthI bits ((i : Int) + 1))]
def topsOf (n : List Int) (ls : Int) (k : Nat) : List Int := (List.range k).map fun w : Nat => top (n.getD 1 0) (n.getD 2 0) (n.getD 3 0) ls (w : Int)
def knowOf (B : Book) (bits : List Int) (i : Nat) : Know := match B.boys[i]? with
  | some x => ⟨(drawn x bits i).getD 0 0, (drawn x bits i).getD 4 0, topsOf (drawn x bits i) x.ls B.weeks.toNat⟩
  | none => ⟨0, 0, []⟩

theorem top_low {h g t l w : Int} (hw : 0 ≤ w) (ht : w < t) : top h g t l (w + 1) = top h g t l w + g := by
  unfold top
  rw [Int.min_eq_left (by omega), Int.min_eq_left (by omega), Int.add_mul, Int.sub_self, Int.sub_self]
  omega
theorem top_high {h g t l w : Int} (ht : t ≤ w) : top h g t l (w + 1) = top h g t l w - l := by
  unfold top
  rw [Int.min_eq_right (by omega), Int.min_eq_right (by omega), show w + 1 - t = (w - t) + 1 by omega, Int.add_mul]
  omega
theorem top_zero {h g t l : Int} (ht : 0 ≤ t) : top h g t l 0 = h := by
  unfold top
  rw [Int.min_eq_left (by omega)]
  simp
theorem top_bound {h g t l w : Int} (h1 : 0 ≤ h) (h2 : h ≤ 40) (g1 : 0 ≤ g) (g2 : g ≤ 2) (t1 : 0 ≤ t) (l1 : 0 ≤ l) (l2 : l ≤ 2) (w1 : 0 ≤ w) (w2 : w ≤ 6) : -100 ≤ top h g t l w ∧ top h g t l w ≤ 100 := by
  unfold top
  have a1 : 0 ≤ min w t := by omega
  have a2 : min w t ≤ 6 := by omega
  have a3 : 0 ≤ w - min w t := by omega
  have a4 : w - min w t ≤ 6 := by omega
  generalize min w t = m at *
  have b1 : 0 ≤ m * g := Int.mul_nonneg a1 g1
  have b2 : m * g ≤ 6 * 2 := Int.mul_le_mul a2 g2 g1 (by omega)
  have c1 : 0 ≤ (w - m) * l := Int.mul_nonneg a3 l1
  have c2 : (w - m) * l ≤ 6 * 2 := Int.mul_le_mul a4 l2 l1 (by omega)
  omega
theorem topsOf_succ (n : List Int) (ls : Int) (k : Nat) : topsOf n ls (k + 1) = topsOf n ls k ++ [top (n.getD 1 0) (n.getD 2 0) (n.getD 3 0) ls (k : Int)] := by
  unfold topsOf
  rw [List.range_succ, List.map_append]
  rfl
theorem NumsAt.turns {A B : World} {U : Nat → Prop} {v : Value} {l : List Int} (h : NumsAt A v l) (k : Turns U A B) (hu : ∀ b, v.ownBlock = some b → ¬ U b) : NumsAt B v l := by
  obtain ⟨p, cap, rfl, hl, h⟩ := h
  exact ⟨p, cap, rfl, hl, h.imp id fun ⟨b, o, e2, hb, hc⟩ => ⟨b, o, e2, Nat.lt_of_lt_of_le hb k.size, fun i x hx => tcell k (hu b (by rw [e2]; rfl)) (hc i x hx)⟩⟩
theorem NumsAt.of_row {w : World} {base : Nat} {v : Value} {l : List Int} {e : TypeId} (h : w.ownsRow base e 1 v l.length (l.map (Value.int .i64))) (hl : l.length ≤ 1000) : NumsAt w v l := by
  have hc := h
  rcases h.2 with ⟨rfl, h0⟩ | ⟨g, cap, cur, rfl, _, hg, _⟩
  · have : l = [] := List.length_eq_zero_iff.1 h0
    subst this
    exact ⟨none, 0, rfl, by simp, .inl rfl⟩
  · refine ⟨_, cap, rfl, by omega, .inr ⟨g, 0, rfl, (Array.getElem?_eq_some_iff.1 hg).1, fun i x hx => ?_⟩⟩
    have hi : i < l.length := (List.getElem?_eq_some_iff.1 hx).1
    rw [Nat.zero_add, hc.cellAt i (by omega)]
    simp [hx]
theorem NumsAt.block {w : World} {v : Value} {l : List Int} (h : NumsAt w v l) (hl : l ≠ []) : ∀ b, v.ownBlock = some b → b < w.heap.size := by
  obtain ⟨p, cap, rfl, -, h⟩ := h
  obtain ⟨b, o, rfl, hb, -⟩ := h.resolve_left hl
  intro b' e
  cases e; exact hb
theorem KRow.kept {A B : World} {base : Nat} {v : Value} {ks : List Know} (h : KRow A base v ks) (k : Kept A B) : KRow B base v ks := by
  obtain ⟨xs, h1, h2⟩ := h
  refine ⟨xs, row_kept h1 k, fun i kk hi => ?_⟩
  obtain ⟨tv, a1, a2, a3, a4, a5⟩ := h2 i kk hi
  exact ⟨tv, a1, a2, a3, a4.kept k, a5⟩
theorem KRow.push {A B : World} {base g cap : Nat} {v : Value} {ks : List Know} {xs : List Value} {k : Know} {tv : Value}
    (h2 : ∀ i k, ks[i]? = some k → ∃ tv, xs[i * 3]? = some (.int .i64 k.low) ∧ xs[i * 3 + 1]? = some (.int .i64 k.brk) ∧ xs[i * 3 + 2]? = some tv ∧ NumsAt A tv k.tops ∧ ∀ g, tv.ownBlock = some g → v.ownBlock ≠ some g)
    (hxl : xs.length = ks.length * 3) (hne : ∀ k ∈ ks, k.tops ≠ []) (hkt : k.tops ≠ [])
    (hrow : B.ownsRow base 59 3 (.slice (some ⟨g, 0, none⟩) (ks.length + 1) cap) (ks.length + 1) (xs ++ [.int .i64 k.low, .int .i64 k.brk, tv])) (hg : A.grownBy B v.ownBlock) (hat : v.ownBlock = some g ∨ g = A.heap.size)
    (ht : NumsAt A tv k.tops) (hta : ∀ b, tv.ownBlock = some b → v.ownBlock ≠ some b) : KRow B base (.slice (some ⟨g, 0, none⟩) (ks.length + 1) cap) (ks ++ [k]) := by
  refine ⟨_, by rw [List.length_append]; exact hrow, fun i kk hi => ?_⟩
  have hT := turns_grown hg
  rcases Nat.lt_or_ge i ks.length with hlt | hge
  · rw [List.getElem?_append_left hlt] at hi
    obtain ⟨tv', a1, a2, a3, a4, a5⟩ := h2 i kk hi
    refine ⟨tv', by rw [List.getElem?_append_left (by omega)]; exact a1, by rw [List.getElem?_append_left (by omega)]; exact a2, by rw [List.getElem?_append_left (by omega)]; exact a3, a4.turns hT (fun b hb e => a5 b hb e), fun b hb e => ?_⟩
    cases e
    rcases hat with e | e
    · exact a5 g hb e
    · have := a4.block (hne kk (List.mem_of_getElem? hi)) g hb; omega
  · rw [List.getElem?_append_right hge] at hi
    have hi0 : i = ks.length := by
      have := (List.getElem?_eq_some_iff.1 hi).1
      simp at this; omega
    subst hi0
    simp at hi
    subst hi
    refine ⟨tv, by rw [List.getElem?_append_right (by omega), show ks.length * 3 - xs.length = 0 by omega]; rfl, by rw [List.getElem?_append_right (by omega), show ks.length * 3 + 1 - xs.length = 1 by omega]; rfl, by rw [List.getElem?_append_right (by omega), show ks.length * 3 + 2 - xs.length = 2 by omega]; rfl, ht.turns hT (fun b hb e => hta b hb e), fun b hb e => ?_⟩
    cases e
    rcases hat with e | e
    · exact hta g hb e
    · have := ht.block hkt g hb; omega
theorem know_tops (B : Book) (bits : List Int) {i : Nat} (hi : i < B.boys.length) (hq : 1 ≤ B.weeks) : (knowOf B bits i).tops ≠ [] := by
  unfold knowOf
  rw [List.getElem?_eq_getElem hi]
  intro e
  have := congrArg List.length e
  simp [topsOf] at this
  omega
theorem infoK : (Tryz.prog.info? 59).map (fun i => (i.zero, i.size, i.bytes)) = some (some (.agg #[.int .i64 0, .int .i64 0, .slice none 0 0]), 3, 40) := by kernel_rfl
theorem kn_news {w : World} {g : Nat} {a b c : Value} (h0 : w.cell? ⟨g, 0, none⟩ = some a) (h1 : w.cell? ⟨g, 1, none⟩ = some b) (h2 : w.cell? ⟨g, 2, none⟩ = some c) : ∀ (k : Nat) (u : Value), [a, b, c][k]? = some u → w.cell? ((⟨g, 0, none⟩ : Addr).add k) = some u := by
  intro k u hu
  rw [add_cell]
  match k, hu with
  | 0, hu => cases hu; exact h0
  | 1, hu => cases hu; exact h1
  | 2, hu => cases hu; exact h2
set_option maxHeartbeats 8000000 in
theorem truly_any (p q : Option Addr) (cap capt : Nat) (B : Book) (bv : Value) (bits : List Int) (W : World) (h : BookAt W p q cap capt B) (hok : B.okB = true) (hb : NumsAt W bv bits) :
    Calls Tryz.prog 33 #[B.val p q cap capt, bv] W fun e C => ∃ v, e = .returned v ∧ Kept W C ∧ KRow C W.heap.size v ((List.range B.boys.length).map (knowOf B bits)) := by
  obtain ⟨⟨q1, q2, q3, q4, q5⟩, hbo, -⟩ := okB_boys hok
  have hk0 : Kept W (W.alloc (Obj.cells #[.slice p B.boys.length cap, .int .i64 B.weeks, .slice q B.trials.length capt] 25)) := kept_alloc (kept_refl _) _
  have hz0 : (W.alloc (Obj.cells #[.slice p B.boys.length cap, .int .i64 B.weeks, .slice q B.trials.length capt] 25)).heap.size = W.heap.size + 1 := by simp
  have a0 : (W.alloc (Obj.cells #[.slice p B.boys.length cap, .int .i64 B.weeks, .slice q B.trials.length capt] 25)).cell? ⟨W.heap.size, 0, none⟩ = some (.slice p B.boys.length cap) := by go_simp
  have a1 : (W.alloc (Obj.cells #[.slice p B.boys.length cap, .int .i64 B.weeks, .slice q B.trials.length capt] 25)).cell? ⟨W.heap.size, 1, none⟩ = some (.int .i64 B.weeks) := by go_simp
  have a2 : (W.alloc (Obj.cells #[.slice p B.boys.length cap, .int .i64 B.weeks, .slice q B.trials.length capt] 25)).cell? ⟨W.heap.size, 2, none⟩ = some (.slice q B.trials.length capt) := by go_simp
  have HB := Lib.hid h; clear h
  have HBO := Lib.hid hbo; clear hbo
  have HBV := Lib.hid hb
  obtain ⟨pb, cpb, eb, -, -⟩ := hb
  subst eb
  unfold Book.val
  go_enter Tryz.func33, Tryz.ntmps33
  go_wp2_with fail
  generalize (W.alloc (Obj.cells #[.slice p B.boys.length cap, .int .i64 B.weeks, .slice q B.trials.length capt] 25)) = V0 at *
  go_loopw [5, 6] (fun v i V => ∃ j : Nat, j ≤ B.boys.length ∧ i = .int .i64 j ∧ KRow V V0.heap.size v ((List.range j).map (knowOf B bits)) ∧ Kept V0 V) (fun v i V => B.boys.length - (intOf i).toNat)
  case atStart => exact ⟨0, by omega, rfl, ⟨[], World.ownsRow_nil _ _ _ _, fun i k h => by simp at h⟩, kept_refl _⟩
  case round =>
    obtain ⟨j, hj, rfl, hrow, hV⟩ := hrel
    have hkV := kept_trans hk0 hV
    by_cases hlt : j < B.boys.length
    · have hltI : (j : Int) < B.boys.length := by omega
      obtain ⟨b, o, rfl, hboys⟩ : ∃ b o, p = some ⟨b, o, none⟩ ∧ BoysAt wr b o B.boys := by
        rcases (HB.out.kept hkV).boys with e | h
        · rw [e] at hlt; cases hlt
        · exact h
      obtain ⟨x, hget⟩ : ∃ x, B.boys[j]? = some x := ⟨_, List.getElem?_eq_getElem hlt⟩
      have hxo := HBO.out x (List.mem_of_getElem? hget)
      obtain ⟨x0, x1, x2, x3, x4, x5, x6, x7, x8, x9, x10⟩ := hboys.2 j x hget
      have a0 := kcell hV a0
      have a1 := kcell hV a1
      have HROW := Lib.hid hrow
      have HGET := Lib.hid hget
      have hzb := Go.Ai.lt_of_cell x0
      have hza := Go.Ai.lt_of_cell a0
      clear hrow hget
      go_wp2_with fail
      have hkV1 : Kept wr (wr.alloc (Obj.cells #[.int .i64 x.l0, .int .i64 x.l1, .int .i64 x.h0, .int .i64 x.h1, .int .i64 x.g0, .int .i64 x.g1, .int .i64 x.t0, .int .i64 x.t1, .int .i64 x.ls, .int .i64 x.b0, .int .i64 x.b1] 97)) := kept_alloc (kept_refl _) _
      have hzV1 : (wr.alloc (Obj.cells #[.int .i64 x.l0, .int .i64 x.l1, .int .i64 x.h0, .int .i64 x.h1, .int .i64 x.g0, .int .i64 x.g1, .int .i64 x.t0, .int .i64 x.t1, .int .i64 x.ls, .int .i64 x.b0, .int .i64 x.b1] 97)).heap.size = wr.heap.size + 1 := by simp
      have m0 : (wr.alloc (Obj.cells #[.int .i64 x.l0, .int .i64 x.l1, .int .i64 x.h0, .int .i64 x.h1, .int .i64 x.g0, .int .i64 x.g1, .int .i64 x.t0, .int .i64 x.t1, .int .i64 x.ls, .int .i64 x.b0, .int .i64 x.b1] 97)).cell? ⟨wr.heap.size, 0, none⟩ = some (.int .i64 x.l0) := by go_simp
      have m1 : (wr.alloc (Obj.cells #[.int .i64 x.l0, .int .i64 x.l1, .int .i64 x.h0, .int .i64 x.h1, .int .i64 x.g0, .int .i64 x.g1, .int .i64 x.t0, .int .i64 x.t1, .int .i64 x.ls, .int .i64 x.b0, .int .i64 x.b1] 97)).cell? ⟨wr.heap.size, 1, none⟩ = some (.int .i64 x.l1) := by go_simp
      have m2 : (wr.alloc (Obj.cells #[.int .i64 x.l0, .int .i64 x.l1, .int .i64 x.h0, .int .i64 x.h1, .int .i64 x.g0, .int .i64 x.g1, .int .i64 x.t0, .int .i64 x.t1, .int .i64 x.ls, .int .i64 x.b0, .int .i64 x.b1] 97)).cell? ⟨wr.heap.size, 2, none⟩ = some (.int .i64 x.h0) := by go_simp
      have m3 : (wr.alloc (Obj.cells #[.int .i64 x.l0, .int .i64 x.l1, .int .i64 x.h0, .int .i64 x.h1, .int .i64 x.g0, .int .i64 x.g1, .int .i64 x.t0, .int .i64 x.t1, .int .i64 x.ls, .int .i64 x.b0, .int .i64 x.b1] 97)).cell? ⟨wr.heap.size, 3, none⟩ = some (.int .i64 x.h1) := by go_simp
      have m4 : (wr.alloc (Obj.cells #[.int .i64 x.l0, .int .i64 x.l1, .int .i64 x.h0, .int .i64 x.h1, .int .i64 x.g0, .int .i64 x.g1, .int .i64 x.t0, .int .i64 x.t1, .int .i64 x.ls, .int .i64 x.b0, .int .i64 x.b1] 97)).cell? ⟨wr.heap.size, 4, none⟩ = some (.int .i64 x.g0) := by go_simp
      have m5 : (wr.alloc (Obj.cells #[.int .i64 x.l0, .int .i64 x.l1, .int .i64 x.h0, .int .i64 x.h1, .int .i64 x.g0, .int .i64 x.g1, .int .i64 x.t0, .int .i64 x.t1, .int .i64 x.ls, .int .i64 x.b0, .int .i64 x.b1] 97)).cell? ⟨wr.heap.size, 5, none⟩ = some (.int .i64 x.g1) := by go_simp
      have m6 : (wr.alloc (Obj.cells #[.int .i64 x.l0, .int .i64 x.l1, .int .i64 x.h0, .int .i64 x.h1, .int .i64 x.g0, .int .i64 x.g1, .int .i64 x.t0, .int .i64 x.t1, .int .i64 x.ls, .int .i64 x.b0, .int .i64 x.b1] 97)).cell? ⟨wr.heap.size, 6, none⟩ = some (.int .i64 x.t0) := by go_simp
      have m7 : (wr.alloc (Obj.cells #[.int .i64 x.l0, .int .i64 x.l1, .int .i64 x.h0, .int .i64 x.h1, .int .i64 x.g0, .int .i64 x.g1, .int .i64 x.t0, .int .i64 x.t1, .int .i64 x.ls, .int .i64 x.b0, .int .i64 x.b1] 97)).cell? ⟨wr.heap.size, 7, none⟩ = some (.int .i64 x.t1) := by go_simp
      have m8 : (wr.alloc (Obj.cells #[.int .i64 x.l0, .int .i64 x.l1, .int .i64 x.h0, .int .i64 x.h1, .int .i64 x.g0, .int .i64 x.g1, .int .i64 x.t0, .int .i64 x.t1, .int .i64 x.ls, .int .i64 x.b0, .int .i64 x.b1] 97)).cell? ⟨wr.heap.size, 8, none⟩ = some (.int .i64 x.ls) := by go_simp
      have m9 : (wr.alloc (Obj.cells #[.int .i64 x.l0, .int .i64 x.l1, .int .i64 x.h0, .int .i64 x.h1, .int .i64 x.g0, .int .i64 x.g1, .int .i64 x.t0, .int .i64 x.t1, .int .i64 x.ls, .int .i64 x.b0, .int .i64 x.b1] 97)).cell? ⟨wr.heap.size, 9, none⟩ = some (.int .i64 x.b0) := by go_simp
      have m10 : (wr.alloc (Obj.cells #[.int .i64 x.l0, .int .i64 x.l1, .int .i64 x.h0, .int .i64 x.h1, .int .i64 x.g0, .int .i64 x.g1, .int .i64 x.t0, .int .i64 x.t1, .int .i64 x.ls, .int .i64 x.b0, .int .i64 x.b1] 97)).cell? ⟨wr.heap.size, 10, none⟩ = some (.int .i64 x.b1) := by go_simp
      generalize (wr.alloc (Obj.cells #[.int .i64 x.l0, .int .i64 x.l1, .int .i64 x.h0, .int .i64 x.h1, .int .i64 x.g0, .int .i64 x.g1, .int .i64 x.t0, .int .i64 x.t1, .int .i64 x.ls, .int .i64 x.b0, .int .i64 x.b1] 97)) = V1 at *
      have HV := Lib.hid hV; clear hV
      have HWR := Lib.hid hkV1; clear hkV1
      obtain ⟨wro, hwro⟩ : ∃ w0, w0 = wr := ⟨_, rfl⟩
      subst hwro
      generalize hxb : wro.heap.size = xb at *
      have a0 := kcell HWR.out a0
      have a1 := kcell HWR.out a1
      have hzx := Go.Ai.lt_of_cell m0
      have hzV := HV.out.size
      refine (wpIn_wide (n := 0)).1 (truly6 V1 _ _ x xb j (.slice pb bits.length cpb) bits hxo (by omega) (HBV.out.kept (kept_trans hkV HWR.out)) m0 m1 m9 m10 rfl rfl rfl rfl ?_)
      intro a g W6 hk6 hg6 hN hoth h8 hsz hdf
      obtain ⟨atm, adf⟩ := a
      simp only at hsz hdf hoth
      obtain ⟨y, hy⟩ : ∃ y : Nat → Value, ∀ i, y i = atm.getD i undef := ⟨_, fun _ => rfl⟩
      have y0 := (hy 0).trans (hoth 0 (by omega) (by omega))
      have y1 := (hy 1).trans (hoth 1 (by omega) (by omega))
      have y2 := (hy 2).trans (hoth 2 (by omega) (by omega))
      have y3 := (hy 3).trans (hoth 3 (by omega) (by omega))
      have y86 := (hy 86).trans (hoth 86 (by omega) (by omega))
      have y4 := (hy 4).trans (hoth 4 (by omega) (by omega))
      have y5 := (hy 5).trans (hoth 5 (by omega) (by omega))
      have y6 := (hy 6).trans (hoth 6 (by omega) (by omega))
      have y7 := (hy 7).trans (hoth 7 (by omega) (by omega))
      have y12 := (hy 12).trans (hoth 12 (by omega) (by omega))
      have y8 : y 8 = .pointer (some ⟨g, 0, none⟩) := (hy 8).trans h8
      have hae := arr_range atm
      rw [show atm.size = 87 from hsz] at hae
      simp only [List.range, List.range.loop, List.map, ← hy] at hae
      simp at y0 y1 y2 y3 y86 y4 y5 y6 y7 y12
      rw [y0, y1, y2, y3, y86, y4, y5, y6, y7, y8, y12] at hae
      subst hae
      subst hdf
      clear hoth hsz hy y0 y1 y2 y3 y86 y4 y5 y6 y7 y8 y12
      obtain ⟨g', eg, _, hgz, z0, z1, z2, zf⟩ := hN
      cases eg
      have k0 : (((W6.setCell ⟨g, 0, none⟩ (.int .i64 (drawI x.l0 x.l1 (nthI bits (j : Int))))).setCell ⟨g, 1, none⟩ (.int .i64 (drawI x.b0 x.b1 (nthI bits ((j : Int) + 1))))).setCell ⟨g, 2, none⟩ (.slice none 0 0)).cell? ⟨g, 0, none⟩ = some (.int .i64 (drawI x.l0 x.l1 (nthI bits (j : Int)))) := (cell_set_ne (by omega)).trans ((cell_set_ne (by omega)).trans (cell_set_eq z0))
      have k1 : (((W6.setCell ⟨g, 0, none⟩ (.int .i64 (drawI x.l0 x.l1 (nthI bits (j : Int))))).setCell ⟨g, 1, none⟩ (.int .i64 (drawI x.b0 x.b1 (nthI bits ((j : Int) + 1))))).setCell ⟨g, 2, none⟩ (.slice none 0 0)).cell? ⟨g, 1, none⟩ = some (.int .i64 (drawI x.b0 x.b1 (nthI bits ((j : Int) + 1)))) := (cell_set_ne (by omega)).trans (cell_set_eq ((cell_set_ne (by omega)).trans z1))
      have k2 : (((W6.setCell ⟨g, 0, none⟩ (.int .i64 (drawI x.l0 x.l1 (nthI bits (j : Int))))).setCell ⟨g, 1, none⟩ (.int .i64 (drawI x.b0 x.b1 (nthI bits ((j : Int) + 1))))).setCell ⟨g, 2, none⟩ (.slice none 0 0)).cell? ⟨g, 2, none⟩ = some (.slice none 0 0) := cell_set_eq ((cell_set_ne (by omega)).trans ((cell_set_ne (by omega)).trans z2))
      have kf : (((W6.setCell ⟨g, 0, none⟩ (.int .i64 (drawI x.l0 x.l1 (nthI bits (j : Int))))).setCell ⟨g, 1, none⟩ (.int .i64 (drawI x.b0 x.b1 (nthI bits ((j : Int) + 1))))).setCell ⟨g, 2, none⟩ (.slice none 0 0)).frozen? ⟨g, 2, none⟩ = false := by rw [World.frozen?_setCell, World.frozen?_setCell, World.frozen?_setCell]; exact zf 2
      have hk12 : Kept V1 (((W6.setCell ⟨g, 0, none⟩ (.int .i64 (drawI x.l0 x.l1 (nthI bits (j : Int))))).setCell ⟨g, 1, none⟩ (.int .i64 (drawI x.b0 x.b1 (nthI bits ((j : Int) + 1))))).setCell ⟨g, 2, none⟩ (.slice none 0 0)) := Below.setCell (p := ⟨g, 2, none⟩) (Below.setCell (p := ⟨g, 1, none⟩) (Below.setCell (p := ⟨g, 0, none⟩) hk6 hg6 _) hg6 _) hg6 _
      refine (by assumption : ∀ a w, Code.wp _ _ _ a w → _) _ _ ?_
      generalize (((W6.setCell ⟨g, 0, none⟩ (.int .i64 (drawI x.l0 x.l1 (nthI bits (j : Int))))).setCell ⟨g, 1, none⟩ (.int .i64 (drawI x.b0 x.b1 (nthI bits ((j : Int) + 1))))).setCell ⟨g, 2, none⟩ (.slice none 0 0)) = V2 at *
      clear z0 z1 z2 zf hgz hk6 h8
      have m2 := kcell hk12 m2
      have m3 := kcell hk12 m3
      have m4 := kcell hk12 m4
      have m5 := kcell hk12 m5
      have m6 := kcell hk12 m6
      have m7 := kcell hk12 m7
      have m8 := kcell hk12 m8
      have a0 := kcell hk12 a0
      have a1 := kcell hk12 a1
      go_wp2_with fail
      refine (wpIn_wide (n := 0)).1 (truly7 V2 _ _ x xb j (.slice pb bits.length cpb) bits hxo (by omega) (HBV.out.kept (kept_trans (kept_trans hkV HWR.out) hk12)) m2 m3 m4 m5 m6 m7 rfl rfl rfl rfl ?_)
      intro a W7 hk7 hoth h9 h10 h11 hsz hdf
      obtain ⟨atm, adf⟩ := a
      simp only at hsz hdf hoth
      obtain ⟨y, hy⟩ : ∃ y : Nat → Value, ∀ i, y i = atm.getD i undef := ⟨_, fun _ => rfl⟩
      have y0 := (hy 0).trans (hoth 0 (by omega))
      have y1 := (hy 1).trans (hoth 1 (by omega))
      have y2 := (hy 2).trans (hoth 2 (by omega))
      have y3 := (hy 3).trans (hoth 3 (by omega))
      have y86 := (hy 86).trans (hoth 86 (by omega))
      have y4 := (hy 4).trans (hoth 4 (by omega))
      have y5 := (hy 5).trans (hoth 5 (by omega))
      have y6 := (hy 6).trans (hoth 6 (by omega))
      have y7 := (hy 7).trans (hoth 7 (by omega))
      have y8 := (hy 8).trans (hoth 8 (by omega))
      have y12 := (hy 12).trans (hoth 12 (by omega))
      have y9 : y 9 = .int .i64 (drawI x.h0 x.h1 (nthI bits ((j : Int) + 2))) := (hy 9).trans h9
      have y10 : y 10 = .int .i64 (drawI x.g0 x.g1 (nthI bits ((j : Int) + 3))) := (hy 10).trans h10
      have y11 : y 11 = .int .i64 (drawI x.t0 x.t1 (nthI bits ((j : Int) + 4))) := (hy 11).trans h11
      have hae := arr_range atm
      rw [show atm.size = 87 from hsz] at hae
      simp only [List.range, List.range.loop, List.map, ← hy] at hae
      simp at y0 y1 y2 y3 y86 y4 y5 y6 y7 y8 y12
      rw [y0, y1, y2, y3, y86, y4, y5, y6, y7, y8, y9, y10, y11, y12] at hae
      subst hae
      subst hdf
      clear hoth hsz hy y0 y1 y2 y3 y86 y4 y5 y6 y7 y8 y9 y10 y11 y12
      have k0 := kcell hk7 k0
      have k1 := kcell hk7 k1
      have k2 := kcell hk7 k2
      have kf := ((kturns hk7 (fun _ => False)).frozen (Go.Ai.lt_of_cell (by assumption : V2.cell? ⟨g, 2, none⟩ = _)) (fun h => h)).trans kf
      have m8 := kcell hk7 m8
      have a0 := kcell hk7 a0
      have a1 := kcell hk7 a1
      refine (by assumption : ∀ a w, Code.wp _ _ _ a w → _) _ _ ?_
      go_wp2_with fail
      obtain ⟨bl, bh, bg, bt, bb, bls⟩ := boy_nums hxo
      have d1 := drawI_in (lo := x.h0) (hi := x.h1) (n := nthI bits ((j : Int) + 2)) (by omega)
      have d2 := drawI_in (lo := x.g0) (hi := x.g1) (n := nthI bits ((j : Int) + 3)) (by omega)
      have d3 := drawI_in (lo := x.t0) (hi := x.t1) (n := nthI bits ((j : Int) + 4)) (by omega)
      have HKN := Lib.hid (show knowOf B bits j = ⟨drawI x.l0 x.l1 (nthI bits (j : Int)), drawI x.b0 x.b1 (nthI bits ((j : Int) + 1)), topsOf (drawn x bits j) x.ls B.weeks.toNat⟩ from by unfold knowOf; rw [HGET.out]; rfl)
      have htop : ∀ w : Nat, top ((drawn x bits j).getD 1 0) ((drawn x bits j).getD 2 0) ((drawn x bits j).getD 3 0) x.ls (w : Int) = top (drawI x.h0 x.h1 (nthI bits ((j : Int) + 2))) (drawI x.g0 x.g1 (nthI bits ((j : Int) + 3))) (drawI x.t0 x.t1 (nthI bits ((j : Int) + 4))) x.ls (w : Int) := fun w => rfl
      have HTS := Lib.hid (fun w => (topsOf_succ (drawn x bits j) x.ls w).trans (by rw [htop]))
      have HT0 := Lib.hid (show topsOf (drawn x bits j) x.ls 0 = [] from rfl)
      have HTL := Lib.hid (show ∀ w, (topsOf (drawn x bits j) x.ls w).length = w from fun w => by simp [topsOf])
      generalize topsOf (drawn x bits j) x.ls = tops at *
      generalize drawI x.h0 x.h1 (nthI bits ((j : Int) + 2)) = n1 at *
      generalize drawI x.g0 x.g1 (nthI bits ((j : Int) + 3)) = n2 at *
      generalize drawI x.t0 x.t1 (nthI bits ((j : Int) + 4)) = n3 at *
      generalize drawI x.l0 x.l1 (nthI bits (j : Int)) = n0 at *
      generalize drawI x.b0 x.b1 (nthI bits ((j : Int) + 1)) = n4 at *
      clear htop
      obtain ⟨wks, hwks⟩ := Int.eq_ofNat_of_zero_le (show 0 ≤ B.weeks by omega)
      have HNE := Lib.hid (fun i (hi : i < B.boys.length) => know_tops B bits hi q3)
      have HKO := Lib.hid (kept_trans (kept_trans HWR.out hk12) hk7)
      have hg0 : g < W7.heap.size := Go.Ai.lt_of_cell k0
      have hgx : xb < g := by omega
      have hgb : W.heap.size < g := by omega
      have hgV0 : V0.heap.size ≤ g := by omega
      obtain ⟨i0, hi, hiz, his, hib⟩ := info_parts infoI
      go_loopw [9, 12] (fun nv iv V => ∃ (w : Nat) (tv : Value), w ≤ wks ∧ iv = .int .i64 w ∧ nv = .int .i64 (top n1 n2 n3 x.ls (w : Int)) ∧ V.cell? ⟨g, 0, none⟩ = some (.int .i64 n0) ∧ V.cell? ⟨g, 1, none⟩ = some (.int .i64 n4) ∧ V.cell? ⟨g, 2, none⟩ = some tv ∧ V.frozen? ⟨g, 2, none⟩ = false ∧ V.ownsRow (g + 1) 3 1 tv w ((tops w).map (Value.int .i64)) ∧ Below g W7 V) (fun nv iv V => wks - (intOf iv).toNat)
      case atStart => exact ⟨0, .slice none 0 0, by omega, rfl, by rw [show ((0 : Nat) : Int) = 0 from rfl, top_zero (by omega)], k0, k1, k2, kf, by rw [HT0.out]; exact World.ownsRow_nil _ _ _ _, Below.refl _ _⟩
      case round =>
        obtain ⟨w, tv, hw, rfl, rfl, k0, k1, k2, kf, hrow, hVg⟩ := hrel
        have bc : ∀ b o v, b < g → W7.cell? ⟨b, o, none⟩ = some v → wr.cell? ⟨b, o, none⟩ = some v := fun b o v hb h => (World.cell?_of_block (hVg.block b hb)).trans h
        have a0 := bc _ _ _ hgb a0
        have a1 := bc _ _ _ hgb a1
        have m8 := bc _ _ _ hgx m8
        have hzg := Go.Ai.lt_of_cell k0
        have hbnd := top_bound (h := n1) (g := n2) (t := n3) (l := x.ls) (w := (w : Int)) (by omega) (by omega) (by omega) (by omega) (by omega) (by omega) (by omega) (by omega) (by omega)
        have hgrow0 := HTS.out w
        have hlen := HTL.out w
        have BC := Lib.hid bc; clear bc
        have HVG := Lib.hid hVg; clear hVg
        have HR := Lib.hid hrow; clear hrow
        by_cases hlw : w < wks
        · have hlwI : (w : Int) < B.weeks := by omega
          have HWK := Lib.hid hwks
          clear hwks
          by_cases hwt : (w : Int) < n3
          · have hsucc := top_low (h := n1) (g := n2) (l := x.ls) (w := (w : Int)) (t := n3) (by omega) hwt
            generalize top n1 n2 n3 x.ls (w : Int) = tw at *
            have w1 : IntKind.i64.wrap (tw + n2) = tw + n2 := IntWalk.i64_in _ (by omega)
            go_wp2_with (at_builtin
                         refine wpList_append_lies _ rfl _ _ 41 rfl (g + 1) 3 i0 _ 1 8 Tryz.underlying41 hi hiz his hib rfl (by decide) tv w _ rfl (HR.out.alloc _) ⟨wr.heap.size, 0, none⟩ 1 1 [.int .i64 tw] rfl rfl (cell_one_new _ _ _) (by simp [Value.oneCell']) (by decide) (by unfold maxLen; omega) (by omega) (by simp; omega) _ rfl ?_
                         intro g2 cap2 V3 hown hgrow hat hlt3
                         have hka := kept_alloc (kept_refl wr) (Obj.cells #[.int .i64 tw] 3)
                         have hnb : ∀ b, b ≤ g → tv.ownBlock ≠ some b := fun b hb e => by have := (HR.out.lt b e).1; omega
                         have k2a := grown_cell hgrow (hnb g (by omega)) (kcell hka k2)
                         have k0a := grown_cell hgrow (hnb g (by omega)) (kcell hka k0)
                         have k1a := grown_cell hgrow (hnb g (by omega)) (kcell hka k1)
                         have kfa : V3.frozen? ⟨g, 2, none⟩ = false := (World.frozen?_of_block (a := ⟨g, 2, none⟩) (hgrow.block g (by simp; omega) (Ne.symm (hnb g (by omega))))).trans (((kturns hka (fun _ => False)).frozen hzg (fun h => h)).trans kf)
                         have m8a := grown_cell hgrow (hnb xb (by omega)) (kcell hka m8))
            go_roundw
            case rel =>
              refine ⟨w + 1, .slice (some ⟨g2, 0, none⟩) (w + 1) cap2, by omega, by go_num, ?_, (cell_set_ne (by omega)).trans k0a, (cell_set_ne (by omega)).trans k1a, cell_set_eq k2a, (World.frozen?_setCell _ _ _ _).trans kfa, ?_, ?_⟩
              · rw [show ((w + 1 : Nat) : Int) = (w : Int) + 1 by omega, hsucc]
              · rw [hgrow0, List.map_append]
                exact ownsRow_set hown (a := ⟨g, 2, none⟩) (Nat.lt_succ_self g) _
              · refine Below.trans HVG.out (Below.setCell (p := ⟨g, 2, none⟩) (Below.grown (Below.mono hka (by omega)) hgrow (by simp; omega) fun b e => ?_) (Nat.le_refl g) _)
                have := (HR.out.lt b e).1
                omega
            case measure => simp [intOf]; omega
          · have hsucc := top_high (h := n1) (g := n2) (l := x.ls) (w := (w : Int)) (t := n3) (by omega)
            generalize top n1 n2 n3 x.ls (w : Int) = tw at *
            have w1 : IntKind.i64.wrap (tw - x.ls) = tw - x.ls := IntWalk.i64_in _ (by omega)
            have hxg : xb ≠ g := by omega
            go_wp2_with (at_builtin
                         refine wpList_append_lies _ rfl _ _ 41 rfl (g + 1) 3 i0 _ 1 8 Tryz.underlying41 hi hiz his hib rfl (by decide) tv w _ rfl (HR.out.alloc _) ⟨wr.heap.size, 0, none⟩ 1 1 [.int .i64 tw] rfl rfl (cell_one_new _ _ _) (by simp [Value.oneCell']) (by decide) (by unfold maxLen; omega) (by omega) (by simp; omega) _ rfl ?_
                         intro g2 cap2 V3 hown hgrow hat hlt3
                         have hka := kept_alloc (kept_refl wr) (Obj.cells #[.int .i64 tw] 3)
                         have hnb : ∀ b, b ≤ g → tv.ownBlock ≠ some b := fun b hb e => by have := (HR.out.lt b e).1; omega
                         have k2a := grown_cell hgrow (hnb g (by omega)) (kcell hka k2)
                         have k0a := grown_cell hgrow (hnb g (by omega)) (kcell hka k0)
                         have k1a := grown_cell hgrow (hnb g (by omega)) (kcell hka k1)
                         have kfa : V3.frozen? ⟨g, 2, none⟩ = false := (World.frozen?_of_block (a := ⟨g, 2, none⟩) (hgrow.block g (by simp; omega) (Ne.symm (hnb g (by omega))))).trans (((kturns hka (fun _ => False)).frozen hzg (fun h => h)).trans kf)
                         have m8a := grown_cell hgrow (hnb xb (by omega)) (kcell hka m8))
            go_roundw
            case rel =>
              refine ⟨w + 1, .slice (some ⟨g2, 0, none⟩) (w + 1) cap2, by omega, by go_num, ?_, (cell_set_ne (by omega)).trans k0a, (cell_set_ne (by omega)).trans k1a, cell_set_eq k2a, (World.frozen?_setCell _ _ _ _).trans kfa, ?_, ?_⟩
              · rw [show ((w + 1 : Nat) : Int) = (w : Int) + 1 by omega, hsucc]
              · rw [hgrow0, List.map_append]
                exact ownsRow_set hown (a := ⟨g, 2, none⟩) (Nat.lt_succ_self g) _
              · refine Below.trans HVG.out (Below.setCell (p := ⟨g, 2, none⟩) (Below.grown (Below.mono hka (by omega)) hgrow (by simp; omega) fun b e => ?_) (Nat.le_refl g) _)
                have := (HR.out.lt b e).1
                omega
            case measure => simp [intOf]; omega
        · have hlwI : ¬ (w : Int) < B.weeks := by omega
          have hwe : B.weeks.toNat = w := by omega
          have hw6 : w ≤ 6 := by omega
          have HKN2 := Lib.hid (show knowOf B bits j = ⟨n0, n4, tops w⟩ from by rw [← hwe]; exact HKN.out)
          have HWK := Lib.hid hwks
          clear hwks hwe
          have hkO : Kept wro wr := Below.trans HKO.out (Below.mono HVG.out (by omega))
          have HOUT := HROW.out.kept hkO
          have hkt : tops w ≠ [] := fun e => by rw [e] at hlen; simp at hlen; omega
          obtain ⟨ks, hks⟩ : ∃ ks, ks = (List.range j).map (knowOf B bits) := ⟨_, rfl⟩
          have hkl : ks.length = j := by rw [hks]; simp
          have hkne : ∀ k ∈ ks, k.tops ≠ [] := by
            intro k hk
            rw [hks] at hk
            obtain ⟨i', hi', rfl⟩ := List.mem_map.1 hk
            exact HNE.out i' (by have := List.mem_range.1 hi'; omega)
          rw [← hks] at HOUT
          have hown0 : ∀ b, u5.ownBlock = some b → V0.heap.size ≤ b ∧ b < xb := by
            obtain ⟨xs0, hr0, -⟩ := HROW.out
            exact fun b e => by have := hr0.lt b e; omega
          obtain ⟨xs, hrow1, hrow2⟩ := HOUT
          have HNA := NumsAt.of_row (by rw [hlen]; exact HR.out) (by rw [hlen]; omega)
          obtain ⟨ik, hik, hikz, hiks, hikb⟩ := info_parts infoK
          have hka := kept_alloc (kept_refl wr) (Obj.cells #[.int .i64 n0, .int .i64 n4, tv] 59)
          have HTB := Lib.hid HR.out.lt
          have HK2 := Lib.hid hrow2
          clear hrow2
          have htv1 : ∀ u ∈ [Value.int .i64 n0, .int .i64 n4, tv], u.oneCell' = true := by
            obtain ⟨tp, tcap, htv, -, -⟩ := HNA
            intro u hu
            simp at hu
            rcases hu with rfl | rfl | rfl
            · rfl
            · rfl
            · rw [htv]; rfl
          have HNB := Lib.hid (HNA.kept hka)
          clear HNA
          go_wp2_with (at_builtin
                       refine wpList_append_lies _ rfl _ _ 54 rfl V0.heap.size 59 ik _ 3 40 Tryz.underlying54 hik hikz hiks hikb rfl (by decide) u5 ks.length xs rfl (row_kept hrow1 hka) ⟨wr.heap.size, 0, none⟩ 1 1 [.int .i64 n0, .int .i64 n4, tv] rfl rfl (kn_news (by go_simp) (by go_simp) (by go_simp)) htv1 (by decide) (by unfold maxLen; omega) (by omega) (by simp; omega) _ rfl ?_
                       intro g2 cap2 V3 hown hgrow hat hlt3)
          have hfin : KRow V3 V0.heap.size (.slice (some ⟨g2, 0, none⟩) (ks.length + 1) cap2) (ks ++ [⟨n0, n4, tops w⟩]) :=
            KRow.push (A := wr.alloc (Obj.cells #[.int .i64 n0, .int .i64 n4, tv] 59)) (fun i k hi => by
              obtain ⟨tv', a1, a2, a3, a4, a5⟩ := HK2.out i k hi
              exact ⟨tv', a1, a2, a3, a4.kept hka, a5⟩) hrow1.1 hkne hkt hown hgrow hat HNB.out (fun b e1 e2 => by have := (HTB.out b e1).1; have := (hown0 b e2).2; omega)
          have hkV3 : Kept V0 V3 := Below.grown (kept_trans (kept_trans HV.out hkO) hka) hgrow (kept_trans (kept_trans HV.out hkO) hka).size (fun b e => (hown0 b e).1)
          rw [hkl, hks, ← HKN2.out] at hfin
          go_roundw
          case rel => exact ⟨j + 1, by omega, by go_num, by rw [List.range_succ, List.map_append]; exact hfin, hkV3⟩
          case measure => simp [intOf]; omega
    · have hltI : ¬ (j : Int) < B.boys.length := by omega
      have hje : j = B.boys.length := by omega
      have a0 := kcell hV a0
      have a1 := kcell hV a1
      have HROW := Lib.hid hrow; clear hrow
      go_wp2_with fail
      refine bodyPost_ret (v := u5) (by simp [results, Tryz.results33, go_sem]) rfl ?_
      refine ⟨_, rfl, hkV, ?_⟩
      rw [← hje]
      obtain ⟨xs, h1, h2⟩ := HROW.out
      exact ⟨xs, row_le h1 (by omega), h2⟩
end Go.Proofs.YthkcgengohoboaaGreatDoor
