import Derived.Test.YtbhgicggpkibeaaDoorVW7
set_option linter.all false
set_option linter.all false
namespace Go.Proofs.YtbhgicggpkibeaaDoor
open Go.RowKit Go.Sort
set_option maxRecDepth 100000

/-- a slice value that reads as these trials -/
def SliceIs (w : World) (v : Value) (l : List Trial) : Prop := (v = .slice none 0 0 ∧ l = []) ∨ ∃ b o cap, v = .slice (some ⟨b, o, none⟩) l.length cap ∧ TrialsAt w b o l
theorem SliceIs.kept {w W : World} {v : Value} {l : List Trial} (h : SliceIs w v l) (k : Kept w W) : SliceIs W v l := by
  rcases h with h | ⟨b, o, cap, h, ht⟩
  · exact .inl h
  · exact .inr ⟨b, o, cap, h, ht.kept k⟩

theorem index_nil (f : Value) (w : World) : Calls Tryd.prog 176 #[.slice none 0 0, f] w fun e w' => e = .returned (.int .i64 (-1)) ∧ w = w' := by
  go_enter Tryd.func176, Tryd.ntmps176
  go_wp2_with fail
  go_loop [8] (fun i => i = .int .i64 0) (fun i => 0)
  case atStart => rfl
  case round =>
    obtain rfl := hrel
    go_wp2_with fail
    go_ret
    exact ⟨rfl, rfl⟩

theorem contains_any (b o len cap : Nat) (k1 ts m : Value) (boy : Nat) (n0 n1 n2 n3 n4 loss : Int) (l : List Trial) (v : Value) (w : World)
   (hb : boy < len) (hl : len ≤ 4) (hc : w.cell? ⟨b, o + boy * 11 + 8, none⟩ = some (.int .i64 loss)) (hin : b < w.heap.size)
   (h1 : 0 ≤ n1 ∧ n1 ≤ 100) (h2 : 0 ≤ n2 ∧ n2 ≤ 100) (h3 : 0 ≤ n3 ∧ n3 ≤ 100) (h5 : 0 ≤ loss ∧ loss ≤ 100) (hT : SliceIs w v l) (hn : l.length ≤ 6) (hr : ∀ t, t ∈ l → 0 ≤ t.week ∧ t.week ≤ 100) :
   Calls Tryd.prog 162 #[v, .func (.func 163) #[.agg #[Value.slice (some ⟨b, o, none⟩) len cap, k1, ts, m, Value.int IntKind.i64 ↑boy, Value.int IntKind.i64 n0, Value.int IntKind.i64 n1, Value.int IntKind.i64 n2, Value.int IntKind.i64 n3, Value.int IntKind.i64 n4]] #[]] w fun e w' => e = .returned (.bool (l.any (TB n0 n1 n2 n3 n4 loss))) ∧ Kept w w' := by
  rcases hT with ⟨rfl, rfl⟩ | ⟨bT, oT, capT, rfl, hT⟩
  · go_enter Tryd.func162, Tryd.ntmps162
    go_wp2_with fail
    refine (index_nil _ w).mono ?_
    rintro e w' ⟨rfl, rfl⟩
    go_wp2_with fail
    go_ret
    exact ⟨by simp, kept_refl _⟩
  · generalize hg : l.any (TB n0 n1 n2 n3 n4 loss) = g
    have HG := Lib.hid hg; clear hg
    go_enter Tryd.func162, Tryd.ntmps162
    go_wp2_with fail
    refine (index_any b o len cap bT oT capT k1 ts m boy n0 n1 n2 n3 n4 loss l w hb hl hc hin h1 h2 h3 h5 hT hn hr).mono ?_
    rintro e w' ⟨r, hr1, rfl, hk⟩
    have HR := Lib.hid hr1; clear hr1
    go_wp2_with fail
    go_ret
    refine ⟨?_, hk⟩
    have h : FirstP l (TB n0 n1 n2 n3 n4 loss) r := HR.out
    unfold FirstP at h
    rw [HG.out] at h
    have e : decide (0 ≤ r) = g := by cases g <;> simp_all
    simpa using e

end Go.Proofs.YtbhgicggpkibeaaDoor
