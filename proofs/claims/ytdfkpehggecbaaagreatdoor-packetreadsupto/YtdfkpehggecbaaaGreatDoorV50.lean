/- LD -/
import Derived.Test.YtdfkpehggecbaaaGreatDoorRows
import Derived.Test.YtdfkpehggecbaaaGreatDoorV49
import Derived.Stop.LaidErr
import Derived.Lib.LaidTab
import Derived.LaidSub
import Derived.LaidMore
/- What the row lays: the reader's tables. -/
namespace Go.Proofs.YtdfkpehggecbaaaGreatDoor
open Go.RowKit

theorem var_lt {W : World} {n : String} {g : Nat} {v : Value} (hg : Tryz.prog.globalNamed n = some g) (h : W.var? Tryz.prog n = some #[v]) : W.cell? ⟨g, 0, none⟩ = some v ∧ g < W.heap.size := by
  have h0 : W.cell? ⟨g, 0, none⟩ = some v := by have := World.var?_cell hg h 0; simpa using this
  exact ⟨h0, World.block_lt_of_cell? W _ h0⟩
theorem Tryz.gPow : Tryz.prog.globalNamed "internal/strconv.uint64pow10" = some 3 := by kernel_rfl
theorem Tryz.gPowT : (Tryz.prog.globals[3]?).map (·.type) = some 161 := by kernel_rfl
theorem Tryz.gES : Tryz.prog.globalNamed "strconv.ErrSyntax" = some 1 := by kernel_rfl
theorem Tryz.gEST : (Tryz.prog.globals[1]?).map (·.type) = some 125 := by kernel_rfl
theorem Tryz.gER : Tryz.prog.globalNamed "strconv.ErrRange" = some 2 := by kernel_rfl
theorem Tryz.gERT : (Tryz.prog.globals[2]?).map (·.type) = some 125 := by kernel_rfl
theorem Tryz.cU64 : Tryz.prog.cellsOf 148 = 1 := by kernel_rfl
theorem Tryz.cPow : Tryz.prog.cellsOf 161 = 20 := by kernel_rfl
theorem Tryz.cEs : Tryz.prog.cellsOf 170 = 1 := by kernel_rfl
theorem Tryz.c9 : Tryz.prog.cellsOf 9 = 1 := by kernel_rfl
theorem starEs : "*" ++ "errors.errorString" = "*errors.errorString" := by decide
theorem Tryz.rowEs (u : TypeId) (h : Tryz.prog.typeName? 3 u = some "*errors.errorString") : u = 168 :=
  typeName_ptr_named (nm := "errors.errorString") (by rw [starEs]; kernel_rfl) (by kernel_rfl) (by decide) u (by rw [starEs]; exact h)
theorem laid_pow : (Rows.laid_internal_strconv_uint64pow10 : DataW Unit) = Lib.tabData .u64 Lib.pow10Tab := by kernel_rfl
/-- What the row lists, as the reader wants it. -/
theorem rv_of {W : World} (h : laidMetH Tryz.prog [("math/bits.deBruijn32tab", Rows.laid_math_bits_deBruijn32tab), ("math/bits.deBruijn64tab", Rows.laid_math_bits_deBruijn64tab), ("internal/strconv.uint64pow10", Rows.laid_internal_strconv_uint64pow10), ("strconv.ErrRange", Rows.laid_strconv_ErrRange), ("strconv.ErrSyntax", Rows.laid_strconv_ErrSyntax)] W) : Rv W.heap.size W := by
  rw [MakeChecks.laidMetH_plain _ _ _ (by kernel_rfl)] at h
  have h2 := h.tail.tail
  rw [laid_pow] at h2
  have hT := Lib.tabIs_of_head Tryz.gPow Tryz.gPowT Tryz.underlying161 Tryz.underlying148 Tryz.cU64 Tryz.cPow h2
  have h3 := h2.tail
  unfold Rows.laid_strconv_ErrRange at h3
  obtain ⟨a1, s1, hv1, -, -, -⟩ := laid_sentinel h3 Tryz.gER Tryz.gERT Tryz.underlying125 Tryz.rowEs Tryz.underlying168 Tryz.underlying170 rfl rfl Tryz.underlying9 Tryz.cEs Tryz.c9
  have h4 := h3.tail
  unfold Rows.laid_strconv_ErrSyntax at h4
  obtain ⟨a0, s0, hv0, -, -, -⟩ := laid_sentinel h4 Tryz.gES Tryz.gEST Tryz.underlying125 Tryz.rowEs Tryz.underlying168 Tryz.underlying170 rfl rfl Tryz.underlying9 Tryz.cEs Tryz.c9
  obtain ⟨c1, l1⟩ := var_lt Tryz.gER hv1
  obtain ⟨c0, l0⟩ := var_lt Tryz.gES hv0
  exact ⟨Lib.tabBelow_of_tabIs hT, ⟨_, _, _, _, c0, c1⟩, l0, l1, Nat.le_refl _⟩

end Go.Proofs.YtdfkpehggecbaaaGreatDoor

