/-
  The equality of two arrays of three int64, by its cells.
-/
import Derived.Test.YtengchkiejpglaaDoorLex
import Derived.ChangeKeysEq
namespace Go.Proofs.YtengchkiejpglaaDoor
open Go.RowKit Go.Extern.Stop Go.Stop Go.Extern
theorem eqArr3 (a0 a1 a2 b0 b1 b2 : Int) (w : World) :
    (Op.equalIn 10000 67 (.agg #[.int .i64 a0, .int .i64 a1, .int .i64 a2]) (.agg #[.int .i64 b0, .int .i64 b1, .int .i64 b2])).run Tryd.prog w = .ok ((a0 == b0) && ((a1 == b1) && (a2 == b2))) w := by
  have hu := Tryd.underlying2
  have hpl : Tryd.prog.plainKey 2 = true := by simp [Program.plainKey, hu]
  have hc : Tryd.prog.cellsOf 2 = 1 := by kernel_rfl
  obtain ⟨i, hi⟩ := info_of_underlying hu
  rw [run_equalIn_array w 9999 _ _ Tryd.underlying67 hi, hc]
  have p0 : ∀ (x0 x1 x2 : Value), (part 2 #[x0, x1, x2] 0).run Tryd.prog w = .ok x0 w := fun x0 x1 x2 => run_part_plain w hpl rfl
  have p1 : ∀ (x0 x1 x2 : Value), (part 2 #[x0, x1, x2] 1).run Tryd.prog w = .ok x1 w := fun x0 x1 x2 => run_part_plain w hpl rfl
  have p2 : ∀ (x0 x1 x2 : Value), (part 2 #[x0, x1, x2] 2).run Tryd.prog w = .ok x2 w := fun x0 x1 x2 => run_part_plain w hpl rfl
  have q : ∀ (a b : Int), (Op.equalIn 9999 2 (.int .i64 a) (.int .i64 b)).run Tryd.prog w = .ok (a == b) w := fun a b => run_equalIn_int w 9998 _ _ _ a b hu
  simp only [show List.range 3 = [0, 1, 2] from rfl, Op.eqItems, Sem.run_bind, Nat.zero_mul, Nat.one_mul, Nat.reduceMul, p0, p1, p2, q, Result.andThen_ok, Sem.run_ite, Sem.run_pure]
  cases (a0 == b0) <;> cases (a1 == b1) <;> cases (a2 == b2) <;> simp
end Go.Proofs.YtengchkiejpglaaDoor
