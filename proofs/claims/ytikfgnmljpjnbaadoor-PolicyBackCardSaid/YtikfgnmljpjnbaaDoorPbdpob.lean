/-
 Layer 28: a policy as a blob, told plainly.
-/
import Derived.Test.YtikfgnmljpjnbaaDoorPbcpob
import Derived.Test.YtikfgnmljpjnbaaDoorPbpob
import Derived.Test.YtikfgnmljpjnbaaDoorZmpob
namespace Go.Proofs.YtikfgnmljpjnbaaDoor
open Go.RowKit Go.Extern.Stop Go.Stop Go.Extern
set_option linter.unusedVariables false
set_option linter.unusedSimpArgs false
abbrev KRU : Sy.SK := .cons (.int .i64) (.cons (.int .i64) (.cons .str .nil))
abbrev polV (k b a q w c : Int) (j : Bool) (s : ByteArray) (f : Int) (z : Value) : Value := .agg #[.int .i64 k, .int .i64 b, .int .i64 a, .int .i64 q, .int .i64 w, .int .i64 c, .bool j, .string s, .int .i64 f, z]
def jB (j : Bool) : UInt8 := if j then 1 else 0
def polB (k b a q w c : Int) (j : Bool) (z : List UInt8) : List UInt8 := [UInt8.ofNat k.toNat] ++ leB (u64of b) 8 ++ leB (u64of a) 8 ++ leB (u64of q) 8 ++ leB (u64of w) 8 ++ leB (u64of c) 8 ++ [jB j] ++ leB z.length 2 ++ z
theorem check_pl {k b a q w c f : Int} {j : Bool} {s : ByteArray} {z L : Value} {W : World} (hp : poP k b a q w c s f (Sy.rows L)) (hr : InR k ∧ InR b ∧ InR a ∧ InR q ∧ InR w ∧ InR c ∧ InR f) (hd : Sy.deepC (fun _ _ => True) W (.sl KRU) z L) (hg : W.cell? ⟨0, 0, none⟩ = some asHandle) :
   Calls Tryd.prog 21 #[polV k b a q w c j s f z] W fun e w' => e = .returned .nilIface ∧ Below W.heap.size W w' := by
 obtain ⟨r1, r2, r3, r4, r5, r6, r7⟩ := hr
 refine (con_pl pb_g_pock rfl [k, b, a, q, w, c, f] [j] [L] [s] W [polV k b a q w c j s f z] rfl rfl rfl rfl ⟨r1, r2, r3, r4, r5, r6, r7⟩ (glob_ok hg) ⟨⟨_, rfl, rfl, rfl, rfl, rfl, rfl, rfl, rfl, rfl, rfl, ⟨hd, fun _ _ h => by cases h⟩, rfl⟩, trivial⟩).mono ?_
 rintro e w' ⟨x, o', ok', rfl, hb, hx⟩
 rw [Sy.relab_flat 0 _ rfl] at hx
 have := Sy.Rel.eq hx rfl
 subst this
 refine ⟨?_, hb⟩
 show Ending.returned (Sy.errVal _ (poE k b a q w c s f (Sy.rows L))) = _
 rw [show poE k b a q w c s f (Sy.rows L) = 0 from if_pos hp]
 rfl
theorem zenc_pl {s : ByteArray} {f : Int} {z L : Value} {W : World} (hz : zoneB s f (Sy.rows L) = true) (hf : InR f) (hd : Sy.deepC (fun _ _ => True) W (.sl KRU) z L) (hty : Sy.typ (.sl KRU) L) (hg : W.cell? ⟨0, 0, none⟩ = some asHandle) :
   Calls Tryd.prog 42 #[.agg #[.string s, .int .i64 f, z]] W fun e w' => ∃ A cap, e = .returned (.tuple #[.slice A (byL (Sy.rows (zkV s f (Sy.rows L)))).length cap, .nilIface]) ∧ (A = none → cap = 0) ∧ (byL (Sy.rows (zkV s f (Sy.rows L)))).length ≤ cap ∧ Rd w' A (byL (Sy.rows (zkV s f (Sy.rows L)))) ∧ Below W.heap.size W w' := by
 obtain ⟨b1, _⟩ := zk_back hty hz
 refine (con_pl zl_g_zenc rfl [f] [] [L] [s] W [.agg #[.string s, .int .i64 f, z]] rfl rfl rfl rfl hf (glob_ok hg) ⟨⟨_, rfl, rfl, rfl, ⟨hd, fun _ _ h => by cases h⟩, rfl⟩, trivial⟩).mono ?_
 rintro e w' ⟨x, o', ok', rfl, hb, vs, rfl, hL⟩
 rw [Sy.relL_toL] at hL
 match vs, hL with
 | [v0, v1], ⟨⟨h1, _⟩, h2, _⟩ =>
   have h3 : v1 = Sy.errVal 101 (chkI s f (Sy.rows L)) := h2
   rw [zon_chk.1 hz] at h3
   obtain ⟨A, cap, rfl, hR, hA, hc, hl, _⟩ := rd_of_deep h1 (isB_inK b1)
   exact ⟨A, cap, by rw [h3]; rfl, hA, hc, hR, hb⟩
 | [], hL => exact hL.elim
 | [_], hL => exact hL.2.elim
 | _ :: _ :: _ :: _, hL => exact hL.2.2.elim
end Go.Proofs.YtikfgnmljpjnbaaDoor
