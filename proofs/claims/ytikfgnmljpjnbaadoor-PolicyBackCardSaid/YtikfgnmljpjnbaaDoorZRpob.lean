/-
 Layer 5 by the second engine: a reader of fields.
-/
import Derived.Test.YtikfgnmljpjnbaaDoorSycpob
import Derived.Test.YtikfgnmljpjnbaaDoorE00pob
import Derived.Test.YtikfgnmljpjnbaaDoorRdnpob
namespace Go.Proofs.YtikfgnmljpjnbaaDoor
open Go.RowKit Go.Extern.Stop Go.Stop Go.Extern Go.Proofs.YtikfgnmljpjnbaaDoor.Sy
set_option linter.unusedVariables false
set_option linter.unusedSimpArgs false
noncomputable def okR (l : List Value) : Bool := @decide (∀ x ∈ l, inK x) (Classical.propDecidable _)
theorem okR_iff {l : List Value} : okR l = true ↔ ∀ x ∈ l, inK x := @decide_eq_true_iff _ (Classical.propDecidable _)
def rdI (l : List UInt8) : Int := if getV l 8 < 9223372036854775808 then (getV l 8 : Nat) else (getV l 8 : Nat) - 18446744073709551616
theorem rdI_wrap (l : List UInt8) : rdI l = wrap64 (getV l 8 : Nat) := by
 have h := getV_lt l 8
 rw [show 256 ^ 8 = 18446744073709551616 by decide] at h
 unfold rdI wrap64
 split <;> omega
theorem getI_cG (Q : Nat → Nat → Prop) (w : World) (g : Nat) (l : List UInt8) (sh : Bool) (h : RdgB w.heap.size Q w g l sh) (hl : l.length ≤ 140737488355328) : Calls Tryd.prog 51 #[.pointer (some ⟨g, 0, none⟩)] w (NumG Q w g (.int .i64 (rdI l)) (getL l 8) (getS l sh 8)) := by
 rw [rdI_wrap]
 exact get8_cG Q w g l sh h hl
noncomputable def rI : Nat → List Value → Int
 | 0, [l, .int _ k] => ((getV (byL (rows l)) k.toNat : Nat) : Int)
 | 1, [l] => rdI (byL (rows l))
 | 2, [l, .bool s] => dnE (byL (rows l)) s
 | _, _ => 0
noncomputable def rB : Nat → List Value → Bool
 | 0, [l] => okR (rows l)
 | 1, [l, .bool s, .int _ k] => getS (byL (rows l)) s k.toNat
 | _, _ => false
noncomputable def rV : Nat → List Value → Value
 | 0, [l, .int _ k] => Value.tuple ((getL (byL (rows l)) k.toNat).map bV).toArray
 | _, _ => Go.undef
noncomputable abbrev rE (iv : List Int) (bv : List Bool) (vv : List Value) (sv : List ByteArray) : Env := { iv := iv, bv := bv, vv := vv, sv := sv, fi := rI, fb := rB, fv := rV, et := 101 }
theorem syso (s : ByteArray) : strOf (.string s) = s := rfl
theorem syse (a b : ByteArray) : strEq (.string a) (.string b) = (a == b) := rfl
theorem syio (k : IntKind) (n : Int) : intOf (.int k n) = n := rfl
theorem sybo (b : Bool) : boolOf (.bool b) = b := rfl
theorem typ_len {r : SK} {v : Value} {n : Nat} (h : typ (.sl r) v) (e : r.wd = n) (e0 : 0 < n) : ((rows v).length / n : Nat) ≤ 140737488355328 ∧ (rows v).length = (rows v).length / n * n := by
 obtain ⟨_, m, h1, h2, _⟩ := h
 rw [e] at h2
 rw [h2, Nat.mul_div_cancel _ e0]
 exact ⟨h1, rfl⟩
theorem sym : Tryd.prog.follows .mixedOrders = true := by kernel_rfl
abbrev syG : Glob := [(0, 0, asHandle)]
abbrev rc_u8 : MCon := ⟨50, 0, [(.hs .no (.cons (.int .u8) .nil) o0_), (.bool (.bvar 0))], (.bapp 0 (.cons o0_ .nil)), (.int .u8 (.iapp 0 (.cons o0_ (.cons (.int .i64 (.lit 1)) .nil)))), [(.hs .no (.cons (.int .u8) .nil) (.vapp 0 (.cons o0_ (.cons (.int .i64 (.lit 1)) .nil)))), (.bool (.bapp 1 (.cons o0_ (.cons (.bool (.bvar 0)) (.cons (.int .i64 (.lit 1)) .nil)))))], ⟨0, 1, 1, 0⟩⟩
theorem rg_u8 : rc_u8.Good Tryd.prog syG (rE [] [] [] []) := by
 exact get_good (fun l => .int .u8 (getV l 1 : Nat)) (fun l => getL l 1) (fun l s => getS l s 1) (fun Q w g l sh h hl => get1_cG Q w g l sh h hl) (fun l => getL_le l 1) (fun c sh h => okR_iff.1 h) (fun _ _ _ _ _ _ => rfl) (fun _ _ _ => rfl) (fun _ _ _ _ _ _ => rfl)
abbrev rc_u16 : MCon := ⟨52, 0, [(.hs .no (.cons (.int .u8) .nil) o0_), (.bool (.bvar 0))], (.bapp 0 (.cons o0_ .nil)), (.int .u16 (.iapp 0 (.cons o0_ (.cons (.int .i64 (.lit 2)) .nil)))), [(.hs .no (.cons (.int .u8) .nil) (.vapp 0 (.cons o0_ (.cons (.int .i64 (.lit 2)) .nil)))), (.bool (.bapp 1 (.cons o0_ (.cons (.bool (.bvar 0)) (.cons (.int .i64 (.lit 2)) .nil)))))], ⟨0, 1, 1, 0⟩⟩
theorem rg_u16 : rc_u16.Good Tryd.prog syG (rE [] [] [] []) := by
 exact get_good (fun l => .int .u16 (getV l 2 : Nat)) (fun l => getL l 2) (fun l s => getS l s 2) (fun Q w g l sh h hl => get2_cG Q w g l sh h hl) (fun l => getL_le l 2) (fun c sh h => okR_iff.1 h) (fun _ _ _ _ _ _ => rfl) (fun _ _ _ => rfl) (fun _ _ _ _ _ _ => rfl)
abbrev rc_i64 : MCon := ⟨51, 0, [(.hs .no (.cons (.int .u8) .nil) o0_), (.bool (.bvar 0))], (.bapp 0 (.cons o0_ .nil)), (.int .i64 (.iapp 1 (.cons o0_ .nil))), [(.hs .no (.cons (.int .u8) .nil) (.vapp 0 (.cons o0_ (.cons (.int .i64 (.lit 8)) .nil)))), (.bool (.bapp 1 (.cons o0_ (.cons (.bool (.bvar 0)) (.cons (.int .i64 (.lit 8)) .nil)))))], ⟨0, 1, 1, 0⟩⟩
theorem rg_i64 : rc_i64.Good Tryd.prog syG (rE [] [] [] []) := by
 exact get_good (fun l => .int .i64 (rdI l)) (fun l => getL l 8) (fun l s => getS l s 8) (fun Q w g l sh h hl => getI_cG Q w g l sh h hl) (fun l => getL_le l 8) (fun c sh h => okR_iff.1 h) (fun _ _ _ _ _ _ => rfl) (fun _ _ _ => rfl) (fun _ _ _ _ _ _ => rfl)
abbrev rc_done : MCon := ⟨94, 0, [(.hs .no (.cons (.int .u8) .nil) o0_), (.bool (.bvar 0))], (.bapp 0 (.cons o0_ .nil)), (.err (.iapp 2 (.cons o0_ (.cons (.bool (.bvar 0)) .nil)))), [(.hs .no (.cons (.int .u8) .nil) o0_), (.bool (.bvar 0))], ⟨0, 1, 1, 0⟩⟩
theorem rg_done : rc_done.Good Tryd.prog syG (rE [] [] [] []) := by
 exact look_good (fun l s => errVal 101 (dnE l s)) (fun w g l sh h hl => done_cG w g l sh h hl) (fun c sh h => okR_iff.1 h) (fun _ _ _ _ _ _ => rfl)
abbrev rc_new : ACon := ⟨49, [(.hs .no (.cons (.int .u8) .nil) o0_)], (.bapp 0 (.cons o0_ .nil)), [(.hs .no (.cons (.int .u8) .nil) o0_), (.bool (.tt false))], ⟨0, 0, 1, 0⟩⟩
theorem rg_new : rc_new.Good Tryd.prog syG (rE [] [] [] []) := by
 exact new_good (fun c h => okR_iff.1 h)
end Go.Proofs.YtikfgnmljpjnbaaDoor
