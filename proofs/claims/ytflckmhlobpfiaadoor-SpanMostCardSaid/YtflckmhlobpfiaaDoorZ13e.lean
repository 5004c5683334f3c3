/-
  Layer 13 by the second engine: what the laws hand over; SpanVotes.
-/
import Derived.Test.YtflckmhlobpfiaaDoorSyc
import Derived.Test.YtflckmhlobpfiaaDoorZ13d
namespace Go.Proofs.YtflckmhlobpfiaaDoor
open Go.RowKit Go.Extern.Stop Go.Stop Go.Extern Go.Proofs.YtflckmhlobpfiaaDoor.Sy
set_option linter.unusedVariables false
set_option linter.unusedSimpArgs false
noncomputable def eqV (a b : Value) : Bool := @decide (a = b) (Classical.propDecidable _)
theorem eqV_iff {a b : Value} : eqV a b = true ↔ a = b := @decide_eq_true_iff _ (Classical.propDecidable _)
theorem rows_tup (a : Array Value) : Sy.rows (.tuple a) = a.toList := rfl
def tkV (l : Value) (n : Nat) : Value := .tuple ((Sy.rows l).take (n * 2)).toArray
abbrev KP : SK := .cons (.int .i64) (.cons (.int .i64) .nil)
theorem typ_all {l : Value} (h : typ (.sl KP) l) {n : Nat} (hn : (Sy.rows l).length = n * 2) : tkV l n = l := by
  unfold tkV
  rw [← hn, List.take_length]
  exact h.1.symm
theorem typ_row {l : Value} (h : typ (.sl KP) l) {k : Nat} (hk : k < (Sy.rows l).length / 2) : (Sy.rows l).getD (k * 2) Go.undef = .int .i64 (Go.RowKit.intOf ((Sy.rows l).getD (k * 2) Go.undef)) ∧ (Sy.rows l).getD (k * 2 + 1) Go.undef = .int .i64 (Go.RowKit.intOf ((Sy.rows l).getD (k * 2 + 1) Go.undef)) := by
  obtain ⟨_, n, h1, h2, h3⟩ := h
  have : n = (Sy.rows l).length / 2 := by rw [h2]; exact (Nat.mul_div_cancel n (by decide)).symm
  obtain ⟨g1, g2, _⟩ := h3 k (by omega)
  exact ⟨g1, g2⟩
theorem take2 {l : List Value} {n : Nat} (h : n * 2 + 1 < l.length) : l.take ((n + 1) * 2) = l.take (n * 2) ++ [l.getD (n * 2) Go.undef, l.getD (n * 2 + 1) Go.undef] := by
  have e : ∀ k, k < l.length → l.take (k + 1) = l.take k ++ [l.getD k Go.undef] := fun k hk => by
    rw [List.take_add_one, List.getD_eq_getElem?_getD, List.getElem?_eq_getElem hk]; rfl
  rw [show (n + 1) * 2 = n * 2 + 1 + 1 by omega, e _ (by omega), e _ (by omega)]
  simp only [List.append_assoc, List.cons_append, List.nil_append]
theorem num13_any (n : Int) (w : World) (hg : w.cell? ⟨0, 0, none⟩ = some asHandle) : Calls Tryd.prog 58 #[errVal 141 n] w fun e w' => e = .returned (.int .i64 n) ∧ Below w.heap.size w w' := by
  unfold errVal
  split
  · rename_i h; subst h; exact num13_nil _
  · exact num13_err _ _ hg
def midM (a b : Int) : Int := IntKind.wrap .i64 (a + IntKind.wrap .i64 (IntKind.wrap .u64 (Int.tdiv (IntKind.wrap .u64 (IntKind.wrap .u64 b - IntKind.wrap .u64 a)) 2)))
abbrev r13 : List Value := Sy.rows (Value.tuple #[Value.int IntKind.i64 1, Value.int IntKind.i64 5, Value.int IntKind.i64 4, Value.int IntKind.i64 9, Value.int IntKind.i64 5, Value.int IntKind.i64 7])
theorem q13 : voE r13 = 0 ∧ (voR r13).2.1 = 5 ∧ (voR r13).2.2 = 5 ∧ (((voR r13).1 : Nat) : Int) = 3 ∧ midM (-3) 4 = 0 ∧ satE (4 - midM (-3) 4) = 4 ∧ voE (Sy.rows (Value.tuple #[])) = 6 := by decide
noncomputable def weI : Nat → List Value → Int
  | 12, [.int _ a, .int _ b] => midM a b
  | 13, [.int _ a] => satE a
  | i, l => wdI i l
noncomputable def weB : Nat → List Value → Bool
  | 3, [x, y, .int _ n] => eqV x (tkV y n.toNat)
  | i, l => wdB i l
noncomputable def weV : Nat → List Value → Value
  | i, l => wdV i l
noncomputable abbrev weE (iv : List Int) (bv : List Bool) (vv : List Value) (sv : List ByteArray) : Env := { iv := iv, bv := bv, vv := vv, sv := sv, fi := weI, fb := weB, fv := weV, et := 141 }
theorem weup : Agree 12 3 0 (wdE [] [] [] []) (weE [] [] [] []) := ⟨rfl, (by
    intro f hf
    funext l
    show weI f l = wdI f l
    unfold weI
    split <;> first | rfl | omega), (by
    intro f hf
    funext l
    show weB f l = wdB f l
    unfold weB
    split <;> first | rfl | omega), (by
    intro f hf
    funext l
    show weV f l = wdV f l
    unfold weV
    split <;> first | rfl | omega)⟩
theorem wei_of (l : Value) (k1 : IntKind) (n : Int) (k2 : IntKind) (k : Int) : weI 0 [l, .int k1 n, .int k2 k] = ((ofN (rows l) n k.toNat : Nat) : Int) := rfl
theorem wei_arh (l : Value) (k1 : IntKind) (n : Int) (k2 : IntKind) (k : Int) : weI 1 [l, .int k1 n, .int k2 k] = arH (rows l) n k.toNat := rfl
theorem wei_fb (l : Value) (k1 : IntKind) (k : Int) : weI 2 [l, .int k1 k] = fbW (rows l) k.toNat := rfl
theorem wei_se (k1 : IntKind) (a : Int) (k2 : IntKind) (b : Int) : weI 3 [.int k1 a, .int k2 b] = spE a b := rfl
theorem wei_vm (l : Value) (k1 : IntKind) (k : Int) : weI 4 [l, .int k1 k] = (((vo (rows l) ((rows l).length / 2) k.toNat).1 : Nat) : Int) := rfl
theorem wei_vl (l : Value) (k1 : IntKind) (k : Int) : weI 5 [l, .int k1 k] = (vo (rows l) ((rows l).length / 2) k.toNat).2.1 := rfl
theorem wei_vh (l : Value) (k1 : IntKind) (k : Int) : weI 6 [l, .int k1 k] = (vo (rows l) ((rows l).length / 2) k.toNat).2.2 := rfl
theorem wei_vE (l : Value) : weI 7 [l] = voE (rows l) := rfl
theorem wei_vM (l : Value) : weI 8 [l] = (((voR (rows l)).1 : Nat) : Int) := rfl
theorem wei_vL (l : Value) : weI 9 [l] = (voR (rows l)).2.1 := rfl
theorem wei_vH (l : Value) : weI 10 [l] = (voR (rows l)).2.2 := rfl
theorem wei_aa (l : Value) (k1 : IntKind) (k : Int) : weI 11 [l, .int k1 k] = (atS (rows l) ((rows l).length / 2) k.toNat).2 := rfl
theorem wei_mi (k1 : IntKind) (a : Int) (k2 : IntKind) (b : Int) : weI 12 [.int k1 a, .int k2 b] = midM a b := rfl
theorem wei_sa (k1 : IntKind) (a : Int) : weI 13 [.int k1 a] = satE a := rfl
theorem web_pre (l : Value) (k1 : IntKind) (k : Int) : weB 0 [l, .int k1 k] = preW (rows l) k.toNat := rfl
theorem web_sm (l : Value) (k1 : IntKind) (a : Int) (k2 : IntKind) (b : Int) (k3 : IntKind) (k : Int) : weB 1 [l, .int k1 a, .int k2 b, .int k3 k] = smB (rows l) a b k.toNat := rfl
theorem web_ai (l : Value) (k1 : IntKind) (k : Int) : weB 2 [l, .int k1 k] = (atS (rows l) ((rows l).length / 2) k.toNat).1 := rfl
theorem web_tk (x : Value) (y : Value) (k1 : IntKind) (n : Int) : weB 3 [x, y, .int k1 n] = eqV x (tkV y n.toNat) := rfl
abbrev wec_num : Con := ⟨58, [(.err (.var 0))], (.tt true), (.int .i64 (.var 0)), ⟨1, 0, 0, 0⟩, none⟩
theorem weg_num : wec_num.Good Tryd.prog syG (weE [] [] [] []) := good_flat rfl rfl rfl (by
  intro n hc β ok w hG
  have hc' := hc
  simp only [Tree.holds, Sy.holds, AllN, Env.more, weE, List.cons_append, List.nil_append, List.append_nil, denV, denI, denB, denL, I2.den, VOp.den, List.getD_cons_zero, List.getD_cons_succ, Cst.den, syso, syse, syio, sybo, wei_of, wei_arh, wei_fb, wei_se, wei_vm, wei_vl, wei_vh, wei_vE, wei_vM, wei_vL, wei_vH, wei_aa, wei_mi, wei_sa, web_pre, web_sm, web_ai, web_tk, List.map_nil, List.map_cons, B2.ofInts, B2.denI, B2.denB, if_true, Bool.false_eq_true, if_false, Nat.div_one, Nat.mul_one, Nat.add_zero, holds] at hc
  exact num13_any n w (hG _ (List.mem_singleton.2 rfl)).2.2)
abbrev wec_subsat : Con := ⟨156, [(.int .i64 (.var 0)), (.int .i64 (.var 1))], (.b2 .and (.b2 .and (.b2 .le (.lit (-9223372036854775808)) (.var 0)) (.b2 .le (.var 0) (.lit (9223372036854775807)))) (.b2 .and (.b2 .le (.lit (-9223372036854775808)) (.var 1)) (.b2 .le (.var 1) (.lit (9223372036854775807))))), (.int .i64 (.iapp 13 (.cons (.int .i64 (.i2 .sub (.var 0) (.var 1))) .nil))), ⟨2, 0, 0, 0⟩, none⟩
theorem weg_subsat : wec_subsat.Good Tryd.prog syG (weE [] [] [] []) := good_flat rfl rfl rfl (by
  intro a b hc β ok w hG
  have hc' := hc
  simp only [Tree.holds, Sy.holds, AllN, Env.more, weE, List.cons_append, List.nil_append, List.append_nil, denV, denI, denB, denL, I2.den, VOp.den, List.getD_cons_zero, List.getD_cons_succ, Cst.den, syso, syse, syio, sybo, wei_of, wei_arh, wei_fb, wei_se, wei_vm, wei_vl, wei_vh, wei_vE, wei_vM, wei_vL, wei_vH, wei_aa, wei_mi, wei_sa, web_pre, web_sm, web_ai, web_tk, List.map_nil, List.map_cons, B2.ofInts, B2.denI, B2.denB, if_true, Bool.false_eq_true, if_false, Nat.div_one, Nat.mul_one, Nat.add_zero, holds] at hc
  exact esubsat a b hc.1 hc.2 w)
def give_tree : Tree :=
 (.loop ⟨1, 0, 1, 0⟩ (.b2 .and (.b2 .le (.lit (0)) (.lit (0))) (.b2 .and (.b2 .le (.lit (0)) (.ofI (.vop (.len 2) (.cons (.opq 0) .nil)))) (.bapp 3 (.cons (.tup .nil) (.cons (.opq 0) (.cons (.int .i64 (.lit (0))) .nil)))))) (.b2 .and (.b2 .le (.lit (0)) (.var 0)) (.b2 .and (.b2 .le (.var 0) (.ofI (.vop (.len 2) (.cons (.opq 0) .nil)))) (.bapp 3 (.cons (.opq 1) (.cons (.opq 0) (.cons (.int .i64 (.var 0)) .nil))))))
 (.br (.b2 .lt (.var 0) (.ofI (.vop (.len 2) (.cons (.opq 0) .nil))))
 (.need (.b2 .and (.b2 .le (.lit (0)) (.var 0)) (.b2 .lt (.var 0) (.ofI (.vop (.len 2) (.cons (.opq 0) .nil)))))
 (.need (.b2 .le (.i2 .add (.ofI (.vop (.len 2) (.cons (.opq 1) .nil))) (.lit (1))) (.lit (8796093022208)))
 (.back (.b2 .and (.b2 .le (.lit (0)) (.wrap .i64 (.i2 .add (.var 0) (.lit (1))))) (.b2 .and (.b2 .le (.wrap .i64 (.i2 .add (.var 0) (.lit (1)))) (.ofI (.vop (.len 2) (.cons (.opq 0) .nil)))) (.bapp 3 (.cons (.vop .cat (.cons (.opq 1) (.cons (.tup (.cons (.int .i64 (.ofI (.vop (.sel 2 0) (.cons (.opq 0) (.cons (.int .i64 (.var 0)) .nil))))) (.cons (.int .i64 (.ofI (.vop (.sel 2 1) (.cons (.opq 0) (.cons (.int .i64 (.var 0)) .nil))))) .nil))) .nil))) (.cons (.opq 0) (.cons (.int .i64 (.wrap .i64 (.i2 .add (.var 0) (.lit (1))))) .nil)))))) (.i2 .sub (.ofI (.vop (.len 2) (.cons (.opq 0) .nil))) (.wrap .i64 (.i2 .add (.var 0) (.lit (1))))) (.i2 .sub (.ofI (.vop (.len 2) (.cons (.opq 0) .nil))) (.var 0)))))
 (.ret (.hs (.new 86) (.cons (.int .i64) (.cons (.int .i64) .nil)) (.opq 1)))))
abbrev wec_give : Con := ⟨56, [(.hs .no (.cons (.int .i64) (.cons (.int .i64) .nil)) (.opq 0))], (.b2 .le (.ofI (.vop (.len 2) (.cons (.opq 0) .nil))) (.lit (8796093022208))), (.hs (.new 86) (.cons (.int .i64) (.cons (.int .i64) .nil)) (.opq 0)), ⟨0, 0, 1, 0⟩, none⟩
theorem give_w : walk Tryd.prog 141 ⟨[], syG, [], [], []⟩ [⟨0, ⟨1, 0, 1, 0⟩, [(3, (.hs (.id 1000 86) (.cons (.int .i64) (.cons (.int .i64) .nil)) (.opq 1))), (4, (.int .i64 (.var 0)))], none, (.b2 .and (.b2 .le (.lit (0)) (.var 0)) (.b2 .and (.b2 .le (.var 0) (.ofI (.vop (.len 2) (.cons (.opq 0) .nil)))) (.bapp 3 (.cons (.opq 1) (.cons (.opq 0) (.cons (.int .i64 (.var 0)) .nil)))))), (.i2 .sub (.ofI (.vop (.len 2) (.cons (.opq 0) .nil))) (.var 0)), 1, []⟩] (.o 86 (.cons (.int .i64) (.cons (.int .i64) .nil))) wec_give wec_give.n 3000 = some give_tree := by kernel_rfl
theorem give_h (l : Value) (hc : holds (weE [] [] [l] []) (.b2 .le (.ofI (.vop (.len 2) (.cons (.opq 0) .nil))) (.lit (8796093022208)))) (hty : patsTyp (weE [] [] [l] []) [(.hs .no (.cons (.int .i64) (.cons (.int .i64) .nil)) (.opq 0))]) : give_tree.holds (fun v_ => v_ = denV (weE [] [] [l] []) b0 (.hs (.new 86) (.cons (.int .i64) (.cons (.int .i64) .nil)) (.opq 0))) (weE [] [] [l] []) := by
  simp only [Tree.holds, Sy.holds, AllN, Env.more, weE, List.cons_append, List.nil_append, List.append_nil, denV, denI, denB, denL, I2.den, VOp.den, List.getD_cons_zero, List.getD_cons_succ, Cst.den, syso, syse, syio, sybo, wei_of, wei_arh, wei_fb, wei_se, wei_vm, wei_vl, wei_vh, wei_vE, wei_vM, wei_vL, wei_vH, wei_aa, wei_mi, wei_sa, web_pre, web_sm, web_ai, web_tk, List.map_nil, List.map_cons, B2.ofInts, B2.denI, B2.denB, if_true, Bool.false_eq_true, if_false, Nat.div_one, Nat.mul_one, Nat.add_zero, holds] at hc
  simp only [patsTyp, patTyp, patTypL, weE, denV, denL, List.getD_cons_zero, List.getD_cons_succ, and_true, true_and] at hty
  have hL_l : typ (.sl (.cons (.int .i64) (.cons (.int .i64) .nil))) l := by first | exact hty | exact hty.1 | exact hty.2 | exact hty.1.1 | exact hty.1.2 | exact hty.2.1 | exact hty.2.2 | exact hty.2.2.1 | exact hty.2.2.2
  have hN_l := typ_len (n := 2) hL_l rfl (by omega)
  unfold give_tree
  simp only [Tree.holds, Sy.holds, AllN, Env.more, weE, List.cons_append, List.nil_append, List.append_nil, denV, denI, denB, denL, I2.den, VOp.den, List.getD_cons_zero, List.getD_cons_succ, Cst.den, syso, syse, syio, sybo, wei_of, wei_arh, wei_fb, wei_se, wei_vm, wei_vl, wei_vh, wei_vE, wei_vM, wei_vL, wei_vH, wei_aa, wei_mi, wei_sa, web_pre, web_sm, web_ai, web_tk, List.map_nil, List.map_cons, B2.ofInts, B2.denI, B2.denB, if_true, Bool.false_eq_true, if_false, Nat.div_one, Nat.mul_one, Nat.add_zero]
  refine ⟨?_, ?_⟩
  ·
    exact ⟨by omega, by omega, eqV_iff.2 (by simp [tkV])⟩
  ·
    intro i0a i0b hi0
    refine ⟨fun h0 => ?_, fun h0 => ?_⟩
    ·
      refine ⟨?_, fun h1 => ?_⟩
      ·
        first
        | omega
        | (have hlen : (Sy.rows i0b).length = i0a.toNat * 2 := by
             rw [eqV_iff.1 hi0.2.2]
             simp only [tkV, rows_tup, List.length_take]
             omega
           omega)
      ·
        refine ⟨?_, fun h2 => ?_⟩
        ·
          first
          | omega
          | (have hlen : (Sy.rows i0b).length = i0a.toNat * 2 := by
               rw [eqV_iff.1 hi0.2.2]
               simp only [tkV, rows_tup, List.length_take]
               omega
             omega)
        ·
          have wf0 := wr_i64 (i0a + 1)
          refine ⟨?_, ?_⟩
          ·
            obtain ⟨hi1, hi2, hi3⟩ := hi0
            have e : IntKind.wrap .i64 (i0a + 1) = i0a + 1 := by omega
            rw [e, show (i0a + 1).toNat = i0a.toNat + 1 by omega]
            refine ⟨by omega, by omega, eqV_iff.2 ?_⟩
            obtain ⟨g1, g2⟩ := typ_row hL_l (k := i0a.toNat) (by omega)
            rw [← g1, ← g2, eqV_iff.1 hi3]
            simp only [tkV, rows_tup]
            rw [take2 (by omega)]
          ·
            omega
    ·
      obtain ⟨hi1, hi2, hi3⟩ := hi0
      rw [eqV_iff.1 hi3, typ_all hL_l (by omega)]
theorem weg_give : wec_give.Good Tryd.prog syG (weE [] [] [] []) := good_of_walk (Γ := ⟨[], syG, [], [], []⟩) (ρ := weE [] [] [] []) sym give_w rfl (fun _ _ _ _ => ok_nil) (fun l hc hty => give_h l hc hty)
def mid_tree : Tree :=
 (.br (.not (.b2 .eq (.iapp 3 (.cons (.int .i64 (.var 0)) (.cons (.int .i64 (.var 1)) .nil))) (.lit (0))))
 (.ret (.tup (.cons (.int .i64 (.lit (0))) (.cons (.int .i64 (.lit (0))) (.cons (.err (.iapp 3 (.cons (.int .i64 (.var 0)) (.cons (.int .i64 (.var 1)) .nil)))) .nil)))))
 (.need (.b2 .and (.b2 .and (.b2 .le (.lit (-9223372036854775808)) (.var 1)) (.b2 .le (.var 1) (.lit (9223372036854775807)))) (.b2 .and (.b2 .le (.lit (-9223372036854775808)) (.wrap .i64 (.i2 .add (.var 0) (.wrap .i64 (.wrap .u64 (.i2 .quo (.wrap .u64 (.i2 .sub (.wrap .u64 (.var 1)) (.wrap .u64 (.var 0)))) (.lit (2)))))))) (.b2 .le (.wrap .i64 (.i2 .add (.var 0) (.wrap .i64 (.wrap .u64 (.i2 .quo (.wrap .u64 (.i2 .sub (.wrap .u64 (.var 1)) (.wrap .u64 (.var 0)))) (.lit (2))))))) (.lit (9223372036854775807)))))
 (.ret (.tup (.cons (.int .i64 (.wrap .i64 (.i2 .add (.var 0) (.wrap .i64 (.wrap .u64 (.i2 .quo (.wrap .u64 (.i2 .sub (.wrap .u64 (.var 1)) (.wrap .u64 (.var 0)))) (.lit (2)))))))) (.cons (.int .i64 (.iapp 13 (.cons (.int .i64 (.i2 .sub (.var 1) (.wrap .i64 (.i2 .add (.var 0) (.wrap .i64 (.wrap .u64 (.i2 .quo (.wrap .u64 (.i2 .sub (.wrap .u64 (.var 1)) (.wrap .u64 (.var 0)))) (.lit (2))))))))) .nil))) (.cons (.cst .nilI) .nil)))))))
abbrev wec_mid : Con := ⟨116, [(.agg (.cons (.int .i64 (.var 0)) (.cons (.int .i64 (.var 1)) .nil)))], (.b2 .and (.b2 .le (.var 0) (.var 1)) (.b2 .and (.b2 .and (.b2 .le (.lit (-9223372036854775808)) (.var 0)) (.b2 .le (.var 0) (.lit (9223372036854775807)))) (.b2 .and (.b2 .le (.lit (-9223372036854775808)) (.var 1)) (.b2 .le (.var 1) (.lit (9223372036854775807)))))), (.tup (.cons (.int .i64 (.iapp 12 (.cons (.int .i64 (.var 0)) (.cons (.int .i64 (.var 1)) .nil)))) (.cons (.int .i64 (.iapp 13 (.cons (.int .i64 (.i2 .sub (.var 1) (.iapp 12 (.cons (.int .i64 (.var 0)) (.cons (.int .i64 (.var 1)) .nil))))) .nil))) (.cons (.err (.lit (0))) .nil)))), ⟨2, 0, 0, 0⟩, none⟩
theorem mid_w : walk Tryd.prog 141 ⟨[wc_check, wec_subsat], syG, [], [], []⟩ [] .v wec_mid wec_mid.n 3000 = some mid_tree := by kernel_rfl
theorem mid_h (a : Int) (b : Int) (hc : holds (weE [a, b] [] [] []) (.b2 .and (.b2 .le (.var 0) (.var 1)) (.b2 .and (.b2 .and (.b2 .le (.lit (-9223372036854775808)) (.var 0)) (.b2 .le (.var 0) (.lit (9223372036854775807)))) (.b2 .and (.b2 .le (.lit (-9223372036854775808)) (.var 1)) (.b2 .le (.var 1) (.lit (9223372036854775807))))))) (hty : patsTyp (weE [a, b] [] [] []) [(.agg (.cons (.int .i64 (.var 0)) (.cons (.int .i64 (.var 1)) .nil)))]) : mid_tree.holds (fun v_ => v_ = denV (weE [a, b] [] [] []) b0 (.tup (.cons (.int .i64 (.iapp 12 (.cons (.int .i64 (.var 0)) (.cons (.int .i64 (.var 1)) .nil)))) (.cons (.int .i64 (.iapp 13 (.cons (.int .i64 (.i2 .sub (.var 1) (.iapp 12 (.cons (.int .i64 (.var 0)) (.cons (.int .i64 (.var 1)) .nil))))) .nil))) (.cons (.err (.lit (0))) .nil))))) (weE [a, b] [] [] []) := by
  simp only [Tree.holds, Sy.holds, AllN, Env.more, weE, List.cons_append, List.nil_append, List.append_nil, denV, denI, denB, denL, I2.den, VOp.den, List.getD_cons_zero, List.getD_cons_succ, Cst.den, syso, syse, syio, sybo, wei_of, wei_arh, wei_fb, wei_se, wei_vm, wei_vl, wei_vh, wei_vE, wei_vM, wei_vL, wei_vH, wei_aa, wei_mi, wei_sa, web_pre, web_sm, web_ai, web_tk, List.map_nil, List.map_cons, B2.ofInts, B2.denI, B2.denB, if_true, Bool.false_eq_true, if_false, Nat.div_one, Nat.mul_one, Nat.add_zero, holds] at hc
  simp only [patsTyp, patTyp, patTypL, weE, denV, denL, List.getD_cons_zero, List.getD_cons_succ, and_true, true_and] at hty
  unfold mid_tree
  simp only [Tree.holds, Sy.holds, AllN, Env.more, weE, List.cons_append, List.nil_append, List.append_nil, denV, denI, denB, denL, I2.den, VOp.den, List.getD_cons_zero, List.getD_cons_succ, Cst.den, syso, syse, syio, sybo, wei_of, wei_arh, wei_fb, wei_se, wei_vm, wei_vl, wei_vh, wei_vE, wei_vM, wei_vL, wei_vH, wei_aa, wei_mi, wei_sa, web_pre, web_sm, web_ai, web_tk, List.map_nil, List.map_cons, B2.ofInts, B2.denI, B2.denB, if_true, Bool.false_eq_true, if_false, Nat.div_one, Nat.mul_one, Nat.add_zero]
  refine ⟨fun h0 => ?_, fun h0 => ?_⟩
  ·
    first
    | rfl
    | (exfalso; simp [spE] at *; omega)
    | (exfalso; simp only [spE] at *; omega)
  ·
    have wf0 := wr_u64 b
    have wf1 := wr_u64 a
    have wf2 := wr_u64 ((IntKind.wrap .u64 b) - (IntKind.wrap .u64 a))
    have wf3 := wr_u64 (Int.tdiv (IntKind.wrap .u64 ((IntKind.wrap .u64 b) - (IntKind.wrap .u64 a))) 2)
    have wf4 := wr_i64 (IntKind.wrap .u64 (Int.tdiv (IntKind.wrap .u64 ((IntKind.wrap .u64 b) - (IntKind.wrap .u64 a))) 2))
    have wf5 := wr_i64 (a + (IntKind.wrap .i64 (IntKind.wrap .u64 (Int.tdiv (IntKind.wrap .u64 ((IntKind.wrap .u64 b) - (IntKind.wrap .u64 a))) 2))))
    refine ⟨?_, fun h1 => ?_⟩
    ·
      omega
    ·
      try simp only [hw5]
      try simp only [hw4]
      try simp only [hw3]
      try simp only [hw2]
      try simp only [hw1]
      try simp only [hw0]
      first
      | rfl
      | (exfalso; simp [spE] at *; omega)
      | (exfalso; simp only [spE] at *; omega)
theorem weg_mid : wec_mid.Good Tryd.prog syG (weE [] [] [] []) := good_of_walk (Γ := ⟨[wc_check, wec_subsat], syG, [], [], []⟩) (ρ := weE [] [] [] []) sym mid_w rfl (fun _ _ _ _ => (ok_cons (Con.Good.env (Con.Good.up (Con.Good.up (Con.Good.up (Con.Good.up wg_check wbup rfl) wcup rfl) wdup rfl) weup rfl) _ _ _ _) (ok_cons (Con.Good.env weg_subsat _ _ _ _) ok_nil))) (fun a b hc hty => mid_h a b hc hty)
def meet_tree : Tree :=
 (.br (.not (.b2 .eq (.iapp 3 (.cons (.int .i64 (.var 0)) (.cons (.int .i64 (.var 1)) .nil))) (.lit (0))))
 (.ret (.tup (.cons (.agg (.cons (.int .i64 (.lit (0))) (.cons (.int .i64 (.lit (0))) .nil))) (.cons (.bool (.tt false)) .nil))))
 (.br (.not (.b2 .eq (.iapp 3 (.cons (.int .i64 (.var 2)) (.cons (.int .i64 (.var 3)) .nil))) (.lit (0))))
 (.ret (.tup (.cons (.agg (.cons (.int .i64 (.lit (0))) (.cons (.int .i64 (.lit (0))) .nil))) (.cons (.bool (.tt false)) .nil))))
 (.br (.not (.b2 .eq (.iapp 3 (.cons (.int .i64 (.i2 .max (.var 0) (.var 2))) (.cons (.int .i64 (.i2 .min (.var 1) (.var 3))) .nil))) (.lit (0))))
 (.ret (.tup (.cons (.agg (.cons (.int .i64 (.lit (0))) (.cons (.int .i64 (.lit (0))) .nil))) (.cons (.bool (.tt false)) .nil))))
 (.ret (.tup (.cons (.agg (.cons (.int .i64 (.i2 .max (.var 0) (.var 2))) (.cons (.int .i64 (.i2 .min (.var 1) (.var 3))) .nil))) (.cons (.bool (.tt true)) .nil)))))))
abbrev wec_meet : Con := ⟨117, [(.agg (.cons (.int .i64 (.var 0)) (.cons (.int .i64 (.var 1)) .nil))), (.agg (.cons (.int .i64 (.var 2)) (.cons (.int .i64 (.var 3)) .nil)))], (.b2 .and (.b2 .le (.var 0) (.var 1)) (.b2 .and (.b2 .le (.var 2) (.var 3)) (.b2 .and (.b2 .le (.var 0) (.var 3)) (.b2 .le (.var 2) (.var 1))))), (.tup (.cons (.agg (.cons (.int .i64 (.i2 .max (.var 0) (.var 2))) (.cons (.int .i64 (.i2 .min (.var 1) (.var 3))) .nil))) (.cons (.bool (.tt true)) .nil))), ⟨4, 0, 0, 0⟩, none⟩
theorem meet_w : walk Tryd.prog 141 ⟨[wc_check], syG, [], [], []⟩ [] .v wec_meet wec_meet.n 3000 = some meet_tree := by kernel_rfl
theorem meet_h (a : Int) (b : Int) (c : Int) (d : Int) (hc : holds (weE [a, b, c, d] [] [] []) (.b2 .and (.b2 .le (.var 0) (.var 1)) (.b2 .and (.b2 .le (.var 2) (.var 3)) (.b2 .and (.b2 .le (.var 0) (.var 3)) (.b2 .le (.var 2) (.var 1)))))) (hty : patsTyp (weE [a, b, c, d] [] [] []) [(.agg (.cons (.int .i64 (.var 0)) (.cons (.int .i64 (.var 1)) .nil))), (.agg (.cons (.int .i64 (.var 2)) (.cons (.int .i64 (.var 3)) .nil)))]) : meet_tree.holds (fun v_ => v_ = denV (weE [a, b, c, d] [] [] []) b0 (.tup (.cons (.agg (.cons (.int .i64 (.i2 .max (.var 0) (.var 2))) (.cons (.int .i64 (.i2 .min (.var 1) (.var 3))) .nil))) (.cons (.bool (.tt true)) .nil)))) (weE [a, b, c, d] [] [] []) := by
  simp only [Tree.holds, Sy.holds, AllN, Env.more, weE, List.cons_append, List.nil_append, List.append_nil, denV, denI, denB, denL, I2.den, VOp.den, List.getD_cons_zero, List.getD_cons_succ, Cst.den, syso, syse, syio, sybo, wei_of, wei_arh, wei_fb, wei_se, wei_vm, wei_vl, wei_vh, wei_vE, wei_vM, wei_vL, wei_vH, wei_aa, wei_mi, wei_sa, web_pre, web_sm, web_ai, web_tk, List.map_nil, List.map_cons, B2.ofInts, B2.denI, B2.denB, if_true, Bool.false_eq_true, if_false, Nat.div_one, Nat.mul_one, Nat.add_zero, holds] at hc
  simp only [patsTyp, patTyp, patTypL, weE, denV, denL, List.getD_cons_zero, List.getD_cons_succ, and_true, true_and] at hty
  unfold meet_tree
  simp only [Tree.holds, Sy.holds, AllN, Env.more, weE, List.cons_append, List.nil_append, List.append_nil, denV, denI, denB, denL, I2.den, VOp.den, List.getD_cons_zero, List.getD_cons_succ, Cst.den, syso, syse, syio, sybo, wei_of, wei_arh, wei_fb, wei_se, wei_vm, wei_vl, wei_vh, wei_vE, wei_vM, wei_vL, wei_vH, wei_aa, wei_mi, wei_sa, web_pre, web_sm, web_ai, web_tk, List.map_nil, List.map_cons, B2.ofInts, B2.denI, B2.denB, if_true, Bool.false_eq_true, if_false, Nat.div_one, Nat.mul_one, Nat.add_zero]
  refine ⟨fun h0 => ?_, fun h0 => ?_⟩
  ·
    first
    | exact True.intro
    | rfl
    | (exfalso; simp [spE] at *; omega)
  ·
    refine ⟨fun h1 => ?_, fun h1 => ?_⟩
    ·
      first
      | exact True.intro
      | rfl
      | (exfalso; simp [spE] at *; omega)
    ·
      refine ⟨fun h2 => ?_, fun h2 => ?_⟩
      ·
        first
        | exact True.intro
        | rfl
        | (exfalso; simp [spE] at *; omega)
      ·
        first
        | exact True.intro
        | rfl
        | (exfalso; simp [spE] at *; omega)
theorem weg_meet : wec_meet.Good Tryd.prog syG (weE [] [] [] []) := good_of_walk (Γ := ⟨[wc_check], syG, [], [], []⟩) (ρ := weE [] [] [] []) sym meet_w rfl (fun _ _ _ _ => (ok_cons (Con.Good.env (Con.Good.up (Con.Good.up (Con.Good.up (Con.Good.up wg_check wbup rfl) wcup rfl) wdup rfl) weup rfl) _ _ _ _) ok_nil)) (fun a b c d hc hty => meet_h a b c d hc hty)
def sure13_tree : Tree :=
 (.br (.b2 .eq (.iapp 7 (.cons (.tup (.cons (.int .i64 (.lit (1))) (.cons (.int .i64 (.lit (5))) (.cons (.int .i64 (.lit (4))) (.cons (.int .i64 (.lit (9))) (.cons (.int .i64 (.lit (5))) (.cons (.int .i64 (.lit (7))) .nil))))))) .nil)) (.lit (0)))
 (.br (.b2 .and (.b2 .eq (.iapp 9 (.cons (.tup (.cons (.int .i64 (.lit (1))) (.cons (.int .i64 (.lit (5))) (.cons (.int .i64 (.lit (4))) (.cons (.int .i64 (.lit (9))) (.cons (.int .i64 (.lit (5))) (.cons (.int .i64 (.lit (7))) .nil))))))) .nil)) (.lit (5))) (.b2 .eq (.iapp 10 (.cons (.tup (.cons (.int .i64 (.lit (1))) (.cons (.int .i64 (.lit (5))) (.cons (.int .i64 (.lit (4))) (.cons (.int .i64 (.lit (9))) (.cons (.int .i64 (.lit (5))) (.cons (.int .i64 (.lit (7))) .nil))))))) .nil)) (.lit (5))))
 (.br (.b2 .eq (.iapp 8 (.cons (.tup (.cons (.int .i64 (.lit (1))) (.cons (.int .i64 (.lit (5))) (.cons (.int .i64 (.lit (4))) (.cons (.int .i64 (.lit (9))) (.cons (.int .i64 (.lit (5))) (.cons (.int .i64 (.lit (7))) .nil))))))) .nil)) (.lit (3)))
 (.br (.b2 .eq (.iapp 12 (.cons (.int .i64 (.lit (-3))) (.cons (.int .i64 (.lit (4))) .nil))) (.lit (0)))
 (.br (.b2 .eq (.iapp 13 (.cons (.int .i64 (.i2 .sub (.lit (4)) (.iapp 12 (.cons (.int .i64 (.lit (-3))) (.cons (.int .i64 (.lit (4))) .nil))))) .nil)) (.lit (4)))
 (.br (.b2 .eq (.iapp 7 (.cons (.tup .nil) .nil)) (.lit (6)))
 (.ret (.bool (.tt true)))
 (.ret (.bool (.tt false))))
 (.ret (.bool (.tt false))))
 (.ret (.bool (.tt false))))
 (.ret (.bool (.tt false))))
 (.ret (.bool (.tt false))))
 (.ret (.bool (.tt false))))
abbrev wec_sure13 : Con := ⟨54, [], (.tt true), (.bool (.tt true)), ⟨0, 0, 0, 0⟩, none⟩
theorem sure13_w : walk Tryd.prog 141 ⟨[wbc_vote, wec_mid, wec_meet, wec_num], syG, [], [], []⟩ [] .v wec_sure13 wec_sure13.n 3000 = some sure13_tree := by kernel_rfl
theorem sure13_h  (hc : holds (weE [] [] [] []) (.tt true)) (hty : patsTyp (weE [] [] [] []) []) : sure13_tree.holds (fun v_ => v_ = denV (weE [] [] [] []) b0 (.bool (.tt true))) (weE [] [] [] []) := by
  simp only [Tree.holds, Sy.holds, AllN, Env.more, weE, List.cons_append, List.nil_append, List.append_nil, denV, denI, denB, denL, I2.den, VOp.den, List.getD_cons_zero, List.getD_cons_succ, Cst.den, syso, syse, syio, sybo, wei_of, wei_arh, wei_fb, wei_se, wei_vm, wei_vl, wei_vh, wei_vE, wei_vM, wei_vL, wei_vH, wei_aa, wei_mi, wei_sa, web_pre, web_sm, web_ai, web_tk, List.map_nil, List.map_cons, B2.ofInts, B2.denI, B2.denB, if_true, Bool.false_eq_true, if_false, Nat.div_one, Nat.mul_one, Nat.add_zero, holds] at hc
  simp only [patsTyp, patTyp, patTypL, weE, denV, denL, List.getD_cons_zero, List.getD_cons_succ, and_true, true_and] at hty
  unfold sure13_tree
  simp only [Tree.holds, Sy.holds, AllN, Env.more, weE, List.cons_append, List.nil_append, List.append_nil, denV, denI, denB, denL, I2.den, VOp.den, List.getD_cons_zero, List.getD_cons_succ, Cst.den, syso, syse, syio, sybo, wei_of, wei_arh, wei_fb, wei_se, wei_vm, wei_vl, wei_vh, wei_vE, wei_vM, wei_vL, wei_vH, wei_aa, wei_mi, wei_sa, web_pre, web_sm, web_ai, web_tk, List.map_nil, List.map_cons, B2.ofInts, B2.denI, B2.denB, if_true, Bool.false_eq_true, if_false, Nat.div_one, Nat.mul_one, Nat.add_zero]
  obtain ⟨q1, q2, q3, q4, q5, q6, q7⟩ := q13
  refine ⟨fun h0 => ?_, fun h0 => ?_⟩
  ·
    refine ⟨fun h1 => ?_, fun h1 => ?_⟩
    ·
      refine ⟨fun h2 => ?_, fun h2 => ?_⟩
      ·
        refine ⟨fun h3 => ?_, fun h3 => ?_⟩
        ·
          refine ⟨fun h4 => ?_, fun h4 => ?_⟩
          ·
            refine ⟨fun h5 => ?_, fun h5 => ?_⟩
            ·
              first
              | exact True.intro
              | rfl
              | exact absurd q1 h0
              | exact absurd q2 h0
              | exact absurd q3 h0
              | exact absurd q4 h0
              | exact absurd q5 h0
              | exact absurd q6 h0
              | exact absurd q7 h0
              | exact absurd q1 h1
              | exact absurd q2 h1
              | exact absurd q3 h1
              | exact absurd q4 h1
              | exact absurd q5 h1
              | exact absurd q6 h1
              | exact absurd q7 h1
              | exact absurd q1 h2
              | exact absurd q2 h2
              | exact absurd q3 h2
              | exact absurd q4 h2
              | exact absurd q5 h2
              | exact absurd q6 h2
              | exact absurd q7 h2
              | exact absurd q1 h3
              | exact absurd q2 h3
              | exact absurd q3 h3
              | exact absurd q4 h3
              | exact absurd q5 h3
              | exact absurd q6 h3
              | exact absurd q7 h3
              | exact absurd q1 h4
              | exact absurd q2 h4
              | exact absurd q3 h4
              | exact absurd q4 h4
              | exact absurd q5 h4
              | exact absurd q6 h4
              | exact absurd q7 h4
              | exact absurd q1 h5
              | exact absurd q2 h5
              | exact absurd q3 h5
              | exact absurd q4 h5
              | exact absurd q5 h5
              | exact absurd q6 h5
              | exact absurd q7 h5
              | exact absurd q1 h6
              | exact absurd q2 h6
              | exact absurd q3 h6
              | exact absurd q4 h6
              | exact absurd q5 h6
              | exact absurd q6 h6
              | exact absurd q7 h6
              | exact absurd ⟨q2, q3⟩ h1
              | skip
            ·
              first
              | exact True.intro
              | rfl
              | exact absurd q1 h0
              | exact absurd q2 h0
              | exact absurd q3 h0
              | exact absurd q4 h0
              | exact absurd q5 h0
              | exact absurd q6 h0
              | exact absurd q7 h0
              | exact absurd q1 h1
              | exact absurd q2 h1
              | exact absurd q3 h1
              | exact absurd q4 h1
              | exact absurd q5 h1
              | exact absurd q6 h1
              | exact absurd q7 h1
              | exact absurd q1 h2
              | exact absurd q2 h2
              | exact absurd q3 h2
              | exact absurd q4 h2
              | exact absurd q5 h2
              | exact absurd q6 h2
              | exact absurd q7 h2
              | exact absurd q1 h3
              | exact absurd q2 h3
              | exact absurd q3 h3
              | exact absurd q4 h3
              | exact absurd q5 h3
              | exact absurd q6 h3
              | exact absurd q7 h3
              | exact absurd q1 h4
              | exact absurd q2 h4
              | exact absurd q3 h4
              | exact absurd q4 h4
              | exact absurd q5 h4
              | exact absurd q6 h4
              | exact absurd q7 h4
              | exact absurd q1 h5
              | exact absurd q2 h5
              | exact absurd q3 h5
              | exact absurd q4 h5
              | exact absurd q5 h5
              | exact absurd q6 h5
              | exact absurd q7 h5
              | exact absurd q1 h6
              | exact absurd q2 h6
              | exact absurd q3 h6
              | exact absurd q4 h6
              | exact absurd q5 h6
              | exact absurd q6 h6
              | exact absurd q7 h6
              | exact absurd ⟨q2, q3⟩ h1
              | skip
          ·
            first
            | exact True.intro
            | rfl
            | exact absurd q1 h0
            | exact absurd q2 h0
            | exact absurd q3 h0
            | exact absurd q4 h0
            | exact absurd q5 h0
            | exact absurd q6 h0
            | exact absurd q7 h0
            | exact absurd q1 h1
            | exact absurd q2 h1
            | exact absurd q3 h1
            | exact absurd q4 h1
            | exact absurd q5 h1
            | exact absurd q6 h1
            | exact absurd q7 h1
            | exact absurd q1 h2
            | exact absurd q2 h2
            | exact absurd q3 h2
            | exact absurd q4 h2
            | exact absurd q5 h2
            | exact absurd q6 h2
            | exact absurd q7 h2
            | exact absurd q1 h3
            | exact absurd q2 h3
            | exact absurd q3 h3
            | exact absurd q4 h3
            | exact absurd q5 h3
            | exact absurd q6 h3
            | exact absurd q7 h3
            | exact absurd q1 h4
            | exact absurd q2 h4
            | exact absurd q3 h4
            | exact absurd q4 h4
            | exact absurd q5 h4
            | exact absurd q6 h4
            | exact absurd q7 h4
            | exact absurd q1 h5
            | exact absurd q2 h5
            | exact absurd q3 h5
            | exact absurd q4 h5
            | exact absurd q5 h5
            | exact absurd q6 h5
            | exact absurd q7 h5
            | exact absurd q1 h6
            | exact absurd q2 h6
            | exact absurd q3 h6
            | exact absurd q4 h6
            | exact absurd q5 h6
            | exact absurd q6 h6
            | exact absurd q7 h6
            | exact absurd ⟨q2, q3⟩ h1
            | skip
        ·
          first
          | exact True.intro
          | rfl
          | exact absurd q1 h0
          | exact absurd q2 h0
          | exact absurd q3 h0
          | exact absurd q4 h0
          | exact absurd q5 h0
          | exact absurd q6 h0
          | exact absurd q7 h0
          | exact absurd q1 h1
          | exact absurd q2 h1
          | exact absurd q3 h1
          | exact absurd q4 h1
          | exact absurd q5 h1
          | exact absurd q6 h1
          | exact absurd q7 h1
          | exact absurd q1 h2
          | exact absurd q2 h2
          | exact absurd q3 h2
          | exact absurd q4 h2
          | exact absurd q5 h2
          | exact absurd q6 h2
          | exact absurd q7 h2
          | exact absurd q1 h3
          | exact absurd q2 h3
          | exact absurd q3 h3
          | exact absurd q4 h3
          | exact absurd q5 h3
          | exact absurd q6 h3
          | exact absurd q7 h3
          | exact absurd q1 h4
          | exact absurd q2 h4
          | exact absurd q3 h4
          | exact absurd q4 h4
          | exact absurd q5 h4
          | exact absurd q6 h4
          | exact absurd q7 h4
          | exact absurd q1 h5
          | exact absurd q2 h5
          | exact absurd q3 h5
          | exact absurd q4 h5
          | exact absurd q5 h5
          | exact absurd q6 h5
          | exact absurd q7 h5
          | exact absurd q1 h6
          | exact absurd q2 h6
          | exact absurd q3 h6
          | exact absurd q4 h6
          | exact absurd q5 h6
          | exact absurd q6 h6
          | exact absurd q7 h6
          | exact absurd ⟨q2, q3⟩ h1
          | skip
      ·
        first
        | exact True.intro
        | rfl
        | exact absurd q1 h0
        | exact absurd q2 h0
        | exact absurd q3 h0
        | exact absurd q4 h0
        | exact absurd q5 h0
        | exact absurd q6 h0
        | exact absurd q7 h0
        | exact absurd q1 h1
        | exact absurd q2 h1
        | exact absurd q3 h1
        | exact absurd q4 h1
        | exact absurd q5 h1
        | exact absurd q6 h1
        | exact absurd q7 h1
        | exact absurd q1 h2
        | exact absurd q2 h2
        | exact absurd q3 h2
        | exact absurd q4 h2
        | exact absurd q5 h2
        | exact absurd q6 h2
        | exact absurd q7 h2
        | exact absurd q1 h3
        | exact absurd q2 h3
        | exact absurd q3 h3
        | exact absurd q4 h3
        | exact absurd q5 h3
        | exact absurd q6 h3
        | exact absurd q7 h3
        | exact absurd q1 h4
        | exact absurd q2 h4
        | exact absurd q3 h4
        | exact absurd q4 h4
        | exact absurd q5 h4
        | exact absurd q6 h4
        | exact absurd q7 h4
        | exact absurd q1 h5
        | exact absurd q2 h5
        | exact absurd q3 h5
        | exact absurd q4 h5
        | exact absurd q5 h5
        | exact absurd q6 h5
        | exact absurd q7 h5
        | exact absurd q1 h6
        | exact absurd q2 h6
        | exact absurd q3 h6
        | exact absurd q4 h6
        | exact absurd q5 h6
        | exact absurd q6 h6
        | exact absurd q7 h6
        | exact absurd ⟨q2, q3⟩ h1
        | skip
    ·
      first
      | exact True.intro
      | rfl
      | exact absurd q1 h0
      | exact absurd q2 h0
      | exact absurd q3 h0
      | exact absurd q4 h0
      | exact absurd q5 h0
      | exact absurd q6 h0
      | exact absurd q7 h0
      | exact absurd q1 h1
      | exact absurd q2 h1
      | exact absurd q3 h1
      | exact absurd q4 h1
      | exact absurd q5 h1
      | exact absurd q6 h1
      | exact absurd q7 h1
      | exact absurd q1 h2
      | exact absurd q2 h2
      | exact absurd q3 h2
      | exact absurd q4 h2
      | exact absurd q5 h2
      | exact absurd q6 h2
      | exact absurd q7 h2
      | exact absurd q1 h3
      | exact absurd q2 h3
      | exact absurd q3 h3
      | exact absurd q4 h3
      | exact absurd q5 h3
      | exact absurd q6 h3
      | exact absurd q7 h3
      | exact absurd q1 h4
      | exact absurd q2 h4
      | exact absurd q3 h4
      | exact absurd q4 h4
      | exact absurd q5 h4
      | exact absurd q6 h4
      | exact absurd q7 h4
      | exact absurd q1 h5
      | exact absurd q2 h5
      | exact absurd q3 h5
      | exact absurd q4 h5
      | exact absurd q5 h5
      | exact absurd q6 h5
      | exact absurd q7 h5
      | exact absurd q1 h6
      | exact absurd q2 h6
      | exact absurd q3 h6
      | exact absurd q4 h6
      | exact absurd q5 h6
      | exact absurd q6 h6
      | exact absurd q7 h6
      | exact absurd ⟨q2, q3⟩ h1
      | skip
  ·
    first
    | exact True.intro
    | rfl
    | exact absurd q1 h0
    | exact absurd q2 h0
    | exact absurd q3 h0
    | exact absurd q4 h0
    | exact absurd q5 h0
    | exact absurd q6 h0
    | exact absurd q7 h0
    | exact absurd q1 h1
    | exact absurd q2 h1
    | exact absurd q3 h1
    | exact absurd q4 h1
    | exact absurd q5 h1
    | exact absurd q6 h1
    | exact absurd q7 h1
    | exact absurd q1 h2
    | exact absurd q2 h2
    | exact absurd q3 h2
    | exact absurd q4 h2
    | exact absurd q5 h2
    | exact absurd q6 h2
    | exact absurd q7 h2
    | exact absurd q1 h3
    | exact absurd q2 h3
    | exact absurd q3 h3
    | exact absurd q4 h3
    | exact absurd q5 h3
    | exact absurd q6 h3
    | exact absurd q7 h3
    | exact absurd q1 h4
    | exact absurd q2 h4
    | exact absurd q3 h4
    | exact absurd q4 h4
    | exact absurd q5 h4
    | exact absurd q6 h4
    | exact absurd q7 h4
    | exact absurd q1 h5
    | exact absurd q2 h5
    | exact absurd q3 h5
    | exact absurd q4 h5
    | exact absurd q5 h5
    | exact absurd q6 h5
    | exact absurd q7 h5
    | exact absurd q1 h6
    | exact absurd q2 h6
    | exact absurd q3 h6
    | exact absurd q4 h6
    | exact absurd q5 h6
    | exact absurd q6 h6
    | exact absurd q7 h6
    | exact absurd ⟨q2, q3⟩ h1
    | skip
theorem weg_sure13 : wec_sure13.Good Tryd.prog syG (weE [] [] [] []) := good_of_walk (Γ := ⟨[wbc_vote, wec_mid, wec_meet, wec_num], syG, [], [], []⟩) (ρ := weE [] [] [] []) sym sure13_w rfl (fun _ _ _ _ => (ok_cons (Con.Good.env (Con.Good.up (Con.Good.up (Con.Good.up wbg_vote wcup rfl) wdup rfl) weup rfl) _ _ _ _) (ok_cons (Con.Good.env weg_mid _ _ _ _) (ok_cons (Con.Good.env weg_meet _ _ _ _) (ok_cons (Con.Good.env weg_num _ _ _ _) ok_nil))))) (fun hc hty => sure13_h  hc hty)
def wVotes_tree : Tree :=
 (.br (.b2 .lt (.lit (60)) (.ofI (.vop (.len 2) (.cons (.opq 0) .nil))))
 (.ret (.bool (.tt true)))
 (.need (.b2 .le (.ofI (.vop (.len 2) (.cons (.opq 0) .nil))) (.lit (8796093022208)))
 (.ret (.bool (.tt true)))))
abbrev wec_wVotes : Con := ⟨9, [(.hs .no (.cons (.int .i64) (.cons (.int .i64) .nil)) (.opq 0))], (.tt true), (.bool (.tt true)), ⟨0, 0, 1, 0⟩, none⟩
theorem wVotes_w : walk Tryd.prog 141 ⟨[wec_sure13, wec_give, wbc_vote, wdc_rvote, wec_num], syG, [], [], []⟩ [] .v wec_wVotes wec_wVotes.n 3000 = some wVotes_tree := by kernel_rfl
theorem wVotes_h (l : Value) (hc : holds (weE [] [] [l] []) (.tt true)) (hty : patsTyp (weE [] [] [l] []) [(.hs .no (.cons (.int .i64) (.cons (.int .i64) .nil)) (.opq 0))]) : wVotes_tree.holds (fun v_ => v_ = denV (weE [] [] [l] []) b0 (.bool (.tt true))) (weE [] [] [l] []) := by
  simp only [Tree.holds, Sy.holds, AllN, Env.more, weE, List.cons_append, List.nil_append, List.append_nil, denV, denI, denB, denL, I2.den, VOp.den, List.getD_cons_zero, List.getD_cons_succ, Cst.den, syso, syse, syio, sybo, wei_of, wei_arh, wei_fb, wei_se, wei_vm, wei_vl, wei_vh, wei_vE, wei_vM, wei_vL, wei_vH, wei_aa, wei_mi, wei_sa, web_pre, web_sm, web_ai, web_tk, List.map_nil, List.map_cons, B2.ofInts, B2.denI, B2.denB, if_true, Bool.false_eq_true, if_false, Nat.div_one, Nat.mul_one, Nat.add_zero, holds] at hc
  simp only [patsTyp, patTyp, patTypL, weE, denV, denL, List.getD_cons_zero, List.getD_cons_succ, and_true, true_and] at hty
  have hL_l : typ (.sl (.cons (.int .i64) (.cons (.int .i64) .nil))) l := by first | exact hty | exact hty.1 | exact hty.2 | exact hty.1.1 | exact hty.1.2 | exact hty.2.1 | exact hty.2.2 | exact hty.2.2.1 | exact hty.2.2.2
  have hN_l := typ_len (n := 2) hL_l rfl (by omega)
  unfold wVotes_tree
  simp only [Tree.holds, Sy.holds, AllN, Env.more, weE, List.cons_append, List.nil_append, List.append_nil, denV, denI, denB, denL, I2.den, VOp.den, List.getD_cons_zero, List.getD_cons_succ, Cst.den, syso, syse, syio, sybo, wei_of, wei_arh, wei_fb, wei_se, wei_vm, wei_vl, wei_vh, wei_vE, wei_vM, wei_vL, wei_vH, wei_aa, wei_mi, wei_sa, web_pre, web_sm, web_ai, web_tk, List.map_nil, List.map_cons, B2.ofInts, B2.denI, B2.denB, if_true, Bool.false_eq_true, if_false, Nat.div_one, Nat.mul_one, Nat.add_zero]
  refine ⟨fun h0 => ?_, fun h0 => ?_⟩
  ·
    exact True.intro
  ·
    refine ⟨?_, fun h1 => ?_⟩
    ·
      omega
    ·
      exact True.intro
theorem weg_wVotes : wec_wVotes.Good Tryd.prog syG (weE [] [] [] []) := good_of_walk (Γ := ⟨[wec_sure13, wec_give, wbc_vote, wdc_rvote, wec_num], syG, [], [], []⟩) (ρ := weE [] [] [] []) sym wVotes_w rfl (fun _ _ _ _ => (ok_cons (Con.Good.env weg_sure13 _ _ _ _) (ok_cons (Con.Good.env weg_give _ _ _ _) (ok_cons (Con.Good.env (Con.Good.up (Con.Good.up (Con.Good.up wbg_vote wcup rfl) wdup rfl) weup rfl) _ _ _ _) (ok_cons (Con.Good.env (Con.Good.up wdg_rvote weup rfl) _ _ _ _) (ok_cons (Con.Good.env weg_num _ _ _ _) ok_nil)))))) (fun l hc hty => wVotes_h l hc hty)
end Go.Proofs.YtflckmhlobpfiaaDoor
