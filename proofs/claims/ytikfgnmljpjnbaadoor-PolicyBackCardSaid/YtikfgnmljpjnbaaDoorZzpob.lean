/-
 Layer 10 behind the blobs.
-/
import Derived.Test.YtikfgnmljpjnbaaDoorSycpob
import Derived.Test.YtikfgnmljpjnbaaDoorZ6bpob
import Derived.Test.YtikfgnmljpjnbaaDoorE00pob
namespace Go.Proofs.YtikfgnmljpjnbaaDoor
open Go.RowKit Go.Extern.Stop Go.Stop Go.Extern Go.Proofs.YtikfgnmljpjnbaaDoor.Sy
set_option linter.unusedVariables false
set_option linter.unusedSimpArgs false
def letC (c : Int) : Bool := decide (97 ≤ c) && decide (c ≤ 122) || decide (65 ≤ c) && decide (c ≤ 90) || decide (48 ≤ c) && decide (c ≤ 57) || decide (c = 47) || decide (c = 95) || decide (c = 43) || decide (c = 45)
theorem letC_iff (c : Int) : letC c = true ↔ (97 ≤ c ∧ c ≤ 122) ∨ (65 ≤ c ∧ c ≤ 90) ∨ (48 ≤ c ∧ c ≤ 57) ∨ c = 47 ∨ c = 95 ∨ c = 43 ∨ c = 45 := by simp only [letC, Bool.or_eq_true, Bool.and_eq_true, decide_eq_true_eq]; omega
def intsV (v : Value) : List Int := (rows v).map intOf
def ixL : List Int → Int
 | [] => -1
 | c :: l => if letC c then (if ixL l < 0 then -1 else ixL l + 1) else 0
def preL (l : List Int) (n : Nat) : Bool := (l.take n).all letC
theorem preL_zero (l : List Int) : preL l 0 = true := by simp [preL]
theorem preL_succ {l : List Int} {n : Nat} {c : Int} (h : l[n]? = some c) : preL l (n + 1) = (preL l n && letC c) := by
 unfold preL; rw [List.take_add_one, h]; simp
theorem ixL_at {c : Int} : ∀ {l : List Int} {n : Nat}, preL l n = true → l[n]? = some c → letC c = false → ixL l = n
 | [], n, _, h, _ => by simp at h
 | a :: l, 0, _, h, hc => by simp at h; subst h; simp [ixL, hc]
 | a :: l, n + 1, hp, h, hc => by
   simp only [preL, List.take_succ_cons, List.all_cons, Bool.and_eq_true] at hp
   have := ixL_at (l := l) (n := n) hp.2 (by simpa using h) hc
   simp only [ixL, hp.1, if_true, this]
   rw [if_neg (by omega)]; omega
theorem ixL_no : ∀ {l : List Int} {n : Nat}, preL l n = true → l.length ≤ n → ixL l = -1
 | [], _, _, _ => rfl
 | a :: l, 0, _, h => by simp at h
 | a :: l, n + 1, hp, h => by
   simp only [preL, List.take_succ_cons, List.all_cons, Bool.and_eq_true] at hp
   have := ixL_no (l := l) (n := n) hp.2 (by simpa using h)
   simp [ixL, hp.1, this]
theorem intsV_len (v : Value) : (intsV v).length = (rows v).length := by simp [intsV]
theorem intsV_at {v : Value} {n : Nat} (h : n < (rows v).length) : (intsV v)[n]? = some (intOf ((rows v).getD n Go.undef)) := by
 simp [intsV, h]
theorem intsV_s (s : ByteArray) : intsV (.tuple (s.data.toList.map byteV).toArray) = s.data.toList.map fun c => (c.toNat : Int) := by simp [intsV, Sy.rows, byteV, intOf]
def nameB (s : ByteArray) : Bool := decide (1 ≤ s.size) && decide (s.size ≤ 12) && decide (ixL (s.data.toList.map fun c => (c.toNat : Int)) < 0)
def atR (l : List Value) (k : Nat) : Int := intOf (l.getD (k * 3) Go.undef)
def offR (l : List Value) (k : Nat) : Int := intOf (l.getD (k * 3 + 1) Go.undef)
def nmR (l : List Value) (k : Nat) : ByteArray := strOf (l.getD (k * 3 + 2) Go.undef)
def leastR (l : List Value) : Nat → Int
 | 0 => -1099511627776
 | n + 1 => atR l n + 1
def offB (n : Int) : Bool := decide (-86399 ≤ n) && decide (n ≤ 86399)
def rulB (l : List Value) (k : Nat) : Bool := decide (leastR l k ≤ atR l k) && decide (atR l k ≤ 1099511627776) && offB (offR l k) && nameB (nmR l k)
def zkR (l : List Value) : Nat → Bool
 | 0 => true
 | n + 1 => zkR l n && rulB l n
def zoneB (s : ByteArray) (f : Int) (l : List Value) : Bool := nameB s && offB f && decide (l.length / 3 ≤ 32) && zkR l (l.length / 3)
def shortR (l : List Value) : Bool := (List.range (l.length / 3)).all fun k => decide ((nmR l k).size ≤ 255)
def chkI (s : ByteArray) (f : Int) (l : List Value) : Int := if zoneB s f l then 0 else 1
theorem rul_iff (l : List Value) (k : Nat) : rulB l k = true ↔ leastR l k ≤ intOf (l.getD (k * 3) Go.undef) ∧ intOf (l.getD (k * 3) Go.undef) ≤ 1099511627776 ∧ -86399 ≤ intOf (l.getD (k * 3 + 1) Go.undef) ∧ intOf (l.getD (k * 3 + 1) Go.undef) ≤ 86399 ∧ nameB (strOf (l.getD (k * 3 + 2) Go.undef)) = true := by
 unfold rulB offB atR offR nmR
 simp only [Bool.and_eq_true, decide_eq_true_eq, and_assoc]
theorem zkR_get {l : List Value} {k : Nat} : ∀ {n : Nat}, zkR l n = true → k < n → rulB l k = true
 | 0, _, h => by omega
 | n + 1, ho, h => by
   simp only [zkR, Bool.and_eq_true] at ho
   rcases Nat.lt_succ_iff_lt_or_eq.1 h with h' | rfl
   · exact zkR_get ho.1 h'
   · exact ho.2
theorem least_ge {l : List Value} : ∀ {n : Nat}, zkR l n = true → -1099511627776 ≤ leastR l n
 | 0, _ => by simp [leastR]
 | n + 1, ho => by
   simp only [zkR, Bool.and_eq_true] at ho
   have h1 := least_ge ho.1
   have h2 := ((rul_iff _ _).1 ho.2).1
   simp only [leastR, atR]
   omega
theorem zone_iff (s : ByteArray) (f : Int) (l : List Value) : zoneB s f l = true ↔ nameB s = true ∧ (-86399 ≤ f ∧ f ≤ 86399) ∧ l.length / 3 ≤ 32 ∧ zkR l (l.length / 3) = true := by
 simp only [zoneB, offB, Bool.and_eq_true, decide_eq_true_eq, and_assoc]
theorem chk_no {s : ByteArray} {f : Int} {l : List Value} (h : ¬ zoneB s f l = true) : chkI s f l = 1 := by simp [chkI, h]
theorem chk_yes {s : ByteArray} {f : Int} {l : List Value} (h : zoneB s f l = true) : chkI s f l = 0 := by simp [chkI, h]
theorem errV1 {n : Int} (h : n = 1) : Value.iface 101 (.int .i64 1) = errVal 101 n := by subst h; rfl
theorem errV0 {n : Int} (h : n = 0) : Value.nilIface = errVal 101 n := by subst h; rfl
noncomputable def zzI : Nat → List Value → Int
 | 10, [l] => ixL (intsV l)
 | 11, [l, .int _ n] => leastR (rows l) n.toNat
 | 12, [.string s, .int _ f, l] => chkI s f (rows l)
 | i, l => zb6I i l
noncomputable def zzB : Nat → List Value → Bool
 | 3, [.int _ c] => letC c
 | 4, [l, .int _ n] => zkR (rows l) n.toNat
 | 5, [.string s, .int _ f, l] => zoneB s f (rows l)
 | 6, [l] => shortR (rows l)
 | 7, [l, .int _ n] => preL (intsV l) n.toNat
 | 8, [.string s] => nameB s
 | i, l => zb6B i l
noncomputable def zzV : Nat → List Value → Value
 | i, l => zb6V i l
noncomputable abbrev zzE (iv : List Int) (bv : List Bool) (vv : List Value) (sv : List ByteArray) : Env := { iv := iv, bv := bv, vv := vv, sv := sv, fi := zzI, fb := zzB, fv := zzV, et := 101 }
set_option maxHeartbeats 8000000 in
theorem zzup : Agree 10 3 9 (zb6E [] [] [] []) (zzE [] [] [] []) := ⟨rfl, (by
   intro f hf
   funext l
   show zzI f l = zb6I f l
   unfold zzI
   split <;> first | rfl | omega), (by
   intro f hf
   funext l
   show zzB f l = zb6B f l
   unfold zzB
   split <;> first | rfl | omega), (by
   intro f hf
   funext l
   show zzV f l = zb6V f l
   unfold zzV
   split <;> first | rfl | omega)⟩
theorem zzi_ixl (l : Value) : zzI 10 [l] = ixL (intsV l) := rfl
theorem zzi_lst (l : Value) (k1 : IntKind) (n : Int) : zzI 11 [l, .int k1 n] = leastR (rows l) n.toNat := rfl
theorem zzi_chk (s : ByteArray) (k1 : IntKind) (f : Int) (l : Value) : zzI 12 [.string s, .int k1 f, l] = chkI s f (rows l) := rfl
theorem zzb_let (k1 : IntKind) (c : Int) : zzB 3 [.int k1 c] = letC c := rfl
theorem zzb_rok (l : Value) (k1 : IntKind) (n : Int) : zzB 4 [l, .int k1 n] = zkR (rows l) n.toNat := rfl
theorem zzb_pre (l : Value) (k1 : IntKind) (n : Int) : zzB 7 [l, .int k1 n] = preL (intsV l) n.toNat := rfl
theorem zzb_nm (s : ByteArray) : zzB 8 [.string s] = nameB s := rfl
def zlet_tree : Tree :=
 (.br (le_ (.lit 97) v0_)
 (.br (le_ v0_ (.lit 122))
 (.ret (.bool (.tt true)))
 (.br (le_ (.lit 65) v0_)
 (.br (le_ v0_ (.lit 90))
 (.ret (.bool (.tt true)))
 (.br (le_ (.lit 48) v0_)
 (.br (le_ v0_ (.lit 57))
 (.ret (.bool (.tt true)))
 (.br (eq_ v0_ (.lit 47))
 (.ret (.bool (.tt true)))
 (.br (eq_ v0_ (.lit 95))
 (.ret (.bool (.tt true)))
 (.br (eq_ v0_ (.lit 43))
 (.ret (.bool (.tt true)))
 (.ret (.bool (eq_ v0_ (.lit 45))))))))
 (.br (eq_ v0_ (.lit 47))
 (.ret (.bool (.tt true)))
 (.br (eq_ v0_ (.lit 95))
 (.ret (.bool (.tt true)))
 (.br (eq_ v0_ (.lit 43))
 (.ret (.bool (.tt true)))
 (.ret (.bool (eq_ v0_ (.lit 45)))))))))
 (.br (le_ (.lit 48) v0_)
 (.br (le_ v0_ (.lit 57))
 (.ret (.bool (.tt true)))
 (.br (eq_ v0_ (.lit 47))
 (.ret (.bool (.tt true)))
 (.br (eq_ v0_ (.lit 95))
 (.ret (.bool (.tt true)))
 (.br (eq_ v0_ (.lit 43))
 (.ret (.bool (.tt true)))
 (.ret (.bool (eq_ v0_ (.lit 45))))))))
 (.br (eq_ v0_ (.lit 47))
 (.ret (.bool (.tt true)))
 (.br (eq_ v0_ (.lit 95))
 (.ret (.bool (.tt true)))
 (.br (eq_ v0_ (.lit 43))
 (.ret (.bool (.tt true)))
 (.ret (.bool (eq_ v0_ (.lit 45))))))))))
 (.br (le_ (.lit 65) v0_)
 (.br (le_ v0_ (.lit 90))
 (.ret (.bool (.tt true)))
 (.br (le_ (.lit 48) v0_)
 (.br (le_ v0_ (.lit 57))
 (.ret (.bool (.tt true)))
 (.br (eq_ v0_ (.lit 47))
 (.ret (.bool (.tt true)))
 (.br (eq_ v0_ (.lit 95))
 (.ret (.bool (.tt true)))
 (.br (eq_ v0_ (.lit 43))
 (.ret (.bool (.tt true)))
 (.ret (.bool (eq_ v0_ (.lit 45))))))))
 (.br (eq_ v0_ (.lit 47))
 (.ret (.bool (.tt true)))
 (.br (eq_ v0_ (.lit 95))
 (.ret (.bool (.tt true)))
 (.br (eq_ v0_ (.lit 43))
 (.ret (.bool (.tt true)))
 (.ret (.bool (eq_ v0_ (.lit 45)))))))))
 (.br (le_ (.lit 48) v0_)
 (.br (le_ v0_ (.lit 57))
 (.ret (.bool (.tt true)))
 (.br (eq_ v0_ (.lit 47))
 (.ret (.bool (.tt true)))
 (.br (eq_ v0_ (.lit 95))
 (.ret (.bool (.tt true)))
 (.br (eq_ v0_ (.lit 43))
 (.ret (.bool (.tt true)))
 (.ret (.bool (eq_ v0_ (.lit 45))))))))
 (.br (eq_ v0_ (.lit 47))
 (.ret (.bool (.tt true)))
 (.br (eq_ v0_ (.lit 95))
 (.ret (.bool (.tt true)))
 (.br (eq_ v0_ (.lit 43))
 (.ret (.bool (.tt true)))
 (.ret (.bool (eq_ v0_ (.lit 45))))))))))
abbrev zzc_zlet : Con := ⟨118, [(.int .u8 v0_)], (.tt true), (.bool (.bapp 3 (.cons (.int .u8 v0_) .nil))), ⟨1, 0, 0, 0⟩, none⟩
theorem zlet_w : walk Tryd.prog 101 ⟨[], syG, [], [], []⟩ [] .v zzc_zlet zzc_zlet.n 3000 = some zlet_tree := by kernel_rfl
theorem zlet_h (c : Int) : Hyp_ zzc_zlet zlet_tree (zzE [c] [] [] []) := by
 intro hc hty
 simp only [zzc_zlet, Sy.holds, zzE, denV, denI, denB, denL, I2.den, VOp.den, List.getD_cons_zero, List.getD_cons_succ, Cst.den, syso, syse, syio, sybo, B2.ofInts, B2.denI, B2.denB, if_true, Bool.false_eq_true, if_false, Nat.div_one, Nat.mul_one, Nat.add_zero] at hc
 simp only [zzc_zlet, patsTyp, patTyp, patTypL, zzE, denV, denL, List.getD_cons_zero, List.getD_cons_succ, and_true, true_and] at hty
 unfold zlet_tree
 simp only [zzc_zlet, Tree.holds, Sy.holds, zzE, denV, denI, denB, denL, I2.den, VOp.den, List.getD_cons_zero, List.getD_cons_succ, Cst.den, syso, syse, syio, sybo, zzb_let, B2.ofInts, B2.denI, B2.denB, if_true, Bool.false_eq_true, if_false, Nat.div_one, Nat.mul_one, Nat.add_zero]
 refine ⟨fun h0 => ?_, fun h0 => ?_⟩
 refine ⟨fun h1 => ?_, fun h1 => ?_⟩
 refine ?a0; rotate_left
 refine ⟨fun h2 => ?_, fun h2 => ?_⟩
 refine ⟨fun h3 => ?_, fun h3 => ?_⟩
 refine ?a1; rotate_left
 refine ⟨fun h4 => ?_, fun h4 => ?_⟩
 refine ⟨fun h5 => ?_, fun h5 => ?_⟩
 refine ?a2; rotate_left
 refine ⟨fun h6 => ?_, fun h6 => ?_⟩
 refine ?a3; rotate_left
 refine ⟨fun h7 => ?_, fun h7 => ?_⟩
 refine ?a4; rotate_left
 refine ⟨fun h8 => ?_, fun h8 => ?_⟩
 refine ?a5; rotate_left
 refine ?a6; rotate_left
 refine ⟨fun h9 => ?_, fun h9 => ?_⟩
 refine ?a7; rotate_left
 refine ⟨fun h10 => ?_, fun h10 => ?_⟩
 refine ?a8; rotate_left
 refine ⟨fun h11 => ?_, fun h11 => ?_⟩
 refine ?a9; rotate_left
 refine ?a10; rotate_left
 refine ⟨fun h12 => ?_, fun h12 => ?_⟩
 refine ⟨fun h13 => ?_, fun h13 => ?_⟩
 refine ?a11; rotate_left
 refine ⟨fun h14 => ?_, fun h14 => ?_⟩
 refine ?a12; rotate_left
 refine ⟨fun h15 => ?_, fun h15 => ?_⟩
 refine ?a13; rotate_left
 refine ⟨fun h16 => ?_, fun h16 => ?_⟩
 refine ?a14; rotate_left
 refine ?a15; rotate_left
 refine ⟨fun h17 => ?_, fun h17 => ?_⟩
 refine ?a16; rotate_left
 refine ⟨fun h18 => ?_, fun h18 => ?_⟩
 refine ?a17; rotate_left
 refine ⟨fun h19 => ?_, fun h19 => ?_⟩
 refine ?a18; rotate_left
 refine ?a19; rotate_left
 refine ⟨fun h20 => ?_, fun h20 => ?_⟩
 refine ⟨fun h21 => ?_, fun h21 => ?_⟩
 refine ?a20; rotate_left
 refine ⟨fun h22 => ?_, fun h22 => ?_⟩
 refine ⟨fun h23 => ?_, fun h23 => ?_⟩
 refine ?a21; rotate_left
 refine ⟨fun h24 => ?_, fun h24 => ?_⟩
 refine ?a22; rotate_left
 refine ⟨fun h25 => ?_, fun h25 => ?_⟩
 refine ?a23; rotate_left
 refine ⟨fun h26 => ?_, fun h26 => ?_⟩
 refine ?a24; rotate_left
 refine ?a25; rotate_left
 refine ⟨fun h27 => ?_, fun h27 => ?_⟩
 refine ?a26; rotate_left
 refine ⟨fun h28 => ?_, fun h28 => ?_⟩
 refine ?a27; rotate_left
 refine ⟨fun h29 => ?_, fun h29 => ?_⟩
 refine ?a28; rotate_left
 refine ?a29; rotate_left
 refine ⟨fun h30 => ?_, fun h30 => ?_⟩
 refine ⟨fun h31 => ?_, fun h31 => ?_⟩
 refine ?a30; rotate_left
 refine ⟨fun h32 => ?_, fun h32 => ?_⟩
 refine ?a31; rotate_left
 refine ⟨fun h33 => ?_, fun h33 => ?_⟩
 refine ?a32; rotate_left
 refine ⟨fun h34 => ?_, fun h34 => ?_⟩
 refine ?a33; rotate_left
 refine ?a34; rotate_left
 refine ⟨fun h35 => ?_, fun h35 => ?_⟩
 refine ?a35; rotate_left
 refine ⟨fun h36 => ?_, fun h36 => ?_⟩
 refine ?a36; rotate_left
 refine ⟨fun h37 => ?_, fun h37 => ?_⟩
 refine ?a37; rotate_left
 refine ?a38; rotate_left
 case a0 | a1 | a2 | a3 | a4 | a5 | a6 | a7 | a8 | a9 | a10 | a11 | a12 | a13 | a14 | a15 | a16 | a17 | a18 | a19 | a20 | a21 | a22 | a23 | a24 | a25 | a26 | a27 | a28 | a29 | a30 | a31 | a32 | a33 | a34 | a35 | a36 | a37 | a38 =>
  refine congrArg Value.bool (Bool.eq_iff_iff.2 ?_)
  rw [letC_iff]
  try simp only [beq_iff_eq, decide_eq_true_eq, true_iff, false_iff, Bool.false_eq_true]
  omega
theorem zzg_zlet : zzc_zlet.Good Tryd.prog syG (zzE [] [] [] []) := good_of_walk (Γ := ⟨[], syG, [], [], []⟩) (ρ := zzE [] [] [] []) sym zlet_w rfl (fun _ _ _ _ => ok_nil) zlet_h
def zn1_tree : Tree :=
 (.ret (.bool (.not (.bapp 3 (.cons (.int .u8 v0_) .nil)))))
abbrev zzc_zn1 : Con := ⟨117, [(.int .u8 v0_)], (.tt true), (.bool (.not (.bapp 3 (.cons (.int .u8 v0_) .nil)))), ⟨1, 0, 0, 0⟩, none⟩
theorem zn1_w : walk Tryd.prog 101 ⟨[zzc_zlet], syG, [], [], []⟩ [] .v zzc_zn1 zzc_zn1.n 3000 = some zn1_tree := by kernel_rfl
theorem zn1_h (c : Int) : Hyp_ zzc_zn1 zn1_tree (zzE [c] [] [] []) := by
 intro hc hty
 simp only [zzc_zn1, Sy.holds, zzE, denV, denI, denB, denL, I2.den, VOp.den, List.getD_cons_zero, List.getD_cons_succ, Cst.den, syso, syse, syio, sybo, B2.ofInts, B2.denI, B2.denB, if_true, Bool.false_eq_true, if_false, Nat.div_one, Nat.mul_one, Nat.add_zero] at hc
 simp only [zzc_zn1, patsTyp, patTyp, patTypL, zzE, denV, denL, List.getD_cons_zero, List.getD_cons_succ, and_true, true_and] at hty
 unfold zn1_tree
 simp only [zzc_zn1, Tree.holds, Sy.holds, zzE, denV, denI, denB, denL, I2.den, VOp.den, List.getD_cons_zero, List.getD_cons_succ, Cst.den, syso, syse, syio, sybo, zzb_let, B2.ofInts, B2.denI, B2.denB, if_true, Bool.false_eq_true, if_false, Nat.div_one, Nat.mul_one, Nat.add_zero]
 all_goals first | omega | rfl | (simp only [Value.tuple.injEq, Value.agg.injEq, Value.int.injEq, Value.bool.injEq, Array.mk.injEq, List.cons.injEq, true_and, and_true]; omega) | (refine congrArg Value.bool (Bool.eq_iff_iff.2 ?_); simp only [beq_iff_eq, decide_eq_true_eq, true_iff, false_iff, Bool.false_eq_true, Bool.not_eq_true', Bool.and_eq_true, Bool.or_eq_true, decide_eq_false_iff_not]; omega)
theorem zzg_zn1 : zzc_zn1.Good Tryd.prog syG (zzE [] [] [] []) := good_of_walk (Γ := ⟨[zzc_zlet], syG, [], [], []⟩) (ρ := zzE [] [] [] []) sym zn1_w rfl (fun _ _ _ _ => (ok_cons (Con.Good.env zzg_zlet _ _ _ _) ok_nil)) zn1_h
def zix_tree : Tree :=
 (.loop ⟨1, 0, 0, 0⟩ (an_ (le_ (.lit 0) (.lit 0)) (an_ (le_ (.lit 0) (.ofI (.vop (.len 1) (.cons o0_ .nil)))) (.bapp 7 (.cons o0_ (.cons (.int .i64 (.lit 0)) .nil))))) (an_ (le_ (.lit 0) v0_) (an_ (le_ v0_ (.ofI (.vop (.len 1) (.cons o0_ .nil)))) (.bapp 7 (.cons o0_ (.cons z0_ .nil)))))
 (.br (lt_ v0_ (.ofI (.vop (.len 1) (.cons o0_ .nil))))
 (.need (an_ (le_ (.lit 0) v0_) (lt_ v0_ (.ofI (.vop (.len 1) (.cons o0_ .nil)))))
 (.br (.not (.bapp 3 (.cons (.int .u8 (.ofI (.vop (.sel 1 0) (.cons o0_ (.cons z0_ .nil))))) .nil)))
 (.ret z0_)
 (.back (an_ (le_ (.lit 0) (wr_ (ad_ v0_ (.lit 1)))) (an_ (le_ (wr_ (ad_ v0_ (.lit 1))) (.ofI (.vop (.len 1) (.cons o0_ .nil)))) (.bapp 7 (.cons o0_ (.cons (.int .i64 (wr_ (ad_ v0_ (.lit 1)))) .nil))))) (sb_ (.ofI (.vop (.len 1) (.cons o0_ .nil))) (wr_ (ad_ v0_ (.lit 1)))) (sb_ (.ofI (.vop (.len 1) (.cons o0_ .nil))) v0_))))
 (.ret (.int .i64 (.lit (-1))))))
abbrev zzc_zix : Con := ⟨124, [(.hs .no (.cons (.int .u8) .nil) o0_), (.cst (.fn 117))], (.tt true), (.int .i64 (.iapp 10 (.cons o0_ .nil))), ⟨0, 0, 1, 0⟩, none⟩
theorem zix_w : walk Tryd.prog 101 ⟨[zzc_zn1], syG, [], [], []⟩ [⟨0, ⟨1, 0, 0, 0⟩, [(8, z0_)], none, (an_ (le_ (.lit 0) v0_) (an_ (le_ v0_ (.ofI (.vop (.len 1) (.cons o0_ .nil)))) (.bapp 7 (.cons o0_ (.cons z0_ .nil))))), (sb_ (.ofI (.vop (.len 1) (.cons o0_ .nil))) v0_), 0, []⟩] .v zzc_zix zzc_zix.n 3000 = some zix_tree := by kernel_rfl
theorem zix_h (l : Value) : Hyp_ zzc_zix zix_tree (zzE [] [] [l] []) := by
 intro hc hty
 simp only [zzc_zix, Sy.holds, zzE, denV, denI, denB, denL, I2.den, VOp.den, List.getD_cons_zero, List.getD_cons_succ, Cst.den, syso, syse, syio, sybo, B2.ofInts, B2.denI, B2.denB, if_true, Bool.false_eq_true, if_false, Nat.div_one, Nat.mul_one, Nat.add_zero] at hc
 simp only [zzc_zix, patsTyp, patTyp, patTypL, zzE, denV, denL, List.getD_cons_zero, List.getD_cons_succ, and_true, true_and] at hty
 have hL_l : typ (.sl (.cons (.int .u8) .nil)) l := by first | exact hty | exact hty.1 | exact hty.2 | exact hty.1.1 | exact hty.1.2 | exact hty.2.1 | exact hty.2.2 | exact hty.2.2.1 | exact hty.2.2.2
 have hN_l := typ_len (n := 1) hL_l rfl (by omega)
 simp only [Nat.div_one, Nat.mul_one] at hN_l
 unfold zix_tree
 simp only [zzc_zix, Tree.holds, Sy.holds, AllN, Env.more, zzE, List.cons_append, List.nil_append, List.append_nil, denV, denI, denB, denL, I2.den, VOp.den, List.getD_cons_zero, List.getD_cons_succ, Cst.den, syso, syse, syio, sybo, zzi_ixl, zzb_let, zzb_pre, List.map_nil, List.map_cons, B2.ofInts, B2.denI, B2.denB, if_true, Bool.false_eq_true, if_false, Nat.div_one, Nat.mul_one, Nat.add_zero]
 refine ⟨?_, ?_⟩
 ·
  exact ⟨by omega, by omega, preL_zero _⟩
 intro i0a hi0
 obtain ⟨hi1, hi2, hi3⟩ := hi0
 refine ⟨fun h0 => ?_, fun h0 => ?_⟩
 refine ⟨?_, fun h1 => ?_⟩
 ·
  omega
 refine ⟨fun h2 => ?_, fun h2 => ?_⟩
 refine ?a0; rotate_left
 have wf0 := wr_i64 (i0a + 1)
 refine ⟨?_, ?_⟩
 ·
  have e : IntKind.wrap .i64 (i0a + 1) = i0a + 1 := by omega
  have hx := intsV_at (v := l) (n := i0a.toNat) (by omega)
  have hl : letC (intOf ((rows l).getD i0a.toNat Go.undef)) = true := by simpa using h2
  rw [e, show (i0a + 1).toNat = i0a.toNat + 1 by omega, preL_succ hx, hi3, hl]
  exact ⟨by omega, by omega, rfl⟩
 ·
  omega
 refine ?a1; rotate_left
 case a0 | a1 =>
  first | (have hx := intsV_at (v := l) (n := i0a.toNat) (by omega)
           have hl : letC (intOf ((rows l).getD i0a.toNat Go.undef)) = false := by simpa using h2
           rw [ixL_at hi3 hx hl]
           exact congrArg (Value.int .i64) (by omega)) | (rw [ixL_no hi3 (by rw [intsV_len]; omega)])
theorem zzg_zix : zzc_zix.Good Tryd.prog syG (zzE [] [] [] []) := good_of_walk (Γ := ⟨[zzc_zn1], syG, [], [], []⟩) (ρ := zzE [] [] [] []) sym zix_w rfl (fun _ _ _ _ => (ok_cons (Con.Good.env zzg_zn1 _ _ _ _) ok_nil)) zix_h
def zcf_tree : Tree :=
 (.ret (.bool (le_ (.lit 0) (.iapp 10 (.cons o0_ .nil)))))
abbrev zzc_zcf : Con := ⟨116, [(.hs .no (.cons (.int .u8) .nil) o0_), (.cst (.fn 117))], (.tt true), (.bool (.not (lt_ (.iapp 10 (.cons o0_ .nil)) (.lit 0)))), ⟨0, 0, 1, 0⟩, none⟩
theorem zcf_w : walk Tryd.prog 101 ⟨[zzc_zix], syG, [], [], []⟩ [] .v zzc_zcf zzc_zcf.n 3000 = some zcf_tree := by kernel_rfl
theorem zcf_h (l : Value) : Hyp_ zzc_zcf zcf_tree (zzE [] [] [l] []) := by
 intro hc hty
 simp only [zzc_zcf, Sy.holds, zzE, denV, denI, denB, denL, I2.den, VOp.den, List.getD_cons_zero, List.getD_cons_succ, Cst.den, syso, syse, syio, sybo, B2.ofInts, B2.denI, B2.denB, if_true, Bool.false_eq_true, if_false, Nat.div_one, Nat.mul_one, Nat.add_zero] at hc
 simp only [zzc_zcf, patsTyp, patTyp, patTypL, zzE, denV, denL, List.getD_cons_zero, List.getD_cons_succ, and_true, true_and] at hty
 have hL_l : typ (.sl (.cons (.int .u8) .nil)) l := by first | exact hty | exact hty.1 | exact hty.2 | exact hty.1.1 | exact hty.1.2 | exact hty.2.1 | exact hty.2.2 | exact hty.2.2.1 | exact hty.2.2.2
 have hN_l := typ_len (n := 1) hL_l rfl (by omega)
 simp only [Nat.div_one, Nat.mul_one] at hN_l
 unfold zcf_tree
 simp only [zzc_zcf, Tree.holds, Sy.holds, zzE, denV, denI, denB, denL, I2.den, VOp.den, List.getD_cons_zero, List.getD_cons_succ, Cst.den, syso, syse, syio, sybo, zzi_ixl, B2.ofInts, B2.denI, B2.denB, if_true, Bool.false_eq_true, if_false, Nat.div_one, Nat.mul_one, Nat.add_zero]
 all_goals first | omega | rfl | (simp only [Value.tuple.injEq, Value.agg.injEq, Value.int.injEq, Value.bool.injEq, Array.mk.injEq, List.cons.injEq, true_and, and_true]; omega) | (refine congrArg Value.bool (Bool.eq_iff_iff.2 ?_); simp only [beq_iff_eq, decide_eq_true_eq, true_iff, false_iff, Bool.false_eq_true, Bool.not_eq_true', Bool.and_eq_true, Bool.or_eq_true, decide_eq_false_iff_not]; omega)
theorem zzg_zcf : zzc_zcf.Good Tryd.prog syG (zzE [] [] [] []) := good_of_walk (Γ := ⟨[zzc_zix], syG, [], [], []⟩) (ρ := zzE [] [] [] []) sym zcf_w rfl (fun _ _ _ _ => (ok_cons (Con.Good.env zzg_zix _ _ _ _) ok_nil)) zcf_h
def zis_tree : Tree :=
 (.br (lt_ (.blen (.str 0)) (.lit 1))
 (.ret (.bool (.tt false)))
 (.br (lt_ (.lit 12) (.blen (.str 0)))
 (.ret (.bool (.tt false)))
 (.need (le_ (.blen (.str 0)) (.lit 140737488355328))
 (.ret (.bool (lt_ (.iapp 10 (.cons (.vop .s2b (.cons (.str 0) .nil)) .nil)) (.lit 0)))))))
abbrev zzc_zis : Con := ⟨99, [(.str 0)], (.tt true), (.bool (.bapp 8 (.cons (.str 0) .nil))), ⟨0, 0, 0, 1⟩, none⟩
theorem zis_w : walk Tryd.prog 101 ⟨[zzc_zcf], syG, [], [], []⟩ [] .v zzc_zis zzc_zis.n 3000 = some zis_tree := by kernel_rfl
theorem zis_h (s : ByteArray) : Hyp_ zzc_zis zis_tree (zzE [] [] [] [s]) := by
 intro hc hty
 simp only [zzc_zis, Sy.holds, zzE, denV, denI, denB, denL, I2.den, VOp.den, List.getD_cons_zero, List.getD_cons_succ, Cst.den, syso, syse, syio, sybo, B2.ofInts, B2.denI, B2.denB, if_true, Bool.false_eq_true, if_false, Nat.div_one, Nat.mul_one, Nat.add_zero] at hc
 simp only [zzc_zis, patsTyp, patTyp, patTypL, zzE, denV, denL, List.getD_cons_zero, List.getD_cons_succ, and_true, true_and] at hty
 unfold zis_tree
 simp only [zzc_zis, Tree.holds, Sy.holds, zzE, denV, denI, denB, denL, I2.den, VOp.den, List.getD_cons_zero, List.getD_cons_succ, Cst.den, syso, syse, syio, sybo, zzi_ixl, zzb_nm, B2.ofInts, B2.denI, B2.denB, if_true, Bool.false_eq_true, if_false, Nat.div_one, Nat.mul_one, Nat.add_zero]
 refine ⟨fun h0 => ?_, fun h0 => ?_⟩
 refine ?a0; rotate_left
 refine ⟨fun h1 => ?_, fun h1 => ?_⟩
 refine ?a1; rotate_left
 refine ⟨?_, fun h2 => ?_⟩
 ·
  omega
 refine ?a2; rotate_left
 case a0 | a1 | a2 =>
  try simp only [intsV_s] at *
  refine congrArg Value.bool (Bool.eq_iff_iff.2 ?_)
  simp only [nameB, Bool.and_eq_true, decide_eq_true_eq, Bool.false_eq_true, false_iff]
  omega
theorem zzg_zis : zzc_zis.Good Tryd.prog syG (zzE [] [] [] []) := good_of_walk (Γ := ⟨[zzc_zcf], syG, [], [], []⟩) (ρ := zzE [] [] [] []) sym zis_w rfl (fun _ _ _ _ => (ok_cons (Con.Good.env zzg_zcf _ _ _ _) ok_nil)) zis_h
def zoff_tree : Tree :=
 (.br (le_ (.lit (-86399)) v0_)
 (.ret (.bool (le_ v0_ (.lit 86399))))
 (.ret (.bool (.tt false))))
abbrev zzc_zoff : Con := ⟨100, [z0_], (.tt true), (.bool (an_ (le_ (.lit (-86399)) v0_) (le_ v0_ (.lit 86399)))), ⟨1, 0, 0, 0⟩, none⟩
theorem zoff_w : walk Tryd.prog 101 ⟨[], syG, [], [], []⟩ [] .v zzc_zoff zzc_zoff.n 3000 = some zoff_tree := by kernel_rfl
theorem zoff_h (n : Int) : Hyp_ zzc_zoff zoff_tree (zzE [n] [] [] []) := by
 intro hc hty
 simp only [zzc_zoff, Sy.holds, zzE, denV, denI, denB, denL, I2.den, VOp.den, List.getD_cons_zero, List.getD_cons_succ, Cst.den, syso, syse, syio, sybo, B2.ofInts, B2.denI, B2.denB, if_true, Bool.false_eq_true, if_false, Nat.div_one, Nat.mul_one, Nat.add_zero] at hc
 simp only [zzc_zoff, patsTyp, patTyp, patTypL, zzE, denV, denL, List.getD_cons_zero, List.getD_cons_succ, and_true, true_and] at hty
 unfold zoff_tree
 simp only [zzc_zoff, Tree.holds, Sy.holds, zzE, denV, denI, denB, denL, I2.den, VOp.den, List.getD_cons_zero, List.getD_cons_succ, Cst.den, syso, syse, syio, sybo, B2.ofInts, B2.denI, B2.denB, if_true, Bool.false_eq_true, if_false, Nat.div_one, Nat.mul_one, Nat.add_zero]
 refine ⟨fun h0 => ?_, fun h0 => ?_⟩
 refine ?a0; rotate_left
 refine ?a1; rotate_left
 case a0 | a1 =>
  all_goals first | omega | rfl | (simp only [Value.tuple.injEq, Value.agg.injEq, Value.int.injEq, Value.bool.injEq, Array.mk.injEq, List.cons.injEq, true_and, and_true]; omega) | (refine congrArg Value.bool (Bool.eq_iff_iff.2 ?_); simp only [beq_iff_eq, decide_eq_true_eq, true_iff, false_iff, Bool.false_eq_true, Bool.not_eq_true', Bool.and_eq_true, Bool.or_eq_true, decide_eq_false_iff_not]; omega)
theorem zzg_zoff : zzc_zoff.Good Tryd.prog syG (zzE [] [] [] []) := good_of_walk (Γ := ⟨[], syG, [], [], []⟩) (ρ := zzE [] [] [] []) sym zoff_w rfl (fun _ _ _ _ => ok_nil) zoff_h
def zck_tree : Tree :=
 (.br (.not (.bapp 8 (.cons (.str 0) .nil)))
 (.ret (.iface 101 (.int .i64 (.lit 1))))
 (.br (.not (an_ (le_ (.lit (-86399)) v0_) (le_ v0_ (.lit 86399))))
 (.ret (.iface 101 (.int .i64 (.lit 1))))
 (.br (lt_ (.lit 32) (.ofI (.vop (.len 3) (.cons o0_ .nil))))
 (.ret (.iface 101 (.int .i64 (.lit 1))))
 (.loop ⟨2, 0, 0, 0⟩ (an_ (le_ (.lit 0) (.lit 0)) (an_ (le_ (.lit 0) (.ofI (.vop (.len 3) (.cons o0_ .nil)))) (an_ (.bapp 4 (.cons o0_ (.cons (.int .i64 (.lit 0)) .nil))) (eq_ (.lit (-1099511627776)) (.iapp 11 (.cons o0_ (.cons (.int .i64 (.lit 0)) .nil))))))) (an_ (le_ (.lit 0) v2_) (an_ (le_ v2_ (.ofI (.vop (.len 3) (.cons o0_ .nil)))) (an_ (.bapp 4 (.cons o0_ (.cons z2_ .nil))) (eq_ v1_ (.iapp 11 (.cons o0_ (.cons z2_ .nil)))))))
 (.br (lt_ v2_ (.ofI (.vop (.len 3) (.cons o0_ .nil))))
 (.need (an_ (le_ (.lit 0) v2_) (lt_ v2_ (.ofI (.vop (.len 3) (.cons o0_ .nil)))))
 (.br (lt_ (.ofI (.vop (.sel 3 0) (.cons o0_ (.cons z2_ .nil)))) v1_)
 (.ret (.iface 101 (.int .i64 (.lit 1))))
 (.br (lt_ (.lit 1099511627776) (.ofI (.vop (.sel 3 0) (.cons o0_ (.cons z2_ .nil)))))
 (.ret (.iface 101 (.int .i64 (.lit 1))))
 (.br (.not (an_ (le_ (.lit (-86399)) (.ofI (.vop (.sel 3 1) (.cons o0_ (.cons z2_ .nil))))) (le_ (.ofI (.vop (.sel 3 1) (.cons o0_ (.cons z2_ .nil)))) (.lit 86399))))
 (.ret (.iface 101 (.int .i64 (.lit 1))))
 (.br (.not (.bapp 8 (.cons (.vop (.ssel 3 2) (.cons o0_ (.cons z2_ .nil))) .nil)))
 (.ret (.iface 101 (.int .i64 (.lit 1))))
 (.back (an_ (le_ (.lit 0) (wr_ (ad_ v2_ (.lit 1)))) (an_ (le_ (wr_ (ad_ v2_ (.lit 1))) (.ofI (.vop (.len 3) (.cons o0_ .nil)))) (an_ (.bapp 4 (.cons o0_ (.cons (.int .i64 (wr_ (ad_ v2_ (.lit 1)))) .nil))) (eq_ (wr_ (ad_ (.ofI (.vop (.sel 3 0) (.cons o0_ (.cons z2_ .nil)))) (.lit 1))) (.iapp 11 (.cons o0_ (.cons (.int .i64 (wr_ (ad_ v2_ (.lit 1)))) .nil))))))) (sb_ (.ofI (.vop (.len 3) (.cons o0_ .nil))) (wr_ (ad_ v2_ (.lit 1)))) (sb_ (.ofI (.vop (.len 3) (.cons o0_ .nil))) v2_)))))))
 (.ret (.cst .nilI)))))))
abbrev zzc_zck : Con := ⟨62, [(.agg (.cons (.str 0) (.cons z0_ (.cons (.hs .no (.cons (.int .i64) (.cons (.int .i64) (.cons .str .nil))) o0_) .nil))))], (.tt true), (.err (.iapp 12 (.cons (.str 0) (.cons z0_ (.cons o0_ .nil))))), ⟨1, 0, 1, 1⟩, none⟩
theorem zck_w : walk Tryd.prog 101 ⟨[zzc_zis, zzc_zoff], syG, [], [], []⟩ [⟨0, ⟨2, 0, 0, 0⟩, [(3, z1_), (26, z2_)], none, (an_ (le_ (.lit 0) v2_) (an_ (le_ v2_ (.ofI (.vop (.len 3) (.cons o0_ .nil)))) (an_ (.bapp 4 (.cons o0_ (.cons z2_ .nil))) (eq_ v1_ (.iapp 11 (.cons o0_ (.cons z2_ .nil))))))), (sb_ (.ofI (.vop (.len 3) (.cons o0_ .nil))) v2_), 0, []⟩] .v zzc_zck zzc_zck.n 3000 = some zck_tree := by kernel_rfl
theorem zck_h (fst : Int) (l : Value) (nm : ByteArray) : Hyp_ zzc_zck zck_tree (zzE [fst] [] [l] [nm]) := by
 intro hc hty
 simp only [zzc_zck, Sy.holds, zzE, denV, denI, denB, denL, I2.den, VOp.den, List.getD_cons_zero, List.getD_cons_succ, Cst.den, syso, syse, syio, sybo, B2.ofInts, B2.denI, B2.denB, if_true, Bool.false_eq_true, if_false, Nat.div_one, Nat.mul_one, Nat.add_zero] at hc
 simp only [zzc_zck, patsTyp, patTyp, patTypL, zzE, denV, denL, List.getD_cons_zero, List.getD_cons_succ, and_true, true_and] at hty
 have hL_l : typ (.sl (.cons (.int .i64) (.cons (.int .i64) (.cons .str .nil)))) l := by first | exact hty | exact hty.1 | exact hty.2 | exact hty.1.1 | exact hty.1.2 | exact hty.2.1 | exact hty.2.2 | exact hty.2.2.1 | exact hty.2.2.2
 have hN_l := typ_len (n := 3) hL_l rfl (by omega)
 unfold zck_tree
 simp only [zzc_zck, Tree.holds, Sy.holds, AllN, Env.more, zzE, List.cons_append, List.nil_append, List.append_nil, denV, denI, denB, denL, I2.den, VOp.den, List.getD_cons_zero, List.getD_cons_succ, Cst.den, syso, syse, syio, sybo, zzi_lst, zzi_chk, zzb_rok, zzb_nm, List.map_nil, List.map_cons, B2.ofInts, B2.denI, B2.denB, if_true, Bool.false_eq_true, if_false, Nat.div_one, Nat.mul_one, Nat.add_zero]
 refine ⟨fun h0 => ?_, fun h0 => ?_⟩
 refine ?a0; rotate_left
 refine ⟨fun h1 => ?_, fun h1 => ?_⟩
 refine ?a1; rotate_left
 refine ⟨fun h2 => ?_, fun h2 => ?_⟩
 refine ?a2; rotate_left
 refine ⟨?_, ?_⟩
 ·
  exact ⟨by omega, by omega, rfl, rfl⟩
 intro i0a i0b hi0
 refine ⟨fun h3 => ?_, fun h3 => ?_⟩
 refine ⟨?_, fun h4 => ?_⟩
 ·
  omega
 refine ⟨fun h5 => ?_, fun h5 => ?_⟩
 refine ?a3; rotate_left
 refine ⟨fun h6 => ?_, fun h6 => ?_⟩
 refine ?a4; rotate_left
 refine ⟨fun h7 => ?_, fun h7 => ?_⟩
 refine ?a5; rotate_left
 refine ⟨fun h8 => ?_, fun h8 => ?_⟩
 refine ?a6; rotate_left
 have wf0 := wr_i64 (i0b + 1)
 have wf1 := wr_i64 ((Go.RowKit.intOf ((rows l).getD (Int.toNat i0b * 3) Go.undef)) + 1)
 refine ⟨?_, ?_⟩
 ·
  obtain ⟨hi1, hi2, hi3, hi4⟩ := hi0
  have hge := least_ge hi3
  have e : IntKind.wrap .i64 (i0b + 1) = i0b + 1 := by omega
  have e2 : IntKind.wrap .i64 (intOf ((rows l).getD (i0b.toNat * 3) Go.undef) + 1) = intOf ((rows l).getD (i0b.toNat * 3) Go.undef) + 1 := by omega
  rw [e, e2, show (i0b + 1).toNat = i0b.toNat + 1 by omega]
  refine ⟨by omega, by omega, ?_, rfl⟩
  simp only [zkR, hi3, Bool.true_and]
  exact (rul_iff _ _).2 ⟨by omega, by omega, by omega, by omega, Decidable.of_not_not h8⟩
 ·
  omega
 refine ?a7; rotate_left
 case a0 | a1 | a2 | a3 | a4 | a5 | a6 | a7 =>
  first
  | (refine errV1 (chk_no fun hz => ?_)
     rw [zone_iff] at hz
     first
     | exact h0 hz.1
     | exact h1 hz.2.1
     | omega
     | (obtain ⟨hi1, hi2, hi3, hi4⟩ := hi0
        have hr := (rul_iff _ _).1 (zkR_get hz.2.2.2 (k := i0b.toNat) (by omega))
        first
        | omega
        | exact h8 hr.2.2.2.2))
  | (refine errV0 (chk_yes ?_)
     rw [zone_iff]
     refine ⟨Decidable.of_not_not h0, Decidable.of_not_not h1, by omega, ?_⟩
     rw [show (rows l).length / 3 = i0b.toNat by omega]
     exact hi0.2.2.1)
theorem zzg_zck : zzc_zck.Good Tryd.prog syG (zzE [] [] [] []) := good_of_walk (Γ := ⟨[zzc_zis, zzc_zoff], syG, [], [], []⟩) (ρ := zzE [] [] [] []) sym zck_w rfl (fun _ _ _ _ => (ok_cons (Con.Good.env zzg_zis _ _ _ _) (ok_cons (Con.Good.env zzg_zoff _ _ _ _) ok_nil))) zck_h
end Go.Proofs.YtikfgnmljpjnbaaDoor
