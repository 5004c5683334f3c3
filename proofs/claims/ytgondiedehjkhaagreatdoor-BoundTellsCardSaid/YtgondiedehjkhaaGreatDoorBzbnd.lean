/-
 Layer 30 by the second engine: zones that may be.
-/
import Derived.Test.YtgondiedehjkhaaGreatDoorSycbnd
import Derived.Test.YtgondiedehjkhaaGreatDoorYbbnd
import Derived.Test.YtgondiedehjkhaaGreatDoorE00bnd
namespace Go.Proofs.YtgondiedehjkhaaGreatDoor
open Go.RowKit Go.Extern.Stop Go.Stop Go.Extern Go.Proofs.YtgondiedehjkhaaGreatDoor.Sy
set_option linter.unusedVariables false
set_option linter.unusedSimpArgs false
abbrev xrbzbndk0_ : Tm := (.b2 .and (.b2 .le (.lit (0)) (.wrap .i64 (.i2 .add (.var 0) (.lit (1))))) (.b2 .and (.b2 .le (.wrap .i64 (.i2 .add (.var 0) (.lit (1)))) (.blen (.str 0))) (.bapp 7 (.cons (.vop .s2b (.cons (.str 0) .nil)) (.cons (.int .i64 (.wrap .i64 (.i2 .add (.var 0) (.lit (1))))) .nil)))))
abbrev xrbzbndk1_ : Tm := (.ofI (.vop .schr (.cons (.str 0) (.cons (.int .i64 (.var 0)) .nil))))
abbrev xrbzbndk2_ : Tm := (.i2 .sub (.blen (.str 0)) (.wrap .i64 (.i2 .add (.var 0) (.lit (1)))))
abbrev xrbzbndk3_ : Tm := (.i2 .sub (.blen (.str 0)) (.var 0))
abbrev xrbzbndk4_ : Tm := (.ofI (.vop (.len 3) (.cons (.opq 0) .nil)))
abbrev xrbzbndk5_ : Tm := (.ofI (.vop (.len 1) (.cons (.opq 0) .nil)))
abbrev xrbzbndk6_ : Tm := (.wrap .i64 (.i2 .add (.var 1) (.lit (1))))
abbrev xrbzbndk7_ : Tm := (.b2 .and (.b2 .le (.lit (0)) (.var 2)) (.b2 .and (.b2 .le (.var 2) xrbzbndk4_) (.b2 .and (.bapp 4 (.cons (.opq 0) (.cons (.int .i64 (.var 2)) .nil))) (.b2 .eq (.var 1) (.iapp 27 (.cons (.opq 0) (.cons (.int .i64 (.var 2)) .nil)))))))
abbrev xrbzbndk8_ : Tm := (.b2 .and (.b2 .le (.lit (-86399)) (.var 0)) (.b2 .le (.var 0) (.lit (86399))))
def letC (c : Int) : Bool := decide (97 ≤ c) && decide (c ≤ 122) || decide (65 ≤ c) && decide (c ≤ 90) || decide (48 ≤ c) && decide (c ≤ 57) || decide (c = 47) || decide (c = 95) || decide (c = 43) || decide (c = 45)
theorem letC_iff (c : Int) : letC c = true ↔ (97 ≤ c ∧ c ≤ 122) ∨ (65 ≤ c ∧ c ≤ 90) ∨ (48 ≤ c ∧ c ≤ 57) ∨ c = 47 ∨ c = 95 ∨ c = 43 ∨ c = 45 := by simp only [letC, Bool.or_eq_true, Bool.and_eq_true, decide_eq_true_eq]; omega
def intsV (v : Value) : List Int := (rows v).map intOf
def ixL : List Int → Int
 | [] => -1
 | c :: l => if letC c then (if ixL l < 0 then -1 else ixL l + 1) else 0
def preL (l : List Int) (n : Nat) : Bool := (l.take n).all letC
theorem preL_zero (l : List Int) : preL l 0 = true := by simp [preL]
theorem preL_succ {l : List Int} {n : Nat} {c : Int} (h : l[n]? = some c) : preL l (n + 1) = (preL l n && letC c) := by
 unfold preL; rw [List.take_add_one, h]; simp
theorem ixL_at {c : Int} : ∀ {l : List Int} {n : Nat}, preL l n = true → l[n]? = some c → letC c = false → ixL l = n
 | [], n, _, h, _ => by simp at h
 | a :: l, 0, _, h, hc => by simp at h; subst h; simp [ixL, hc]
 | a :: l, n + 1, hp, h, hc => by
   simp only [preL, List.take_succ_cons, List.all_cons, Bool.and_eq_true] at hp
   have := ixL_at (l := l) (n := n) hp.2 (by simpa using h) hc
   simp only [ixL, hp.1, if_true, this]
   rw [if_neg (by omega)]; omega
theorem ixL_no : ∀ {l : List Int} {n : Nat}, preL l n = true → l.length ≤ n → ixL l = -1
 | [], _, _, _ => rfl
 | a :: l, 0, _, h => by simp at h
 | a :: l, n + 1, hp, h => by
   simp only [preL, List.take_succ_cons, List.all_cons, Bool.and_eq_true] at hp
   have := ixL_no (l := l) (n := n) hp.2 (by simpa using h)
   simp [ixL, hp.1, this]
theorem intsV_len (v : Value) : (intsV v).length = (rows v).length := by simp [intsV]
theorem intsV_at {v : Value} {n : Nat} (h : n < (rows v).length) : (intsV v)[n]? = some (intOf ((rows v).getD n Go.undef)) := by
 simp [intsV, h]
theorem intsV_s (s : ByteArray) : intsV (.tuple (s.data.toList.map byteV).toArray) = s.data.toList.map fun c => (c.toNat : Int) := by simp [intsV, Sy.rows, byteV, intOf]
def nameB (s : ByteArray) : Bool := decide (1 ≤ s.size) && decide (s.size ≤ 12) && decide (ixL (s.data.toList.map fun c => (c.toNat : Int)) < 0)
def atR (l : List Value) (k : Nat) : Int := intOf (l.getD (k * 3) Go.undef)
def offR (l : List Value) (k : Nat) : Int := intOf (l.getD (k * 3 + 1) Go.undef)
def nmR (l : List Value) (k : Nat) : ByteArray := strOf (l.getD (k * 3 + 2) Go.undef)
def leastR (l : List Value) : Nat → Int
 | 0 => -1099511627776
 | n + 1 => atR l n + 1
def offB (n : Int) : Bool := decide (-86399 ≤ n) && decide (n ≤ 86399)
def rulB (l : List Value) (k : Nat) : Bool := decide (leastR l k ≤ atR l k) && decide (atR l k ≤ 1099511627776) && offB (offR l k) && nameB (nmR l k)
def zkR (l : List Value) : Nat → Bool
 | 0 => true
 | n + 1 => zkR l n && rulB l n
def zoneB (s : ByteArray) (f : Int) (l : List Value) : Bool := nameB s && offB f && decide (l.length / 3 ≤ 32) && zkR l (l.length / 3)
def shortR (l : List Value) : Bool := (List.range (l.length / 3)).all fun k => decide ((nmR l k).size ≤ 200)
def chkI (s : ByteArray) (f : Int) (l : List Value) : Int := if zoneB s f l then 0 else 1
theorem chr_at {s : ByteArray} {n : Nat} (h : n < s.size) : (s.data.toList.map fun c => (c.toNat : Int))[n]? = some ((s.data.toList.getD n 0).toNat : Int) := by
 have : n < s.data.toList.length := by simpa using h
 rw [List.getElem?_map, List.getElem?_eq_getElem this, List.getD_eq_getElem?_getD, List.getElem?_eq_getElem this]
 rfl
theorem short_get {l : List Value} {k : Nat} (h : shortR l = true) (hk : k < l.length / 3) : (strOf (l.getD (k * 3 + 2) Go.undef)).size ≤ 200 := by
 have := List.all_eq_true.1 h k (List.mem_range.2 hk)
 simpa [nmR] using this
theorem least_pos {l : List Value} : ∀ {n : Nat}, 0 < n → leastR l n = intOf (l.getD ((n - 1) * 3) Go.undef) + 1
 | n + 1, _ => rfl
theorem rul_iff (l : List Value) (k : Nat) : rulB l k = true ↔ leastR l k ≤ intOf (l.getD (k * 3) Go.undef) ∧ intOf (l.getD (k * 3) Go.undef) ≤ 1099511627776 ∧ -86399 ≤ intOf (l.getD (k * 3 + 1) Go.undef) ∧ intOf (l.getD (k * 3 + 1) Go.undef) ≤ 86399 ∧ nameB (strOf (l.getD (k * 3 + 2) Go.undef)) = true := by
 unfold rulB offB atR offR nmR
 simp only [Bool.and_eq_true, decide_eq_true_eq, and_assoc]
theorem zkR_get {l : List Value} {k : Nat} : ∀ {n : Nat}, zkR l n = true → k < n → rulB l k = true
 | 0, _, h => by omega
 | n + 1, ho, h => by
   simp only [zkR, Bool.and_eq_true] at ho
   rcases Nat.lt_succ_iff_lt_or_eq.1 h with h' | rfl
   · exact zkR_get ho.1 h'
   · exact ho.2
theorem least_ge {l : List Value} : ∀ {n : Nat}, zkR l n = true → -1099511627776 ≤ leastR l n
 | 0, _ => by simp [leastR]
 | n + 1, ho => by
   simp only [zkR, Bool.and_eq_true] at ho
   have h1 := least_ge ho.1
   have h2 := ((rul_iff _ _).1 ho.2).1
   simp only [leastR, atR]
   omega
theorem zone_iff (s : ByteArray) (f : Int) (l : List Value) : zoneB s f l = true ↔ nameB s = true ∧ (-86399 ≤ f ∧ f ≤ 86399) ∧ l.length / 3 ≤ 32 ∧ zkR l (l.length / 3) = true := by
 simp only [zoneB, offB, Bool.and_eq_true, decide_eq_true_eq, and_assoc]
theorem chk_no {s : ByteArray} {f : Int} {l : List Value} (h : ¬ zoneB s f l = true) : chkI s f l = 1 := by simp [chkI, h]
theorem chk_yes {s : ByteArray} {f : Int} {l : List Value} (h : zoneB s f l = true) : chkI s f l = 0 := by simp [chkI, h]
theorem errV1 {n : Int} (h : n = 1) : Value.iface 111 (.int .i64 1) = errVal 111 n := by subst h; rfl
theorem errV0 {n : Int} (h : n = 0) : Value.nilIface = errVal 111 n := by subst h; rfl
noncomputable def bzI : Nat → List Value → Int
 | 26, [l] => ixL (intsV l)
 | 27, [l, .int _ n] => leastR (rows l) n.toNat
 | 28, [.string s, .int _ f, l] => chkI s f (rows l)
 | i, l => ybI i l
noncomputable def bzB : Nat → List Value → Bool
 | 3, [.int _ c] => letC c
 | 4, [l, .int _ n] => zkR (rows l) n.toNat
 | 5, [.string s, .int _ f, l] => zoneB s f (rows l)
 | 6, [l] => shortR (rows l)
 | 7, [l, .int _ n] => preL (intsV l) n.toNat
 | 8, [.string s] => nameB s
 | i, l => ybB i l
noncomputable def bzV : Nat → List Value → Value
 | i, l => ybV i l
noncomputable abbrev bzE (iv : List Int) (bv : List Bool) (vv : List Value) (sv : List ByteArray) : Env := { iv := iv, bv := bv, vv := vv, sv := sv, fi := bzI, fb := bzB, fv := bzV, et := 111 }
set_option maxHeartbeats 8000000 in
theorem bzup : Agree 26 3 0 (ybE [] [] [] []) (bzE [] [] [] []) := ⟨rfl, (by
   intro f hf
   funext l
   show bzI f l = ybI f l
   unfold bzI
   split <;> first | rfl | omega), (by
   intro f hf
   funext l
   show bzB f l = ybB f l
   unfold bzB
   split <;> first | rfl | omega), (by
   intro f hf
   funext l
   show bzV f l = ybV f l
   unfold bzV
   split <;> first | rfl | omega)⟩
theorem bzi_ixl (l : Value) : bzI 26 [l] = ixL (intsV l) := rfl
theorem bzi_lst (l : Value) (k1 : IntKind) (n : Int) : bzI 27 [l, .int k1 n] = leastR (rows l) n.toNat := rfl
theorem bzi_chk (s : ByteArray) (k1 : IntKind) (f : Int) (l : Value) : bzI 28 [.string s, .int k1 f, l] = chkI s f (rows l) := rfl
theorem bzb_let (k1 : IntKind) (c : Int) : bzB 3 [.int k1 c] = letC c := rfl
theorem bzb_rok (l : Value) (k1 : IntKind) (n : Int) : bzB 4 [l, .int k1 n] = zkR (rows l) n.toNat := rfl
theorem bzb_zon (s : ByteArray) (k1 : IntKind) (f : Int) (l : Value) : bzB 5 [.string s, .int k1 f, l] = zoneB s f (rows l) := rfl
theorem bzb_shr (l : Value) : bzB 6 [l] = shortR (rows l) := rfl
theorem bzb_pre (l : Value) (k1 : IntKind) (n : Int) : bzB 7 [l, .int k1 n] = preL (intsV l) n.toNat := rfl
theorem bzb_nm (s : ByteArray) : bzB 8 [.string s] = nameB s := rfl
def zlet_tree : Tree :=
 (.br (.b2 .le (.lit (97)) (.var 0))
 (.br (.b2 .le (.var 0) (.lit (122)))
 (.ret (.bool (.tt true)))
 (.br (.b2 .le (.lit (65)) (.var 0))
 (.br (.b2 .le (.var 0) (.lit (90)))
 (.ret (.bool (.tt true)))
 (.br (.b2 .le (.lit (48)) (.var 0))
 (.br (.b2 .le (.var 0) (.lit (57)))
 (.ret (.bool (.tt true)))
 (.br (.b2 .eq (.var 0) (.lit (47)))
 (.ret (.bool (.tt true)))
 (.br (.b2 .eq (.var 0) (.lit (95)))
 (.ret (.bool (.tt true)))
 (.br (.b2 .eq (.var 0) (.lit (43)))
 (.ret (.bool (.tt true)))
 (.ret (.bool (.b2 .eq (.var 0) (.lit (45)))))))))
 (.br (.b2 .eq (.var 0) (.lit (47)))
 (.ret (.bool (.tt true)))
 (.br (.b2 .eq (.var 0) (.lit (95)))
 (.ret (.bool (.tt true)))
 (.br (.b2 .eq (.var 0) (.lit (43)))
 (.ret (.bool (.tt true)))
 (.ret (.bool (.b2 .eq (.var 0) (.lit (45))))))))))
 (.br (.b2 .le (.lit (48)) (.var 0))
 (.br (.b2 .le (.var 0) (.lit (57)))
 (.ret (.bool (.tt true)))
 (.br (.b2 .eq (.var 0) (.lit (47)))
 (.ret (.bool (.tt true)))
 (.br (.b2 .eq (.var 0) (.lit (95)))
 (.ret (.bool (.tt true)))
 (.br (.b2 .eq (.var 0) (.lit (43)))
 (.ret (.bool (.tt true)))
 (.ret (.bool (.b2 .eq (.var 0) (.lit (45)))))))))
 (.br (.b2 .eq (.var 0) (.lit (47)))
 (.ret (.bool (.tt true)))
 (.br (.b2 .eq (.var 0) (.lit (95)))
 (.ret (.bool (.tt true)))
 (.br (.b2 .eq (.var 0) (.lit (43)))
 (.ret (.bool (.tt true)))
 (.ret (.bool (.b2 .eq (.var 0) (.lit (45)))))))))))
 (.br (.b2 .le (.lit (65)) (.var 0))
 (.br (.b2 .le (.var 0) (.lit (90)))
 (.ret (.bool (.tt true)))
 (.br (.b2 .le (.lit (48)) (.var 0))
 (.br (.b2 .le (.var 0) (.lit (57)))
 (.ret (.bool (.tt true)))
 (.br (.b2 .eq (.var 0) (.lit (47)))
 (.ret (.bool (.tt true)))
 (.br (.b2 .eq (.var 0) (.lit (95)))
 (.ret (.bool (.tt true)))
 (.br (.b2 .eq (.var 0) (.lit (43)))
 (.ret (.bool (.tt true)))
 (.ret (.bool (.b2 .eq (.var 0) (.lit (45)))))))))
 (.br (.b2 .eq (.var 0) (.lit (47)))
 (.ret (.bool (.tt true)))
 (.br (.b2 .eq (.var 0) (.lit (95)))
 (.ret (.bool (.tt true)))
 (.br (.b2 .eq (.var 0) (.lit (43)))
 (.ret (.bool (.tt true)))
 (.ret (.bool (.b2 .eq (.var 0) (.lit (45))))))))))
 (.br (.b2 .le (.lit (48)) (.var 0))
 (.br (.b2 .le (.var 0) (.lit (57)))
 (.ret (.bool (.tt true)))
 (.br (.b2 .eq (.var 0) (.lit (47)))
 (.ret (.bool (.tt true)))
 (.br (.b2 .eq (.var 0) (.lit (95)))
 (.ret (.bool (.tt true)))
 (.br (.b2 .eq (.var 0) (.lit (43)))
 (.ret (.bool (.tt true)))
 (.ret (.bool (.b2 .eq (.var 0) (.lit (45)))))))))
 (.br (.b2 .eq (.var 0) (.lit (47)))
 (.ret (.bool (.tt true)))
 (.br (.b2 .eq (.var 0) (.lit (95)))
 (.ret (.bool (.tt true)))
 (.br (.b2 .eq (.var 0) (.lit (43)))
 (.ret (.bool (.tt true)))
 (.ret (.bool (.b2 .eq (.var 0) (.lit (45)))))))))))
abbrev bzc_zlet : Con := ⟨164, [(.int .u8 (.var 0))], (.tt true), (.bool (.bapp 3 (.cons (.int .u8 (.var 0)) .nil))), ⟨1, 0, 0, 0⟩, none⟩
theorem zlet_w : walk Tryz.prog 111 ⟨[], syG, [], [], []⟩ [] .v bzc_zlet bzc_zlet.n 3000 = some zlet_tree := by kernel_rfl
theorem zlet_h (c : Int) : Hyp_ bzc_zlet zlet_tree (bzE [c] [] [] []) := by
 intro hc hty
 simp only [bzc_zlet, Sy.holds, bzE, denV, denI, denB, denL, I2.den, VOp.den, List.getD_cons_zero, List.getD_cons_succ, Cst.den, syso, syse, syio, sybo, B2.ofInts, B2.denI, B2.denB, if_true, Bool.false_eq_true, if_false, Nat.div_one, Nat.mul_one, Nat.add_zero] at hc
 simp only [bzc_zlet, patsTyp, patTyp, patTypL, bzE, denV, denL, List.getD_cons_zero, List.getD_cons_succ, and_true, true_and] at hty
 unfold zlet_tree
 simp only [bzc_zlet, Tree.holds, Sy.holds, bzE, denV, denI, denB, denL, I2.den, VOp.den, List.getD_cons_zero, List.getD_cons_succ, Cst.den, syso, syse, syio, sybo, bzb_let, B2.ofInts, B2.denI, B2.denB, if_true, Bool.false_eq_true, if_false, Nat.div_one, Nat.mul_one, Nat.add_zero]
 refine ⟨fun h0 => ?_, fun h0 => ?_⟩
 refine ⟨fun h1 => ?_, fun h1 => ?_⟩
 refine ?a0; rotate_left
 refine ⟨fun h2 => ?_, fun h2 => ?_⟩
 refine ⟨fun h3 => ?_, fun h3 => ?_⟩
 refine ?a1; rotate_left
 refine ⟨fun h4 => ?_, fun h4 => ?_⟩
 refine ⟨fun h5 => ?_, fun h5 => ?_⟩
 refine ?a2; rotate_left
 refine ⟨fun h6 => ?_, fun h6 => ?_⟩
 refine ?a3; rotate_left
 refine ⟨fun h7 => ?_, fun h7 => ?_⟩
 refine ?a4; rotate_left
 refine ⟨fun h8 => ?_, fun h8 => ?_⟩
 refine ?a5; rotate_left
 refine ?a6; rotate_left
 refine ⟨fun h9 => ?_, fun h9 => ?_⟩
 refine ?a7; rotate_left
 refine ⟨fun h10 => ?_, fun h10 => ?_⟩
 refine ?a8; rotate_left
 refine ⟨fun h11 => ?_, fun h11 => ?_⟩
 refine ?a9; rotate_left
 refine ?a10; rotate_left
 refine ⟨fun h12 => ?_, fun h12 => ?_⟩
 refine ⟨fun h13 => ?_, fun h13 => ?_⟩
 refine ?a11; rotate_left
 refine ⟨fun h14 => ?_, fun h14 => ?_⟩
 refine ?a12; rotate_left
 refine ⟨fun h15 => ?_, fun h15 => ?_⟩
 refine ?a13; rotate_left
 refine ⟨fun h16 => ?_, fun h16 => ?_⟩
 refine ?a14; rotate_left
 refine ?a15; rotate_left
 refine ⟨fun h17 => ?_, fun h17 => ?_⟩
 refine ?a16; rotate_left
 refine ⟨fun h18 => ?_, fun h18 => ?_⟩
 refine ?a17; rotate_left
 refine ⟨fun h19 => ?_, fun h19 => ?_⟩
 refine ?a18; rotate_left
 refine ?a19; rotate_left
 refine ⟨fun h20 => ?_, fun h20 => ?_⟩
 refine ⟨fun h21 => ?_, fun h21 => ?_⟩
 refine ?a20; rotate_left
 refine ⟨fun h22 => ?_, fun h22 => ?_⟩
 refine ⟨fun h23 => ?_, fun h23 => ?_⟩
 refine ?a21; rotate_left
 refine ⟨fun h24 => ?_, fun h24 => ?_⟩
 refine ?a22; rotate_left
 refine ⟨fun h25 => ?_, fun h25 => ?_⟩
 refine ?a23; rotate_left
 refine ⟨fun h26 => ?_, fun h26 => ?_⟩
 refine ?a24; rotate_left
 refine ?a25; rotate_left
 refine ⟨fun h27 => ?_, fun h27 => ?_⟩
 refine ?a26; rotate_left
 refine ⟨fun h28 => ?_, fun h28 => ?_⟩
 refine ?a27; rotate_left
 refine ⟨fun h29 => ?_, fun h29 => ?_⟩
 refine ?a28; rotate_left
 refine ?a29; rotate_left
 refine ⟨fun h30 => ?_, fun h30 => ?_⟩
 refine ⟨fun h31 => ?_, fun h31 => ?_⟩
 refine ?a30; rotate_left
 refine ⟨fun h32 => ?_, fun h32 => ?_⟩
 refine ?a31; rotate_left
 refine ⟨fun h33 => ?_, fun h33 => ?_⟩
 refine ?a32; rotate_left
 refine ⟨fun h34 => ?_, fun h34 => ?_⟩
 refine ?a33; rotate_left
 refine ?a34; rotate_left
 refine ⟨fun h35 => ?_, fun h35 => ?_⟩
 refine ?a35; rotate_left
 refine ⟨fun h36 => ?_, fun h36 => ?_⟩
 refine ?a36; rotate_left
 refine ⟨fun h37 => ?_, fun h37 => ?_⟩
 refine ?a37; rotate_left
 refine ?a38; rotate_left
 case a0 | a1 | a2 | a3 | a4 | a5 | a6 | a7 | a8 | a9 | a10 | a11 | a12 | a13 | a14 | a15 | a16 | a17 | a18 | a19 | a20 | a21 | a22 | a23 | a24 | a25 | a26 | a27 | a28 | a29 | a30 | a31 | a32 | a33 | a34 | a35 | a36 | a37 | a38 =>
  refine congrArg Value.bool (Bool.eq_iff_iff.2 ?_)
  rw [letC_iff]
  try simp only [beq_iff_eq, decide_eq_true_eq, true_iff, false_iff, Bool.false_eq_true]
  omega
theorem bzg_zlet : bzc_zlet.Good Tryz.prog syG (bzE [] [] [] []) := good_of_walk (Γ := ⟨[], syG, [], [], []⟩) (ρ := bzE [] [] [] []) sym zlet_w rfl (fun _ _ _ _ => ok_nil) zlet_h
def zn1_tree : Tree :=
 (.ret (.bool (.not (.bapp 3 (.cons (.int .u8 (.var 0)) .nil)))))
abbrev bzc_zn1 : Con := ⟨163, [(.int .u8 (.var 0))], (.tt true), (.bool (.not (.bapp 3 (.cons (.int .u8 (.var 0)) .nil)))), ⟨1, 0, 0, 0⟩, none⟩
theorem zn1_w : walk Tryz.prog 111 ⟨[bzc_zlet], syG, [], [], []⟩ [] .v bzc_zn1 bzc_zn1.n 3000 = some zn1_tree := by kernel_rfl
theorem zn1_h (c : Int) : Hyp_ bzc_zn1 zn1_tree (bzE [c] [] [] []) := by
 intro hc hty
 simp only [bzc_zn1, Sy.holds, bzE, denV, denI, denB, denL, I2.den, VOp.den, List.getD_cons_zero, List.getD_cons_succ, Cst.den, syso, syse, syio, sybo, B2.ofInts, B2.denI, B2.denB, if_true, Bool.false_eq_true, if_false, Nat.div_one, Nat.mul_one, Nat.add_zero] at hc
 simp only [bzc_zn1, patsTyp, patTyp, patTypL, bzE, denV, denL, List.getD_cons_zero, List.getD_cons_succ, and_true, true_and] at hty
 unfold zn1_tree
 simp only [bzc_zn1, Tree.holds, Sy.holds, bzE, denV, denI, denB, denL, I2.den, VOp.den, List.getD_cons_zero, List.getD_cons_succ, Cst.den, syso, syse, syio, sybo, bzb_let, B2.ofInts, B2.denI, B2.denB, if_true, Bool.false_eq_true, if_false, Nat.div_one, Nat.mul_one, Nat.add_zero]
 all_goals first | omega | rfl | (simp only [Value.tuple.injEq, Value.agg.injEq, Value.int.injEq, Value.bool.injEq, Array.mk.injEq, List.cons.injEq, true_and, and_true]; omega) | (refine congrArg Value.bool (Bool.eq_iff_iff.2 ?_); simp only [beq_iff_eq, decide_eq_true_eq, true_iff, false_iff, Bool.false_eq_true, Bool.not_eq_true', Bool.and_eq_true, Bool.or_eq_true, decide_eq_false_iff_not]; omega)
theorem bzg_zn1 : bzc_zn1.Good Tryz.prog syG (bzE [] [] [] []) := good_of_walk (Γ := ⟨[bzc_zlet], syG, [], [], []⟩) (ρ := bzE [] [] [] []) sym zn1_w rfl (fun _ _ _ _ => (ok_cons (Con.Good.env bzg_zlet _ _ _ _) ok_nil)) zn1_h
def zix_tree : Tree :=
 (.loop ⟨1, 0, 0, 0⟩ (.b2 .and (.b2 .le (.lit (0)) (.lit (0))) (.b2 .and (.b2 .le (.lit (0)) xrbzbndk5_) (.bapp 7 (.cons (.opq 0) (.cons (.int .i64 (.lit (0))) .nil))))) (.b2 .and (.b2 .le (.lit (0)) (.var 0)) (.b2 .and (.b2 .le (.var 0) xrbzbndk5_) (.bapp 7 (.cons (.opq 0) (.cons (.int .i64 (.var 0)) .nil)))))
 (.br (.b2 .lt (.var 0) xrbzbndk5_)
 (.need (.b2 .and (.b2 .le (.lit (0)) (.var 0)) (.b2 .lt (.var 0) xrbzbndk5_))
 (.br (.not (.bapp 3 (.cons (.int .u8 (.ofI (.vop (.sel 1 0) (.cons (.opq 0) (.cons (.int .i64 (.var 0)) .nil))))) .nil)))
 (.ret (.int .i64 (.var 0)))
 (.back (.b2 .and (.b2 .le (.lit (0)) (.wrap .i64 (.i2 .add (.var 0) (.lit (1))))) (.b2 .and (.b2 .le (.wrap .i64 (.i2 .add (.var 0) (.lit (1)))) xrbzbndk5_) (.bapp 7 (.cons (.opq 0) (.cons (.int .i64 (.wrap .i64 (.i2 .add (.var 0) (.lit (1))))) .nil))))) (.i2 .sub xrbzbndk5_ (.wrap .i64 (.i2 .add (.var 0) (.lit (1))))) (.i2 .sub xrbzbndk5_ (.var 0)))))
 (.ret (.int .i64 (.lit (-1))))))
abbrev bzc_zix : Con := ⟨173, [(.hs .no (.cons (.int .u8) .nil) (.opq 0)), (.cst (.fn 163))], (.tt true), (.int .i64 (.iapp 26 (.cons (.opq 0) .nil))), ⟨0, 0, 1, 0⟩, none⟩
theorem zix_w : walk Tryz.prog 111 ⟨[bzc_zn1], syG, [], [], []⟩ [⟨0, ⟨1, 0, 0, 0⟩, [(8, (.int .i64 (.var 0)))], none, (.b2 .and (.b2 .le (.lit (0)) (.var 0)) (.b2 .and (.b2 .le (.var 0) xrbzbndk5_) (.bapp 7 (.cons (.opq 0) (.cons (.int .i64 (.var 0)) .nil))))), (.i2 .sub xrbzbndk5_ (.var 0)), 0, []⟩] .v bzc_zix bzc_zix.n 3000 = some zix_tree := by kernel_rfl
theorem zix_h (l : Value) : Hyp_ bzc_zix zix_tree (bzE [] [] [l] []) := by
 intro hc hty
 simp only [bzc_zix, Sy.holds, bzE, denV, denI, denB, denL, I2.den, VOp.den, List.getD_cons_zero, List.getD_cons_succ, Cst.den, syso, syse, syio, sybo, B2.ofInts, B2.denI, B2.denB, if_true, Bool.false_eq_true, if_false, Nat.div_one, Nat.mul_one, Nat.add_zero] at hc
 simp only [bzc_zix, patsTyp, patTyp, patTypL, bzE, denV, denL, List.getD_cons_zero, List.getD_cons_succ, and_true, true_and] at hty
 have hL_l : typ (.sl (.cons (.int .u8) .nil)) l := by first | exact hty | exact hty.1 | exact hty.2 | exact hty.1.1 | exact hty.1.2 | exact hty.2.1 | exact hty.2.2 | exact hty.2.2.1 | exact hty.2.2.2
 have hN_l := typ_len (n := 1) hL_l rfl (by omega)
 simp only [Nat.div_one, Nat.mul_one] at hN_l
 unfold zix_tree
 simp only [bzc_zix, Tree.holds, Sy.holds, AllN, Env.more, bzE, List.cons_append, List.nil_append, List.append_nil, denV, denI, denB, denL, I2.den, VOp.den, List.getD_cons_zero, List.getD_cons_succ, Cst.den, syso, syse, syio, sybo, bzi_ixl, bzb_let, bzb_pre, List.map_nil, List.map_cons, B2.ofInts, B2.denI, B2.denB, if_true, Bool.false_eq_true, if_false, Nat.div_one, Nat.mul_one, Nat.add_zero]
 refine ⟨?_, ?_⟩
 ·
  exact ⟨by omega, by omega, preL_zero _⟩
 intro i0a hi0
 obtain ⟨hi1, hi2, hi3⟩ := hi0
 refine ⟨fun h0 => ?_, fun h0 => ?_⟩
 refine ⟨?_, fun h1 => ?_⟩
 ·
  omega
 refine ⟨fun h2 => ?_, fun h2 => ?_⟩
 refine ?a0; rotate_left
 have wf0 := wr_i64 (i0a + 1)
 refine ⟨?_, ?_⟩
 ·
  have e : IntKind.wrap .i64 (i0a + 1) = i0a + 1 := by omega
  have hx := intsV_at (v := l) (n := i0a.toNat) (by omega)
  have hl : letC (intOf ((rows l).getD i0a.toNat Go.undef)) = true := by simpa using h2
  rw [e, show (i0a + 1).toNat = i0a.toNat + 1 by omega, preL_succ hx, hi3, hl]
  exact ⟨by omega, by omega, rfl⟩
 ·
  omega
 refine ?a1; rotate_left
 case a0 | a1 =>
  first | (have hx := intsV_at (v := l) (n := i0a.toNat) (by omega)
           have hl : letC (intOf ((rows l).getD i0a.toNat Go.undef)) = false := by simpa using h2
           rw [ixL_at hi3 hx hl]
           exact congrArg (Value.int .i64) (by omega)) | (rw [ixL_no hi3 (by rw [intsV_len]; omega)])
theorem bzg_zix : bzc_zix.Good Tryz.prog syG (bzE [] [] [] []) := good_of_walk (Γ := ⟨[bzc_zn1], syG, [], [], []⟩) (ρ := bzE [] [] [] []) sym zix_w rfl (fun _ _ _ _ => (ok_cons (Con.Good.env bzg_zn1 _ _ _ _) ok_nil)) zix_h
def zcf_tree : Tree :=
 (.ret (.bool (.b2 .le (.lit (0)) (.iapp 26 (.cons (.opq 0) .nil)))))
abbrev bzc_zcf : Con := ⟨162, [(.hs .no (.cons (.int .u8) .nil) (.opq 0)), (.cst (.fn 163))], (.tt true), (.bool (.not (.b2 .lt (.iapp 26 (.cons (.opq 0) .nil)) (.lit (0))))), ⟨0, 0, 1, 0⟩, none⟩
theorem zcf_w : walk Tryz.prog 111 ⟨[bzc_zix], syG, [], [], []⟩ [] .v bzc_zcf bzc_zcf.n 3000 = some zcf_tree := by kernel_rfl
theorem zcf_h (l : Value) : Hyp_ bzc_zcf zcf_tree (bzE [] [] [l] []) := by
 intro hc hty
 simp only [bzc_zcf, Sy.holds, bzE, denV, denI, denB, denL, I2.den, VOp.den, List.getD_cons_zero, List.getD_cons_succ, Cst.den, syso, syse, syio, sybo, B2.ofInts, B2.denI, B2.denB, if_true, Bool.false_eq_true, if_false, Nat.div_one, Nat.mul_one, Nat.add_zero] at hc
 simp only [bzc_zcf, patsTyp, patTyp, patTypL, bzE, denV, denL, List.getD_cons_zero, List.getD_cons_succ, and_true, true_and] at hty
 have hL_l : typ (.sl (.cons (.int .u8) .nil)) l := by first | exact hty | exact hty.1 | exact hty.2 | exact hty.1.1 | exact hty.1.2 | exact hty.2.1 | exact hty.2.2 | exact hty.2.2.1 | exact hty.2.2.2
 have hN_l := typ_len (n := 1) hL_l rfl (by omega)
 simp only [Nat.div_one, Nat.mul_one] at hN_l
 unfold zcf_tree
 simp only [bzc_zcf, Tree.holds, Sy.holds, bzE, denV, denI, denB, denL, I2.den, VOp.den, List.getD_cons_zero, List.getD_cons_succ, Cst.den, syso, syse, syio, sybo, bzi_ixl, B2.ofInts, B2.denI, B2.denB, if_true, Bool.false_eq_true, if_false, Nat.div_one, Nat.mul_one, Nat.add_zero]
 all_goals first | omega | rfl | (simp only [Value.tuple.injEq, Value.agg.injEq, Value.int.injEq, Value.bool.injEq, Array.mk.injEq, List.cons.injEq, true_and, and_true]; omega) | (refine congrArg Value.bool (Bool.eq_iff_iff.2 ?_); simp only [beq_iff_eq, decide_eq_true_eq, true_iff, false_iff, Bool.false_eq_true, Bool.not_eq_true', Bool.and_eq_true, Bool.or_eq_true, decide_eq_false_iff_not]; omega)
theorem bzg_zcf : bzc_zcf.Good Tryz.prog syG (bzE [] [] [] []) := good_of_walk (Γ := ⟨[bzc_zix], syG, [], [], []⟩) (ρ := bzE [] [] [] []) sym zcf_w rfl (fun _ _ _ _ => (ok_cons (Con.Good.env bzg_zix _ _ _ _) ok_nil)) zcf_h
def zis_tree : Tree :=
 (.br (.b2 .lt (.blen (.str 0)) (.lit (1)))
 (.ret (.bool (.tt false)))
 (.br (.b2 .lt (.lit (12)) (.blen (.str 0)))
 (.ret (.bool (.tt false)))
 (.need (.b2 .le (.blen (.str 0)) (.lit (140737488355328)))
 (.ret (.bool (.b2 .lt (.iapp 26 (.cons (.vop .s2b (.cons (.str 0) .nil)) .nil)) (.lit (0))))))))
abbrev bzc_zis : Con := ⟨144, [(.str 0)], (.tt true), (.bool (.bapp 8 (.cons (.str 0) .nil))), ⟨0, 0, 0, 1⟩, none⟩
theorem zis_w : walk Tryz.prog 111 ⟨[bzc_zcf], syG, [], [], []⟩ [] .v bzc_zis bzc_zis.n 3000 = some zis_tree := by kernel_rfl
theorem zis_h (s : ByteArray) : Hyp_ bzc_zis zis_tree (bzE [] [] [] [s]) := by
 intro hc hty
 simp only [bzc_zis, Sy.holds, bzE, denV, denI, denB, denL, I2.den, VOp.den, List.getD_cons_zero, List.getD_cons_succ, Cst.den, syso, syse, syio, sybo, B2.ofInts, B2.denI, B2.denB, if_true, Bool.false_eq_true, if_false, Nat.div_one, Nat.mul_one, Nat.add_zero] at hc
 simp only [bzc_zis, patsTyp, patTyp, patTypL, bzE, denV, denL, List.getD_cons_zero, List.getD_cons_succ, and_true, true_and] at hty
 unfold zis_tree
 simp only [bzc_zis, Tree.holds, Sy.holds, bzE, denV, denI, denB, denL, I2.den, VOp.den, List.getD_cons_zero, List.getD_cons_succ, Cst.den, syso, syse, syio, sybo, bzi_ixl, bzb_nm, B2.ofInts, B2.denI, B2.denB, if_true, Bool.false_eq_true, if_false, Nat.div_one, Nat.mul_one, Nat.add_zero]
 refine ⟨fun h0 => ?_, fun h0 => ?_⟩
 refine ?a0; rotate_left
 refine ⟨fun h1 => ?_, fun h1 => ?_⟩
 refine ?a1; rotate_left
 refine ⟨?_, fun h2 => ?_⟩
 ·
  omega
 refine ?a2; rotate_left
 case a0 | a1 | a2 =>
  try simp only [intsV_s] at *
  refine congrArg Value.bool (Bool.eq_iff_iff.2 ?_)
  simp only [nameB, Bool.and_eq_true, decide_eq_true_eq, Bool.false_eq_true, false_iff]
  omega
theorem bzg_zis : bzc_zis.Good Tryz.prog syG (bzE [] [] [] []) := good_of_walk (Γ := ⟨[bzc_zcf], syG, [], [], []⟩) (ρ := bzE [] [] [] []) sym zis_w rfl (fun _ _ _ _ => (ok_cons (Con.Good.env bzg_zcf _ _ _ _) ok_nil)) zis_h
def zoff_tree : Tree :=
 (.br (.b2 .le (.lit (-86399)) (.var 0))
 (.ret (.bool (.b2 .le (.var 0) (.lit (86399)))))
 (.ret (.bool (.tt false))))
abbrev bzc_zoff : Con := ⟨145, [(.int .i64 (.var 0))], (.tt true), (.bool xrbzbndk8_), ⟨1, 0, 0, 0⟩, none⟩
theorem zoff_w : walk Tryz.prog 111 ⟨[], syG, [], [], []⟩ [] .v bzc_zoff bzc_zoff.n 3000 = some zoff_tree := by kernel_rfl
theorem zoff_h (n : Int) : Hyp_ bzc_zoff zoff_tree (bzE [n] [] [] []) := by
 intro hc hty
 simp only [bzc_zoff, Sy.holds, bzE, denV, denI, denB, denL, I2.den, VOp.den, List.getD_cons_zero, List.getD_cons_succ, Cst.den, syso, syse, syio, sybo, B2.ofInts, B2.denI, B2.denB, if_true, Bool.false_eq_true, if_false, Nat.div_one, Nat.mul_one, Nat.add_zero] at hc
 simp only [bzc_zoff, patsTyp, patTyp, patTypL, bzE, denV, denL, List.getD_cons_zero, List.getD_cons_succ, and_true, true_and] at hty
 unfold zoff_tree
 simp only [bzc_zoff, Tree.holds, Sy.holds, bzE, denV, denI, denB, denL, I2.den, VOp.den, List.getD_cons_zero, List.getD_cons_succ, Cst.den, syso, syse, syio, sybo, B2.ofInts, B2.denI, B2.denB, if_true, Bool.false_eq_true, if_false, Nat.div_one, Nat.mul_one, Nat.add_zero]
 refine ⟨fun h0 => ?_, fun h0 => ?_⟩
 refine ?a0; rotate_left
 refine ?a1; rotate_left
 case a0 | a1 =>
  all_goals first | omega | rfl | (simp only [Value.tuple.injEq, Value.agg.injEq, Value.int.injEq, Value.bool.injEq, Array.mk.injEq, List.cons.injEq, true_and, and_true]; omega) | (refine congrArg Value.bool (Bool.eq_iff_iff.2 ?_); simp only [beq_iff_eq, decide_eq_true_eq, true_iff, false_iff, Bool.false_eq_true, Bool.not_eq_true', Bool.and_eq_true, Bool.or_eq_true, decide_eq_false_iff_not]; omega)
theorem bzg_zoff : bzc_zoff.Good Tryz.prog syG (bzE [] [] [] []) := good_of_walk (Γ := ⟨[], syG, [], [], []⟩) (ρ := bzE [] [] [] []) sym zoff_w rfl (fun _ _ _ _ => ok_nil) zoff_h
def zck_tree : Tree :=
 (.br (.not (.bapp 8 (.cons (.str 0) .nil)))
 (.ret (.iface 111 (.int .i64 (.lit (1)))))
 (.br (.not xrbzbndk8_)
 (.ret (.iface 111 (.int .i64 (.lit (1)))))
 (.br (.b2 .lt (.lit (32)) xrbzbndk4_)
 (.ret (.iface 111 (.int .i64 (.lit (1)))))
 (.loop ⟨2, 0, 0, 0⟩ (.b2 .and (.b2 .le (.lit (0)) (.lit (0))) (.b2 .and (.b2 .le (.lit (0)) xrbzbndk4_) (.b2 .and (.bapp 4 (.cons (.opq 0) (.cons (.int .i64 (.lit (0))) .nil))) (.b2 .eq (.lit (-1099511627776)) (.iapp 27 (.cons (.opq 0) (.cons (.int .i64 (.lit (0))) .nil))))))) xrbzbndk7_
 (.br (.b2 .lt (.var 2) xrbzbndk4_)
 (.need (.b2 .and (.b2 .le (.lit (0)) (.var 2)) (.b2 .lt (.var 2) xrbzbndk4_))
 (.br (.b2 .lt (.ofI (.vop (.sel 3 0) (.cons (.opq 0) (.cons (.int .i64 (.var 2)) .nil)))) (.var 1))
 (.ret (.iface 111 (.int .i64 (.lit (1)))))
 (.br (.b2 .lt (.lit (1099511627776)) (.ofI (.vop (.sel 3 0) (.cons (.opq 0) (.cons (.int .i64 (.var 2)) .nil)))))
 (.ret (.iface 111 (.int .i64 (.lit (1)))))
 (.br (.not (.b2 .and (.b2 .le (.lit (-86399)) (.ofI (.vop (.sel 3 1) (.cons (.opq 0) (.cons (.int .i64 (.var 2)) .nil))))) (.b2 .le (.ofI (.vop (.sel 3 1) (.cons (.opq 0) (.cons (.int .i64 (.var 2)) .nil)))) (.lit (86399)))))
 (.ret (.iface 111 (.int .i64 (.lit (1)))))
 (.br (.not (.bapp 8 (.cons (.vop (.ssel 3 2) (.cons (.opq 0) (.cons (.int .i64 (.var 2)) .nil))) .nil)))
 (.ret (.iface 111 (.int .i64 (.lit (1)))))
 (.back (.b2 .and (.b2 .le (.lit (0)) (.wrap .i64 (.i2 .add (.var 2) (.lit (1))))) (.b2 .and (.b2 .le (.wrap .i64 (.i2 .add (.var 2) (.lit (1)))) xrbzbndk4_) (.b2 .and (.bapp 4 (.cons (.opq 0) (.cons (.int .i64 (.wrap .i64 (.i2 .add (.var 2) (.lit (1))))) .nil))) (.b2 .eq (.wrap .i64 (.i2 .add (.ofI (.vop (.sel 3 0) (.cons (.opq 0) (.cons (.int .i64 (.var 2)) .nil)))) (.lit (1)))) (.iapp 27 (.cons (.opq 0) (.cons (.int .i64 (.wrap .i64 (.i2 .add (.var 2) (.lit (1))))) .nil))))))) (.i2 .sub xrbzbndk4_ (.wrap .i64 (.i2 .add (.var 2) (.lit (1))))) (.i2 .sub xrbzbndk4_ (.var 2))))))))
 (.ret (.cst .nilI)))))))
abbrev bzc_zck : Con := ⟨107, [(.agg (.cons (.str 0) (.cons (.int .i64 (.var 0)) (.cons (.hs .no (.cons (.int .i64) (.cons (.int .i64) (.cons .str .nil))) (.opq 0)) .nil))))], (.tt true), (.err (.iapp 28 (.cons (.str 0) (.cons (.int .i64 (.var 0)) (.cons (.opq 0) .nil))))), ⟨1, 0, 1, 1⟩, none⟩
theorem zck_w : walk Tryz.prog 111 ⟨[bzc_zis, bzc_zoff], syG, [], [], []⟩ [⟨0, ⟨2, 0, 0, 0⟩, [(3, (.int .i64 (.var 1))), (26, (.int .i64 (.var 2)))], none, xrbzbndk7_, (.i2 .sub xrbzbndk4_ (.var 2)), 0, []⟩] .v bzc_zck bzc_zck.n 3000 = some zck_tree := by kernel_rfl
theorem zck_h (fst : Int) (l : Value) (nm : ByteArray) : Hyp_ bzc_zck zck_tree (bzE [fst] [] [l] [nm]) := by
 intro hc hty
 simp only [bzc_zck, Sy.holds, bzE, denV, denI, denB, denL, I2.den, VOp.den, List.getD_cons_zero, List.getD_cons_succ, Cst.den, syso, syse, syio, sybo, B2.ofInts, B2.denI, B2.denB, if_true, Bool.false_eq_true, if_false, Nat.div_one, Nat.mul_one, Nat.add_zero] at hc
 simp only [bzc_zck, patsTyp, patTyp, patTypL, bzE, denV, denL, List.getD_cons_zero, List.getD_cons_succ, and_true, true_and] at hty
 have hL_l : typ (.sl (.cons (.int .i64) (.cons (.int .i64) (.cons .str .nil)))) l := by first | exact hty | exact hty.1 | exact hty.2 | exact hty.1.1 | exact hty.1.2 | exact hty.2.1 | exact hty.2.2 | exact hty.2.2.1 | exact hty.2.2.2
 have hN_l := typ_len (n := 3) hL_l rfl (by omega)
 unfold zck_tree
 simp only [bzc_zck, Tree.holds, Sy.holds, AllN, Env.more, bzE, List.cons_append, List.nil_append, List.append_nil, denV, denI, denB, denL, I2.den, VOp.den, List.getD_cons_zero, List.getD_cons_succ, Cst.den, syso, syse, syio, sybo, bzi_lst, bzi_chk, bzb_rok, bzb_nm, List.map_nil, List.map_cons, B2.ofInts, B2.denI, B2.denB, if_true, Bool.false_eq_true, if_false, Nat.div_one, Nat.mul_one, Nat.add_zero]
 refine ⟨fun h0 => ?_, fun h0 => ?_⟩
 refine ?a0; rotate_left
 refine ⟨fun h1 => ?_, fun h1 => ?_⟩
 refine ?a1; rotate_left
 refine ⟨fun h2 => ?_, fun h2 => ?_⟩
 refine ?a2; rotate_left
 refine ⟨?_, ?_⟩
 ·
  exact ⟨by omega, by omega, rfl, rfl⟩
 intro i0a i0b hi0
 refine ⟨fun h3 => ?_, fun h3 => ?_⟩
 refine ⟨?_, fun h4 => ?_⟩
 ·
  omega
 refine ⟨fun h5 => ?_, fun h5 => ?_⟩
 refine ?a3; rotate_left
 refine ⟨fun h6 => ?_, fun h6 => ?_⟩
 refine ?a4; rotate_left
 refine ⟨fun h7 => ?_, fun h7 => ?_⟩
 refine ?a5; rotate_left
 refine ⟨fun h8 => ?_, fun h8 => ?_⟩
 refine ?a6; rotate_left
 have wf0 := wr_i64 (i0b + 1)
 have wf1 := wr_i64 ((Go.RowKit.intOf ((rows l).getD (Int.toNat i0b * 3) Go.undef)) + 1)
 refine ⟨?_, ?_⟩
 ·
  obtain ⟨hi1, hi2, hi3, hi4⟩ := hi0
  have hge := least_ge hi3
  have e : IntKind.wrap .i64 (i0b + 1) = i0b + 1 := by omega
  have e2 : IntKind.wrap .i64 (intOf ((rows l).getD (i0b.toNat * 3) Go.undef) + 1) = intOf ((rows l).getD (i0b.toNat * 3) Go.undef) + 1 := by omega
  rw [e, e2, show (i0b + 1).toNat = i0b.toNat + 1 by omega]
  refine ⟨by omega, by omega, ?_, rfl⟩
  simp only [zkR, hi3, Bool.true_and]
  exact (rul_iff _ _).2 ⟨by omega, by omega, by omega, by omega, Decidable.of_not_not h8⟩
 ·
  omega
 refine ?a7; rotate_left
 case a0 | a1 | a2 | a3 | a4 | a5 | a6 | a7 =>
  first
  | (refine errV1 (chk_no fun hz => ?_)
     rw [zone_iff] at hz
     first
     | exact h0 hz.1
     | exact h1 hz.2.1
     | omega
     | (obtain ⟨hi1, hi2, hi3, hi4⟩ := hi0
        have hr := (rul_iff _ _).1 (zkR_get hz.2.2.2 (k := i0b.toNat) (by omega))
        first
        | omega
        | exact h8 hr.2.2.2.2))
  | (refine errV0 (chk_yes ?_)
     rw [zone_iff]
     refine ⟨Decidable.of_not_not h0, Decidable.of_not_not h1, by omega, ?_⟩
     rw [show (rows l).length / 3 = i0b.toNat by omega]
     exact hi0.2.2.1)
theorem bzg_zck : bzc_zck.Good Tryz.prog syG (bzE [] [] [] []) := good_of_walk (Γ := ⟨[bzc_zis, bzc_zoff], syG, [], [], []⟩) (ρ := bzE [] [] [] []) sym zck_w rfl (fun _ _ _ _ => (ok_cons (Con.Good.env bzg_zis _ _ _ _) (ok_cons (Con.Good.env bzg_zoff _ _ _ _) ok_nil))) zck_h
def rname_tree : Tree :=
 (.loop ⟨1, 0, 0, 0⟩ (.b2 .and (.b2 .le (.lit (0)) (.lit (0))) (.b2 .and (.b2 .le (.lit (0)) (.blen (.str 0))) (.bapp 7 (.cons (.vop .s2b (.cons (.str 0) .nil)) (.cons (.int .i64 (.lit (0))) .nil))))) (.b2 .and (.b2 .le (.lit (0)) (.var 0)) (.b2 .and (.b2 .le (.var 0) (.blen (.str 0))) (.bapp 7 (.cons (.vop .s2b (.cons (.str 0) .nil)) (.cons (.int .i64 (.var 0)) .nil)))))
 (.br (.b2 .lt (.var 0) (.blen (.str 0)))
 (.need (.b2 .and (.b2 .le (.lit (0)) (.var 0)) (.b2 .lt (.var 0) (.blen (.str 0))))
 (.br (.b2 .le (.lit (97)) xrbzbndk1_)
 (.br (.b2 .le xrbzbndk1_ (.lit (122)))
 (.back xrbzbndk0_ xrbzbndk2_ xrbzbndk3_)
 (.br (.b2 .le (.lit (65)) xrbzbndk1_)
 (.br (.b2 .le xrbzbndk1_ (.lit (90)))
 (.back xrbzbndk0_ xrbzbndk2_ xrbzbndk3_)
 (.br (.b2 .le (.lit (48)) xrbzbndk1_)
 (.br (.b2 .le xrbzbndk1_ (.lit (57)))
 (.back xrbzbndk0_ xrbzbndk2_ xrbzbndk3_)
 (.br (.b2 .eq xrbzbndk1_ (.lit (47)))
 (.back xrbzbndk0_ xrbzbndk2_ xrbzbndk3_)
 (.br (.b2 .eq xrbzbndk1_ (.lit (95)))
 (.back xrbzbndk0_ xrbzbndk2_ xrbzbndk3_)
 (.br (.b2 .eq xrbzbndk1_ (.lit (43)))
 (.back xrbzbndk0_ xrbzbndk2_ xrbzbndk3_)
 (.br (.not (.b2 .eq xrbzbndk1_ (.lit (45))))
 (.ret (.bool (.tt false)))
 (.back xrbzbndk0_ xrbzbndk2_ xrbzbndk3_))))))
 (.br (.b2 .eq xrbzbndk1_ (.lit (47)))
 (.back xrbzbndk0_ xrbzbndk2_ xrbzbndk3_)
 (.br (.b2 .eq xrbzbndk1_ (.lit (95)))
 (.back xrbzbndk0_ xrbzbndk2_ xrbzbndk3_)
 (.br (.b2 .eq xrbzbndk1_ (.lit (43)))
 (.back xrbzbndk0_ xrbzbndk2_ xrbzbndk3_)
 (.br (.not (.b2 .eq xrbzbndk1_ (.lit (45))))
 (.ret (.bool (.tt false)))
 (.back xrbzbndk0_ xrbzbndk2_ xrbzbndk3_)))))))
 (.br (.b2 .le (.lit (48)) xrbzbndk1_)
 (.br (.b2 .le xrbzbndk1_ (.lit (57)))
 (.back xrbzbndk0_ xrbzbndk2_ xrbzbndk3_)
 (.br (.b2 .eq xrbzbndk1_ (.lit (47)))
 (.back xrbzbndk0_ xrbzbndk2_ xrbzbndk3_)
 (.br (.b2 .eq xrbzbndk1_ (.lit (95)))
 (.back xrbzbndk0_ xrbzbndk2_ xrbzbndk3_)
 (.br (.b2 .eq xrbzbndk1_ (.lit (43)))
 (.back xrbzbndk0_ xrbzbndk2_ xrbzbndk3_)
 (.br (.not (.b2 .eq xrbzbndk1_ (.lit (45))))
 (.ret (.bool (.tt false)))
 (.back xrbzbndk0_ xrbzbndk2_ xrbzbndk3_))))))
 (.br (.b2 .eq xrbzbndk1_ (.lit (47)))
 (.back xrbzbndk0_ xrbzbndk2_ xrbzbndk3_)
 (.br (.b2 .eq xrbzbndk1_ (.lit (95)))
 (.back xrbzbndk0_ xrbzbndk2_ xrbzbndk3_)
 (.br (.b2 .eq xrbzbndk1_ (.lit (43)))
 (.back xrbzbndk0_ xrbzbndk2_ xrbzbndk3_)
 (.br (.not (.b2 .eq xrbzbndk1_ (.lit (45))))
 (.ret (.bool (.tt false)))
 (.back xrbzbndk0_ xrbzbndk2_ xrbzbndk3_))))))))
 (.br (.b2 .le (.lit (65)) xrbzbndk1_)
 (.br (.b2 .le xrbzbndk1_ (.lit (90)))
 (.back xrbzbndk0_ xrbzbndk2_ xrbzbndk3_)
 (.br (.b2 .le (.lit (48)) xrbzbndk1_)
 (.br (.b2 .le xrbzbndk1_ (.lit (57)))
 (.back xrbzbndk0_ xrbzbndk2_ xrbzbndk3_)
 (.br (.b2 .eq xrbzbndk1_ (.lit (47)))
 (.back xrbzbndk0_ xrbzbndk2_ xrbzbndk3_)
 (.br (.b2 .eq xrbzbndk1_ (.lit (95)))
 (.back xrbzbndk0_ xrbzbndk2_ xrbzbndk3_)
 (.br (.b2 .eq xrbzbndk1_ (.lit (43)))
 (.back xrbzbndk0_ xrbzbndk2_ xrbzbndk3_)
 (.br (.not (.b2 .eq xrbzbndk1_ (.lit (45))))
 (.ret (.bool (.tt false)))
 (.back xrbzbndk0_ xrbzbndk2_ xrbzbndk3_))))))
 (.br (.b2 .eq xrbzbndk1_ (.lit (47)))
 (.back xrbzbndk0_ xrbzbndk2_ xrbzbndk3_)
 (.br (.b2 .eq xrbzbndk1_ (.lit (95)))
 (.back xrbzbndk0_ xrbzbndk2_ xrbzbndk3_)
 (.br (.b2 .eq xrbzbndk1_ (.lit (43)))
 (.back xrbzbndk0_ xrbzbndk2_ xrbzbndk3_)
 (.br (.not (.b2 .eq xrbzbndk1_ (.lit (45))))
 (.ret (.bool (.tt false)))
 (.back xrbzbndk0_ xrbzbndk2_ xrbzbndk3_)))))))
 (.br (.b2 .le (.lit (48)) xrbzbndk1_)
 (.br (.b2 .le xrbzbndk1_ (.lit (57)))
 (.back xrbzbndk0_ xrbzbndk2_ xrbzbndk3_)
 (.br (.b2 .eq xrbzbndk1_ (.lit (47)))
 (.back xrbzbndk0_ xrbzbndk2_ xrbzbndk3_)
 (.br (.b2 .eq xrbzbndk1_ (.lit (95)))
 (.back xrbzbndk0_ xrbzbndk2_ xrbzbndk3_)
 (.br (.b2 .eq xrbzbndk1_ (.lit (43)))
 (.back xrbzbndk0_ xrbzbndk2_ xrbzbndk3_)
 (.br (.not (.b2 .eq xrbzbndk1_ (.lit (45))))
 (.ret (.bool (.tt false)))
 (.back xrbzbndk0_ xrbzbndk2_ xrbzbndk3_))))))
 (.br (.b2 .eq xrbzbndk1_ (.lit (47)))
 (.back xrbzbndk0_ xrbzbndk2_ xrbzbndk3_)
 (.br (.b2 .eq xrbzbndk1_ (.lit (95)))
 (.back xrbzbndk0_ xrbzbndk2_ xrbzbndk3_)
 (.br (.b2 .eq xrbzbndk1_ (.lit (43)))
 (.back xrbzbndk0_ xrbzbndk2_ xrbzbndk3_)
 (.br (.not (.b2 .eq xrbzbndk1_ (.lit (45))))
 (.ret (.bool (.tt false)))
 (.back xrbzbndk0_ xrbzbndk2_ xrbzbndk3_)))))))))
 (.br (.b2 .le (.lit (1)) (.blen (.str 0)))
 (.ret (.bool (.b2 .le (.blen (.str 0)) (.lit (12)))))
 (.ret (.bool (.tt false))))))
abbrev bzc_rname : Con := ⟨153, [(.str 0)], (.b2 .le (.blen (.str 0)) (.lit (200))), (.bool (.bapp 8 (.cons (.str 0) .nil))), ⟨0, 0, 0, 1⟩, none⟩
theorem rname_w : walk Tryz.prog 111 ⟨[], syG, [], [], []⟩ [⟨0, ⟨1, 0, 0, 0⟩, [(3, (.int .i64 (.var 0)))], none, (.b2 .and (.b2 .le (.lit (0)) (.var 0)) (.b2 .and (.b2 .le (.var 0) (.blen (.str 0))) (.bapp 7 (.cons (.vop .s2b (.cons (.str 0) .nil)) (.cons (.int .i64 (.var 0)) .nil))))), xrbzbndk3_, 0, []⟩] .v bzc_rname bzc_rname.n 3000 = some rname_tree := by kernel_rfl
theorem rname_h (s : ByteArray) : Hyp_ bzc_rname rname_tree (bzE [] [] [] [s]) := by
 intro hc hty
 simp only [bzc_rname, Sy.holds, bzE, denV, denI, denB, denL, I2.den, VOp.den, List.getD_cons_zero, List.getD_cons_succ, Cst.den, syso, syse, syio, sybo, B2.ofInts, B2.denI, B2.denB, if_true, Bool.false_eq_true, if_false, Nat.div_one, Nat.mul_one, Nat.add_zero] at hc
 simp only [bzc_rname, patsTyp, patTyp, patTypL, bzE, denV, denL, List.getD_cons_zero, List.getD_cons_succ, and_true, true_and] at hty
 unfold rname_tree
 simp only [bzc_rname, Tree.holds, Sy.holds, AllN, Env.more, bzE, List.cons_append, List.nil_append, List.append_nil, denV, denI, denB, denL, I2.den, VOp.den, List.getD_cons_zero, List.getD_cons_succ, Cst.den, syso, syse, syio, sybo, bzb_pre, bzb_nm, List.map_nil, List.map_cons, B2.ofInts, B2.denI, B2.denB, if_true, Bool.false_eq_true, if_false, Nat.div_one, Nat.mul_one, Nat.add_zero]
 refine ⟨?_, ?_⟩
 ·
  exact ⟨by omega, by omega, preL_zero _⟩
 intro i0a hi0
 refine ⟨fun h0 => ?_, fun h0 => ?_⟩
 refine ⟨?_, fun h1 => ?_⟩
 ·
  omega
 refine ⟨fun h2 => ?_, fun h2 => ?_⟩
 refine ⟨fun h3 => ?_, fun h3 => ?_⟩
 have wf0 := wr_i64 (i0a + 1)
 refine ⟨?_, ?_⟩
 refine ?a0; rotate_left
 ·
  omega
 refine ⟨fun h4 => ?_, fun h4 => ?_⟩
 refine ⟨fun h5 => ?_, fun h5 => ?_⟩
 have wf1 := wr_i64 (i0a + 1)
 refine ⟨?_, ?_⟩
 refine ?a1; rotate_left
 ·
  omega
 refine ⟨fun h6 => ?_, fun h6 => ?_⟩
 refine ⟨fun h7 => ?_, fun h7 => ?_⟩
 have wf2 := wr_i64 (i0a + 1)
 refine ⟨?_, ?_⟩
 refine ?a2; rotate_left
 ·
  omega
 refine ⟨fun h8 => ?_, fun h8 => ?_⟩
 have wf3 := wr_i64 (i0a + 1)
 refine ⟨?_, ?_⟩
 refine ?a3; rotate_left
 ·
  omega
 refine ⟨fun h9 => ?_, fun h9 => ?_⟩
 have wf4 := wr_i64 (i0a + 1)
 refine ⟨?_, ?_⟩
 refine ?a4; rotate_left
 ·
  omega
 refine ⟨fun h10 => ?_, fun h10 => ?_⟩
 have wf5 := wr_i64 (i0a + 1)
 refine ⟨?_, ?_⟩
 refine ?a5; rotate_left
 ·
  omega
 refine ⟨fun h11 => ?_, fun h11 => ?_⟩
 refine ?a6; rotate_left
 have wf6 := wr_i64 (i0a + 1)
 refine ⟨?_, ?_⟩
 refine ?a7; rotate_left
 ·
  omega
 refine ⟨fun h12 => ?_, fun h12 => ?_⟩
 have wf7 := wr_i64 (i0a + 1)
 refine ⟨?_, ?_⟩
 refine ?a8; rotate_left
 ·
  omega
 refine ⟨fun h13 => ?_, fun h13 => ?_⟩
 have wf8 := wr_i64 (i0a + 1)
 refine ⟨?_, ?_⟩
 refine ?a9; rotate_left
 ·
  omega
 refine ⟨fun h14 => ?_, fun h14 => ?_⟩
 have wf9 := wr_i64 (i0a + 1)
 refine ⟨?_, ?_⟩
 refine ?a10; rotate_left
 ·
  omega
 refine ⟨fun h15 => ?_, fun h15 => ?_⟩
 refine ?a11; rotate_left
 have wf10 := wr_i64 (i0a + 1)
 refine ⟨?_, ?_⟩
 refine ?a12; rotate_left
 ·
  omega
 refine ⟨fun h16 => ?_, fun h16 => ?_⟩
 refine ⟨fun h17 => ?_, fun h17 => ?_⟩
 have wf11 := wr_i64 (i0a + 1)
 refine ⟨?_, ?_⟩
 refine ?a13; rotate_left
 ·
  omega
 refine ⟨fun h18 => ?_, fun h18 => ?_⟩
 have wf12 := wr_i64 (i0a + 1)
 refine ⟨?_, ?_⟩
 refine ?a14; rotate_left
 ·
  omega
 refine ⟨fun h19 => ?_, fun h19 => ?_⟩
 have wf13 := wr_i64 (i0a + 1)
 refine ⟨?_, ?_⟩
 refine ?a15; rotate_left
 ·
  omega
 refine ⟨fun h20 => ?_, fun h20 => ?_⟩
 have wf14 := wr_i64 (i0a + 1)
 refine ⟨?_, ?_⟩
 refine ?a16; rotate_left
 ·
  omega
 refine ⟨fun h21 => ?_, fun h21 => ?_⟩
 refine ?a17; rotate_left
 have wf15 := wr_i64 (i0a + 1)
 refine ⟨?_, ?_⟩
 refine ?a18; rotate_left
 ·
  omega
 refine ⟨fun h22 => ?_, fun h22 => ?_⟩
 have wf16 := wr_i64 (i0a + 1)
 refine ⟨?_, ?_⟩
 refine ?a19; rotate_left
 ·
  omega
 refine ⟨fun h23 => ?_, fun h23 => ?_⟩
 have wf17 := wr_i64 (i0a + 1)
 refine ⟨?_, ?_⟩
 refine ?a20; rotate_left
 ·
  omega
 refine ⟨fun h24 => ?_, fun h24 => ?_⟩
 have wf18 := wr_i64 (i0a + 1)
 refine ⟨?_, ?_⟩
 refine ?a21; rotate_left
 ·
  omega
 refine ⟨fun h25 => ?_, fun h25 => ?_⟩
 refine ?a22; rotate_left
 have wf19 := wr_i64 (i0a + 1)
 refine ⟨?_, ?_⟩
 refine ?a23; rotate_left
 ·
  omega
 refine ⟨fun h26 => ?_, fun h26 => ?_⟩
 refine ⟨fun h27 => ?_, fun h27 => ?_⟩
 have wf20 := wr_i64 (i0a + 1)
 refine ⟨?_, ?_⟩
 refine ?a24; rotate_left
 ·
  omega
 refine ⟨fun h28 => ?_, fun h28 => ?_⟩
 refine ⟨fun h29 => ?_, fun h29 => ?_⟩
 have wf21 := wr_i64 (i0a + 1)
 refine ⟨?_, ?_⟩
 refine ?a25; rotate_left
 ·
  omega
 refine ⟨fun h30 => ?_, fun h30 => ?_⟩
 have wf22 := wr_i64 (i0a + 1)
 refine ⟨?_, ?_⟩
 refine ?a26; rotate_left
 ·
  omega
 refine ⟨fun h31 => ?_, fun h31 => ?_⟩
 have wf23 := wr_i64 (i0a + 1)
 refine ⟨?_, ?_⟩
 refine ?a27; rotate_left
 ·
  omega
 refine ⟨fun h32 => ?_, fun h32 => ?_⟩
 have wf24 := wr_i64 (i0a + 1)
 refine ⟨?_, ?_⟩
 refine ?a28; rotate_left
 ·
  omega
 refine ⟨fun h33 => ?_, fun h33 => ?_⟩
 refine ?a29; rotate_left
 have wf25 := wr_i64 (i0a + 1)
 refine ⟨?_, ?_⟩
 refine ?a30; rotate_left
 ·
  omega
 refine ⟨fun h34 => ?_, fun h34 => ?_⟩
 have wf26 := wr_i64 (i0a + 1)
 refine ⟨?_, ?_⟩
 refine ?a31; rotate_left
 ·
  omega
 refine ⟨fun h35 => ?_, fun h35 => ?_⟩
 have wf27 := wr_i64 (i0a + 1)
 refine ⟨?_, ?_⟩
 refine ?a32; rotate_left
 ·
  omega
 refine ⟨fun h36 => ?_, fun h36 => ?_⟩
 have wf28 := wr_i64 (i0a + 1)
 refine ⟨?_, ?_⟩
 refine ?a33; rotate_left
 ·
  omega
 refine ⟨fun h37 => ?_, fun h37 => ?_⟩
 refine ?a34; rotate_left
 have wf29 := wr_i64 (i0a + 1)
 refine ⟨?_, ?_⟩
 refine ?a35; rotate_left
 ·
  omega
 refine ⟨fun h38 => ?_, fun h38 => ?_⟩
 refine ⟨fun h39 => ?_, fun h39 => ?_⟩
 have wf30 := wr_i64 (i0a + 1)
 refine ⟨?_, ?_⟩
 refine ?a36; rotate_left
 ·
  omega
 refine ⟨fun h40 => ?_, fun h40 => ?_⟩
 have wf31 := wr_i64 (i0a + 1)
 refine ⟨?_, ?_⟩
 refine ?a37; rotate_left
 ·
  omega
 refine ⟨fun h41 => ?_, fun h41 => ?_⟩
 have wf32 := wr_i64 (i0a + 1)
 refine ⟨?_, ?_⟩
 refine ?a38; rotate_left
 ·
  omega
 refine ⟨fun h42 => ?_, fun h42 => ?_⟩
 have wf33 := wr_i64 (i0a + 1)
 refine ⟨?_, ?_⟩
 refine ?a39; rotate_left
 ·
  omega
 refine ⟨fun h43 => ?_, fun h43 => ?_⟩
 refine ?a40; rotate_left
 have wf34 := wr_i64 (i0a + 1)
 refine ⟨?_, ?_⟩
 refine ?a41; rotate_left
 ·
  omega
 refine ⟨fun h44 => ?_, fun h44 => ?_⟩
 have wf35 := wr_i64 (i0a + 1)
 refine ⟨?_, ?_⟩
 refine ?a42; rotate_left
 ·
  omega
 refine ⟨fun h45 => ?_, fun h45 => ?_⟩
 have wf36 := wr_i64 (i0a + 1)
 refine ⟨?_, ?_⟩
 refine ?a43; rotate_left
 ·
  omega
 refine ⟨fun h46 => ?_, fun h46 => ?_⟩
 have wf37 := wr_i64 (i0a + 1)
 refine ⟨?_, ?_⟩
 refine ?a44; rotate_left
 ·
  omega
 refine ⟨fun h47 => ?_, fun h47 => ?_⟩
 refine ?a45; rotate_left
 have wf38 := wr_i64 (i0a + 1)
 refine ⟨?_, ?_⟩
 refine ?a46; rotate_left
 ·
  omega
 refine ⟨fun h48 => ?_, fun h48 => ?_⟩
 refine ?a47; rotate_left
 refine ?a48; rotate_left
 case a0 | a1 | a2 | a3 | a4 | a5 | a7 | a8 | a9 | a10 | a12 | a13 | a14 | a15 | a16 | a18 | a19 | a20 | a21 | a23 | a24 | a25 | a26 | a27 | a28 | a30 | a31 | a32 | a33 | a35 | a36 | a37 | a38 | a39 | a41 | a42 | a43 | a44 | a46 =>
  rw [intsV_s] at hi0 ⊢
  obtain ⟨hi1, hi2, hi3⟩ := hi0
  have hx := chr_at (s := s) (n := i0a.toNat) (by omega)
  have hl : letC ((s.data.toList.getD i0a.toNat 0).toNat : Int) = true := (letC_iff _).2 (by omega)
  have e : IntKind.wrap .i64 (i0a + 1) = i0a + 1 := by omega
  rw [e, show (i0a + 1).toNat = i0a.toNat + 1 by omega, preL_succ hx, hi3, hl]
  exact ⟨by omega, by omega, rfl⟩
 case a6 | a11 | a17 | a22 | a29 | a34 | a40 | a45 | a47 | a48 =>
  rw [intsV_s] at hi0
  obtain ⟨hi1, hi2, hi3⟩ := hi0
  first
  | (have hx := chr_at (s := s) (n := i0a.toNat) (by omega)
     have hl : ¬ letC ((s.data.toList.getD i0a.toNat 0).toNat : Int) = true := fun h => by
       rw [letC_iff] at h
       omega
     have hix := ixL_at hi3 hx (by simpa using hl)
     refine congrArg Value.bool (Eq.symm (Bool.eq_false_iff.2 fun h => ?_))
     simp only [nameB, Bool.and_eq_true, decide_eq_true_eq] at h
     omega)
  | (have hix := ixL_no hi3 (by simp; omega)
     refine congrArg Value.bool (Bool.eq_iff_iff.2 ?_)
     simp only [nameB, hix, Bool.and_eq_true, decide_eq_true_eq, Bool.false_eq_true, false_iff]
     omega)
theorem bzg_rname : bzc_rname.Good Tryz.prog syG (bzE [] [] [] []) := good_of_walk (Γ := ⟨[], syG, [], [], []⟩) (ρ := bzE [] [] [] []) sym rname_w rfl (fun _ _ _ _ => ok_nil) rname_h
def zroff_tree : Tree :=
 (.br (.b2 .lt (.lit (-86400)) (.var 0))
 (.ret (.bool (.b2 .lt (.var 0) (.lit (86400)))))
 (.ret (.bool (.tt false))))
abbrev bzc_zroff : Con := ⟨154, [(.int .i64 (.var 0))], (.tt true), (.bool xrbzbndk8_), ⟨1, 0, 0, 0⟩, none⟩
theorem zroff_w : walk Tryz.prog 111 ⟨[], syG, [], [], []⟩ [] .v bzc_zroff bzc_zroff.n 3000 = some zroff_tree := by kernel_rfl
theorem zroff_h (n : Int) : Hyp_ bzc_zroff zroff_tree (bzE [n] [] [] []) := by
 intro hc hty
 simp only [bzc_zroff, Sy.holds, bzE, denV, denI, denB, denL, I2.den, VOp.den, List.getD_cons_zero, List.getD_cons_succ, Cst.den, syso, syse, syio, sybo, B2.ofInts, B2.denI, B2.denB, if_true, Bool.false_eq_true, if_false, Nat.div_one, Nat.mul_one, Nat.add_zero] at hc
 simp only [bzc_zroff, patsTyp, patTyp, patTypL, bzE, denV, denL, List.getD_cons_zero, List.getD_cons_succ, and_true, true_and] at hty
 unfold zroff_tree
 simp only [bzc_zroff, Tree.holds, Sy.holds, bzE, denV, denI, denB, denL, I2.den, VOp.den, List.getD_cons_zero, List.getD_cons_succ, Cst.den, syso, syse, syio, sybo, B2.ofInts, B2.denI, B2.denB, if_true, Bool.false_eq_true, if_false, Nat.div_one, Nat.mul_one, Nat.add_zero]
 refine ⟨fun h0 => ?_, fun h0 => ?_⟩
 refine ?a0; rotate_left
 refine ?a1; rotate_left
 case a0 | a1 =>
  all_goals first | omega | rfl | (simp only [Value.tuple.injEq, Value.agg.injEq, Value.int.injEq, Value.bool.injEq, Array.mk.injEq, List.cons.injEq, true_and, and_true]; omega) | (refine congrArg Value.bool (Bool.eq_iff_iff.2 ?_); simp only [beq_iff_eq, decide_eq_true_eq, true_iff, false_iff, Bool.false_eq_true, Bool.not_eq_true', Bool.and_eq_true, Bool.or_eq_true, decide_eq_false_iff_not]; omega)
theorem bzg_zroff : bzc_zroff.Good Tryz.prog syG (bzE [] [] [] []) := good_of_walk (Γ := ⟨[], syG, [], [], []⟩) (ρ := bzE [] [] [] []) sym zroff_w rfl (fun _ _ _ _ => ok_nil) zroff_h
def rmay_tree : Tree :=
 (.loop ⟨1, 0, 0, 0⟩ (.b2 .and (.b2 .le (.lit (0)) (.lit (0))) (.b2 .and (.b2 .le (.lit (0)) xrbzbndk4_) (.bapp 4 (.cons (.opq 0) (.cons (.int .i64 (.lit (0))) .nil))))) (.b2 .and (.b2 .le (.lit (0)) (.var 1)) (.b2 .and (.b2 .le (.var 1) xrbzbndk4_) (.bapp 4 (.cons (.opq 0) (.cons (.int .i64 (.var 1)) .nil)))))
 (.br (.b2 .lt (.var 1) xrbzbndk4_)
 (.need (.b2 .and (.b2 .le (.lit (0)) (.var 1)) (.b2 .lt (.var 1) xrbzbndk4_))
 (.need (.b2 .le (.blen (.vop (.ssel 3 2) (.cons (.opq 0) (.cons (.int .i64 (.var 1)) .nil)))) (.lit (200)))
 (.br (.not (.bapp 8 (.cons (.vop (.ssel 3 2) (.cons (.opq 0) (.cons (.int .i64 (.var 1)) .nil))) .nil)))
 (.ret (.bool (.tt false)))
 (.br (.not (.b2 .and (.b2 .le (.lit (-86399)) (.ofI (.vop (.sel 3 1) (.cons (.opq 0) (.cons (.int .i64 (.var 1)) .nil))))) (.b2 .le (.ofI (.vop (.sel 3 1) (.cons (.opq 0) (.cons (.int .i64 (.var 1)) .nil)))) (.lit (86399)))))
 (.ret (.bool (.tt false)))
 (.br (.b2 .lt (.ofI (.vop (.sel 3 0) (.cons (.opq 0) (.cons (.int .i64 (.var 1)) .nil)))) (.lit (-1099511627776)))
 (.ret (.bool (.tt false)))
 (.br (.b2 .lt (.lit (1099511627776)) (.ofI (.vop (.sel 3 0) (.cons (.opq 0) (.cons (.int .i64 (.var 1)) .nil)))))
 (.ret (.bool (.tt false)))
 (.br (.b2 .lt (.lit (0)) (.var 1))
 (.need (.b2 .and (.b2 .le (.lit (0)) (.wrap .i64 (.i2 .sub (.var 1) (.lit (1))))) (.b2 .lt (.wrap .i64 (.i2 .sub (.var 1) (.lit (1)))) xrbzbndk4_))
 (.br (.b2 .le (.ofI (.vop (.sel 3 0) (.cons (.opq 0) (.cons (.int .i64 (.var 1)) .nil)))) (.ofI (.vop (.sel 3 0) (.cons (.opq 0) (.cons (.int .i64 (.wrap .i64 (.i2 .sub (.var 1) (.lit (1))))) .nil)))))
 (.ret (.bool (.tt false)))
 (.back (.b2 .and (.b2 .le (.lit (0)) xrbzbndk6_) (.b2 .and (.b2 .le xrbzbndk6_ xrbzbndk4_) (.bapp 4 (.cons (.opq 0) (.cons (.int .i64 xrbzbndk6_) .nil))))) (.i2 .sub xrbzbndk4_ xrbzbndk6_) (.i2 .sub xrbzbndk4_ (.var 1)))))
 (.back (.b2 .and (.b2 .le (.lit (0)) xrbzbndk6_) (.b2 .and (.b2 .le xrbzbndk6_ xrbzbndk4_) (.bapp 4 (.cons (.opq 0) (.cons (.int .i64 xrbzbndk6_) .nil))))) (.i2 .sub xrbzbndk4_ xrbzbndk6_) (.i2 .sub xrbzbndk4_ (.var 1))))))))))
 (.need (.b2 .le (.blen (.str 0)) (.lit (200)))
 (.br (.bapp 8 (.cons (.str 0) .nil))
 (.br xrbzbndk8_
 (.ret (.bool (.b2 .le xrbzbndk4_ (.lit (32)))))
 (.ret (.bool (.tt false))))
 (.ret (.bool (.tt false)))))))
abbrev bzc_rmay : Con := ⟨117, [(.agg (.cons (.str 0) (.cons (.int .i64 (.var 0)) (.cons (.hs .no (.cons (.int .i64) (.cons (.int .i64) (.cons .str .nil))) (.opq 0)) .nil))))], (.b2 .and (.b2 .le (.blen (.str 0)) (.lit (200))) (.bapp 6 (.cons (.opq 0) .nil))), (.bool (.bapp 5 (.cons (.str 0) (.cons (.int .i64 (.var 0)) (.cons (.opq 0) .nil))))), ⟨1, 0, 1, 1⟩, none⟩
theorem rmay_w : walk Tryz.prog 111 ⟨[bzc_rname, bzc_zroff], syG, [], [], []⟩ [⟨0, ⟨1, 0, 0, 0⟩, [(3, (.int .i64 (.var 1)))], none, (.b2 .and (.b2 .le (.lit (0)) (.var 1)) (.b2 .and (.b2 .le (.var 1) xrbzbndk4_) (.bapp 4 (.cons (.opq 0) (.cons (.int .i64 (.var 1)) .nil))))), (.i2 .sub xrbzbndk4_ (.var 1)), 0, []⟩] .v bzc_rmay bzc_rmay.n 3000 = some rmay_tree := by kernel_rfl
theorem rmay_h (fst : Int) (l : Value) (nm : ByteArray) : Hyp_ bzc_rmay rmay_tree (bzE [fst] [] [l] [nm]) := by
 intro hc hty
 simp only [bzc_rmay, Sy.holds, bzE, denV, denI, denB, denL, I2.den, VOp.den, List.getD_cons_zero, List.getD_cons_succ, Cst.den, syso, syse, syio, sybo, bzb_shr, B2.ofInts, B2.denI, B2.denB, if_true, Bool.false_eq_true, if_false, Nat.div_one, Nat.mul_one, Nat.add_zero] at hc
 simp only [bzc_rmay, patsTyp, patTyp, patTypL, bzE, denV, denL, List.getD_cons_zero, List.getD_cons_succ, and_true, true_and] at hty
 have hL_l : typ (.sl (.cons (.int .i64) (.cons (.int .i64) (.cons .str .nil)))) l := by first | exact hty | exact hty.1 | exact hty.2 | exact hty.1.1 | exact hty.1.2 | exact hty.2.1 | exact hty.2.2 | exact hty.2.2.1 | exact hty.2.2.2
 have hN_l := typ_len (n := 3) hL_l rfl (by omega)
 unfold rmay_tree
 simp only [bzc_rmay, Tree.holds, Sy.holds, AllN, Env.more, bzE, List.cons_append, List.nil_append, List.append_nil, denV, denI, denB, denL, I2.den, VOp.den, List.getD_cons_zero, List.getD_cons_succ, Cst.den, syso, syse, syio, sybo, bzb_rok, bzb_zon, bzb_nm, List.map_nil, List.map_cons, B2.ofInts, B2.denI, B2.denB, if_true, Bool.false_eq_true, if_false, Nat.div_one, Nat.mul_one, Nat.add_zero]
 refine ⟨?_, ?_⟩
 ·
  exact ⟨by omega, by omega, rfl⟩
 intro i0a hi0
 refine ⟨fun h0 => ?_, fun h0 => ?_⟩
 refine ⟨?_, fun h1 => ?_⟩
 refine ?a0; rotate_left
 refine ⟨?_, fun h2 => ?_⟩
 refine ?a1; rotate_left
 refine ⟨fun h3 => ?_, fun h3 => ?_⟩
 refine ?a2; rotate_left
 refine ⟨fun h4 => ?_, fun h4 => ?_⟩
 refine ?a3; rotate_left
 refine ⟨fun h5 => ?_, fun h5 => ?_⟩
 refine ?a4; rotate_left
 refine ⟨fun h6 => ?_, fun h6 => ?_⟩
 refine ?a5; rotate_left
 refine ⟨fun h7 => ?_, fun h7 => ?_⟩
 have wf0 := wr_i64 (i0a - 1)
 refine ⟨?_, fun h8 => ?_⟩
 refine ?a6; rotate_left
 refine ⟨fun h9 => ?_, fun h9 => ?_⟩
 refine ?a7; rotate_left
 have wf1 := wr_i64 (i0a + 1)
 refine ⟨?_, ?_⟩
 refine ?a8; rotate_left
 ·
  omega
 have wf2 := wr_i64 (i0a + 1)
 refine ⟨?_, ?_⟩
 refine ?a9; rotate_left
 ·
  omega
 refine ⟨?_, fun h10 => ?_⟩
 refine ?a10; rotate_left
 refine ⟨fun h11 => ?_, fun h11 => ?_⟩
 refine ⟨fun h12 => ?_, fun h12 => ?_⟩
 refine ?a11; rotate_left
 refine ?a12; rotate_left
 refine ?a13; rotate_left
 case a0 | a1 | a6 | a10 =>
  first
  | omega
  | (have := short_get hc.2 (k := i0a.toNat) (by omega)
     omega)
 case a2 | a3 | a4 | a5 | a7 | a11 | a12 | a13 =>
  obtain ⟨hi1, hi2, hi3⟩ := hi0
  have e1 : 0 < i0a → IntKind.wrap .i64 (i0a - 1) = i0a - 1 := fun h => by
    have := wr_i64 (i0a - 1)
    omega
  have hlz : i0a.toNat = 0 → leastR (rows l) i0a.toNat = -1099511627776 := fun h => by rw [h]; rfl
  have hlp : 0 < i0a → leastR (rows l) i0a.toNat = intOf ((rows l).getD ((IntKind.wrap .i64 (i0a - 1)).toNat * 3) Go.undef) + 1 := fun h => by
    rw [e1 h, show (i0a - 1).toNat = i0a.toNat - 1 by omega]
    exact least_pos (by omega)
  have hlg := least_ge hi3
  first
  | (have hm : ¬ zoneB nm fst (rows l) = true := fun hz => by
       rw [zone_iff] at hz
       have hr := (rul_iff _ _).1 (zkR_get hz.2.2.2 (k := i0a.toNat) (by omega))
       first
       | exact h3 hr.2.2.2.2
       | omega
     exact congrArg Value.bool (Bool.eq_false_iff.2 hm).symm)
  | (have hok : zkR (rows l) ((rows l).length / 3) = true := by
       rw [show (rows l).length / 3 = i0a.toNat by omega]
       exact hi3
     refine congrArg Value.bool (Bool.eq_iff_iff.2 ?_)
     rw [zone_iff]
     simp only [hok, and_true, decide_eq_true_eq, Bool.false_eq_true, false_iff]
     by_cases hnm : nameB nm = true <;> simp only [hnm, Bool.false_eq_true, true_and, false_and, not_true, not_false_eq_true] at * <;> first | done | omega)
 case a8 | a9 =>
  obtain ⟨hi1, hi2, hi3⟩ := hi0
  have e1 : 0 < i0a → IntKind.wrap .i64 (i0a - 1) = i0a - 1 := fun h => by
    have := wr_i64 (i0a - 1)
    omega
  have hlz : i0a.toNat = 0 → leastR (rows l) i0a.toNat = -1099511627776 := fun h => by rw [h]; rfl
  have hlp : 0 < i0a → leastR (rows l) i0a.toNat = intOf ((rows l).getD ((IntKind.wrap .i64 (i0a - 1)).toNat * 3) Go.undef) + 1 := fun h => by
    rw [e1 h, show (i0a - 1).toNat = i0a.toNat - 1 by omega]
    exact least_pos (by omega)
  have e : IntKind.wrap .i64 (i0a + 1) = i0a + 1 := by omega
  rw [e, show (i0a + 1).toNat = i0a.toNat + 1 by omega]
  refine ⟨by omega, by omega, ?_⟩
  simp only [zkR, hi3, Bool.true_and]
  exact (rul_iff _ _).2 ⟨by omega, by omega, by omega, by omega, Decidable.of_not_not h3⟩
theorem bzg_rmay : bzc_rmay.Good Tryz.prog syG (bzE [] [] [] []) := good_of_walk (Γ := ⟨[bzc_rname, bzc_zroff], syG, [], [], []⟩) (ρ := bzE [] [] [] []) sym rmay_w rfl (fun _ _ _ _ => (ok_cons (Con.Good.env bzg_rname _ _ _ _) (ok_cons (Con.Good.env bzg_zroff _ _ _ _) ok_nil))) rmay_h
end Go.Proofs.YtgondiedehjkhaaGreatDoor
