/-
 Symbolic walks by reflection, with slices as what they hold: terms, what they stand for, what an operation does with them.
-/
import Derived.Below
import Derived.OrdersHeld
import Derived.WalkSmall
import Derived.KernelRfl
import Derived.Laws.IdiomCopy
import Derived.Laws.AppendOwn
import Derived.Laws.OwnMore
import Derived.Laws.MakeOwn
import Derived.Maps.AppendAt
import Derived.Laws.AppendOwnNone
import Derived.Lib.ConvBytes
import Derived.Laws.FloatArith
import Derived.Laws.ComplexArith
import Derived.Laws.Cover3
namespace Go.Proofs.YtikfgnmljpjnbaaDoor.Sy
open Go Go.RowKit
set_option linter.unusedVariables false
set_option linter.unusedSimpArgs false
set_option linter.unnecessarySimpa false
/-! Part 1: terms, what they stand for. -/

inductive I2 where | add | sub | mul | quo | rem | max | min | bits (o : BinOp) (k : IntKind) | shl (k : IntKind) | shr (k : IntKind)
 deriving DecidableEq
inductive B2 where | lt | le | eq | and | or | beq
 deriving DecidableEq
inductive Cst where | nilI | nilP | nilS | nilF | undef | fn (f : Nat) | strc (l : List Nat) | flt (k : FloatKind) (b : Nat) | cpx (k : FloatKind) (a b : Nat)
 deriving DecidableEq
inductive SK where | int (k : IntKind) | bool | str | sl (r : SK) | nil | cons (a r : SK)
 deriving DecidableEq
def SK.wd : SK → Nat
 | .cons _ r => r.wd + 1
 | _ => 0
def SK.get : SK → Nat → Option SK
 | .cons a _, 0 => some a
 | .cons _ r, n + 1 => r.get n
 | _, _ => none
inductive VOp where | len (wd : Nat) | sel (wd j : Nat) | ssel (wd j : Nat) | cat | sub (wd : Nat) | rep | s2b | b2s | scat | ssub | schr | cre | cim | f2i | isC | isF | i2f | cpx | fdiv | cmul | feq | okD | okM | okL
 deriving DecidableEq
inductive Lab where | no | new (e : Nat) | id (n e : Nat)
 deriving DecidableEq
inductive Tm where
 | lit (n : Int) | var (i : Nat) | blen (a : Tm) | ofI (v : Tm) | i2 (o : I2) (a b : Tm) | wrap (k : IntKind) (a : Tm) | iapp (f : Nat) (l : Tm)
 | tt (b : Bool) | bvar (i : Nat) | ofB (v : Tm) | veq (a b : Tm) | b2 (o : B2) (a b : Tm) | not (a : Tm) | bapp (f : Nat) (l : Tm)
 | int (k : IntKind) (a : Tm) | bool (a : Tm) | opq (i : Nat) | str (i : Nat) | vop (o : VOp) (l : Tm) | hs (lab : Lab) (K : SK) (t : Tm) | ep (K : SK) (t i : Tm) (j : Nat) | ptr (id off : Nat) | asl (id off n cap : Nat) | agg (l : Tm) | tup (l : Tm) | err (a : Tm) | iface (t : Nat) (v : Tm) | cst (c : Cst) | vapp (f : Nat) (l : Tm) | sapp (f : Nat) (l : Tm) | clo (f : Nat) (l : Tm) | junk
 | nil | cons (a b : Tm)
 deriving DecidableEq

structure Env where
 iv : List Int
 bv : List Bool
 vv : List Value
 sv : List ByteArray
 fi : Nat → List Value → Int
 fb : Nat → List Value → Bool
 fv : Nat → List Value → Value
 et : TypeId

def errVal (t : TypeId) (n : Int) : Value := if n = 0 then .nilIface else .iface t (.int .i64 n)

def bitsV (o : BinOp) (k : IntKind) (x y : Int) : Int :=
 k.wrap (match o with
   | .and => ((BitVec.ofInt k.bits x) &&& (BitVec.ofInt k.bits y)).toNat
   | .or => ((BitVec.ofInt k.bits x) ||| (BitVec.ofInt k.bits y)).toNat
   | .xor => ((BitVec.ofInt k.bits x) ^^^ (BitVec.ofInt k.bits y)).toNat
   | _ => ((BitVec.ofInt k.bits x) &&& ~~~(BitVec.ofInt k.bits y)).toNat : Nat)
def I2.den : I2 → Int → Int → Int
 | .add, x, y => x + y
 | .sub, x, y => x - y
 | .mul, x, y => x * y
 | .quo, x, y => x.tdiv y
 | .rem, x, y => x.tmod y
 | .max, x, y => if y > x then y else x
 | .min, x, y => if y < x then y else x
 | .bits o k, x, y => bitsV o k x y
 | .shl k, x, y => k.wrap (x * 2 ^ (Min.min y.toNat k.bits))
 | .shr k, x, y => x.fdiv (2 ^ (Min.min y.toNat k.bits))
def B2.denI : B2 → Int → Int → Bool
 | .lt, x, y => decide (x < y)
 | .le, x, y => decide (x ≤ y)
 | .eq, x, y => x == y
 | _, _, _ => false
def B2.denB : B2 → Bool → Bool → Bool
 | .and, x, y => x && y
 | .or, x, y => x || y
 | .beq, x, y => x == y
 | _, _, _ => false
def B2.ofInts : B2 → Bool
 | .lt | .le | .eq => true
 | _ => false
def Cst.den : Cst → Value
 | .nilI => .nilIface
 | .nilP => .pointer none
 | .nilS => .slice none 0 0
 | .nilF => .nilFunc
 | .undef => Go.undef
 | .fn f => .func (.func f) #[] #[]
 | .strc l => .string ⟨(l.map UInt8.ofNat).toArray⟩
 | .flt k b => .float k b
 | .cpx k a b => .complex k a b

def strOf : Value → ByteArray
 | .string s => s
 | _ => ByteArray.empty
def boolOf : Value → Bool
 | .bool b => b
 | _ => false
def rows : Value → List Value
 | .tuple a => a.toList
 | _ => []
def byteOf (v : Value) : UInt8 := UInt8.ofNat (intOf v).toNat
def byteV (x : UInt8) : Value := .int .u8 (x.toNat : Int)
def VOp.isStr : VOp → Bool
 | .ssel .. | .b2s | .scat | .ssub => true
 | _ => false
def creV : Value → Value
 | .complex k a _ => .float k a
 | _ => Go.undef
def cimV : Value → Value
 | .complex k _ b => .float k b
 | _ => Go.undef
def f2iV : Value → Value
 | .float k b => .int .i64 ((floatToIntVal k b .i64).getD 0)
 | _ => .int .i64 0
def isCV : Value → Bool
 | .complex .. => true
 | _ => false
def isFV : Value → Bool
 | .float k b => (floatToIntVal k b .i64).isSome
 | _ => false
def fdivV : Value → Value → Option Value
 | .float .f64 a, .float .f64 b => (floatBits .quo .f64 a b).map (.float .f64)
 | _, _ => none
def cmulV : Value → Value → Option Value
 | .complex .f64 a b, .complex .f64 c d => (cMulBits a b c d).map fun p => .complex .f64 p.1 p.2
 | _, _ => none
def feqV : Value → Value → Option Bool
 | .float .f64 a, .float .f64 b => some (FloatKind.f64.format.order a b == some .eq)
 | _, _ => none
def cpxV : Value → Value → Value
 | .float .f64 a, .float .f64 b => .complex .f64 a b
 | _, _ => Go.undef
def VOp.den : VOp → List Value → Value
 | .i2f, [n] => .float .f64 (FloatKind.f64.nearest (intOf n))
 | .cpx, [x, y] => cpxV x y
 | .fdiv, [x, y] => (fdivV x y).getD Go.undef
 | .cmul, [x, y] => (cmulV x y).getD Go.undef
 | .feq, [x, y] => .bool ((feqV x y).getD false)
 | .okD, [x, y] => .bool (fdivV x y).isSome
 | .okM, [x, y] => .bool (cmulV x y).isSome
 | .okL, [x, y] => .bool (feqV x y).isSome
 | .cre, [v] => creV v
 | .cim, [v] => cimV v
 | .f2i, [v] => f2iV v
 | .isC, [v] => .bool (isCV v)
 | .isF, [v] => .bool (isFV v)
 | .len wd, [c] => .int .i64 ((rows c).length / wd : Nat)
 | .sel wd j, [c, i] => (rows c).getD ((intOf i).toNat * wd + j) Go.undef
 | .ssel wd j, [c, i] => .string (strOf ((rows c).getD ((intOf i).toNat * wd + j) Go.undef))
 | .cat, [a, b] => .tuple (rows a ++ rows b).toArray
 | .sub wd, [c, i, j] => .tuple (((rows c).take ((intOf j).toNat * wd)).drop ((intOf i).toNat * wd)).toArray
 | .rep, [r, n] => .tuple (List.replicate (intOf n).toNat (rows r)).flatten.toArray
 | .s2b, [s] => .tuple ((strOf s).data.toList.map byteV).toArray
 | .b2s, [c] => .string ⟨((rows c).map byteOf).toArray⟩
 | .scat, [a, b] => .string (strOf a ++ strOf b)
 | .ssub, [s, i, j] => .string ((strOf s).extract (intOf i).toNat (intOf j).toNat)
 | .schr, [s, i] => .int .u8 ((strOf s).data.toList.getD (intOf i).toNat 0).toNat
 | o, _ => if o.isStr then .string ByteArray.empty else Go.undef
theorem VOp.str_den {o : VOp} (h : o.isStr = true) (l : List Value) : ∃ s, o.den l = .string s := by
 unfold VOp.den
 split <;> first | (cases h; done) | exact ⟨_, rfl⟩ | (rw [if_pos h]; exact ⟨_, rfl⟩)
def strEq : Value → Value → Bool
 | .string a, .string b => a == b
 | _, _ => false

mutual
def denI (ρ : Env) (β : Nat → Nat) : Tm → Int
 | .lit n => n
 | .var i => ρ.iv.getD i 0
 | .i2 o a b => o.den (denI ρ β a) (denI ρ β b)
 | .wrap k a => k.wrap (denI ρ β a)
 | .iapp f l => ρ.fi f (denL ρ β l)
 | .blen a => (strOf (denV ρ β a)).size
 | .ofI v => intOf (denV ρ β v)
 | _ => 0
termination_by structural x => x
def denB (ρ : Env) (β : Nat → Nat) : Tm → Bool
 | .tt b => b
 | .bvar i => ρ.bv.getD i false
 | .b2 o a b => if o.ofInts then o.denI (denI ρ β a) (denI ρ β b) else o.denB (denB ρ β a) (denB ρ β b)
 | .not a => !denB ρ β a
 | .bapp f l => ρ.fb f (denL ρ β l)
 | .veq a b => strEq (denV ρ β a) (denV ρ β b)
 | .ofB v => boolOf (denV ρ β v)
 | _ => false
termination_by structural x => x
def denV (ρ : Env) (β : Nat → Nat) : Tm → Value
 | .int k a => .int k (denI ρ β a)
 | .bool a => .bool (denB ρ β a)
 | .opq i => ρ.vv.getD i Go.undef
 | .str i => .string (ρ.sv.getD i ByteArray.empty)
 | .vop o l => o.den (denL ρ β l)
 | .hs _ _ t => denV ρ β t
 | .ptr id off => .pointer (some ⟨β id, off, none⟩)
 | .asl id off n cap => .slice (some ⟨β id, off, none⟩) n cap
 | .agg l => .agg (denL ρ β l).toArray
 | .tup l => .tuple (denL ρ β l).toArray
 | .err a => errVal ρ.et (denI ρ β a)
 | .iface t v => .iface t (denV ρ β v)
 | .cst c => c.den
 | .vapp f l => ρ.fv f (denL ρ β l)
 | .sapp f l => .string (strOf (ρ.fv f (denL ρ β l)))
 | .clo f l => .func (.func f) #[] (denL ρ β l).toArray
 | _ => Go.undef
termination_by structural x => x
def denL (ρ : Env) (β : Nat → Nat) : Tm → List Value
 | .cons a b => denV ρ β a :: denL ρ β b
 | _ => []
termination_by structural x => x
end
/-! Part 2: terms made, and what they stand for. -/

def idsIn (p : Nat → Bool) : Tm → Bool
 | .ptr id _ => p id
 | .asl id _ _ _ => p id
 | .hs (.id n _) _ a => p n && idsIn p a
 | .hs _ _ a => idsIn p a
 | .ep _ a b _ => idsIn p a && idsIn p b
 | .i2 _ a b => idsIn p a && idsIn p b
 | .b2 _ a b => idsIn p a && idsIn p b
 | .veq a b => idsIn p a && idsIn p b
 | .cons a b => idsIn p a && idsIn p b
 | .wrap _ a => idsIn p a
 | .blen a => idsIn p a
 | .ofI a => idsIn p a
 | .ofB a => idsIn p a
 | .vop _ a => idsIn p a
 | .iapp _ a => idsIn p a
 | .not a => idsIn p a
 | .bapp _ a => idsIn p a
 | .int _ a => idsIn p a
 | .bool a => idsIn p a
 | .agg a => idsIn p a
 | .tup a => idsIn p a
 | .err a => idsIn p a
 | .iface _ a => idsIn p a
 | .vapp _ a => idsIn p a
 | .sapp _ a => idsIn p a
 | .clo _ a => idsIn p a
 | _ => true
theorem idsIn_hs {p : Nat → Bool} {lab : Lab} {K : SK} {a : Tm} (h : idsIn p (.hs lab K a) = true) : idsIn p a = true := by
 cases lab <;> simp [idsIn] at h <;> first | exact h | exact h.2
theorem den_congr {ρ : Env} {β β' : Nat → Nat} {p : Nat → Bool} (h : ∀ i, p i = true → β i = β' i) : ∀ t, idsIn p t = true → denI ρ β t = denI ρ β' t ∧ denB ρ β t = denB ρ β' t ∧ denV ρ β t = denV ρ β' t ∧ denL ρ β t = denL ρ β' t := by
 intro t
 induction t with
 | ptr id off => intro hp; simp only [idsIn] at hp; simp [denI, denB, denV, denL, h id hp]
 | asl id off n cap => intro hp; simp only [idsIn] at hp; simp [denI, denB, denV, denL, h id hp]
 | hs lab K a ih => intro hp; obtain ⟨a1, a2, a3, a4⟩ := ih (idsIn_hs hp); simp [denI, denB, denV, denL, a3]
 | i2 o a b iha ihb => intro hp; simp only [idsIn, Bool.and_eq_true] at hp; obtain ⟨a1, a2, a3, a4⟩ := iha hp.1; obtain ⟨b1, b2, b3, b4⟩ := ihb hp.2; simp [denI, denB, denV, denL, a1, b1]
 | b2 o a b iha ihb => intro hp; simp only [idsIn, Bool.and_eq_true] at hp; obtain ⟨a1, a2, a3, a4⟩ := iha hp.1; obtain ⟨b1, b2, b3, b4⟩ := ihb hp.2; simp [denI, denB, denV, denL, a1, b1, a2, b2]
 | veq a b iha ihb => intro hp; simp only [idsIn, Bool.and_eq_true] at hp; obtain ⟨a1, a2, a3, a4⟩ := iha hp.1; obtain ⟨b1, b2, b3, b4⟩ := ihb hp.2; simp [denI, denB, denV, denL, a3, b3]
 | cons a b iha ihb => intro hp; simp only [idsIn, Bool.and_eq_true] at hp; obtain ⟨a1, a2, a3, a4⟩ := iha hp.1; obtain ⟨b1, b2, b3, b4⟩ := ihb hp.2; simp [denI, denB, denV, denL, a3, b4]
 | wrap k a ih => intro hp; simp only [idsIn] at hp; obtain ⟨a1, a2, a3, a4⟩ := ih hp; simp [denI, denB, denV, denL, a1]
 | blen a ih => intro hp; simp only [idsIn] at hp; obtain ⟨a1, a2, a3, a4⟩ := ih hp; simp [denI, denB, denV, denL, a3]
 | ofI a ih => intro hp; simp only [idsIn] at hp; obtain ⟨a1, a2, a3, a4⟩ := ih hp; simp [denI, denB, denV, denL, a3]
 | ofB a ih => intro hp; simp only [idsIn] at hp; obtain ⟨a1, a2, a3, a4⟩ := ih hp; simp [denI, denB, denV, denL, a3]
 | vop o a ih => intro hp; simp only [idsIn] at hp; obtain ⟨a1, a2, a3, a4⟩ := ih hp; simp [denI, denB, denV, denL, a4]
 | iapp f a ih => intro hp; simp only [idsIn] at hp; obtain ⟨a1, a2, a3, a4⟩ := ih hp; simp [denI, denB, denV, denL, a4]
 | not a ih => intro hp; simp only [idsIn] at hp; obtain ⟨a1, a2, a3, a4⟩ := ih hp; simp [denI, denB, denV, denL, a2]
 | bapp f a ih => intro hp; simp only [idsIn] at hp; obtain ⟨a1, a2, a3, a4⟩ := ih hp; simp [denI, denB, denV, denL, a4]
 | int k a ih => intro hp; simp only [idsIn] at hp; obtain ⟨a1, a2, a3, a4⟩ := ih hp; simp [denI, denB, denV, denL, a1]
 | bool a ih => intro hp; simp only [idsIn] at hp; obtain ⟨a1, a2, a3, a4⟩ := ih hp; simp [denI, denB, denV, denL, a2]
 | agg a ih => intro hp; simp only [idsIn] at hp; obtain ⟨a1, a2, a3, a4⟩ := ih hp; simp [denI, denB, denV, denL, a4]
 | tup a ih => intro hp; simp only [idsIn] at hp; obtain ⟨a1, a2, a3, a4⟩ := ih hp; simp [denI, denB, denV, denL, a4]
 | err a ih => intro hp; simp only [idsIn] at hp; obtain ⟨a1, a2, a3, a4⟩ := ih hp; simp [denI, denB, denV, denL, a1]
 | iface t a ih => intro hp; simp only [idsIn] at hp; obtain ⟨a1, a2, a3, a4⟩ := ih hp; simp [denI, denB, denV, denL, a3]
 | vapp f a ih => intro hp; simp only [idsIn] at hp; obtain ⟨a1, a2, a3, a4⟩ := ih hp; simp [denI, denB, denV, denL, a4]
 | sapp f a ih => intro hp; simp only [idsIn] at hp; obtain ⟨a1, a2, a3, a4⟩ := ih hp; simp [denI, denB, denV, denL, a4]
 | clo f a ih => intro hp; simp only [idsIn] at hp; obtain ⟨a1, a2, a3, a4⟩ := ih hp; simp [denI, denB, denV, denL, a4]
 | _ => intro _; simp [denI, denB, denV, denL]
def mkI2 : I2 → Tm → Tm → Tm
 | o, .lit x, .lit y => .lit (o.den x y)
 | o, a, b => .i2 o a b
theorem den_mkI2 (ρ : Env) (β : Nat → Nat) (o : I2) (a b : Tm) : denI ρ β (mkI2 o a b) = o.den (denI ρ β a) (denI ρ β b) := by
 unfold mkI2; split <;> simp [denI]
def mkWrap : IntKind → Tm → Tm
 | k, .lit x => .lit (k.wrap x)
 | k, a => .wrap k a
theorem den_mkWrap (ρ : Env) (β : Nat → Nat) (k : IntKind) (a : Tm) : denI ρ β (mkWrap k a) = k.wrap (denI ρ β a) := by
 unfold mkWrap; split <;> simp [denI]
def mkNot : Tm → Tm
 | .tt b => .tt !b
 | .not a => a
 | a => .not a
theorem den_mkNot (ρ : Env) (β : Nat → Nat) (a : Tm) : denB ρ β (mkNot a) = !denB ρ β a := by
 unfold mkNot; split <;> simp [denB]
def mkCmp (o : B2) (a b : Tm) : Tm :=
 match a, b with
 | .lit x, .lit y => .tt (o.denI x y)
 | a, b => if a = b then .tt (match o with | .lt => false | _ => true) else .b2 o a b
theorem den_mkCmp (ρ : Env) (β : Nat → Nat) (o : B2) (a b : Tm) (ho : o.ofInts = true) : denB ρ β (mkCmp o a b) = o.denI (denI ρ β a) (denI ρ β b) := by
 unfold mkCmp
 split
 · simp [denB, denI]
 · split
   · rename_i h; subst h
     cases o <;> simp [denB, B2.denI, B2.ofInts] at ho ⊢
   · simp [denB, ho]
def mkAnd : Tm → Tm → Tm
 | .tt true, b => b
 | .tt false, b => .tt false
 | a, .tt true => a
 | a, .tt false => .tt false
 | a, b => .b2 .and a b
theorem den_mkAnd (ρ : Env) (β : Nat → Nat) (a b : Tm) : denB ρ β (mkAnd a b) = (denB ρ β a && denB ρ β b) := by
 unfold mkAnd; split <;> simp [denB, B2.ofInts, B2.denB]
def mkBeq : Tm → Tm → Tm
 | .tt x, .tt y => .tt (x == y)
 | a, .tt true => a
 | .tt true, b => b
 | a, .tt false => mkNot a
 | .tt false, b => mkNot b
 | a, b => if a = b then .tt true else .b2 .beq a b
theorem den_mkBeq (ρ : Env) (β : Nat → Nat) (a b : Tm) : denB ρ β (mkBeq a b) = (denB ρ β a == denB ρ β b) := by
 unfold mkBeq
 split
 · simp [denB]
 · simp [denB]
 · simp [denB]
 · simp [denB, den_mkNot]
 · simp [denB, den_mkNot]
 · split
   · rename_i h; subst h; simp [denB]
   · simp [denB, B2.ofInts, B2.denB]

def ofVal0 : Value → Option Tm
 | .bool b => some (.bool (.tt b))
 | .int k n => some (.int k (.lit n))
 | .float k b => some (.cst (.flt k b))
 | .complex k a b => some (.cst (.cpx k a b))
 | .string s => some (.cst (.strc (s.data.toList.map UInt8.toNat)))
 | .pointer none => some (.cst .nilP)
 | .slice none 0 0 => some (.cst .nilS)
 | .func (.func f) a b => if a.size = 0 ∧ b.size = 0 then some (.cst (.fn f)) else none
 | .nilFunc => some (.cst .nilF)
 | .nilIface => some (.cst .nilI)
 | .tuple vs => if vs.size = 0 then some (.cst .undef) else none
 | _ => none
def ofVals : List Value → Option Tm
 | [] => some .nil
 | v :: r => match ofVal0 v, ofVals r with
   | some a, some b => some (.cons a b)
   | _, _ => none
def ofVal : Value → Option Tm
 | .agg cs => (ofVals cs.toList).map .agg
 | v => ofVal0 v
theorem ofVal0_den {ρ : Env} {β : Nat → Nat} {v : Value} {t : Tm} (h : ofVal0 v = some t) : denV ρ β t = v := by
 unfold ofVal0 at h
 split at h
 case h_5 s =>
   obtain rfl := Option.some.inj h
   have : (s.data.toList.map UInt8.toNat).map UInt8.ofNat = s.data.toList := by
     rw [List.map_map]
     conv => rhs; rw [← List.map_id s.data.toList]
     apply List.map_congr_left
     intro x _
     simp
   simp [denV, Cst.den, this]
 case h_8 f a b =>
   split at h
   · rename_i hab
     obtain rfl := Option.some.inj h
     obtain ⟨ha, hb⟩ := hab
     have ha' : a = #[] := Array.eq_empty_of_size_eq_zero ha
     have hb' : b = #[] := Array.eq_empty_of_size_eq_zero hb
     subst ha' hb'
     rfl
   · cases h
 case h_11 vs =>
   split at h
   · rename_i hv
     obtain rfl := Option.some.inj h
     have : vs = #[] := Array.eq_empty_of_size_eq_zero hv
     subst this
     rfl
   · cases h
 all_goals first | (obtain rfl := Option.some.inj h; simp [denV, denI, denB, Cst.den]; done) | cases h
theorem ofVals_den {ρ : Env} {β : Nat → Nat} : ∀ {l : List Value} {t : Tm}, ofVals l = some t → denL ρ β t = l
 | [], t, h => by obtain rfl := Option.some.inj h; rfl
 | v :: r, t, h => by
   unfold ofVals at h
   split at h
   · rename_i a b h1 h2
     obtain rfl := Option.some.inj h
     simp [denL, ofVal0_den h1, ofVals_den h2]
   · cases h
theorem ofVal_den {ρ : Env} {β : Nat → Nat} {v : Value} {t : Tm} (h : ofVal v = some t) : denV ρ β t = v := by
 unfold ofVal at h
 split at h
 · rename_i cs
   cases hc : ofVals cs.toList with
   | none => rw [hc] at h; cases h
   | some x => rw [hc] at h; obtain rfl := Option.some.inj h; simp [denV, ofVals_den hc]
 · exact ofVal0_den h

def toL : Tm → List Tm
 | .cons a b => a :: toL b
 | _ => []
def ofL : List Tm → Tm
 | [] => .nil
 | a :: r => .cons a (ofL r)
theorem denL_toL (ρ : Env) (β : Nat → Nat) : ∀ t, denL ρ β t = (toL t).map (denV ρ β) := by
 intro t
 induction t with
 | cons a b _ ih => simp [denL, toL, ih]
 | _ => simp [denL, toL]
theorem denL_ofL (ρ : Env) (β : Nat → Nat) (l : List Tm) : denL ρ β (ofL l) = l.map (denV ρ β) := by
 induction l with
 | nil => rfl
 | cons a r ih => simp [ofL, denL, ih]
/-! Part 3: what a term says of a value in a world. -/

structure Top where
 u : Value
 e : TypeId
 sz : Nat
structure Cx where
 ρ : Env
 β : Nat → Nat
 o : Nat → Option Top
 ok : Nat → Nat → Prop
 w : World
abbrev Cx.i (X : Cx) (t : Tm) : Int := denI X.ρ X.β t
abbrev Cx.b (X : Cx) (t : Tm) : Bool := denB X.ρ X.β t
abbrev Cx.v (X : Cx) (t : Tm) : Value := denV X.ρ X.β t
mutual
def deepC (ok : Nat → Nat → Prop) (w : World) : SK → Value → Value → Prop
 | .int k, v, c => v = c ∧ c = .int k (intOf c)
 | .bool, v, c => v = c ∧ c = .bool (boolOf c)
 | .str, v, c => v = c ∧ c = .string (strOf c)
 | .sl r, v, c => ∃ (p : Option Addr) (n cap : Nat), v = .slice p n cap ∧ c = .tuple (rows c).toArray ∧ (rows c).length = n * r.wd ∧ n ≤ cap ∧ n ≤ 140737488355328 ∧ (p = none → cap = 0) ∧ ∀ i, i < n → ∃ b off, p = some ⟨b, off, none⟩ ∧ b < w.heap.size ∧ deepR ok w r b (off + i * r.wd) (rows c) (i * r.wd)
 | _, _, _ => False
termination_by structural x => x
def deepR (ok : Nat → Nat → Prop) (w : World) : SK → Nat → Nat → List Value → Nat → Prop
 | .cons a r, b, off, l, j => (∃ u, ok b off ∧ w.cell? ⟨b, off, none⟩ = some u ∧ deepC ok w a u (l.getD j Go.undef)) ∧ deepR ok w r b (off + 1) l (j + 1)
 | _, _, _, _, _ => True
termination_by structural x => x
end
structure Kept (ok ok' : Nat → Nat → Prop) (w w' : World) : Prop where
 size : w.heap.size ≤ w'.heap.size
 cell : ∀ b off, b < w.heap.size → ok b off → ok' b off ∧ w'.cell? ⟨b, off, none⟩ = w.cell? ⟨b, off, none⟩
theorem Kept.refl (ok : Nat → Nat → Prop) (w : World) : Kept ok ok w w := ⟨Nat.le_refl _, fun _ _ _ h => ⟨h, rfl⟩⟩
theorem Kept.trans {a b c : Nat → Nat → Prop} {u v w : World} (h : Kept a b u v) (k : Kept b c v w) : Kept a c u w :=
 ⟨Nat.le_trans h.size k.size, fun p off hp ho => by
   obtain ⟨h1, h2⟩ := h.cell p off hp ho
   obtain ⟨k1, k2⟩ := k.cell p off (Nat.lt_of_lt_of_le hp h.size) h1
   exact ⟨k1, k2.trans h2⟩⟩
theorem deep_mono {ok ok' : Nat → Nat → Prop} {w w' : World} (h : Kept ok ok' w w') : ∀ K : SK, (∀ v c, deepC ok w K v c → deepC ok' w' K v c) ∧ (∀ b off l j, b < w.heap.size → deepR ok w K b off l j → deepR ok' w' K b off l j) := by
 intro K
 induction K with
 | sl r ih =>
   refine ⟨fun v c hd => ?_, fun _ _ _ _ _ _ => trivial⟩
   obtain ⟨p, n, cap, h1, h2, h3, h4, h4', h5, h6⟩ := hd
   refine ⟨p, n, cap, h1, h2, h3, h4, h4', h5, fun i hi => ?_⟩
   obtain ⟨b, off, g1, g2, g3⟩ := h6 i hi
   exact ⟨b, off, g1, Nat.lt_of_lt_of_le g2 h.size, ih.2 _ _ _ _ g2 g3⟩
 | cons a r iha ihr =>
   refine ⟨fun _ _ hd => hd, fun b off l j hb hd => ?_⟩
   obtain ⟨⟨u, h1, h2, h3⟩, h4⟩ := hd
   obtain ⟨k1, k2⟩ := h.cell b off hb h1
   exact ⟨⟨u, k1, k2.trans h2, iha.1 _ _ h3⟩, ihr.2 _ _ _ _ hb h4⟩
 | _ => exact ⟨fun _ _ hd => hd, fun _ _ _ _ _ _ => trivial⟩
mutual
def Rel (X : Cx) : Tm → Value → Prop
 | .junk, _ => True
 | .agg l, v => ∃ vs, v = .agg vs.toArray ∧ RelL X l vs
 | .tup l, v => ∃ vs, v = .tuple vs.toArray ∧ RelL X l vs
 | .clo f l, v => ∃ vs, v = .func (.func f) #[] vs.toArray ∧ RelL X l vs
 | .hs lab K t, v => deepC X.ok X.w (.sl K) v (denV X.ρ X.β t) ∧ (∀ n e, lab = .id n e → ∀ T, X.o n = some T → T = ⟨v, e, K.wd⟩)
 | .ep K t i j, v => ∃ b off n cap, deepC X.ok X.w (.sl K) (.slice (some ⟨b, off, none⟩) n cap) (denV X.ρ X.β t) ∧ 0 ≤ denI X.ρ X.β i ∧ denI X.ρ X.β i < n ∧ v = .pointer (some ⟨b, off + (denI X.ρ X.β i).toNat * K.wd + j, none⟩)
 | .lit n, v => v = denV X.ρ X.β (.lit n)
 | .var i, v => v = denV X.ρ X.β (.var i)
 | .blen a, v => v = denV X.ρ X.β (.blen a)
 | .ofI a, v => v = denV X.ρ X.β (.ofI a)
 | .i2 o a b, v => v = denV X.ρ X.β (.i2 o a b)
 | .wrap k a, v => v = denV X.ρ X.β (.wrap k a)
 | .iapp f l, v => v = denV X.ρ X.β (.iapp f l)
 | .tt b, v => v = denV X.ρ X.β (.tt b)
 | .bvar i, v => v = denV X.ρ X.β (.bvar i)
 | .ofB a, v => v = denV X.ρ X.β (.ofB a)
 | .veq a b, v => v = denV X.ρ X.β (.veq a b)
 | .b2 o a b, v => v = denV X.ρ X.β (.b2 o a b)
 | .not a, v => v = denV X.ρ X.β (.not a)
 | .bapp f l, v => v = denV X.ρ X.β (.bapp f l)
 | .int k a, v => v = denV X.ρ X.β (.int k a)
 | .bool a, v => v = denV X.ρ X.β (.bool a)
 | .opq i, v => v = denV X.ρ X.β (.opq i)
 | .str i, v => v = denV X.ρ X.β (.str i)
 | .vop o l, v => v = denV X.ρ X.β (.vop o l)
 | .ptr a b, v => v = denV X.ρ X.β (.ptr a b)
 | .asl a b c d, v => v = denV X.ρ X.β (.asl a b c d)
 | .err a, v => v = denV X.ρ X.β (.err a)
 | .iface t a, v => v = denV X.ρ X.β (.iface t a)
 | .cst c, v => v = denV X.ρ X.β (.cst c)
 | .vapp f l, v => v = denV X.ρ X.β (.vapp f l)
 | .sapp f l, v => v = denV X.ρ X.β (.sapp f l)
 | .nil, v => v = denV X.ρ X.β .nil
 | .cons a b, v => v = denV X.ρ X.β (.cons a b)
termination_by structural x => x
def RelL (X : Cx) : Tm → List Value → Prop
 | .cons a b, v :: r => Rel X a v ∧ RelL X b r
 | .cons _ _, [] => False
 | _, vs => vs = []
termination_by structural x => x
end
def RelT (X : Cx) : List Tm → List Value → Prop
 | [], [] => True
 | t :: ts, v :: vs => Rel X t v ∧ RelT X ts vs
 | _, _ => False
theorem relL_toL (X : Cx) : ∀ (l : Tm) (vs : List Value), RelL X l vs ↔ RelT X (toL l) vs := by
 intro l
 induction l with
 | cons a b _ ih => intro vs; cases vs with
   | nil => simp [RelL, toL, RelT]
   | cons v r => simp [RelL, toL, RelT, ih]
 | _ => intro vs; cases vs <;> simp [RelL, toL, RelT]
theorem toL_ofL (l : List Tm) : toL (ofL l) = l := by
 induction l with
 | nil => rfl
 | cons a r ih => simp [ofL, toL, ih]
theorem RelT.length {X : Cx} : ∀ {ts : List Tm} {vs : List Value}, RelT X ts vs → ts.length = vs.length
 | [], [], _ => rfl
 | [], _ :: _, h => h.elim
 | _ :: _, [], h => h.elim
 | _ :: _, _ :: _, h => by simp [RelT.length h.2]
theorem RelT.get {X : Cx} : ∀ {ts : List Tm} {vs : List Value}, RelT X ts vs → ∀ (i : Nat) t, ts[i]? = some t → ∃ v, vs[i]? = some v ∧ Rel X t v
 | [], [], _, i, t, hi => by simp at hi
 | [], _ :: _, h, _, _, _ => h.elim
 | _ :: _, [], h, _, _, _ => h.elim
 | a :: ts, v :: vs, h, i, t, hi => by
   cases i with
   | zero => simp at hi; subst hi; exact ⟨v, rfl, h.1⟩
   | succ i => obtain ⟨x, h1, h2⟩ := RelT.get h.2 i t (by simpa using hi); exact ⟨x, by simpa using h1, h2⟩
theorem RelT.of {X : Cx} : ∀ {ts : List Tm} {vs : List Value}, ts.length = vs.length → (∀ (i : Nat) t v, ts[i]? = some t → vs[i]? = some v → Rel X t v) → RelT X ts vs
 | [], [], _, _ => trivial
 | [], _ :: _, h, _ => by simp at h
 | _ :: _, [], h, _ => by simp at h
 | a :: ts, v :: vs, h, k => ⟨k 0 a v rfl rfl, RelT.of (by simpa using h) (fun i t x h1 h2 => k (i + 1) t x (by simpa using h1) (by simpa using h2))⟩
def flat : Tm → Bool
 | .junk => false
 | .hs .. => false
 | .ep .. => false
 | .clo .. => false
 | .agg l => flat l
 | .tup l => flat l
 | .cons a b => flat a && flat b
 | _ => true
theorem flat_rel (X : Cx) : ∀ t, flat t = true → (∀ v, Rel X t v ↔ v = denV X.ρ X.β t) ∧ (∀ vs, RelL X t vs ↔ vs = denL X.ρ X.β t) := by
 intro t
 induction t with
 | junk => intro h; cases h
 | hs _ _ _ _ => intro h; cases h
 | ep _ _ _ _ _ _ => intro h; cases h
 | clo _ _ _ => intro h; cases h
 | agg l ih =>
   intro h
   have h2 := (ih h).2
   refine ⟨fun v => ?_, fun vs => by simp [RelL, denL]⟩
   simp only [Rel, denV, h2]
   constructor
   · rintro ⟨vs, rfl, rfl⟩; rfl
   · intro e; exact ⟨_, e, rfl⟩
 | tup l ih =>
   intro h
   have h2 := (ih h).2
   refine ⟨fun v => ?_, fun vs => by simp [RelL, denL]⟩
   simp only [Rel, denV, h2]
   constructor
   · rintro ⟨vs, rfl, rfl⟩; rfl
   · intro e; exact ⟨_, e, rfl⟩
 | cons a b iha ihb =>
   intro h
   simp only [flat, Bool.and_eq_true] at h
   have h1 := (iha h.1).1
   have h2 := (ihb h.2).2
   refine ⟨fun v => by simp [Rel], fun vs => ?_⟩
   cases vs with
   | nil => simp [RelL, denL]
   | cons v r => simp [RelL, denL, h1, h2]
 | _ => intro h; exact ⟨fun v => by simp [Rel], fun vs => by simp [RelL, denL]⟩
theorem Rel.eq {X : Cx} {t : Tm} {v : Value} (h : Rel X t v) (hf : flat t = true) : v = denV X.ρ X.β t := ((flat_rel X t hf).1 v).1 h
theorem Rel.of {X : Cx} {t : Tm} (hf : flat t = true) : Rel X t (denV X.ρ X.β t) := ((flat_rel X t hf).1 _).2 rfl
theorem RelT.eq {X : Cx} {ts : List Tm} {vs : List Value} (h : RelT X ts vs) (hf : ts.all flat = true) : vs = ts.map (denV X.ρ X.β) := by
 apply List.ext_getElem?
 intro i
 rw [List.getElem?_map]
 cases ht : ts[i]? with
 | none =>
   rw [List.getElem?_eq_none_iff] at ht
   simp [List.getElem?_eq_none (show vs.length ≤ i by rw [← h.length]; exact ht)]
 | some t =>
   obtain ⟨v, h1, h2⟩ := h.get i t ht
   rw [h1, h2.eq (List.all_eq_true.1 hf t (List.mem_of_getElem? ht))]
   rfl
structure Goes (p : Nat → Bool) (X X' : Cx) : Prop where
 ρ : X'.ρ = X.ρ
 β : ∀ i, p i = true → X.β i = X'.β i
 o : ∀ i, p i = true → ∀ T, X'.o i = some T → X.o i = some T
 k : Kept X.ok X'.ok X.w X'.w
theorem rel_mono {p : Nat → Bool} {X X' : Cx} (g : Goes p X X') : ∀ t, idsIn p t = true → (∀ v, Rel X t v → Rel X' t v) ∧ (∀ vs, RelL X t vs → RelL X' t vs) := by
 have den : ∀ t, idsIn p t = true → denI X'.ρ X'.β t = denI X.ρ X.β t ∧ denB X'.ρ X'.β t = denB X.ρ X.β t ∧ denV X'.ρ X'.β t = denV X.ρ X.β t ∧ denL X'.ρ X'.β t = denL X.ρ X.β t := fun t ht => by
   rw [g.ρ]
   obtain ⟨h1, h2, h3, h4⟩ := den_congr (ρ := X.ρ) g.β t ht
   exact ⟨h1.symm, h2.symm, h3.symm, h4.symm⟩
 intro t
 induction t with
 | junk => intro _; exact ⟨fun _ _ => trivial, fun vs h => by simpa [RelL] using h⟩
 | hs lab K t ih =>
   intro hp
   refine ⟨fun v h => ?_, fun vs h => by simpa [RelL] using h⟩
   obtain ⟨h1, h2⟩ := h
   have hd := (den t (idsIn_hs hp)).2.2.1
   refine ⟨?_, fun n e hl T hT => ?_⟩
   · rw [hd]; exact (deep_mono g.k _).1 _ _ h1
   · subst hl
     simp only [idsIn, Bool.and_eq_true] at hp
     exact h2 n e rfl T (g.o n hp.1 T hT)
 | ep K t i j iht ihi =>
   intro hp
   simp only [idsIn, Bool.and_eq_true] at hp
   refine ⟨fun v h => ?_, fun vs h => by simpa [RelL] using h⟩
   obtain ⟨b, off, n, cap, h1, h2, h3, h4⟩ := h
   have hd := (den t hp.1).2.2.1
   have hi := (den i hp.2).1
   refine ⟨b, off, n, cap, ?_, ?_, ?_, ?_⟩
   · rw [hd]; exact (deep_mono g.k _).1 _ _ h1
   · rw [hi]; exact h2
   · rw [hi]; exact h3
   · rw [hi]; exact h4
 | agg l ih =>
   intro hp
   have := (ih hp).2
   refine ⟨fun v h => ?_, fun vs h => by simpa [RelL] using h⟩
   obtain ⟨vs, h1, h2⟩ := h
   exact ⟨vs, h1, this vs h2⟩
 | tup l ih =>
   intro hp
   have := (ih hp).2
   refine ⟨fun v h => ?_, fun vs h => by simpa [RelL] using h⟩
   obtain ⟨vs, h1, h2⟩ := h
   exact ⟨vs, h1, this vs h2⟩
 | clo f l ih =>
   intro hp
   have := (ih hp).2
   refine ⟨fun v h => ?_, fun vs h => by simpa [RelL] using h⟩
   obtain ⟨vs, h1, h2⟩ := h
   exact ⟨vs, h1, this vs h2⟩
 | cons a b iha ihb =>
   intro hp
   have hd := (den _ hp).2.2.1
   simp only [idsIn, Bool.and_eq_true] at hp
   refine ⟨fun v h => by simp only [Rel] at h ⊢; rw [hd]; exact h, fun vs h => ?_⟩
   cases vs with
   | nil => exact h.elim
   | cons v r => exact ⟨(iha hp.1).1 v h.1, (ihb hp.2).2 r h.2⟩
 | _ =>
   intro hp
   have hd := (den _ hp).2.2.1
   exact ⟨fun v h => by simp only [Rel] at h ⊢; rw [hd]; exact h, fun vs h => by simpa [RelL] using h⟩
theorem Rel.mono {p : Nat → Bool} {X X' : Cx} {t : Tm} {v : Value} (h : Rel X t v) (g : Goes p X X') (ht : idsIn p t = true) : Rel X' t v := (rel_mono g t ht).1 v h
theorem RelT.mono {p : Nat → Bool} {X X' : Cx} : ∀ {ts : List Tm} {vs : List Value}, RelT X ts vs → Goes p X X' → ts.all (idsIn p) = true → RelT X' ts vs
 | [], [], _, _, _ => trivial
 | [], _ :: _, h, _, _ => h.elim
 | _ :: _, [], h, _, _ => h.elim
 | t :: ts, v :: vs, h, g, hp => by
   simp only [List.all_cons, Bool.and_eq_true] at hp
   exact ⟨h.1.mono g hp.1, RelT.mono h.2 g hp.2⟩
def cellsT : Tm → List Tm
 | .agg l => toL l
 | t => [t]
def strT : Tm → Bool
 | .str _ => true
 | .sapp .. => true
 | .cst (.strc _) => true
 | .vop o _ => o.isStr
 | _ => false
theorem strT_den {ρ : Env} {β : Nat → Nat} {x : Tm} (h : strT x = true) : ∃ s, denV ρ β x = .string s := by
 unfold strT at h
 split at h
 · exact ⟨_, rfl⟩
 · exact ⟨_, rfl⟩
 · exact ⟨_, rfl⟩
 · exact VOp.str_den h _
 · cases h
def scalar : Tm → Bool
 | .int .. | .bool .. | .str .. | .sapp .. | .ptr .. | .err .. | .iface .. | .cst .. | .hs .. | .ep .. => true
 | .vop o _ => o.isStr
 | _ => false
def known : Tm → Bool
 | .agg l => (toL l).all scalar
 | t => scalar t
theorem scalar_one {X : Cx} {t : Tm} {v : Value} (h : scalar t = true) (hr : Rel X t v) : v.cells = #[v] ∧ (∀ c, v ≠ .agg c) ∧ (∀ c, v = .tuple c → t = .cst .undef) := by
 cases t with
 | hs lab K t => obtain ⟨⟨p, n, cap, rfl, _⟩, _⟩ := hr; simp [Value.cells]
 | ep K t i j => obtain ⟨b, off, n, cap, _, _, _, rfl⟩ := hr; simp [Value.cells]
 | vop o l => obtain ⟨s, hs⟩ := VOp.str_den h (denL X.ρ X.β l); simp only [Rel, denV, hs] at hr; subst hr; simp [Value.cells]
 | err a => simp only [Rel, denV] at hr; subst hr; unfold errVal; split <;> simp [Value.cells]
 | cst c => simp only [Rel, denV] at hr; subst hr; cases c <;> simp [Cst.den, Go.undef, Value.cells]
 | _ => first | (cases h; done) | (simp only [Rel, denV] at hr; subst hr; simp [Value.cells])
theorem cells_rel {X : Cx} {t : Tm} {v : Value} (h : known t = true) (hr : Rel X t v) : ∃ xs, v.cells = xs.toArray ∧ RelT X (cellsT t) xs := by
 by_cases hag : ∃ l, t = .agg l
 · obtain ⟨l, rfl⟩ := hag
   obtain ⟨vs, rfl, h2⟩ := hr
   exact ⟨vs, by simp [Value.cells], (relL_toL X l vs).1 h2⟩
 · have hs : scalar t = true := by cases t <;> first | exact h | exact absurd ⟨_, rfl⟩ hag
   have hc : cellsT t = [t] := by cases t <;> first | rfl | exact absurd ⟨_, rfl⟩ hag
   exact ⟨[v], (scalar_one hs hr).1, by rw [hc]; exact ⟨hr, trivial⟩⟩
def storable : Tm → Bool
 | .cst .undef => false
 | t => scalar t
theorem storable_one {X : Cx} {t : Tm} {v : Value} (h : storable t = true) (hr : Rel X t v) : v.oneCell' = true := by
 have hne : t ≠ .cst .undef := by rintro rfl; cases h
 have hs : scalar t = true := by unfold storable at h; split at h; · cases h
                                 · exact h
 obtain ⟨_, h1, h2⟩ := scalar_one hs hr
 cases v <;> first | rfl | exact absurd rfl (h1 _) | exact absurd (h2 _ rfl) hne
def getT (tm : List Tm) (t : Nat) : Option Tm :=
 match tm[t]? with
 | some .junk => none
 | x => x
def evalO (tm : List Tm) : Operand → Option Tm
 | .tmp t => getT tm t
 | .const v => ofVal v
 | .func f => some (.cst (.fn f))
 | .global _ => none
theorem getT_some {tm : List Tm} {i : Nat} {t : Tm} (h : getT tm i = some t) : tm.getD i .junk = t ∧ t ≠ .junk ∧ tm[i]? = some t := by
 unfold getT at h
 split at h
 · cases h
 · rename_i hne
   refine ⟨by simp [List.getD, h], ?_, h⟩
   rintro rfl
   exact hne h
theorem ofVal0_flat {v : Value} {t : Tm} (h : ofVal0 v = some t) : flat t = true := by
 unfold ofVal0 at h
 split at h <;> first
   | (obtain rfl := Option.some.inj h; rfl)
   | (split at h <;> first | (obtain rfl := Option.some.inj h; rfl) | cases h)
   | cases h
theorem ofVals_flat : ∀ {l : List Value} {t : Tm}, ofVals l = some t → flat t = true
 | [], t, h => by obtain rfl := Option.some.inj h; rfl
 | v :: r, t, h => by
   unfold ofVals at h
   split at h
   · rename_i a b h1 h2
     obtain rfl := Option.some.inj h
     simp [flat, ofVal0_flat h1, ofVals_flat h2]
   · cases h
theorem ofVal_flat {v : Value} {t : Tm} (h : ofVal v = some t) : flat t = true := by
 unfold ofVal at h
 split at h
 · rename_i cs
   cases hc : ofVals cs.toList with
   | none => rw [hc] at h; cases h
   | some x => rw [hc] at h; obtain rfl := Option.some.inj h; show flat x = true; exact ofVals_flat hc
 · exact ofVal0_flat h
def TmOk (X : Cx) (tm : List Tm) (a : Act) : Prop := ∀ i, Rel X (tm.getD i .junk) (a.tmps.getD i Go.undef)
theorem evalO_rel {X : Cx} {tm : List Tm} {a : Act} (h : TmOk X tm a) {x : Operand} {t : Tm} (he : evalO tm x = some t) : Rel X t (a.eval x) := by
 cases x with
 | tmp i =>
   obtain ⟨h1, h2, _⟩ := getT_some he
   have h0 := h i
   rw [h1] at h0
   exact h0
 | const v => exact ((flat_rel X t (ofVal_flat he)).1 _).2 (ofVal_den he).symm
 | func f => obtain rfl := Option.some.inj he; exact rfl
 | global g => cases he
theorem evalO_den {X : Cx} {tm : List Tm} {a : Act} (h : TmOk X tm a) {x : Operand} {t : Tm} (he : evalO tm x = some t) (hf : flat t = true) : a.eval x = denV X.ρ X.β t := (evalO_rel h he).eq hf
/-! Part 4: comparisons. -/

theorem r_underlying {P : Program} {t : TypeId} {d : TypeDesc} (h : P.underlying t = some d) (w : World) : (underlying t).run P w = .ok d w := by
 unfold underlying
 rw [Sem.run_bind]
 show (match P.underlying t with | some d => pure d | none => stuck "no such type" : Sem TypeDesc).run P w = _
 rw [h]
 rfl
theorem r_program {P : Program} (w : World) : program.run P w = .ok P w := rfl
theorem r_typeInfo {P : Program} {t : TypeId} {i : TypeInfo} (h : P.info? t = some i) (w : World) : (typeInfo t).run P w = .ok i w := by
 unfold typeInfo
 rw [Sem.run_bind]
 show (match P.info? t with | some i => pure i | none => stuck "no such type" : Sem TypeInfo).run P w = _
 rw [h]
 rfl
theorem r_sizeOf {P : Program} {t : TypeId} {i : TypeInfo} (h : P.info? t = some i) (w : World) : (Go.sizeOf t).run P w = .ok i.size w := by
 unfold Go.sizeOf
 rw [Sem.run_bind, r_typeInfo h]
 rfl
def isAggD : TypeDesc → Bool
 | .struct _ | .array _ _ => true
 | _ => false
theorem r_isAgg {P : Program} {t : TypeId} {d : TypeDesc} (h : P.underlying t = some d) (w : World) : (Go.isAgg t).run P w = .ok (isAggD d) w := by
 unfold Go.isAgg
 rw [Sem.run_bind, r_underlying h]
 cases d <;> rfl
def partT (P : Program) (t : TypeId) (l : List Tm) (off : Nat) : Option Tm :=
 match P.underlying t, P.info? t with
 | some d, some i => if isAggD d then some (.agg (ofL ((l.drop off).take i.size))) else l[off]?
 | _, _ => none
theorem r_part {P : Program} {t : TypeId} {l : List Tm} {off : Nat} {x : Tm} {ρ : Env} {β : Nat → Nat} (h : partT P t l off = some x) (w : World) :
   (part t (l.map (denV ρ β)).toArray off).run P w = .ok (denV ρ β x) w := by
 unfold partT at h
 split at h
 · rename_i d i hd hi
   unfold part
   rw [Sem.run_bind, r_isAgg hd]
   split at h
   · rename_i ha
     obtain rfl := Option.some.inj h
     simp only [Result.andThen, ha, if_true, Sem.run_bind, r_sizeOf hi]
     show Result.ok _ w = _
     congr 1
     simp only [denV, denL_ofL]
     congr 1
     simp [Array.ext_iff, List.map_take, List.map_drop]
   · rename_i ha
     simp only [Result.andThen, ha]
     simp [h]
 · cases h

def nilish : Tm → Option Tm
 | .cst .nilI => some (.tt true)
 | .err a => some (mkCmp .eq a (.lit 0))
 | .iface _ _ => some (.tt false)
 | _ => none
def eqIface (x y : Tm) : Option Tm :=
 match x, y with
 | .cst .nilI, y => nilish y
 | x, .cst .nilI => nilish x
 | _, _ => none
def eqFields (P : Program) (g : TypeId → Tm → Tm → Option Tm) (xs ys : List Tm) : List Field → Option Tm
 | [] => some (.tt true)
 | f :: r => if f.name = "_" then eqFields P g xs ys r else
   match partT P f.type xs f.offset, partT P f.type ys f.offset, eqFields P g xs ys r with
   | some p, some q, some e => (g f.type p q).map fun c => mkAnd c e
   | _, _, _ => none
def eqItems (P : Program) (g : TypeId → Tm → Tm → Option Tm) (e : TypeId) (n : Nat) (xs ys : List Tm) : List Nat → Option Tm
 | [] => some (.tt true)
 | i :: r =>
   match partT P e xs (i * n), partT P e ys (i * n), eqItems P g e n xs ys r with
   | some p, some q, some c => (g e p q).map fun d => mkAnd d c
   | _, _, _ => none
def eqT (P : Program) : Nat → TypeId → Tm → Tm → Option Tm
 | 0, _, _, _ => none
 | d + 1, t, x, y =>
   match P.underlying t with
   | some .bool => match x, y with
     | .bool a, .bool b => some (mkBeq a b)
     | _, _ => none
   | some (.int _) => match x, y with
     | .int k a, .int k' b => if k = k' then some (mkCmp .eq a b) else none
     | _, _ => none
   | some .string => if strT x && strT y then some (if x = y then .tt true else .veq x y) else none
   | some (.interface _) => eqIface x y
   | some (.struct fs) => match x, y with
     | .agg xs, .agg ys => if P.stoodInHeld t then none else eqFields P (eqT P d) (toL xs) (toL ys) fs.toList
     | _, _ => none
   | some (.array n e) => match x, y with
     | .agg xs, .agg ys => match P.info? e with
       | some i => eqItems P (eqT P d) e i.size (toL xs) (toL ys) (List.range n)
       | none => none
     | _, _ => none
   | _ => none
theorem bytes_self (a : ByteArray) : (a == a) = true := by
 show (a.data == a.data) = true
 simp
theorem nilish_den {ρ : Env} {β : Nat → Nat} {x c : Tm} (h : nilish x = some c) : (denV ρ β x = .nilIface ∧ denB ρ β c = true) ∨ ((∃ t v, denV ρ β x = .iface t v) ∧ denB ρ β c = false) := by
 unfold nilish at h
 split at h
 · obtain rfl := Option.some.inj h; exact .inl ⟨rfl, rfl⟩
 · rename_i a
   obtain rfl := Option.some.inj h
   by_cases h0 : denI ρ β a = 0
   · refine .inl ⟨by simp [denV, errVal, h0], by rw [den_mkCmp _ _ _ _ _ rfl]; simp [B2.denI, denI, h0]⟩
   · refine .inr ⟨⟨ρ.et, .int .i64 (denI ρ β a), by simp [denV, errVal, h0]⟩, by rw [den_mkCmp _ _ _ _ _ rfl]; simp [B2.denI, denI, h0]⟩
 · obtain rfl := Option.some.inj h; exact .inr ⟨⟨_, _, rfl⟩, rfl⟩
 · cases h
theorem forIn_fields {P : Program} {w : World} {α : Type} (G : α → (Option Bool × PUnit) → Sem (ForInStep (Option Bool × PUnit))) (b : α → Bool) :
   ∀ l : List α, (∀ f ∈ l, (G f (none, ⟨⟩)).run P w = .ok (if b f then .yield (none, ⟨⟩) else .done (some false, ⟨⟩)) w) →
   (forIn l (none, ⟨⟩) G).run P w = .ok (if l.all b then (none, ⟨⟩) else (some false, ⟨⟩)) w
 | [], _ => rfl
 | f :: r, h => by
   rw [List.forIn_cons, Sem.run_bind, h f (by simp)]
   have ih := forIn_fields G b r (fun x hx => h x (by simp [hx]))
   cases hb : b f
   · simp only [Result.andThen, hb, List.all_cons, Bool.false_and, Bool.false_eq_true, if_false]
     rfl
   · simp only [Result.andThen, hb, List.all_cons, Bool.true_and, if_true]
     exact ih
theorem fields_sound (P : Program) (ρ : Env) (β : Nat → Nat) (w : World) (d : Nat) (xs ys : List Tm)
   (ih : ∀ (t : TypeId) (x y c : Tm), eqT P d t x y = some c → (Op.equalIn d t (denV ρ β x) (denV ρ β y)).run P w = .ok (denB ρ β c) w) : ∀ (l : List Field) (c : Tm), eqFields P (eqT P d) xs ys l = some c →
   ∃ b : Field → Bool, (∀ f ∈ l, (if f.name ≠ "_" then do
           let __do_lift ← part f.type (List.map (denV ρ β) xs).toArray f.offset
           let __do_lift_1 ← part f.type (List.map (denV ρ β) ys).toArray f.offset
           let __do_lift ← Op.equalIn d f.type __do_lift __do_lift_1
           if (!__do_lift) = true then pure (ForInStep.done (some false, ())) else pure (ForInStep.yield (none, ()))
         else pure (ForInStep.yield (none, ())) : Sem (ForInStep (Option Bool × PUnit))).run P w = .ok (if b f then .yield (none, ⟨⟩) else .done (some false, ⟨⟩)) w) ∧ l.all b = denB ρ β c := by
 intro l
 suffices H : ∀ (l : List Field) (c : Tm), eqFields P (eqT P d) xs ys l = some c → (∀ f ∈ l, f.name ≠ "_" → ∃ p q e, partT P f.type xs f.offset = some p ∧ partT P f.type ys f.offset = some q ∧ eqT P d f.type p q = some e) ∧
     l.all (fun f => if f.name ≠ "_" then (match partT P f.type xs f.offset, partT P f.type ys f.offset with | some p, some q => (match eqT P d f.type p q with | some e => denB ρ β e | none => true) | _, _ => true) else true) = denB ρ β c by
   intro c h
   obtain ⟨h1, h2⟩ := H l c h
   refine ⟨_, fun f hf => ?_, h2⟩
   by_cases hn : f.name = "_"
   · simp only [hn, ne_eq, not_true_eq_false, if_false, if_true]; rfl
   · obtain ⟨p, q, e, hp, hq, he⟩ := h1 f hf hn
     simp only [ne_eq, hn, not_false_eq_true, if_true, Sem.run_bind, r_part hp, r_part hq, Result.andThen, ih _ _ _ _ he, hp, hq, he]
     cases denB ρ β e <;> rfl
 intro l
 induction l with
 | nil => intro c h; obtain rfl := Option.some.inj h; exact ⟨by simp, by simp [denB]⟩
 | cons f r ih2 =>
   intro c h
   unfold eqFields at h
   split at h
   · rename_i hn
     obtain ⟨h1, h2⟩ := ih2 c h
     refine ⟨fun x hx hne => ?_, ?_⟩
     · rcases List.mem_cons.1 hx with rfl | hx
       · exact absurd hn hne
       · exact h1 x hx hne
     · simp only [List.all_cons, hn, ne_eq, not_true_eq_false, if_false, Bool.true_and]; exact h2
   · rename_i hn
     split at h
     · rename_i p q e hp hq he
       cases hg : eqT P d f.type p q with
       | none => rw [hg] at h; cases h
       | some v =>
         rw [hg] at h
         obtain rfl := Option.some.inj h
         obtain ⟨h1, h2⟩ := ih2 e he
         refine ⟨fun x hx hne => ?_, ?_⟩
         · rcases List.mem_cons.1 hx with rfl | hx
           · exact ⟨p, q, v, hp, hq, hg⟩
           · exact h1 x hx hne
         · simp only [List.all_cons, hn, ne_eq, not_false_eq_true, if_true, hp, hq, hg, den_mkAnd]
           rw [← h2]
     · cases h
theorem items_sound (P : Program) (ρ : Env) (β : Nat → Nat) (w : World) (d : Nat) (e : TypeId) (n : Nat) (xs ys : List Tm)
   (ih : ∀ (t : TypeId) (x y c : Tm), eqT P d t x y = some c → (Op.equalIn d t (denV ρ β x) (denV ρ β y)).run P w = .ok (denB ρ β c) w) : ∀ (l : List Nat) (c : Tm), eqItems P (eqT P d) e n xs ys l = some c →
   ∃ b : Nat → Bool, (∀ i ∈ l, (do
           let __do_lift ← part e (List.map (denV ρ β) xs).toArray (i * n)
           let __do_lift_1 ← part e (List.map (denV ρ β) ys).toArray (i * n)
           let __do_lift ← Op.equalIn d e __do_lift __do_lift_1
           if (!__do_lift) = true then pure (ForInStep.done (some false, ())) else pure (ForInStep.yield (none, ()))
            : Sem (ForInStep (Option Bool × PUnit))).run P w = .ok (if b i then .yield (none, ⟨⟩) else .done (some false, ⟨⟩)) w) ∧ l.all b = denB ρ β c := by
 intro l
 suffices H : ∀ (l : List Nat) (c : Tm), eqItems P (eqT P d) e n xs ys l = some c → (∀ i ∈ l, ∃ p q r, partT P e xs (i * n) = some p ∧ partT P e ys (i * n) = some q ∧ eqT P d e p q = some r) ∧
     l.all (fun i => (match partT P e xs (i * n), partT P e ys (i * n) with | some p, some q => (match eqT P d e p q with | some r => denB ρ β r | none => true) | _, _ => true)) = denB ρ β c by
   intro c h
   obtain ⟨h1, h2⟩ := H l c h
   refine ⟨_, fun i hi => ?_, h2⟩
   obtain ⟨p, q, r, hp, hq, he⟩ := h1 i hi
   simp only [Sem.run_bind, r_part hp, r_part hq, Result.andThen, ih _ _ _ _ he, hp, hq, he]
   cases denB ρ β r <;> rfl
 intro l
 induction l with
 | nil => intro c h; obtain rfl := Option.some.inj h; exact ⟨by simp, by simp [denB]⟩
 | cons i r ih2 =>
   intro c h
   unfold eqItems at h
   split at h
   · rename_i p q x hp hq he
     cases hg : eqT P d e p q with
     | none => rw [hg] at h; cases h
     | some v =>
       rw [hg] at h
       obtain rfl := Option.some.inj h
       obtain ⟨h1, h2⟩ := ih2 x he
       refine ⟨fun y hy => ?_, ?_⟩
       · rcases List.mem_cons.1 hy with rfl | hy
         · exact ⟨p, q, v, hp, hq, hg⟩
         · exact h1 y hy
       · simp only [List.all_cons, hp, hq, hg, den_mkAnd]
         rw [← h2]
   · cases h
theorem eqT_sound (P : Program) (ρ : Env) (β : Nat → Nat) (w : World) : ∀ (d : Nat) (t : TypeId) (x y c : Tm), eqT P d t x y = some c → (Op.equalIn d t (denV ρ β x) (denV ρ β y)).run P w = .ok (denB ρ β c) w := by
 intro d
 induction d with
 | zero => intro t x y c h; cases h
 | succ d ih =>
   intro t x y c h
   unfold eqT at h
   split at h
   case h_1 hu =>
     split at h
     · obtain rfl := Option.some.inj h
       unfold Op.equalIn
       rw [Sem.run_bind, r_underlying hu, den_mkBeq]
       rfl
     · cases h
   case h_2 k hu =>
     split at h
     · split at h
       · rename_i hk
         subst hk
         obtain rfl := Option.some.inj h
         unfold Op.equalIn
         rw [Sem.run_bind, r_underlying hu, den_mkCmp _ _ _ _ _ rfl]
         simp only [denV, Result.andThen, if_true, B2.denI]
         rfl
       · cases h
     · cases h
   case h_3 hu =>
     split at h
     · rename_i hs
       obtain rfl := Option.some.inj h
       rw [Bool.and_eq_true] at hs
       obtain ⟨a, ha⟩ := strT_den (ρ := ρ) (β := β) hs.1
       obtain ⟨b, hb⟩ := strT_den (ρ := ρ) (β := β) hs.2
       unfold Op.equalIn
       rw [Sem.run_bind, r_underlying hu]
       have hc : denB ρ β (if x = y then .tt true else .veq x y) = (a == b) := by
         split
         · rename_i he
           subst he
           rw [ha] at hb
           cases hb
           exact (bytes_self a).symm
         · simp [denB, ha, hb, strEq]
       rw [hc, ha, hb]
       rfl
     · cases h
   case h_4 ms hu =>
     unfold Op.equalIn
     rw [Sem.run_bind, r_underlying hu]
     unfold eqIface at h
     split at h
     · rcases nilish_den (ρ := ρ) (β := β) h with ⟨h1, h2⟩ | ⟨⟨t, v, h1⟩, h2⟩
       · rw [h1, h2]; rfl
       · rw [h1, h2]; rfl
     · rcases nilish_den (ρ := ρ) (β := β) h with ⟨h1, h2⟩ | ⟨⟨t, v, h1⟩, h2⟩
       · rw [h1, h2]; rfl
       · rw [h1, h2]; rfl
     · cases h
   case h_5 fs hu =>
     split at h
     · rename_i xs ys
       split at h
       · cases h
       · rename_i hst
         have hst' : P.stoodInHeld t = false := by simpa using hst
         unfold Op.equalIn
         rw [Sem.run_bind, r_underlying hu]
         simp only [denV, Result.andThen, denL_toL]
         simp only [Sem.run_bind, r_program, Result.andThen, hst', Bool.false_eq_true, if_false]
         rw [← Array.forIn_toList]
         obtain ⟨b, hb1, hb2⟩ := fields_sound P ρ β w d _ _ ih fs.toList c h
         rw [forIn_fields _ b fs.toList hb1, ← hb2]
         cases fs.toList.all b <;> rfl
     · cases h
   case h_6 n e hu =>
     split at h
     · rename_i xs ys
       split at h
       · rename_i i hi
         unfold Op.equalIn
         rw [Sem.run_bind, r_underlying hu]
         simp only [denV, Result.andThen, denL_toL]
         simp only [Sem.run_bind, r_sizeOf hi, Result.andThen]
         simp only [Std.Legacy.Range.forIn_eq_forIn_range', Std.Legacy.Range.size, Nat.sub_zero, Nat.add_one_sub_one, Nat.div_one]
         rw [← List.range_eq_range']
         obtain ⟨b, hb1, hb2⟩ := items_sound P ρ β w d e i.size _ _ ih (List.range n) c h
         rw [forIn_fields _ b (List.range n) hb1, ← hb2]
         cases (List.range n).all b <;> rfl
       · cases h
     · cases h
   case h_7 => cases h
/-! Part 4: operators. -/

def isC : Operand → Bool
 | .const _ => true
 | _ => false
def evalInt (o : BinOp) (k : IntKind) (a b : Tm) : Option (Tm × Tm) :=
 match o with
 | .add => some (.tt true, .int k (mkWrap k (mkI2 .add a b)))
 | .sub => some (.tt true, .int k (mkWrap k (mkI2 .sub a b)))
 | .mul => some (.tt true, .int k (mkWrap k (mkI2 .mul a b)))
 | .quo => some (mkNot (mkCmp .eq b (.lit 0)), .int k (mkWrap k (mkI2 .quo a b)))
 | .rem => some (mkNot (mkCmp .eq b (.lit 0)), .int k (mkI2 .rem a b))
 | .and => some (.tt true, .int k (mkI2 (.bits .and k) a b))
 | .or => some (.tt true, .int k (mkI2 (.bits .or k) a b))
 | .xor => some (.tt true, .int k (mkI2 (.bits .xor k) a b))
 | .andNot => some (.tt true, .int k (mkI2 (.bits .andNot k) a b))
 | .eql => some (.tt true, .bool (mkCmp .eq a b))
 | .neq => some (.tt true, .bool (mkNot (mkCmp .eq a b)))
 | .lss => some (.tt true, .bool (mkCmp .lt a b))
 | .leq => some (.tt true, .bool (mkCmp .le a b))
 | .gtr => some (.tt true, .bool (mkCmp .lt b a))
 | .geq => some (.tt true, .bool (mkCmp .le b a))
 | _ => none
def ifaceT : Tm → Bool
 | .cst .nilI | .err _ | .iface _ _ => true
 | _ => false
def finT (o : BinOp) (c : Option Tm) : Option (Tm × Tm) :=
 match o with
 | .eql => c.map fun c => (.tt true, .bool c)
 | .neq => c.map fun c => (.tt true, .bool (mkNot c))
 | _ => none
theorem finT_spec {o : BinOp} {e : Option Tm} {c v : Tm} (he : finT o e = some (c, v)) : ∃ d, e = some d ∧ ((o = .eql ∧ v = .bool d) ∨ (o = .neq ∧ v = .bool (mkNot d))) := by
 unfold finT at he
 split at he
 · cases e with
   | none => cases he
   | some d => obtain ⟨_, rfl⟩ := Prod.mk.inj (Option.some.inj he); exact ⟨d, rfl, .inl ⟨rfl, rfl⟩⟩
 · cases e with
   | none => cases he
   | some d => obtain ⟨_, rfl⟩ := Prod.mk.inj (Option.some.inj he); exact ⟨d, rfl, .inr ⟨rfl, rfl⟩⟩
 · cases he
def evalShift (o : BinOp) (k : IntKind) (a b : Tm) : Option (Tm × Tm) :=
 match o with
 | .shl => some (mkCmp .le (.lit 0) b, .int k (mkI2 (.shl k) a b))
 | .shr => some (mkCmp .le (.lit 0) b, .int k (mkI2 (.shr k) a b))
 | _ => none
def isShift : BinOp → Bool
 | .shl | .shr => true
 | _ => false
def evalOther (P : Program) (o : BinOp) (t : TypeId) (ox oy : Operand) (x y : Tm) : Option (Tm × Tm) :=
 if strT x && strT y then finT o (some (if x = y then .tt true else .veq x y))
 else if ifaceT x && ifaceT y && (isC ox || isC oy) then finT o (eqT P Op.maxDepth t x y) else none
def evalFlt (P : Program) (o : BinOp) (t : TypeId) (x y : Tm) : Option (Tm × Tm) :=
 match P.underlying t, o with
 | some (.float .f64), .quo => some (.ofB (.vop .okD (.cons x (.cons y .nil))), .vop .fdiv (.cons x (.cons y .nil)))
 | some (.float .f64), .eql => some (.ofB (.vop .okL (.cons x (.cons y .nil))), .bool (.ofB (.vop .feq (.cons x (.cons y .nil)))))
 | some (.complex .f64), .mul => some (.ofB (.vop .okM (.cons x (.cons y .nil))), .vop .cmul (.cons x (.cons y .nil)))
 | _, _ => none
theorem fdivV_some {u v r : Value} (h : fdivV u v = some r) : ∃ a b c, u = .float .f64 a ∧ v = .float .f64 b ∧ floatBits .quo .f64 a b = some c ∧ r = .float .f64 c := by
 unfold fdivV at h
 split at h
 · rename_i a b
   cases hb : floatBits .quo .f64 a b with
   | none => rw [hb] at h; cases h
   | some c => rw [hb] at h; exact ⟨a, b, c, rfl, rfl, hb, (Option.some.inj h).symm⟩
 · cases h
theorem cmulV_some {u v r : Value} (h : cmulV u v = some r) : ∃ a b c d re im, u = .complex .f64 a b ∧ v = .complex .f64 c d ∧ cMulBits a b c d = some (re, im) ∧ r = .complex .f64 re im := by
 unfold cmulV at h
 split at h
 · rename_i a b c d
   cases hb : cMulBits a b c d with
   | none => rw [hb] at h; cases h
   | some q => rw [hb] at h; exact ⟨a, b, c, d, q.1, q.2, rfl, rfl, hb, (Option.some.inj h).symm⟩
 · cases h
theorem feqV_some {u v : Value} {r : Bool} (h : feqV u v = some r) : ∃ a b, u = .float .f64 a ∧ v = .float .f64 b ∧ r = (FloatKind.f64.format.order a b == some .eq) := by
 unfold feqV at h
 split at h
 · exact ⟨_, _, rfl, rfl, (Option.some.inj h).symm⟩
 · cases h
theorem evalFlt_sound {P : Program} {ρ : Env} {β : Nat → Nat} {w : World} {o : BinOp} {t : TypeId} {ox oy : Operand} {x y c v : Tm} (h : evalFlt P o t x y = some (c, v)) (hc : denB ρ β c = true) :
   ((do eqGuard o t ox oy (denV ρ β x) (denV ρ β y); binOp o t (denV ρ β x) (denV ρ β y)) : Sem Value).run P w = .ok (denV ρ β v) w := by
 unfold evalFlt at h
 split at h
 · obtain ⟨rfl, rfl⟩ := Prod.mk.inj (Option.some.inj h)
   obtain ⟨r, hr⟩ := Option.isSome_iff_exists.1 (show (fdivV (denV ρ β x) (denV ρ β y)).isSome = true from hc)
   obtain ⟨a, b, q, hx, hy, hq, rfl⟩ := fdivV_some hr
   simp only [denV, denL, VOp.den, hr, Option.getD_some]
   rw [hx, hy, Sem.run_bind]
   have hg : (eqGuard .quo t ox oy (.float .f64 a) (.float .f64 b)).run P w = .ok () w := rfl
   rw [hg]
   exact run_float_arith w .quo t .f64 a b q hq
 · obtain ⟨rfl, rfl⟩ := Prod.mk.inj (Option.some.inj h)
   obtain ⟨r, hr⟩ := Option.isSome_iff_exists.1 (show (feqV (denV ρ β x) (denV ρ β y)).isSome = true from hc)
   obtain ⟨a, b, hx, hy, rfl⟩ := feqV_some hr
   simp only [denV, denB, denL, VOp.den, hr, Option.getD_some, boolOf]
   rw [hx, hy, Sem.run_bind]
   have hg : (eqGuard .eql t ox oy (.float .f64 a) (.float .f64 b)).run P w = .ok () w := rfl
   rw [hg, binOp_float_cmp_eql]
   rfl
 · obtain ⟨rfl, rfl⟩ := Prod.mk.inj (Option.some.inj h)
   obtain ⟨r, hr⟩ := Option.isSome_iff_exists.1 (show (cmulV (denV ρ β x) (denV ρ β y)).isSome = true from hc)
   obtain ⟨a, b, c, d, re, im, hx, hy, hq, rfl⟩ := cmulV_some hr
   simp only [denV, denL, VOp.den, hr, Option.getD_some]
   rw [hx, hy, Sem.run_bind]
   have hg : (eqGuard .mul t ox oy (.complex .f64 a b) (.complex .f64 c d)).run P w = .ok () w := rfl
   rw [hg]
   exact run_complex_mul w t a b c d re im hq
 · cases h
def evalBin (P : Program) (o : BinOp) (t : TypeId) (ox oy : Operand) (x y : Tm) : Option (Tm × Tm) :=
 match x, y with
 | .int k a, .int k' b => if isShift o then evalShift o k a b else if k = k' then evalInt o k a b else none
 | .bool a, .bool b => finT o (eqT P Op.maxDepth t (.bool a) (.bool b))
 | .agg a, .agg b => if P.eqGuardType P.depth t then none else finT o (eqT P Op.maxDepth t (.agg a) (.agg b))
 | x, y => match evalOther P o t ox oy x y with
   | some r => some r
   | none => evalFlt P o t x y
theorem evalInt_sound {P : Program} {ρ : Env} {β : Nat → Nat} {w : World} {o : BinOp} {k : IntKind} {a b c v : Tm} (h : evalInt o k a b = some (c, v)) (hc : denB ρ β c = true) (t : TypeId) (ox oy : Operand) :
   ((do eqGuard o t ox oy (.int k (denI ρ β a)) (.int k (denI ρ β b)); binOp o t (.int k (denI ρ β a)) (.int k (denI ρ β b))) : Sem Value).run P w = .ok (denV ρ β v) w := by
 unfold evalInt at h
 split at h <;> first | cases h | (obtain ⟨rfl, rfl⟩ := Prod.mk.inj (Option.some.inj h))
 case h_4 =>
   rw [den_mkNot, den_mkCmp _ _ _ _ _ (show B2.ofInts .eq = true from rfl)] at hc
   have hc' : denI ρ β b ≠ 0 := by simpa [B2.denI, denI] using hc
   simp [eqGuard, binOp, Op.intDiv, hc', denV, den_mkI2, den_mkWrap, I2.den]
 case h_5 =>
   rw [den_mkNot, den_mkCmp _ _ _ _ _ (show B2.ofInts .eq = true from rfl)] at hc
   have hc' : denI ρ β b ≠ 0 := by simpa [B2.denI, denI] using hc
   simp [eqGuard, binOp, Op.intDiv, hc', denV, den_mkI2, den_mkWrap, I2.den]
 all_goals simp [eqGuard, binOp, Op.intArith, Op.intBits, Op.intCmp, denV, den_mkI2, den_mkWrap, I2.den, bitsV, den_mkNot, den_mkCmp _ _ _ _ _ (show B2.ofInts .eq = true from rfl), den_mkCmp _ _ _ _ _ (show B2.ofInts .lt = true from rfl), den_mkCmp _ _ _ _ _ (show B2.ofInts .le = true from rfl), B2.denI]
 all_goals rfl
theorem strEq_toList (a b : ByteArray) : (a.toList == b.toList) = (a == b) := by
 rw [ByteArray.toList_eq, ByteArray.toList_eq]
 show _ = (a.data == b.data)
 rw [Bool.eq_iff_iff]
 simp
theorem iface_den {ρ : Env} {β : Nat → Nat} {x : Tm} (h : ifaceT x = true) : denV ρ β x = .nilIface ∨ ∃ t v, denV ρ β x = .iface t v := by
 unfold ifaceT at h
 split at h
 · exact .inl rfl
 · rename_i a
   by_cases h0 : denI ρ β a = 0
   · exact .inl (by simp [denV, errVal, h0])
   · exact .inr ⟨ρ.et, .int .i64 (denI ρ β a), by simp only [denV, errVal, h0, if_false]⟩
 · exact .inr ⟨_, _, rfl⟩
 · cases h
theorem evalOther_sound {P : Program} {ρ : Env} {β : Nat → Nat} {w : World} {o : BinOp} {t : TypeId} {ox oy : Operand} {x y c v : Tm} (h : evalOther P o t ox oy x y = some (c, v)) :
   ((do eqGuard o t ox oy (denV ρ β x) (denV ρ β y); binOp o t (denV ρ β x) (denV ρ β y)) : Sem Value).run P w = .ok (denV ρ β v) w := by
 unfold evalOther at h
 split at h
 · rename_i hs
   rw [Bool.and_eq_true] at hs
   obtain ⟨a, ha⟩ := strT_den (ρ := ρ) (β := β) hs.1
   obtain ⟨b, hb⟩ := strT_den (ρ := ρ) (β := β) hs.2
   obtain ⟨d, he, hd⟩ := finT_spec h
   obtain rfl := Option.some.inj he
   have hc : denB ρ β (if x = y then .tt true else .veq x y) = (a == b) := by
     split
     · rename_i he
       subst he
       rw [ha] at hb
       cases hb
       exact (bytes_self a).symm
     · simp [denB, ha, hb, strEq]
   rw [ha, hb]
   rcases hd with ⟨rfl, rfl⟩ | ⟨rfl, rfl⟩
   · simp only [denV, hc]
     simp [eqGuard, binOp, Op.stringOp, strEq_toList]
   · simp only [denV, den_mkNot, hc]
     simp [eqGuard, binOp, Op.stringOp, strEq_toList]
 · split at h
   · rename_i hi
     simp only [Bool.and_eq_true] at hi
     obtain ⟨d, he, hd⟩ := finT_spec h
     have := eqT_sound P ρ β w _ _ _ _ _ he
     have hgr : ∀ o X Y, (X = .nilIface ∨ ∃ t v, X = .iface t v) → (Y = .nilIface ∨ ∃ t v, Y = .iface t v) → (eqGuard o t ox oy X Y).run P w = .ok () w := by
       intro o X Y hX hY
       have hcst := hi.2
       rcases hX with rfl | ⟨t1, v1, rfl⟩ <;> rcases hY with rfl | ⟨t2, v2, rfl⟩
       · unfold eqGuard
         cases ox <;> cases oy <;> simp only [isC, Bool.or_self, Bool.false_eq_true] at hcst <;> cases o <;> rfl
       all_goals (unfold eqGuard; cases o <;> rfl)
     have hX := iface_den (ρ := ρ) (β := β) hi.1.1
     have hY := iface_den (ρ := ρ) (β := β) hi.1.2
     rw [Sem.run_bind, hgr _ _ _ hX hY]
     simp only [Result.andThen]
     have hb : ∀ X Y, (X = .nilIface ∨ ∃ t v, X = .iface t v) → (Y = .nilIface ∨ ∃ t v, Y = .iface t v) → binOp .eql t X Y = (do pure (.bool (← Op.equal t X Y))) ∧ binOp .neq t X Y = (do pure (.bool (!(← Op.equal t X Y)))) := by
       intro X Y hX hY
       rcases hX with rfl | ⟨t1, v1, rfl⟩ <;> rcases hY with rfl | ⟨t2, v2, rfl⟩ <;> exact ⟨rfl, rfl⟩
     rcases hd with ⟨rfl, rfl⟩ | ⟨rfl, rfl⟩
     · rw [(hb _ _ hX hY).1, Sem.run_bind]
       unfold Op.equal
       rw [this]
       rfl
     · rw [(hb _ _ hX hY).2, Sem.run_bind]
       unfold Op.equal
       rw [this]
       simp only [denV, den_mkNot]
       rfl
   · cases h
theorem evalBin_sound {P : Program} {ρ : Env} {β : Nat → Nat} {w : World} {o : BinOp} {t : TypeId} {ox oy : Operand} {x y c v : Tm} (h : evalBin P o t ox oy x y = some (c, v)) (hc : denB ρ β c = true) :
   ((do eqGuard o t ox oy (denV ρ β x) (denV ρ β y); binOp o t (denV ρ β x) (denV ρ β y)) : Sem Value).run P w = .ok (denV ρ β v) w := by
 unfold evalBin at h
 split at h
 · rename_i k a k' b
   split at h
   · unfold evalShift at h
     split at h
     · obtain ⟨rfl, rfl⟩ := Prod.mk.inj (Option.some.inj h)
       rw [den_mkCmp _ _ _ _ _ (show B2.ofInts .le = true from rfl)] at hc
       have hc' : ¬ denI ρ β b < 0 := by have := of_decide_eq_true (p := 0 ≤ denI ρ β b) hc; omega
       simp [eqGuard, binOp, Op.shift, denV, den_mkI2, I2.den, hc']
     · obtain ⟨rfl, rfl⟩ := Prod.mk.inj (Option.some.inj h)
       rw [den_mkCmp _ _ _ _ _ (show B2.ofInts .le = true from rfl)] at hc
       have hc' : ¬ denI ρ β b < 0 := by have := of_decide_eq_true (p := 0 ≤ denI ρ β b) hc; omega
       simp [eqGuard, binOp, Op.shift, denV, den_mkI2, I2.den, hc']
     · cases h
   · split at h
     · rename_i hk
       subst hk
       exact evalInt_sound h hc t ox oy
     · cases h
 · rename_i a b
   obtain ⟨d, he, hd⟩ := finT_spec h
   have := eqT_sound P ρ β w _ _ _ _ _ he
   have hgr : ∀ o (p q : Bool), (eqGuard o t ox oy (.bool p) (.bool q)).run P w = .ok () w := by
     intro o p q
     unfold eqGuard
     cases o <;> rfl
   simp only [denV] at this ⊢
   rw [Sem.run_bind, hgr]
   simp only [Result.andThen]
   rcases hd with ⟨rfl, rfl⟩ | ⟨rfl, rfl⟩
   · show ((do pure (.bool (← Op.equal t _ _))) : Sem Value).run P w = _
     rw [Sem.run_bind]
     unfold Op.equal
     rw [this]
     rfl
   · show ((do pure (.bool (!(← Op.equal t _ _)))) : Sem Value).run P w = _
     rw [Sem.run_bind]
     unfold Op.equal
     rw [this]
     simp only [denV, den_mkNot]
     rfl
 · rename_i a b
   split at h
   · cases h
   · rename_i hg
     have hg' : P.eqGuardType P.depth t = false := by simpa using hg
     obtain ⟨d, he, hd⟩ := finT_spec h
     have := eqT_sound P ρ β w _ _ _ _ _ he
     have hgr : ∀ o, (eqGuard o t ox oy (.agg (denL ρ β a).toArray) (.agg (denL ρ β b).toArray)).run P w = .ok () w := by
       intro o
       unfold eqGuard
       cases o
       all_goals first
         | rfl
         | (show Sem.run P (do let x ← program; let y ← program; if (!x.eqGuardType y.depth t) = true then pure () else _) w = _
            simp only [Sem.run_bind, r_program, Result.andThen, hg', Bool.not_false, if_true]
            rfl)
     simp only [denV] at this ⊢
     rw [Sem.run_bind, hgr]
     simp only [Result.andThen]
     rcases hd with ⟨rfl, rfl⟩ | ⟨rfl, rfl⟩
     · show ((do pure (.bool (← Op.equal t _ _))) : Sem Value).run P w = _
       rw [Sem.run_bind]
       unfold Op.equal
       rw [this]
       rfl
     · show ((do pure (.bool (!(← Op.equal t _ _)))) : Sem Value).run P w = _
       rw [Sem.run_bind]
       unfold Op.equal
       rw [this]
       simp only [denV, den_mkNot]
       rfl
 · split at h
   · rename_i he
     obtain rfl := Option.some.inj h
     exact evalOther_sound he
   · exact evalFlt_sound h hc
/-! Part 5: operations that yield a value. -/

theorem addr_add (b off n : Nat) : (⟨b, off, none⟩ : Addr).add n = ⟨b, off + n, none⟩ := by
 unfold Addr.add
 split
 · rename_i h; subst h; rfl
 · rfl
def decT (pc : List (Tm × Bool)) : Tm → Option Bool
 | .tt b => some b
 | .not a => (decT pc a).map fun x => !x
 | a => (pc.find? (fun x => x.1 == a)).map fun x => x.2
def PcOk (ρ : Env) (β : Nat → Nat) (pc : List (Tm × Bool)) : Prop := ∀ x ∈ pc, denB ρ β x.1 = x.2
theorem find_den {ρ : Env} {β : Nat → Nat} {pc : List (Tm × Bool)} (h : PcOk ρ β pc) {a : Tm} {x : Tm × Bool} (hf : pc.find? (fun x => x.1 == a) = some x) : denB ρ β a = x.2 := by
 have h1 := List.mem_of_find?_eq_some hf
 have h2 := List.find?_some hf
 have h3 : x.1 = a := by simpa using h2
 rw [← h3]
 exact h x h1
theorem decT_den {ρ : Env} {β : Nat → Nat} {pc : List (Tm × Bool)} (h : PcOk ρ β pc) : ∀ {t : Tm} {b : Bool}, decT pc t = some b → denB ρ β t = b := by
 intro t
 induction t with
 | tt b => intro c hd; simp only [decT, Option.some.injEq] at hd; subst hd; rfl
 | not a ih =>
   intro c hd
   simp only [decT] at hd
   cases hx : decT pc a with
   | none => rw [hx] at hd; cases hd
   | some x => rw [hx] at hd; obtain rfl := Option.some.inj hd; simp [denB, ih hx]
 | _ =>
   intro c hd
   simp only [decT] at hd
   cases hf : List.find? (fun x => x.1 == _) pc with
   | none => rw [hf] at hd; cases hd
   | some x => rw [hf] at hd; obtain rfl := Option.some.inj hd; exact find_den h hf
def evalUn (o : UnOp) : Tm → Option Tm
 | .int k a => match o with
   | .neg => some (.int k (mkWrap k (mkI2 .sub (.lit 0) a)))
   | .xor => some (.int k (mkI2 (.bits .xor k) (.lit (if k.signed then -1 else k.max)) a))
   | _ => none
 | .bool a => match o with
   | .not => some (.bool (mkNot a))
   | _ => none
 | _ => none
theorem evalUn_sound {P : Program} {ρ : Env} {β : Nat → Nat} {w : World} {o : UnOp} {x v : Tm} (h : evalUn o x = some v) : (Op.unary o (denV ρ β x)).run P w = .ok (denV ρ β v) w := by
 unfold evalUn at h
 split at h
 · split at h
   · obtain rfl := Option.some.inj h
     simp [Op.unary, Op.intArith, denV, den_mkWrap, den_mkI2, I2.den, denI]
   · obtain rfl := Option.some.inj h
     simp [Op.unary, Op.intBits, denV, den_mkWrap, den_mkI2, I2.den, denI, bitsV]
   · cases h
 · split at h
   · obtain rfl := Option.some.inj h
     simp [Op.unary, denV, den_mkNot]
   · cases h
 · cases h
def evalConv (P : Program) (src dst : TypeId) (x : Tm) : Option Tm :=
 match P.underlying src, P.underlying dst with
 | some _, some (.int k) => match x with
   | .int _ a => some (.int k (mkWrap k a))
   | _ => none
 | some _, some .string => if strT x then some x else none
 | _, _ => none
theorem evalConv_sound {P : Program} {ρ : Env} {β : Nat → Nat} {w : World} {src dst : TypeId} {x v : Tm} (h : evalConv P src dst x = some v) : (convert src dst (denV ρ β x)).run P w = .ok (denV ρ β v) w := by
 unfold evalConv at h
 split at h
 · rename_i d k hs hd
   split at h
   · obtain rfl := Option.some.inj h
     unfold convert
     simp only [Sem.run_bind, r_underlying hs, r_underlying hd, Result.andThen, denV, den_mkWrap]
     cases d <;> rfl
   · cases h
 · rename_i d hs hd
   split at h
   · rename_i hx
     obtain rfl := Option.some.inj h
     obtain ⟨s, hs'⟩ := strT_den (ρ := ρ) (β := β) hx
     unfold convert
     simp only [Sem.run_bind, r_underlying hs, r_underlying hd, Result.andThen, hs']
     cases d <;> rfl
   · cases h
 · cases h
def evalIface (P : Program) (t : TypeId) (x : Tm) : Option Tm :=
 if flat x then match P.underlying t with
 | some (.interface _) => none
 | some _ => some (.iface t x)
 | none => none
 else none
theorem evalIface_sound {P : Program} {ρ : Env} {β : Nat → Nat} {w : World} {t : TypeId} {x v : Tm} (h : evalIface P t x = some v) : flat x = true ∧ (Instr.makeInterface t (denV ρ β x)).run P w = .ok (denV ρ β v) w ∧ flat v = true := by
 unfold evalIface at h
 split at h
 · rename_i hf
   refine ⟨hf, ?_⟩
   split at h
   · cases h
   · rename_i d hne hd
     obtain rfl := Option.some.inj h
     refine ⟨?_, rfl⟩
     unfold Instr.makeInterface
     rw [Sem.run_bind, r_underlying hd]
     cases d <;> first | rfl | exact (hne _ rfl).elim
   · cases h
 · cases h
def evalFieldAddr (P : Program) (s : TypeId) (x : Tm) (f : Nat) : Option Tm :=
 match P.underlying s with
 | some (.struct fs) => match fs[f]?, x with
   | some fld, .ptr id off => match P.info? fld.type with
     | some i => if i.size = 0 then none else some (.ptr id (off + fld.offset))
     | none => none
   | some fld, .ep K t n off => match P.info? fld.type with
     | some i => if i.size = 0 then none else some (.ep K t n (off + fld.offset))
     | none => none
   | _, _ => none
 | _ => none
theorem evalFieldAddr_sound {P : Program} {X : Cx} {w : World} {s : TypeId} {x v : Tm} {u : Value} {f : Nat} (h : evalFieldAddr P s x f = some v) (hr : Rel X x u) : ∃ y, (Instr.fieldAt s u f).run P w = .ok y w ∧ Rel X v y := by
 unfold evalFieldAddr at h
 split at h
 · rename_i fs hd
   split at h
   · rename_i fld id off hf
     split at h
     · rename_i i hi
       split at h
       · cases h
       · rename_i hz
         obtain rfl := Option.some.inj h
         simp only [Rel, denV] at hr
         subst hr
         refine ⟨_, ?_, Rel.of rfl⟩
         unfold Instr.fieldAt
         rw [Sem.run_bind, r_underlying hd]
         simp only [Result.andThen, hf, denV]
         show ((do let a ← Instr.sureAddr (.pointer (some ⟨X.β id, off, none⟩)); pure (Value.pointer (some (← fieldPlace a fld)))) : Sem Value).run P w = _
         simp only [Instr.sureAddr, fieldPlace, Sem.run_bind, Sem.run_pure, Result.andThen, r_sizeOf hi, hz, if_false, addr_add]
     · cases h
   · rename_i fld K t n off hf
     split at h
     · rename_i i hi
       split at h
       · cases h
       · rename_i hz
         obtain rfl := Option.some.inj h
         obtain ⟨b, o, m, cap, h1, h2, h3, rfl⟩ := hr
         refine ⟨_, ?_, ⟨b, o, m, cap, h1, h2, h3, rfl⟩⟩
         unfold Instr.fieldAt
         rw [Sem.run_bind, r_underlying hd]
         simp only [Result.andThen, hf]
         show ((do let a ← Instr.sureAddr (.pointer (some ⟨b, o + (denI X.ρ X.β n).toNat * K.wd + off, none⟩)); pure (Value.pointer (some (← fieldPlace a fld)))) : Sem Value).run P w = _
         simp only [Instr.sureAddr, fieldPlace, Sem.run_bind, Sem.run_pure, Result.andThen, r_sizeOf hi, hz, if_false, addr_add, Nat.add_assoc]
     · cases h
   · cases h
 · cases h
def mkLen (wd : Nat) (t : Tm) : Tm :=
 match t with
 | .tup l => if (toL l).length % wd = 0 then .lit ((toL l).length / wd : Nat) else .ofI (.vop (.len wd) (.cons t .nil))
 | t => .ofI (.vop (.len wd) (.cons t .nil))
theorem mkLen_den (ρ : Env) (β : Nat → Nat) (wd : Nat) (t : Tm) : denI ρ β (mkLen wd t) = ((rows (denV ρ β t)).length / wd : Nat) := by
 unfold mkLen
 split
 · rename_i l
   split
   · simp [denI, denV, rows, denL_toL]
   · simp [denI, denV, denL, VOp.den, intOf]
 · simp [denI, denV, denL, VOp.den, intOf]
def evalIndexAddr (P : Program) (t : TypeId) (x i : Tm) : Option (Tm × Tm) :=
 match P.underlying t with
 | some (.array len e) => match x, i, P.info? e with
   | .ptr id off, .int _ (.lit n), some inf => if 0 ≤ n ∧ n < (len : Int) then some (.tt true, .ptr id (off + n.toNat * inf.size)) else none
   | .ep K m j off, .int _ (.lit n), some inf => if 0 ≤ n ∧ n < (len : Int) then some (.tt true, .ep K m j (off + n.toNat * inf.size)) else none
   | _, _, _ => none
 | some (.slice e) => match x, i, P.info? e with
   | .hs lab K m, .int _ n, some inf => if inf.size = K.wd ∧ 0 < K.wd then some (mkAnd (mkCmp .le (.lit 0) n) (mkCmp .lt n (mkLen K.wd m)), .ep K m n 0) else none
   | _, _, _ => none
 | _ => none
theorem deep_len {ok : Nat → Nat → Prop} {w : World} {K : SK} {p : Option Addr} {n cap : Nat} {c : Value} (h : deepC ok w (.sl K) (.slice p n cap) c) (hw : 0 < K.wd) : (rows c).length / K.wd = n := by
 obtain ⟨p', n', cap', h1, _, h3, _⟩ := h
 injection h1 with _ h1 _
 subst h1
 rw [h3]
 exact Nat.mul_div_cancel _ hw
theorem evalIndexAddr_sound {P : Program} {X : Cx} {w : World} {t : TypeId} {x i v c : Tm} {u q : Value} (h : evalIndexAddr P t x i = some (c, v)) (hx : Rel X x u) (hi : Rel X i q) (hc : denB X.ρ X.β c = true) : ∃ y, (Instr.indexAt t u q).run P w = .ok y w ∧ Rel X v y := by
 unfold evalIndexAddr at h
 split at h
 · rename_i len e hd
   split at h
   · rename_i id off k n inf hin
     split at h
     · rename_i hn
       obtain ⟨_, rfl⟩ := Prod.mk.inj (Option.some.inj h)
       simp only [Rel, denV, denI] at hx hi
       subst hx hi
       refine ⟨_, ?_, Rel.of rfl⟩
       unfold Instr.indexAt
       simp only [denV, denI, asIntOf, Sem.run_bind, Sem.run_pure, Result.andThen, r_underlying hd, Instr.sureAddr, hn, and_self, if_true, r_sizeOf hin, addr_add]
     · cases h
   · rename_i K m j off k n inf hin
     split at h
     · rename_i hn
       obtain ⟨_, rfl⟩ := Prod.mk.inj (Option.some.inj h)
       obtain ⟨b, o, l, cap, h1, h2, h3, rfl⟩ := hx
       simp only [Rel, denV, denI] at hi
       subst hi
       refine ⟨_, ?_, ⟨b, o, l, cap, h1, h2, h3, rfl⟩⟩
       unfold Instr.indexAt
       simp only [asIntOf, Sem.run_bind, Sem.run_pure, Result.andThen, r_underlying hd, Instr.sureAddr, hn, and_self, if_true, r_sizeOf hin, addr_add, Nat.add_assoc]
     · cases h
   · cases h
 · rename_i e hd
   split at h
   · rename_i lab K m k n inf hin
     split at h
     · rename_i hn
       obtain ⟨rfl, rfl⟩ := Prod.mk.inj (Option.some.inj h)
       obtain ⟨⟨p, l, cap, rfl, g2, g3, g4, g4', g5, g6⟩, _⟩ := hx
       simp only [Rel, denV] at hi
       subst hi
       rw [den_mkAnd, den_mkCmp _ _ _ _ _ rfl, den_mkCmp _ _ _ _ _ rfl, Bool.and_eq_true, mkLen_den] at hc
       have h1 : 0 ≤ denI X.ρ X.β n := of_decide_eq_true (p := 0 ≤ denI X.ρ X.β n) hc.1
       have h2 := of_decide_eq_true (p := denI X.ρ X.β n < (((rows (denV X.ρ X.β m)).length / K.wd : Nat) : Int)) hc.2
       rw [g3, Nat.mul_div_cancel _ hn.2] at h2
       obtain ⟨b, off, rfl, _, _⟩ := g6 (denI X.ρ X.β n).toNat (by omega)
       refine ⟨_, ?_, ⟨b, off, l, cap, ⟨_, _, _, rfl, g2, g3, g4, g4', g5, g6⟩, h1, h2, rfl⟩⟩
       unfold Instr.indexAt
       simp only [asIntOf, Sem.run_bind, Sem.run_pure, Result.andThen, r_underlying hd, h1, h2, and_self, if_true, r_sizeOf hin, addr_add, hn.1, Nat.add_zero]
     · cases h
   · cases h
 · cases h
def cellS0 (wd : Nat) (t i : Tm) (j : Nat) : SK → Tm
 | .int k => .int k (.ofI (.vop (.sel wd j) (.cons t (.cons (.int .i64 i) .nil))))
 | .bool => .bool (.ofB (.vop (.sel wd j) (.cons t (.cons (.int .i64 i) .nil))))
 | .str => .vop (.ssel wd j) (.cons t (.cons (.int .i64 i) .nil))
 | .sl r => .hs .no r (.vop (.sel wd j) (.cons t (.cons (.int .i64 i) .nil)))
 | _ => .junk
theorem cellS0_rel {X : Cx} {wd : Nat} {t i : Tm} {j : Nat} {K : SK} {u : Value} (h : deepC X.ok X.w K u ((rows (X.v t)).getD ((X.i i).toNat * wd + j) Go.undef)) : Rel X (cellS0 wd t i j K) u := by
 cases K with
 | sl r => exact ⟨by simpa [denV, denL, VOp.den, intOf] using h, fun _ _ h => by cases h⟩
 | int k =>
   obtain ⟨rfl, h2⟩ := h
   simp only [cellS0, Rel, denV, denI, denL, VOp.den, intOf]
   exact h2
 | bool =>
   obtain ⟨rfl, h2⟩ := h
   simp only [cellS0, Rel, denV, denB, denL, VOp.den, intOf]
   exact h2
 | str =>
   obtain ⟨rfl, h2⟩ := h
   simp only [cellS0, Rel, denV, denL, VOp.den, intOf]
   exact h2
 | _ => exact trivial
def cellS1 (c : Option Tm) (K : SK) : Option Tm :=
 match c, K with
 | some (.int k' a), .int k => if k = k' then some (.int k a) else none
 | some (.bool a), .bool => some (.bool a)
 | some s, .str => if strT s then some s else none
 | some c, .sl r => some (.hs .no r c)
 | _, _ => none
def cellS (wd : Nat) (t i : Tm) (j : Nat) (K : SK) : Tm :=
 match t, i with
 | .tup l, .lit n => (cellS1 ((toL l)[n.toNat * wd + j]?) K).getD (cellS0 wd (.tup l) (.lit n) j K)
 | t, i => cellS0 wd t i j K
theorem cellS_rel {X : Cx} {wd : Nat} {t i : Tm} {j : Nat} {K : SK} {u : Value} (h : deepC X.ok X.w K u ((rows (X.v t)).getD ((X.i i).toNat * wd + j) Go.undef)) : Rel X (cellS wd t i j K) u := by
 unfold cellS
 split
 · rename_i l n
   have h0 := cellS0_rel (wd := wd) (t := .tup l) (i := .lit n) (j := j) h
   cases hc : cellS1 ((toL l)[n.toNat * wd + j]?) K with
   | none => exact h0
   | some x =>
     show Rel X x u
     have hrow : ∀ c, (toL l)[n.toNat * wd + j]? = some c → (rows (X.v (.tup l))).getD ((X.i (.lit n)).toNat * wd + j) Go.undef = denV X.ρ X.β c := fun c hcc => by
       show (rows (denV X.ρ X.β (.tup l))).getD (n.toNat * wd + j) Go.undef = _
       simp only [denV, rows]
       rw [denL_toL, List.getD_eq_getElem?_getD, List.getElem?_map, hcc]
       rfl
     unfold cellS1 at hc
     split at hc
     · rename_i k' a k hcc
       split at hc
       · rename_i hk
         subst hk
         obtain rfl := Option.some.inj hc
         rw [hrow _ hcc] at h
         exact h.1
       · cases hc
     · rename_i a hcc
       obtain rfl := Option.some.inj hc
       rw [hrow _ hcc] at h
       exact h.1
     · rename_i s hcc
       split at hc
       · rename_i hs
         obtain rfl := Option.some.inj hc
         rw [hrow _ hcc] at h
         rw [h.1]
         exact Rel.of (by unfold strT at hs; split at hs <;> first | rfl | cases hs)
       · cases hc
     · rename_i c r hcc
       obtain rfl := Option.some.inj hc
       rw [hrow _ hcc] at h
       exact ⟨h, fun _ _ h => by cases h⟩
     · cases hc
 · exact cellS0_rel h
def cellsS (wd : Nat) (t i : Tm) : Nat → List SK → List Tm
 | _, [] => []
 | j, k :: r => cellS wd t i j k :: cellsS wd t i (j + 1) r
theorem deepR_get {ok : Nat → Nat → Prop} {w : World} : ∀ (K : SK) (b off : Nat) (l : List Value) (j m : Nat) (a : SK), deepR ok w K b off l j → K.get m = some a → ∃ u, ok b (off + m) ∧ w.cell? ⟨b, off + m, none⟩ = some u ∧ deepC ok w a u (l.getD (j + m) Go.undef) := by
 intro K
 induction K with
 | cons a r _ ihr =>
   intro b off l j m q h hq
   cases m with
   | zero =>
     obtain ⟨⟨u, h1, h2, h3⟩, _⟩ := h
     simp only [SK.get, Option.some.injEq] at hq
     subst hq
     exact ⟨u, h1, h2, h3⟩
   | succ m =>
     obtain ⟨u, h1, h2, h3⟩ := ihr b (off + 1) l (j + 1) m q h.2 hq
     exact ⟨u, by rw [show off + (m + 1) = off + 1 + m by omega]; exact h1, by rw [show off + (m + 1) = off + 1 + m by omega]; exact h2, by rw [show j + (m + 1) = j + 1 + m by omega]; exact h3⟩
 | _ => intro b off l j m q h hq; simp [SK.get] at hq
def getAll (K : SK) : Nat → Nat → Option (List SK)
 | _, 0 => some []
 | off, n + 1 => match K.get off, getAll K (off + 1) n with
   | some a, some l => some (a :: l)
   | _, _ => none
theorem getAll_get {K : SK} : ∀ {n off : Nat} {l : List SK}, getAll K off n = some l → l.length = n ∧ ∀ (m : Nat) a, l[m]? = some a → K.get (off + m) = some a
 | 0, _, l, h => by obtain rfl := Option.some.inj h; simp
 | n + 1, off, l, h => by
   unfold getAll at h
   split at h
   · rename_i a r h1 h2
     obtain rfl := Option.some.inj h
     obtain ⟨k1, k2⟩ := getAll_get h2
     refine ⟨by simp [k1], fun m b hm => ?_⟩
     cases m with
     | zero => simp at hm; subst hm; exact h1
     | succ m => have := k2 m b (by simpa using hm); rwa [show off + 1 + m = off + (m + 1) by omega] at this
   · cases h
theorem r_load {P : Program} {w : World} {x : Addr} {v : Value} (h : w.cell? x = some v) : (load x).run P w = .ok v w := by
 unfold load
 simp only [Sem.run, h]
theorem r_loadCells {P : Program} {w : World} {b off : Nat} : ∀ (vs : List Value) (i : Nat) (acc : Array Value), (∀ j v, vs[j]? = some v → w.cell? ⟨b, off + (i + j), none⟩ = some v) →
   (loadCellsFrom ⟨b, off, none⟩ i vs.length acc).run P w = .ok (acc ++ vs.toArray) w
 | [], i, acc, _ => by simp [loadCellsFrom]
 | v :: r, i, acc, h => by
   have h0 := h 0 v rfl
   unfold loadCellsFrom
   simp only [List.length_cons]
   rw [Sem.run_bind, addr_add, r_load (by simpa using h0)]
   simp only [Result.andThen]
   rw [r_loadCells r (i + 1) (acc.push v) (fun j u hj => by have := h (j + 1) u (by simpa using hj); rw [show i + 1 + j = i + (j + 1) by omega]; exact this)]
   simp
theorem cellsS_rel {X : Cx} {wd : Nat} {t i : Tm} {f : Nat → Value} : ∀ (l : List SK) (j : Nat), (∀ (m : Nat) a, l[m]? = some a → deepC X.ok X.w a (f (j + m)) ((rows (X.v t)).getD ((X.i i).toNat * wd + (j + m)) Go.undef)) → RelT X (cellsS wd t i j l) ((List.range' j l.length).map f)
 | [], _, _ => trivial
 | a :: r, j, h => by
   simp only [cellsS, List.length_cons, List.range'_succ, List.map_cons]
   exact ⟨cellS_rel (h 0 a rfl), cellsS_rel r (j + 1) (fun m q hq => by have := h (m + 1) q (by simpa using hq); rwa [show j + (m + 1) = j + 1 + m by omega] at this)⟩
def evalLoadX (P : Program) (K : SK) (t : TypeId) (m i : Tm) (off : Nat) : Option Tm :=
 match P.underlying t, P.info? t with
 | some d, some inf =>
   if isAggD d then (getAll K off inf.size).map fun l => .agg (ofL (cellsS K.wd m i off l))
   else (K.get off).map fun a => cellS K.wd m i off a
 | _, _ => none
theorem evalLoadX_sound {P : Program} {X : Cx} {K : SK} {t : TypeId} {m i v : Tm} {off : Nat} {u : Value} (h : evalLoadX P K t m i off = some v) (hr : Rel X (.ep K m i off) u) : ∃ y, (Instr.loadAt t u).run P X.w = .ok y X.w ∧ Rel X v y := by
 obtain ⟨b, o, n, cap, ⟨p, n', cap', e1, g2, g3, g4, g4', g5, g6⟩, h0, h1, rfl⟩ := hr
 injection e1 with e1 e2 e3
 subst e1 e2 e3
 obtain ⟨b', o', e4, g7, g8⟩ := g6 (denI X.ρ X.β i).toNat (by omega)
 injection e4 with e4
 injection e4 with e4 e5
 subst e4 e5
 have hcell : ∀ (j : Nat) a, K.get j = some a → ∃ u, X.w.cell? ⟨b, o + (denI X.ρ X.β i).toNat * K.wd + j, none⟩ = some u ∧ deepC X.ok X.w a u ((rows (denV X.ρ X.β m)).getD ((denI X.ρ X.β i).toNat * K.wd + j) Go.undef) := fun j a hj => by
   obtain ⟨u, _, k2, k3⟩ := deepR_get _ _ _ _ _ _ _ g8 hj
   exact ⟨u, k2, k3⟩
 unfold evalLoadX at h
 split at h
 · rename_i d inf hd hi
   show ∃ y, (loadVar t _).run P X.w = .ok y X.w ∧ _
   unfold loadVar
   split at h
   · rename_i ha
     cases hl : getAll K off inf.size with
     | none => rw [hl] at h; cases h
     | some l =>
       rw [hl] at h
       obtain rfl := Option.some.inj h
       obtain ⟨l1, l2⟩ := getAll_get hl
       let f : Nat → Value := fun j => (X.w.cell? ⟨b, o + (denI X.ρ X.β i).toNat * K.wd + j, none⟩).getD Go.undef
       have hf : ∀ (j : Nat) a, l[j]? = some a → X.w.cell? ⟨b, o + (denI X.ρ X.β i).toNat * K.wd + (off + j), none⟩ = some (f (off + j)) ∧ deepC X.ok X.w a (f (off + j)) ((rows (denV X.ρ X.β m)).getD ((denI X.ρ X.β i).toNat * K.wd + (off + j)) Go.undef) := fun j a hj => by
         obtain ⟨u, k1, k2⟩ := hcell (off + j) a (l2 j a hj)
         have : f (off + j) = u := by show (X.w.cell? _).getD _ = u; rw [k1]; rfl
         rw [this]
         exact ⟨k1, k2⟩
       refine ⟨.agg ((List.range' off l.length).map f).toArray, ?_, ⟨_, rfl, ?_⟩⟩
       · rw [Sem.run_bind, r_isAgg hd]
         simp only [Result.andThen, ha, if_true, Sem.run_bind, r_sizeOf hi, loadCells]
         have := r_loadCells (P := P) (w := X.w) (b := b) (off := o + (denI X.ρ X.β i).toNat * K.wd + off) ((List.range' off l.length).map f) 0 #[] (fun j u hj => by
           rw [List.getElem?_map] at hj
           have hjl : j < l.length := by
             rcases Nat.lt_or_ge j l.length with h | h
             · exact h
             · rw [List.getElem?_eq_none (by simpa using h)] at hj; cases hj
           rw [List.getElem?_eq_getElem (by simpa using hjl)] at hj
           simp only [List.getElem_range', Nat.one_mul, Option.map_some, Option.some.injEq] at hj
           subst hj
           have := (hf j _ (List.getElem?_eq_getElem hjl)).1
           rw [Nat.zero_add]
           simpa [Nat.add_assoc] using this)
         rw [List.length_map, List.length_range', l1] at this
         rw [this, l1]
         simp
       · rw [relL_toL, toL_ofL]
         exact cellsS_rel l off fun j a hj => (hf j a hj).2
   · rename_i ha
     have hfa : isAggD d = false := by simpa using ha
     cases hl : K.get off with
     | none => rw [hl] at h; cases h
     | some a =>
       rw [hl] at h
       obtain rfl := Option.some.inj h
       obtain ⟨u, k1, k2⟩ := hcell off a hl
       refine ⟨u, ?_, cellS_rel k2⟩
       rw [Sem.run_bind, r_isAgg hd]
       simp only [Result.andThen, hfa, Bool.false_eq_true, if_false]
       rw [r_load k1]
 · cases h
theorem RelT.drop {X : Cx} : ∀ (n : Nat) {ts : List Tm} {vs : List Value}, RelT X ts vs → RelT X (ts.drop n) (vs.drop n)
 | 0, _, _, h => by simpa using h
 | n + 1, [], [], _ => by simp [RelT]
 | n + 1, [], _ :: _, h => h.elim
 | n + 1, _ :: _, [], h => h.elim
 | n + 1, _ :: ts, _ :: vs, h => by simpa using RelT.drop n h.2
theorem RelT.take {X : Cx} : ∀ (n : Nat) {ts : List Tm} {vs : List Value}, RelT X ts vs → RelT X (ts.take n) (vs.take n)
 | 0, _, _, _ => by simp [RelT]
 | n + 1, [], [], _ => by simp [RelT]
 | n + 1, [], _ :: _, h => h.elim
 | n + 1, _ :: _, [], h => h.elim
 | n + 1, _ :: ts, _ :: vs, h => by simp only [List.take_succ_cons]; exact ⟨h.1, RelT.take n h.2⟩
theorem RelT.app {X : Cx} : ∀ {ts us : List Tm} {vs xs : List Value}, RelT X ts vs → RelT X us xs → RelT X (ts ++ us) (vs ++ xs)
 | [], _, [], _, _, k => k
 | [], _, _ :: _, _, h, _ => h.elim
 | _ :: _, _, [], _, h, _ => h.elim
 | _ :: _, _, _ :: _, _, h, k => ⟨h.1, RelT.app h.2 k⟩
theorem r_part_rel {P : Program} {X : Cx} {t : TypeId} {l : List Tm} {vs : List Value} {off : Nat} {x : Tm} (h : partT P t l off = some x) (hr : RelT X l vs) (w : World) : ∃ y, (part t vs.toArray off).run P w = .ok y w ∧ Rel X x y := by
 unfold partT at h
 split at h
 · rename_i d i hd hi
   unfold part
   split at h
   · rename_i ha
     obtain rfl := Option.some.inj h
     refine ⟨.agg ((vs.drop off).take i.size).toArray, ?_, ⟨_, rfl, ?_⟩⟩
     · rw [Sem.run_bind, r_isAgg hd]
       simp only [Result.andThen, ha, if_true, Sem.run_bind, r_sizeOf hi]
       show Result.ok _ w = _
       congr 1
       congr 1
       simp [Array.ext_iff]
     · rw [relL_toL, toL_ofL]
       exact (hr.drop off).take i.size
   · rename_i ha
     obtain ⟨y, h1, h2⟩ := hr.get off x h
     refine ⟨y, ?_, h2⟩
     rw [Sem.run_bind, r_isAgg hd]
     simp [Result.andThen, ha, h1]
 · cases h
def evalField (P : Program) (t : TypeId) (x : Tm) (f : Nat) : Option Tm :=
 match P.underlying t with
 | some (.struct fs) => match fs[f]?, x with
   | some fld, .agg l => partT P fld.type (toL l) fld.offset
   | _, _ => none
 | _ => none
theorem evalField_sound {P : Program} {X : Cx} {w : World} {t : TypeId} {x v : Tm} {u : Value} {f : Nat} (h : evalField P t x f = some v) (hr : Rel X x u) : ∃ y, (Instr.field t u f).run P w = .ok y w ∧ Rel X v y := by
 unfold evalField at h
 split at h
 · rename_i fs hd
   split at h
   · rename_i fld l hf
     obtain ⟨vs, rfl, hl⟩ := hr
     obtain ⟨y, h1, h2⟩ := r_part_rel h ((relL_toL X l vs).1 hl) w
     refine ⟨y, ?_, h2⟩
     unfold Instr.field
     rw [Sem.run_bind, r_underlying hd]
     simp only [Result.andThen, hf, asAgg, Sem.run_bind, Sem.run_pure]
     exact h1
   · cases h
 · cases h
def evalIndex (P : Program) (t : TypeId) (x i : Tm) : Option (Tm × Tm) :=
 match P.underlying t with
 | some (.array len e) => match x, i, P.info? e with
   | .agg l, .int _ (.lit n), some inf => if 0 ≤ n ∧ n < (len : Int) then (partT P e (toL l) (n.toNat * inf.size)).map fun v => (.tt true, v) else none
   | _, _, _ => none
 | some .string => match i with
   | .int _ n => if strT x then some (mkAnd (mkCmp .le (.lit 0) n) (mkCmp .lt n (.blen x)), .int .u8 (.ofI (.vop .schr (.cons x (.cons (.int .i64 n) .nil))))) else none
   | _ => none
 | _ => none
theorem evalIndex_sound {P : Program} {X : Cx} {w : World} {t : TypeId} {x i v c : Tm} {u q : Value} (h : evalIndex P t x i = some (c, v)) (hr : Rel X x u) (hi : Rel X i q) (hc : denB X.ρ X.β c = true) : ∃ y, (Instr.index t u q).run P w = .ok y w ∧ Rel X v y := by
 unfold evalIndex at h
 split at h
 · rename_i len e hd
   split at h
   · rename_i l k n inf hin
     split at h
     · rename_i hn
       obtain ⟨vs, rfl, hl⟩ := hr
       simp only [Rel, denV, denI] at hi
       subst hi
       obtain ⟨v', hv', he⟩ := Option.map_eq_some_iff.1 h
       obtain ⟨_, rfl⟩ := Prod.mk.inj he
       obtain ⟨y, h1, h2⟩ := r_part_rel hv' ((relL_toL X l vs).1 hl) w
       refine ⟨y, ?_, h2⟩
       unfold Instr.index
       simp only [asIntOf, Sem.run_bind, Sem.run_pure, Result.andThen, r_underlying hd, hn, and_self, if_true, r_sizeOf hin]
       exact h1
     · cases h
   · cases h
 · rename_i hd
   split at h
   · rename_i k n
     split at h
     · rename_i hs
       obtain ⟨rfl, rfl⟩ := Prod.mk.inj (Option.some.inj h)
       obtain ⟨s, he⟩ := strT_den (ρ := X.ρ) (β := X.β) hs
       have hu : u = .string s := by
         have hfl : flat x = true := by unfold strT at hs; split at hs <;> first | rfl | cases hs
         rw [((flat_rel X x hfl).1 u).1 hr, he]
       subst hu
       simp only [Rel, denV] at hi
       subst hi
       rw [den_mkAnd, den_mkCmp _ _ _ _ _ rfl, den_mkCmp _ _ _ _ _ rfl, Bool.and_eq_true] at hc
       have h1 : 0 ≤ denI X.ρ X.β n := of_decide_eq_true (p := 0 ≤ denI X.ρ X.β n) hc.1
       have h2 := of_decide_eq_true (p := denI X.ρ X.β n < denI X.ρ X.β (.blen x)) hc.2
       have h3 : (denI X.ρ X.β n).toNat < s.size := by
         simp only [denI, he, strOf] at h2
         omega
       refine ⟨denV X.ρ X.β (.int .u8 (.ofI (.vop .schr (.cons x (.cons (.int .i64 n) .nil))))), ?_, Rel.of rfl⟩
       have h5 : s.data.toList.getD (denI X.ρ X.β n).toNat 0 = s[(denI X.ρ X.β n).toNat]'h3 := by
         rw [List.getD_eq_getElem?_getD, List.getElem?_eq_getElem (by simpa using h3)]
         rfl
       unfold Instr.index
       have h4 : (if 0 ≤ denI X.ρ X.β n then s[(denI X.ρ X.β n).toNat]? else none) = some (s[(denI X.ρ X.β n).toNat]'h3) := by
         rw [if_pos h1]; exact getElem?_pos s _ h3
       simp only [asIntOf, Sem.run_bind, Sem.run_pure, Result.andThen, r_underlying hd, h4, denV, denI, denL, VOp.den, he, strOf, intOf, h5]
     · cases h
   · cases h
 · cases h
def evalExtract (x : Tm) (i : Nat) : Option Tm :=
 match x with
 | .tup l => (toL l)[i]?
 | _ => none
theorem evalExtract_sound {P : Program} {X : Cx} {w : World} {x v : Tm} {u : Value} {i : Nat} (h : evalExtract x i = some v) (hr : Rel X x u) : ∃ y, (Instr.extract u i).run P w = .ok y w ∧ Rel X v y := by
 unfold evalExtract at h
 split at h
 · rename_i l
   obtain ⟨vs, rfl, hl⟩ := hr
   obtain ⟨y, h1, h2⟩ := ((relL_toL X l vs).1 hl).get i v h
   refine ⟨y, ?_, h2⟩
   simp [Instr.extract, h1]
 · cases h
def putAll {α : Type} (cells : List α) (off : Nat) : List α → List α
 | [] => cells
 | c :: r => putAll (cells.set off c) (off + 1) r
def fillT (place : Nat → Option (Nat × Nat)) (cells : List Tm) : List (Nat × Tm) → Option (List Tm)
 | [] => some cells
 | (i, v) :: rest =>
   match place i with
   | none => none
   | some (off, size) =>
     if known v = true ∧ (cellsT v).length = size ∧ off + (cellsT v).length ≤ cells.length then fillT place (putAll cells off (cellsT v)) rest else none
theorem putAll_length {α : Type} : ∀ (l cells : List α) (off : Nat), (putAll cells off l).length = cells.length
 | [], _, _ => rfl
 | c :: r, cells, off => by simp [putAll, putAll_length r]
theorem putAll_fold : ∀ (l : List Value) (cells : List Value) (off k : Nat),
   (l.zipIdx k).foldl (fun cs (p : Value × Nat) => cs.setIfInBounds (off + p.2) p.1) cells.toArray = (putAll cells (off + k) l).toArray
 | [], cells, off, k => rfl
 | c :: r, cells, off, k => by
   simp only [List.zipIdx_cons, List.foldl_cons, putAll]
   have := putAll_fold r (cells.set (off + k) c) off (k + 1)
   rw [← Nat.add_assoc] at this
   rw [← this]
   congr 1
   simp
theorem RelT.set {X : Cx} {t : Tm} {v : Value} (h1 : Rel X t v) : ∀ (off : Nat) {ts : List Tm} {vs : List Value}, RelT X ts vs → RelT X (ts.set off t) (vs.set off v)
 | _, [], [], _ => by simp [RelT]
 | _, [], _ :: _, h => h.elim
 | _, _ :: _, [], h => h.elim
 | 0, _ :: _, _ :: _, h => ⟨h1, h.2⟩
 | n + 1, _ :: _, _ :: _, h => ⟨h.1, RelT.set h1 n h.2⟩
theorem RelT.putAll {X : Cx} : ∀ {us : List Tm} {xs : List Value} (off : Nat) {ts : List Tm} {vs : List Value}, RelT X us xs → RelT X ts vs → RelT X (putAll ts off us) (putAll vs off xs)
 | [], [], _, _, _, _, h => h
 | [], _ :: _, _, _, _, k, _ => k.elim
 | _ :: _, [], _, _, _, k, _ => k.elim
 | u :: us, x :: xs, off, ts, vs, k, h => RelT.putAll (off + 1) k.2 (RelT.set k.1 off h)
def RelP (X : Cx) : List (Nat × Tm) → List (Nat × Value) → Prop
 | [], [] => True
 | a :: r, b :: s => a.1 = b.1 ∧ Rel X a.2 b.2 ∧ RelP X r s
 | _, _ => False
theorem fillT_sound {X : Cx} {place : Nat → Option (Nat × Nat)} : ∀ (parts : List (Nat × Tm)) (ps : List (Nat × Value)) (cells res : List Tm) (vs : List Value), fillT place cells parts = some res → RelP X parts ps → RelT X cells vs →
   ∃ ys : List Value, Instr.fill place vs.toArray ps = some ys.toArray ∧ RelT X res ys
 | [], [], cells, res, vs, h, _, hv => by obtain rfl := Option.some.inj h; exact ⟨vs, rfl, hv⟩
 | [], _ :: _, _, _, _, _, hp, _ => hp.elim
 | _ :: _, [], _, _, _, _, hp, _ => hp.elim
 | (i, v) :: rest, (i', x) :: ps, cells, res, vs, h, hp, hv => by
   obtain ⟨rfl, hx, hr⟩ := hp
   unfold fillT at h
   split at h
   · cases h
   · rename_i off size hpl
     split at h
     · rename_i hc
       obtain ⟨hk, hs, hl⟩ := hc
       obtain ⟨xs, hxc, hxr⟩ := cells_rel hk hx
       obtain ⟨ys, h1, h2⟩ := fillT_sound rest ps _ _ _ h hr (RelT.putAll off hxr hv)
       refine ⟨ys, ?_, h2⟩
       have hlen := hxr.length
       have hlv := hv.length
       simp only [Instr.fill, hpl, hxc]
       have h3 : xs.toArray.size = size := by simp; omega
       have h4 : ¬ (off + xs.toArray.size > vs.toArray.size) := by simp; omega
       simp only [h3, ne_eq, not_true_eq_false, decide_false, Bool.false_or]
       rw [h3] at h4
       simp only [h4, decide_false, Bool.false_eq_true, if_false]
       rw [← h1]
       congr 1
       have := putAll_fold xs vs off 0
       rw [Nat.add_zero] at this
       rw [← this]
       simp
     · cases h
/-! Part 6: what a slice holds, cell by cell; more put behind it. -/

def RowsOk (ok : Nat → Nat → Prop) (w : World) (K : SK) (xs cs : List Value) : Prop :=
 xs.length = cs.length ∧ ∀ (k : Nat) x, xs[k]? = some x → ∀ a, K.get (k % K.wd) = some a → deepC ok w a x (cs.getD k Go.undef)
theorem SK.get_lt : ∀ (K : SK) (j : Nat), j < K.wd → ∃ a, K.get j = some a := by
 intro K
 induction K with
 | cons a r _ ihr =>
   intro j hj
   cases j with
   | zero => exact ⟨a, rfl⟩
   | succ j => exact ihr j (by simp only [SK.wd] at hj; omega)
 | _ => intro j hj; simp [SK.wd] at hj
theorem SK.get_wd : ∀ (K : SK) (j : Nat) (a : SK), K.get j = some a → j < K.wd := by
 intro K
 induction K with
 | cons a r _ ihr =>
   intro j b hj
   cases j with
   | zero => simp [SK.wd]
   | succ j => have := ihr j b hj; simp only [SK.wd]; omega
 | _ => intro j a hj; simp [SK.get] at hj
theorem deepR_of {ok : Nat → Nat → Prop} {w : World} : ∀ (K : SK) (b off : Nat) (l : List Value) (j : Nat), (∀ (m : Nat) a, K.get m = some a → ∃ u, ok b (off + m) ∧ w.cell? ⟨b, off + m, none⟩ = some u ∧ deepC ok w a u (l.getD (j + m) Go.undef)) → deepR ok w K b off l j := by
 intro K
 induction K with
 | cons a r _ ihr =>
   intro b off l j h
   refine ⟨h 0 a rfl, ihr b (off + 1) l (j + 1) fun m q hq => ?_⟩
   have := h (m + 1) q hq
   rwa [show off + (m + 1) = off + 1 + m by omega, show j + (m + 1) = j + 1 + m by omega] at this
 | _ => intro b off l j _; exact trivial
theorem deep_cells {ok : Nat → Nat → Prop} {w : World} {K : SK} {p : Option Addr} {n cap : Nat} {c : Value} (h : deepC ok w (.sl K) (.slice p n cap) c) :
   c = .tuple (rows c).toArray ∧ (rows c).length = n * K.wd ∧ (n ≤ cap ∧ n ≤ 140737488355328) ∧ (p = none → cap = 0) ∧
   ∃ xs, RowsOk ok w K xs (rows c) ∧ ∀ (k : Nat) x, xs[k]? = some x → ∃ b off, p = some ⟨b, off, none⟩ ∧ b < w.heap.size ∧ ok b (off + k) ∧ w.cell? ⟨b, off + k, none⟩ = some x := by
 obtain ⟨p', n', cap', h1, h2, h3, h4, h4', h5, h6⟩ := h
 injection h1 with h1 h1' h1''
 subst h1 h1' h1''
 refine ⟨h2, h3, ⟨h4, h4'⟩, h5, ?_⟩
 have hk : ∀ k, k < n * K.wd → ∃ x, (∀ a, K.get (k % K.wd) = some a → deepC ok w a x ((rows c).getD k Go.undef)) ∧ ∃ b off, p = some ⟨b, off, none⟩ ∧ b < w.heap.size ∧ ok b (off + k) ∧ w.cell? ⟨b, off + k, none⟩ = some x := by
   intro k hk
   have hw : 0 < K.wd := by
     rcases Nat.eq_zero_or_pos K.wd with h | h
     · rw [h] at hk; omega
     · exact h
   have hi : k / K.wd < n := (Nat.div_lt_iff_lt_mul hw).2 hk
   obtain ⟨b, off, g1, g2, g3⟩ := h6 _ hi
   obtain ⟨a, ha⟩ := K.get_lt (k % K.wd) (Nat.mod_lt _ hw)
   obtain ⟨u, k1, k2, k3⟩ := deepR_get _ _ _ _ _ _ _ g3 ha
   have hdm : k / K.wd * K.wd + k % K.wd = k := by rw [Nat.mul_comm]; exact Nat.div_add_mod k K.wd
   rw [Nat.add_assoc, hdm] at k1 k2
   rw [hdm] at k3
   exact ⟨u, fun q hq => by rw [ha] at hq; obtain rfl := Option.some.inj hq; exact k3, b, off, g1, g2, k1, k2⟩
 refine ⟨(List.range (n * K.wd)).map fun k => if h : k < n * K.wd then (hk k h).choose else Go.undef, ⟨by simp [h3], fun k x hx => ?_⟩, fun k x hx => ?_⟩
 all_goals
   have hlt : k < n * K.wd := by
     rcases Nat.lt_or_ge k (n * K.wd) with h | h
     · exact h
     · rw [List.getElem?_eq_none (by simpa using h)] at hx; cases hx
   rw [List.getElem?_map, List.getElem?_range hlt] at hx
   simp only [Option.map_some, Option.some.injEq, dif_pos hlt] at hx
   subst hx
 · exact (hk k hlt).choose_spec.1
 · exact (hk k hlt).choose_spec.2
theorem deep_of_cells {ok : Nat → Nat → Prop} {w : World} {K : SK} {p : Option Addr} {n cap : Nat} {l xs : List Value} (h1 : l.length = n * K.wd) (h2 : n ≤ cap) (h2' : n ≤ 140737488355328) (h3 : p = none → cap = 0) (h4 : RowsOk ok w K xs l) (h0 : 0 < K.wd)
   (h5 : ∀ (k : Nat) x, xs[k]? = some x → ∃ b off, p = some ⟨b, off, none⟩ ∧ b < w.heap.size ∧ ok b (off + k) ∧ w.cell? ⟨b, off + k, none⟩ = some x) : deepC ok w (.sl K) (.slice p n cap) (.tuple l.toArray) := by
 have hr : rows (.tuple l.toArray) = l := rfl
 have hxl : xs.length = n * K.wd := by rw [h4.1, h1]
 refine ⟨p, n, cap, rfl, by rw [hr], by rw [hr]; exact h1, h2, h2', h3, fun i hi => ?_⟩
 have hin : ∀ m, m < K.wd → i * K.wd + m < n * K.wd := fun m hm => by
   have := Nat.mul_le_mul_right K.wd (show i + 1 ≤ n from hi)
   rw [Nat.succ_mul] at this
   omega
 obtain ⟨b, off, g1, g2, _, _⟩ := h5 (i * K.wd + 0) _ (List.getElem?_eq_getElem (by rw [hxl]; exact hin 0 h0))
 refine ⟨b, off, g1, g2, deepR_of _ _ _ _ _ fun m a ha => ?_⟩
 have hm := K.get_wd _ _ ha
 have hk := hin m hm
 have hx := List.getElem?_eq_getElem (show i * K.wd + m < xs.length by rw [hxl]; exact hk)
 obtain ⟨b', off', e1, e2, e3, e4⟩ := h5 _ _ hx
 rw [g1] at e1
 injection e1 with e1
 injection e1 with e1 e5
 subst e1 e5
 refine ⟨_, by rw [Nat.add_assoc]; exact e3, by rw [Nat.add_assoc]; exact e4, ?_⟩
 have := h4.2 _ _ hx a (by rw [Nat.mul_comm, Nat.mul_add_mod]; rw [Nat.mod_eq_of_lt hm]; exact ha)
 rw [hr]
 exact this
theorem RowsOk.mono {ok ok' : Nat → Nat → Prop} {w w' : World} {K : SK} {xs cs : List Value} (h : RowsOk ok w K xs cs) (g : Kept ok ok' w w') : RowsOk ok' w' K xs cs :=
 ⟨h.1, fun k x hx a ha => (deep_mono g a).1 _ _ (h.2 k x hx a ha)⟩
theorem RowsOk.app {ok : Nat → Nat → Prop} {w : World} {K : SK} {xs cs ys ds : List Value} {n : Nat} (h : RowsOk ok w K xs cs) (k : RowsOk ok w K ys ds) (hn : cs.length = n * K.wd) : RowsOk ok w K (xs ++ ys) (cs ++ ds) := by
 refine ⟨by simp [h.1, k.1], fun i x hx a ha => ?_⟩
 rcases Nat.lt_or_ge i xs.length with hi | hi
 · rw [List.getElem?_append_left hi] at hx
   have : (cs ++ ds).getD i Go.undef = cs.getD i Go.undef := by
     simp only [List.getD_eq_getElem?_getD]; rw [List.getElem?_append_left (by rw [← h.1]; exact hi)]
   rw [this]
   exact h.2 i x hx a ha
 · rw [List.getElem?_append_right hi] at hx
   have : (cs ++ ds).getD i Go.undef = ds.getD (i - xs.length) Go.undef := by
     simp only [List.getD_eq_getElem?_getD]; rw [List.getElem?_append_right (by rw [← h.1]; exact hi), h.1]
   rw [this]
   refine k.2 _ x hx a ?_
   rw [h.1, hn]
   rw [h.1, hn] at hi
   have e : i = i - n * K.wd + K.wd * n := by rw [Nat.mul_comm K.wd n]; omega
   rw [e, Nat.add_mul_mod_self_left] at ha
   exact ha
theorem deepC_one {ok : Nat → Nat → Prop} {w : World} {K : SK} {v c : Value} (h : deepC ok w K v c) : v.oneCell' = true := by
 cases K with
 | int k => obtain ⟨rfl, h⟩ := h; rw [h]; rfl
 | bool => obtain ⟨rfl, h⟩ := h; rw [h]; rfl
 | str => obtain ⟨rfl, h⟩ := h; rw [h]; rfl
 | sl r => obtain ⟨p, n, cap, rfl, _⟩ := h; rfl
 | _ => exact h.elim
theorem RowsOk.one {ok : Nat → Nat → Prop} {w : World} {K : SK} {xs cs : List Value} (h : RowsOk ok w K xs cs) (h0 : 0 < K.wd) : ∀ u ∈ xs, u.oneCell' = true := by
 intro u hu
 obtain ⟨k, hk⟩ := List.getElem?_of_mem hu
 obtain ⟨a, ha⟩ := K.get_lt (k % K.wd) (Nat.mod_lt _ h0)
 exact deepC_one (h.2 k u hk a ha)
def topBlk : Value → Option Nat
 | .slice (some a) _ cap => if cap = 0 then none else some a.block
 | _ => none
def lenOfV : Value → Nat
 | .slice _ n _ => n
 | _ => 0
def thawed (fz : Nat × Nat) (n : Nat) : Prop := fz = (0, 0) ∨ n ≤ fz.1
theorem run_storeCells_T (P : Program) (g o : Nat) (t : TypeId) (fz : Nat × Nat) : ∀ (vs : List Value) (i : Nat) (cur : Array Value) (w : World), w.heap[g]? = some (.cells cur t fz) → thawed fz cur.size → o + i + vs.length ≤ cur.size → (∀ v ∈ vs, v.oneCell' = true) →
   (storeCells ⟨g, o, none⟩ vs i).run P w = .ok () (w.setRow g (cur.toList.take (o + i) ++ vs ++ cur.toList.drop (o + i + vs.length)).toArray)
 | [], i, cur, w, hg, _, _, _ => by
   simp only [storeCells, List.append_nil, List.length_nil, Nat.add_zero, List.take_append_drop, Array.toArray_toList]
   rw [setRow_self w g cur t fz hg]
   rfl
 | v :: rest, i, cur, w, hg, hfz, hl, h1 => by
   have hi : o + i < cur.size := by simp at hl; omega
   have hadd : (⟨g, o, none⟩ : Addr).add i = ⟨g, o + i, none⟩ := by unfold Addr.add; split <;> simp_all
   have hcell : w.cell? ⟨g, o + i, none⟩ = some cur[o + i] := by simp [World.cell?, hg, hi]
   have hfro : w.frozen? ⟨g, o + i, none⟩ = false := by
     rcases hfz with rfl | hfz
     · simp [World.frozen?, hg]
     · simp [World.frozen?, hg]; omega
   have hst : (store ((⟨g, o, none⟩ : Addr).add i) v).run P w = .ok () (w.setRow g (cur.setIfInBounds (o + i) v)) := by
     rw [hadd, run_store P w _ v _ (h1 v (by simp)), hcell]
     simp [hfro, setCell_eq_setRow w g (o + i) cur t fz v hg]
   have ih := run_storeCells_T P g o t fz rest (i + 1) (cur.setIfInBounds (o + i) v) (w.setRow g (cur.setIfInBounds (o + i) v)) (setRow_heap w g cur _ t _ hg) (by rw [Array.size_setIfInBounds]; exact hfz) (by simp at hl ⊢; omega) (fun x hx => h1 x (by simp [hx]))
   simp only [storeCells, Sem.run_bind, hst, Result.andThen_ok, ih, setRow_setRow]
   congr 3
   have e := list_seg_step cur.toList (o + i) v rest (by simp at hl ⊢; omega)
   simpa [Array.toList_setIfInBounds, Nat.add_assoc] using e
theorem run_append_room_T {P : Program} (w : World) (t ty e : TypeId) (i : TypeInfo) (ht : P.underlying t = some (.slice e)) (hi : P.info? e = some i)
   (g sLen sCap : Nat) (cur : Array Value) (fz : Nat × Nat) (hg : w.heap[g]? = some (.cells cur e fz)) (hfz : thawed fz cur.size)
   (a : Addr) (m c : Nat) (news : List Value) (hl : news.length = m * i.size) (hnews : ∀ j u, news[j]? = some u → w.cell? (a.add j) = some u) (h1 : ∀ u ∈ news, u.oneCell' = true)
   (hroom : sLen + m ≤ sCap) (hfit : sLen * i.size + news.length ≤ cur.size) :
   (Builtin.append_ #[t, t] ty #[.slice (some ⟨g, 0, none⟩) sLen sCap, .slice (some a) m c]).run P w =
     .ok (.slice (some ⟨g, 0, none⟩) (sLen + m) sCap) (w.setRow g (cur.toList.take (sLen * i.size) ++ news ++ cur.toList.drop (sLen * i.size + news.length)).toArray) := by
 have hf := run_firstCells_some (P := P) w i.size m a m c news hl hnews
 have hst := run_storeCells_T P g (sLen * i.size) e fz news 0 cur w hg hfz (by simpa using hfit) h1
 simp only [Nat.add_zero] at hst
 simp [Builtin.append_, run_underlying ht, sizeOf, typeInfo, hi, Builtin.lenOf, hroom, hf, Addr.add_lit, hst]
def TopOk (w : World) (T : Top) : Prop :=
 ∃ p n cap, T.u = .slice p n cap ∧ n ≤ cap ∧ cap ≤ maxLen ∧ (p = none → cap = 0) ∧ (cap = 0 ∨ ∃ g cur fz, p = some ⟨g, 0, none⟩ ∧ w.heap[g]? = some (.cells cur T.e fz) ∧ cur.size = cap * T.sz ∧ thawed fz cur.size)
theorem TopOk.lt {w : World} {T : Top} (h : TopOk w T) {b : Nat} (hb : topBlk T.u = some b) : b < w.heap.size := by
 obtain ⟨p, n, cap, hu, h1, h2, h3, h4⟩ := h
 rw [hu] at hb
 rcases h4 with h4 | ⟨g, cur, _, rfl, hg, _⟩
 · subst h4
   cases p <;> simp [topBlk] at hb
 · simp only [topBlk] at hb
   split at hb
   · cases hb
   · obtain rfl := Option.some.inj hb
     exact (Array.getElem?_eq_some_iff.1 hg).1
theorem TopOk.same {w w' : World} {T : Top} (h : TopOk w T) (hs : ∀ b, topBlk T.u = some b → w'.heap[b]? = w.heap[b]?) : TopOk w' T := by
 obtain ⟨p, n, cap, hu, h1, h2, h3, h4⟩ := h
 refine ⟨p, n, cap, hu, h1, h2, h3, ?_⟩
 rcases h4 with h4 | ⟨g, cur, fz, rfl, hg, hc⟩
 · exact .inl h4
 · by_cases h0 : cap = 0
   · exact .inl h0
   · exact .inr ⟨g, cur, fz, rfl, by rw [hs g (by rw [hu]; simp [topBlk, h0])]; exact hg, hc⟩
theorem cell_row {w : World} {g : Nat} {cur : Array Value} {e : TypeId} {fz : Nat × Nat} (h : w.heap[g]? = some (.cells cur e fz)) (off : Nat) : w.cell? ⟨g, off, none⟩ = cur[off]? := by
 simp [World.cell?, h]
theorem app_run {P : Program} (w : World) (t ty e : TypeId) (i : TypeInfo) (z : Value) (ht : P.underlying t = some (.slice e)) (hi : P.info? e = some i) (hz : i.zero = some z) (hzs : z.cells.size = i.size) (h0 : 0 < i.size)
   {p : Option Addr} {n cap : Nat} (hT : TopOk w ⟨.slice p n cap, e, i.size⟩) (xs : List Value) (hxl : xs.length = n * i.size) (hxs : ∀ (k : Nat) x, xs[k]? = some x → ∃ b off, p = some ⟨b, off, none⟩ ∧ w.cell? ⟨b, off + k, none⟩ = some x)
   {q : Option Addr} {m c : Nat} (ys : List Value) (hyl : ys.length = m * i.size) (hys : ∀ (k : Nat) x, ys[k]? = some x → ∃ b off, q = some ⟨b, off, none⟩ ∧ w.cell? ⟨b, off + k, none⟩ = some x) (hq : q = none → m = 0) (h1 : ∀ u ∈ ys, u.oneCell' = true)
   (h63 : n + m ≤ maxLen) (hb : (n + m) * i.bytes ≤ 140737488355328) :
   ∃ p' cap' w', (Builtin.append_ #[t, t] ty #[.slice p n cap, .slice q m c]).run P w = .ok (.slice p' (n + m) cap') w' ∧ TopOk w' ⟨.slice p' (n + m) cap', e, i.size⟩ ∧
     w.grownBy w' (topBlk (.slice p n cap)) ∧ (∀ b off, b < w.heap.size → (∀ g, topBlk (.slice p n cap) = some g → b = g → off < n * i.size) → w'.cell? ⟨b, off, none⟩ = w.cell? ⟨b, off, none⟩) ∧
     (∀ g, topBlk (.slice p' (n + m) cap') = some g → topBlk (.slice p n cap) = some g ∨ w.heap.size ≤ g) ∧
     (∀ (k : Nat) x, (xs ++ ys)[k]? = some x → ∃ b off, p' = some ⟨b, off, none⟩ ∧ b < w'.heap.size ∧ w'.cell? ⟨b, off + k, none⟩ = some x ∧ topBlk (.slice p' (n + m) cap') = some b ∧ off = 0) := by
 obtain ⟨p1, n1, cap1, e1, t1, t2, t3, t4⟩ := hT
 injection e1 with e1 e2 e3
 subst e1 e2 e3
 simp only [maxLen] at t2 h63
 have hcapd : n + m ≤ maxLen := by simp only [maxLen]; omega
 have new : ∀ (old : Nat) (cells : Array Value), cells.size = grownCap w (n + m) old e * i.size → cells.toList.take (xs ++ ys).length = xs ++ ys → 0 < n + m →
     TopOk (w.drew.alloc (.cells cells e)) ⟨.slice (some ⟨w.heap.size, 0, none⟩) (n + m) (grownCap w (n + m) old e), e, i.size⟩ ∧
     w.grownBy (w.drew.alloc (.cells cells e)) (topBlk (.slice p n cap)) ∧ (∀ b off, b < w.heap.size → (∀ g, topBlk (.slice p n cap) = some g → b = g → off < n * i.size) → (w.drew.alloc (.cells cells e)).cell? ⟨b, off, none⟩ = w.cell? ⟨b, off, none⟩) ∧
     (∀ g, topBlk (.slice (some ⟨w.heap.size, 0, none⟩) (n + m) (grownCap w (n + m) old e)) = some g → topBlk (.slice p n cap) = some g ∨ w.heap.size ≤ g) ∧
     (∀ (k : Nat) x, (xs ++ ys)[k]? = some x → ∃ b off, (some ⟨w.heap.size, 0, none⟩ : Option Addr) = some ⟨b, off, none⟩ ∧ b < (w.drew.alloc (.cells cells e)).heap.size ∧ (w.drew.alloc (.cells cells e)).cell? ⟨b, off + k, none⟩ = some x ∧ topBlk (.slice (some ⟨w.heap.size, 0, none⟩) (n + m) (grownCap w (n + m) old e)) = some b ∧ off = 0) := by
   intro old cells hsz htk hnm
   have hge := grownCap_ge w (n + m) old e
   have hcm := grownCap_le_maxLen w (n + m) old e hcapd
   have hh : (w.drew.alloc (.cells cells e)).heap[w.heap.size]? = some (.cells cells e (0, 0)) := heap_alloc_new w.drew _
   refine ⟨⟨_, _, _, rfl, hge, hcm, by simp, .inr ⟨w.heap.size, cells, _, rfl, hh, hsz, .inl rfl⟩⟩, ⟨rfl, rfl, rfl, by simp, fun k hk _ => Below.heap_alloc w.drew _ k hk⟩, fun b off hb _ => ?_, fun g hg => ?_, fun k x hx => ?_⟩
   · exact World.cell?_of_block (Below.heap_alloc w.drew _ b hb)
   · simp only [topBlk] at hg
     split at hg
     · cases hg
     · obtain rfl := Option.some.inj hg; exact .inr (Nat.le_refl _)
   · refine ⟨w.heap.size, 0, rfl, by simp, ?_, by simp [topBlk]; omega, rfl⟩
     rw [cell_row hh, Nat.zero_add]
     rw [← Array.getElem?_toList]
     have hlt : k < (xs ++ ys).length := by
       rcases Nat.lt_or_ge k (xs ++ ys).length with h | h
       · exact h
       · rw [List.getElem?_eq_none h] at hx; cases hx
     have hx2 : (cells.toList.take (xs ++ ys).length)[k]? = some x := by rw [htk]; exact hx
     rw [List.getElem?_take, if_pos hlt] at hx2
     exact hx2
 have hys' : ∀ a, q = some a → ∀ j u, ys[j]? = some u → w.cell? (a.add j) = some u := fun a ha j u hj => by
   obtain ⟨b, off, k1, k2⟩ := hys j u hj
   rw [ha] at k1
   obtain rfl := Option.some.inj k1
   rw [addr_add]
   exact k2
 have hxs' : ∀ a, p = some a → ∀ j u, xs[j]? = some u → w.cell? (a.add j) = some u := fun a ha j u hj => by
   obtain ⟨b, off, k1, k2⟩ := hxs j u hj
   rw [ha] at k1
   obtain rfl := Option.some.inj k1
   rw [addr_add]
   exact k2
 have stay : m = 0 → n ≤ cap → ∃ p' cap' w', (Except.ok (Value.slice p n cap, w) : Except Unit (Value × World)) = Except.ok (.slice p' (n + m) cap', w') ∧ TopOk w' ⟨.slice p' (n + m) cap', e, i.size⟩ ∧
     w.grownBy w' (topBlk (.slice p n cap)) ∧ (∀ b off, b < w.heap.size → (∀ g, topBlk (.slice p n cap) = some g → b = g → off < n * i.size) → w'.cell? ⟨b, off, none⟩ = w.cell? ⟨b, off, none⟩) ∧
     (∀ g, topBlk (.slice p' (n + m) cap') = some g → topBlk (.slice p n cap) = some g ∨ w.heap.size ≤ g) ∧
     (∀ (k : Nat) x, (xs ++ ys)[k]? = some x → ∃ b off, p' = some ⟨b, off, none⟩ ∧ b < w'.heap.size ∧ w'.cell? ⟨b, off + k, none⟩ = some x ∧ topBlk (.slice p' (n + m) cap') = some b ∧ off = 0) := by
   intro hm _
   subst hm
   have hy : ys = [] := List.eq_nil_of_length_eq_zero (by simpa using hyl)
   subst hy
   refine ⟨p, cap, w, rfl, ⟨p, n, cap, rfl, t1, by simp only [maxLen]; omega, t3, t4⟩, ⟨rfl, rfl, rfl, Nat.le_refl _, fun _ _ _ => rfl⟩, fun _ _ _ _ => rfl, fun g hg => .inl hg, fun k x hx => ?_⟩
   rw [List.append_nil] at hx
   have hk : k < xs.length := by
     rcases Nat.lt_or_ge k xs.length with h | h
     · exact h
     · rw [List.getElem?_eq_none h] at hx; cases hx
   have hn : 0 < n := by
     rcases Nat.eq_zero_or_pos n with h | h
     · subst h; rw [hxl] at hk; omega
     · exact h
   rcases t4 with t4 | ⟨g, cur, _, rfl, hg, _⟩
   · omega
   · obtain ⟨b, off, k1, k2⟩ := hxs k x hx
     injection k1 with k1
     injection k1 with k1 k3
     subst k1 k3
     exact ⟨g, 0, rfl, (Array.getElem?_eq_some_iff.1 hg).1, k2, by simp [topBlk]; omega, rfl⟩
 by_cases hm : m = 0
 · obtain ⟨p', cap', w', he, hrest⟩ := stay hm t1
   injection he with he
   obtain ⟨he1, rfl⟩ := Prod.mk.inj he
   refine ⟨p', cap', w, ?_, hrest⟩
   rw [← he1]
   subst hm
   have hy : ys = [] := List.eq_nil_of_length_eq_zero (by simpa using hyl)
   subst hy
   rcases q with _ | a
   · rcases p with _ | pa
     · obtain rfl := t3 rfl
       obtain rfl : n = 0 := by omega
       simp [Builtin.append_, run_underlying ht, sizeOf, typeInfo, hi, Builtin.lenOf, Builtin.firstCells, loadCells, loadCellsFrom]
     · simp [Builtin.append_, run_underlying ht, sizeOf, typeInfo, hi, Builtin.lenOf, Builtin.firstCells, loadCells, loadCellsFrom, t1, storeCells]
   · rcases p with _ | pa
     · obtain rfl := t3 rfl
       obtain rfl : n = 0 := by omega
       simp [Builtin.append_, run_underlying ht, sizeOf, typeInfo, hi, Builtin.lenOf, Builtin.firstCells, loadCells, loadCellsFrom]
     · simp [Builtin.append_, run_underlying ht, sizeOf, typeInfo, hi, Builtin.lenOf, Builtin.firstCells, loadCells, loadCellsFrom, t1, storeCells]
 · obtain ⟨a, rfl⟩ : ∃ a, q = some a := by
     cases q with
     | none => exact absurd (hq rfl) hm
     | some a => exact ⟨a, rfl⟩
   rcases p with _ | pa
   · obtain rfl := t3 rfl
     obtain rfl : n = 0 := by omega
     have hx : xs = [] := List.eq_nil_of_length_eq_zero (by simpa using hxl)
     subst hx
     have hr := run_append_nil (P := P) w t ty e i z ht hi hz a m c ys hyl (hys' a rfl) (by omega) (by omega) (by rw [Nat.zero_add] at hb; omega)
     have hge := grownCap_ge w (0 + m) 0 e
     have hge2 := grownCap_ge w m 0 e
     have := new 0 (([] : List Value).toArray ++ ys.toArray ++ Builtin.zeroCells z.cells (grownCap w (0 + m) 0 e - (0 + m))) (by
       simp only [Array.size_append, List.size_toArray, size_zeroCells, hzs, hyl, List.length_nil, Nat.zero_add, ← Nat.add_mul]
       congr 1; omega) (by rw [Array.toList_append, Array.toList_append]; exact List.take_left) (by omega)
     refine ⟨some ⟨w.heap.size, 0, none⟩, grownCap w (0 + m) 0 e, _, ?_, this⟩
     simp only [Nat.zero_add] at hr ⊢
     rw [hr]
     simp
   · by_cases hroom : n + m ≤ cap
     · rcases t4 with t4 | ⟨g, cur, fz, e4, hg, hcs, hfz⟩
       · omega
       · obtain rfl := Option.some.inj e4
         have hfit : n * i.size + ys.length ≤ cur.size := by
           show _ ≤ cur.size
           have hcs' : cur.size = cap * i.size := hcs
           rw [hyl, hcs', ← Nat.add_mul]; exact Nat.mul_le_mul_right _ hroom
         have hr := run_append_room_T (P := P) w t ty e i ht hi g n cap cur fz hg hfz a m c ys hyl (hys' a rfl) h1 hroom hfit
         have hcap : cap ≠ 0 := by omega
         have hsame : ∀ k, k ≠ g → (w.setRow g (cur.toList.take (n * i.size) ++ ys ++ cur.toList.drop (n * i.size + ys.length)).toArray).heap[k]? = w.heap[k]? := fun k hk => setRow_other w g k _ hk
         have hset := setRow_heap w g cur (cur.toList.take (n * i.size) ++ ys ++ cur.toList.drop (n * i.size + ys.length)).toArray e fz hg
         have htk : (cur.toList.take (n * i.size)).length = n * i.size := by
           rw [List.length_take, Array.length_toList]; omega
         have hold : ∀ off, off < n * i.size → (w.setRow g (cur.toList.take (n * i.size) ++ ys ++ cur.toList.drop (n * i.size + ys.length)).toArray).cell? ⟨g, off, none⟩ = w.cell? ⟨g, off, none⟩ := fun off ho => by
           rw [cell_row hset, cell_row hg, List.getElem?_toArray, List.append_assoc, List.getElem?_append_left (by rw [htk]; exact ho), List.getElem?_take, if_pos ho, Array.getElem?_toList]
         refine ⟨some ⟨g, 0, none⟩, cap, _, hr, ⟨_, _, _, rfl, hroom, by simp only [maxLen]; omega, by simp, .inr ⟨g, _, _, rfl, hset, ?_, ?_⟩⟩, ⟨rfl, rfl, rfl, by simp, fun k _ hk => hsame k (fun e => hk (by simp [topBlk, hcap, e]))⟩, fun b off hb hlt => ?_, fun k hk => .inl (by simpa [topBlk, hcap] using hk), fun k x hx => ?_⟩
         · have hcs' : cur.size = cap * i.size := hcs
           show _ = cap * i.size
           simp only [List.size_toArray, List.length_append, List.length_take, List.length_drop, Array.length_toList]
           omega
         · have hsz2 : (cur.toList.take (n * i.size) ++ ys ++ cur.toList.drop (n * i.size + ys.length)).toArray.size = cur.size := by
             simp only [List.size_toArray, List.length_append, List.length_take, List.length_drop, Array.length_toList]
             omega
           rw [hsz2]
           exact hfz
         · by_cases hbg : b = g
           · subst hbg
             exact hold off (hlt b (by simp [topBlk, hcap]) rfl)
           · exact World.cell?_of_block (hsame b hbg)
         · refine ⟨g, 0, rfl, (Array.getElem?_eq_some_iff.1 hset).1, ?_, by simp [topBlk, hcap], rfl⟩
           rw [Nat.zero_add]
           rcases Nat.lt_or_ge k xs.length with hk | hk
           · rw [hold k (by rw [← hxl]; exact hk)]
             rw [List.getElem?_append_left hk] at hx
             obtain ⟨b, off, k1, k2⟩ := hxs k x hx
             injection k1 with k1
             injection k1 with k1 k3
             subst k1 k3
             rw [Nat.zero_add] at k2
             exact k2
           · rw [List.getElem?_append_right hk] at hx
             have hkl : k - xs.length < ys.length := by
               rcases Nat.lt_or_ge (k - xs.length) ys.length with h | h
               · exact h
               · rw [List.getElem?_eq_none h] at hx; cases hx
             rw [cell_row hset, List.getElem?_toArray, List.append_assoc, List.getElem?_append_right (by rw [htk, ← hxl]; exact hk), List.getElem?_append_left (by rw [htk, ← hxl]; exact hkl), htk, ← hxl]
             exact hx
     · have hr := run_append_grow (P := P) w t ty e i z ht hi hz pa n cap xs hxl (hxs' pa rfl) a m c ys hyl (hys' a rfl) (by omega) (by omega) (growslice_fits (by omega) hb)
       have hge := grownCap_ge w (n + m) cap e
       have := new cap (xs.toArray ++ ys.toArray ++ Builtin.zeroCells z.cells (grownCap w (n + m) cap e - (n + m))) (by
         simp only [Array.size_append, List.size_toArray, size_zeroCells, hzs, hxl, hyl, ← Nat.add_mul]
         congr 1; omega) (by rw [Array.toList_append, Array.toList_append]; exact List.take_left) (by omega)
       exact ⟨some ⟨w.heap.size, 0, none⟩, grownCap w (n + m) cap e, _, hr, this⟩
abbrev lm_ : Tm := .lit (-9223372036854775808)
abbrev lM_ : Tm := .lit 9223372036854775807
abbrev an_ (a b : Tm) : Tm := .b2 .and a b
abbrev le_ (a b : Tm) : Tm := .b2 .le a b
abbrev lt_ (a b : Tm) : Tm := .b2 .lt a b
abbrev eq_ (a b : Tm) : Tm := .b2 .eq a b
abbrev sb_ (a b : Tm) : Tm := .i2 .sub a b
abbrev ad_ (a b : Tm) : Tm := .i2 .add a b
abbrev ml_ (a b : Tm) : Tm := .i2 .mul a b
abbrev wr_ (a : Tm) : Tm := .wrap .i64 a
abbrev z0_ : Tm := .int .i64 (.var 0)
abbrev v0_ : Tm := .var 0
abbrev o0_ : Tm := .opq 0
abbrev z1_ : Tm := .int .i64 (.var 1)
abbrev v1_ : Tm := .var 1
abbrev o1_ : Tm := .opq 1
abbrev z2_ : Tm := .int .i64 (.var 2)
abbrev v2_ : Tm := .var 2
abbrev o2_ : Tm := .opq 2
abbrev z3_ : Tm := .int .i64 (.var 3)
abbrev v3_ : Tm := .var 3
abbrev o3_ : Tm := .opq 3
abbrev z4_ : Tm := .int .i64 (.var 4)
abbrev v4_ : Tm := .var 4
abbrev o4_ : Tm := .opq 4
abbrev z5_ : Tm := .int .i64 (.var 5)
abbrev v5_ : Tm := .var 5
abbrev o5_ : Tm := .opq 5
abbrev z6_ : Tm := .int .i64 (.var 6)
abbrev v6_ : Tm := .var 6
abbrev o6_ : Tm := .opq 6
abbrev z7_ : Tm := .int .i64 (.var 7)
abbrev v7_ : Tm := .var 7
abbrev o7_ : Tm := .opq 7
abbrev z8_ : Tm := .int .i64 (.var 8)
abbrev v8_ : Tm := .var 8
abbrev o8_ : Tm := .opq 8
abbrev z9_ : Tm := .int .i64 (.var 9)
abbrev v9_ : Tm := .var 9
abbrev o9_ : Tm := .opq 9
