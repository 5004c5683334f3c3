/-
  Symbolic walks by reflection: a function's text is walked over terms by a Lean function; if the tree that comes of it holds, the program does as the tree says.
-/
import Derived.Below
import Derived.OrdersHeld
import Derived.WalkSmall
import Derived.KernelRfl
import Derived.Laws.IdiomCopy
namespace Go.Proofs.YtflckmhlobpfiaaDoor.Sx
open Go Go.RowKit
set_option linter.unusedVariables false
set_option linter.unusedSimpArgs false
set_option linter.unnecessarySimpa false
/-! Part 1: terms, what they stand for. -/

inductive I2 where | add | sub | mul | quo | rem | max | min | bits (o : BinOp) (k : IntKind) | shl (k : IntKind) | shr (k : IntKind)
  deriving DecidableEq
inductive B2 where | lt | le | eq | and | or | beq
  deriving DecidableEq
inductive Cst where | nilI | nilP | nilS | nilF | undef | fn (f : Nat) | strc (l : List Nat) | flt (k : FloatKind) (b : Nat) | cpx (k : FloatKind) (a b : Nat)
  deriving DecidableEq
/-- terms: integers, truth values, values, lists of values -/
inductive Tm where
  | lit (n : Int) | var (i : Nat) | slen (b : Nat) | sel (b : Nat) (i : Tm) (j : Nat) | blen (a : Tm) | i2 (o : I2) (a b : Tm) | wrap (k : IntKind) (a : Tm) | iapp (f : Nat) (l : Tm)
  | tt (b : Bool) | bvar (i : Nat) | veq (a b : Tm) | bsel (b : Nat) (i : Tm) (j : Nat) | b2 (o : B2) (a b : Tm) | not (a : Tm) | bapp (f : Nat) (l : Tm)
  | int (k : IntKind) (a : Tm) | bool (a : Tm) | opq (i : Nat) | str (i : Nat) | ssel (b : Nat) (i : Tm) (j : Nat) | sl (b : Nat) | slv (b : Nat) | ep (b : Nat) (i : Tm) (j : Nat) | ptr (id off : Nat) | agg (l : Tm) | tup (l : Tm) | err (a : Tm) | iface (t : Nat) (v : Tm) | cst (c : Cst) | vapp (f : Nat) (l : Tm) | sapp (f : Nat) (l : Tm) | osl (id n : Nat) | junk
  | nil | cons (a b : Tm)
  deriving DecidableEq

/-- a slice that lies in the world: where, how long, and what its cells hold, element by element -/
structure Slc where
  blk : Nat
  off : Nat
  none_ : Bool
  len : Nat
  cap : Nat
  esz : Nat
  cont : Nat → Nat → Value
  adr : Addr
structure Env where
  sls : Nat → Slc
  iv : List Int
  bv : List Bool
  vv : List Value
  sv : List ByteArray
  fi : Nat → List Value → Int
  fb : Nat → List Value → Bool
  fv : Nat → List Value → Value
  et : TypeId

def errVal (t : TypeId) (n : Int) : Value := if n = 0 then .nilIface else .iface t (.int .i64 n)

def bitsV (o : BinOp) (k : IntKind) (x y : Int) : Int :=
  k.wrap (match o with
    | .and => ((BitVec.ofInt k.bits x) &&& (BitVec.ofInt k.bits y)).toNat
    | .or => ((BitVec.ofInt k.bits x) ||| (BitVec.ofInt k.bits y)).toNat
    | .xor => ((BitVec.ofInt k.bits x) ^^^ (BitVec.ofInt k.bits y)).toNat
    | _ => ((BitVec.ofInt k.bits x) &&& ~~~(BitVec.ofInt k.bits y)).toNat : Nat)
def I2.den : I2 → Int → Int → Int
  | .add, x, y => x + y
  | .sub, x, y => x - y
  | .mul, x, y => x * y
  | .quo, x, y => x.tdiv y
  | .rem, x, y => x.tmod y
  | .max, x, y => if y > x then y else x
  | .min, x, y => if y < x then y else x
  | .bits o k, x, y => bitsV o k x y
  | .shl k, x, y => k.wrap (x * 2 ^ (Min.min y.toNat k.bits))
  | .shr k, x, y => x.fdiv (2 ^ (Min.min y.toNat k.bits))
def B2.denI : B2 → Int → Int → Bool
  | .lt, x, y => decide (x < y)
  | .le, x, y => decide (x ≤ y)
  | .eq, x, y => x == y
  | _, _, _ => false
def B2.denB : B2 → Bool → Bool → Bool
  | .and, x, y => x && y
  | .or, x, y => x || y
  | .beq, x, y => x == y
  | _, _, _ => false
def B2.ofInts : B2 → Bool
  | .lt | .le | .eq => true
  | _ => false
def Cst.den : Cst → Value
  | .nilI => .nilIface
  | .nilP => .pointer none
  | .nilS => .slice none 0 0
  | .nilF => .nilFunc
  | .undef => Go.undef
  | .fn f => .func (.func f) #[] #[]
  | .strc l => .string ⟨(l.map UInt8.ofNat).toArray⟩
  | .flt k b => .float k b
  | .cpx k a b => .complex k a b

def strOf : Value → ByteArray
  | .string s => s
  | _ => ByteArray.empty
def boolOf : Value → Bool
  | .bool b => b
  | _ => false
def Slc.addr (s : Slc) (i j : Nat) : Addr := ⟨s.blk, s.off + i * s.esz + j, none⟩
/-- all its cells, one behind the other -/
def Slc.cells (s : Slc) : List Value := (List.range s.len).flatMap fun i => (List.range s.esz).map fun j => s.cont i j
def Slc.all (s : Slc) : Value := .tuple s.cells.toArray
def Slc.val (s : Slc) : Value := .slice (if s.none_ then none else some ⟨s.blk, s.off, if s.len = 0 then s.adr.spot else none⟩) s.len s.cap
/-- are two strings the same? -/
def strEq : Value → Value → Bool
  | .string a, .string b => a == b
  | _, _ => false

mutual
def denI (ρ : Env) (β : Nat → Nat) : Tm → Int
  | .lit n => n
  | .var i => ρ.iv.getD i 0
  | .i2 o a b => o.den (denI ρ β a) (denI ρ β b)
  | .wrap k a => k.wrap (denI ρ β a)
  | .iapp f l => ρ.fi f (denL ρ β l)
  | .slen b => (ρ.sls b).len
  | .sel b i j => intOf ((ρ.sls b).cont (denI ρ β i).toNat j)
  | .blen a => (strOf (denV ρ β a)).size
  | _ => 0
termination_by structural x => x
def denB (ρ : Env) (β : Nat → Nat) : Tm → Bool
  | .tt b => b
  | .bvar i => ρ.bv.getD i false
  | .b2 o a b => if o.ofInts then o.denI (denI ρ β a) (denI ρ β b) else o.denB (denB ρ β a) (denB ρ β b)
  | .not a => !denB ρ β a
  | .bapp f l => ρ.fb f (denL ρ β l)
  | .veq a b => strEq (denV ρ β a) (denV ρ β b)
  | .bsel b i j => boolOf ((ρ.sls b).cont (denI ρ β i).toNat j)
  | _ => false
termination_by structural x => x
def denV (ρ : Env) (β : Nat → Nat) : Tm → Value
  | .int k a => .int k (denI ρ β a)
  | .bool a => .bool (denB ρ β a)
  | .opq i => ρ.vv.getD i Go.undef
  | .str i => .string (ρ.sv.getD i ByteArray.empty)
  | .ssel b i j => .string (strOf ((ρ.sls b).cont (denI ρ β i).toNat j))
  | .sl b => (ρ.sls b).val
  | .slv b => (ρ.sls b).all
  | .ep b i j => .pointer (some ((ρ.sls b).addr (denI ρ β i).toNat j))
  | .ptr id off => .pointer (some ⟨β id, off, none⟩)
  | .agg l => .agg (denL ρ β l).toArray
  | .tup l => .tuple (denL ρ β l).toArray
  | .err a => errVal ρ.et (denI ρ β a)
  | .iface t v => .iface t (denV ρ β v)
  | .cst c => c.den
  | .vapp f l => ρ.fv f (denL ρ β l)
  | .sapp f l => .string (strOf (ρ.fv f (denL ρ β l)))
  | .osl id n => .slice (some ⟨β id, 0, none⟩) n n
  | _ => Go.undef
termination_by structural x => x
def denL (ρ : Env) (β : Nat → Nat) : Tm → List Value
  | .cons a b => denV ρ β a :: denL ρ β b
  | _ => []
termination_by structural x => x
end
inductive CK where | int (k : IntKind) | bool | str
  deriving DecidableEq
/-- a cell of a kind -/
def CK.fits : CK → Value → Prop
  | .int k, v => v = .int k (intOf v)
  | .bool, v => v = .bool (boolOf v)
  | .str, v => v = .string (strOf v)
/-- a slice of elements whose cells are of these kinds lies in the world -/
def SlOk (W : World) (s : Slc) (ks : List CK) : Prop :=
  ks.length = s.esz ∧ ∀ i, i < s.len → s.none_ = false ∧ ∀ (j : Nat) k, ks[j]? = some k → s.blk < W.heap.size ∧ W.cell? (s.addr i j) = some (s.cont i j) ∧ k.fits (s.cont i j)
def SlsOk (W : World) (sls : Nat → Slc) (ks : List (List CK)) : Prop := ∀ (b : Nat) k, ks[b]? = some k → SlOk W (sls b) k
/-! Part 2: terms made, and what they stand for. -/

/-- which own blocks a term may name -/
def idsIn (p : Nat → Bool) : Tm → Bool
  | .ptr id _ => p id
  | .i2 _ a b => idsIn p a && idsIn p b
  | .b2 _ a b => idsIn p a && idsIn p b
  | .veq a b => idsIn p a && idsIn p b
  | .cons a b => idsIn p a && idsIn p b
  | .wrap _ a => idsIn p a
  | .sel _ a _ => idsIn p a
  | .bsel _ a _ => idsIn p a
  | .ssel _ a _ => idsIn p a
  | .ep _ a _ => idsIn p a
  | .blen a => idsIn p a
  | .iapp _ a => idsIn p a
  | .not a => idsIn p a
  | .bapp _ a => idsIn p a
  | .int _ a => idsIn p a
  | .bool a => idsIn p a
  | .agg a => idsIn p a
  | .tup a => idsIn p a
  | .err a => idsIn p a
  | .iface _ a => idsIn p a
  | .vapp _ a => idsIn p a
  | .sapp _ a => idsIn p a
  | .osl id _ => p id
  | _ => true
theorem den_congr {ρ : Env} {β β' : Nat → Nat} {p : Nat → Bool} (h : ∀ i, p i = true → β i = β' i) : ∀ t, idsIn p t = true → denI ρ β t = denI ρ β' t ∧ denB ρ β t = denB ρ β' t ∧ denV ρ β t = denV ρ β' t ∧ denL ρ β t = denL ρ β' t := by
  intro t
  induction t with
  | ptr id off => intro hp; simp only [idsIn] at hp; simp [denI, denB, denV, denL, h id hp]
  | i2 o a b iha ihb => intro hp; simp only [idsIn, Bool.and_eq_true] at hp; obtain ⟨a1, a2, a3, a4⟩ := iha hp.1; obtain ⟨b1, b2, b3, b4⟩ := ihb hp.2; simp [denI, denB, denV, denL, a1, b1]
  | b2 o a b iha ihb => intro hp; simp only [idsIn, Bool.and_eq_true] at hp; obtain ⟨a1, a2, a3, a4⟩ := iha hp.1; obtain ⟨b1, b2, b3, b4⟩ := ihb hp.2; simp [denI, denB, denV, denL, a1, b1, a2, b2]
  | veq a b iha ihb => intro hp; simp only [idsIn, Bool.and_eq_true] at hp; obtain ⟨a1, a2, a3, a4⟩ := iha hp.1; obtain ⟨b1, b2, b3, b4⟩ := ihb hp.2; simp [denI, denB, denV, denL, a3, b3]
  | cons a b iha ihb => intro hp; simp only [idsIn, Bool.and_eq_true] at hp; obtain ⟨a1, a2, a3, a4⟩ := iha hp.1; obtain ⟨b1, b2, b3, b4⟩ := ihb hp.2; simp [denI, denB, denV, denL, a3, b4]
  | wrap k a ih => intro hp; simp only [idsIn] at hp; obtain ⟨a1, a2, a3, a4⟩ := ih hp; simp [denI, denB, denV, denL, a1]
  | sel b a j ih => intro hp; simp only [idsIn] at hp; obtain ⟨a1, a2, a3, a4⟩ := ih hp; simp [denI, denB, denV, denL, a1, a3]
  | bsel b a j ih => intro hp; simp only [idsIn] at hp; obtain ⟨a1, a2, a3, a4⟩ := ih hp; simp [denI, denB, denV, denL, a1, a3]
  | ssel b a j ih => intro hp; simp only [idsIn] at hp; obtain ⟨a1, a2, a3, a4⟩ := ih hp; simp [denI, denB, denV, denL, a1, a3]
  | ep b a j ih => intro hp; simp only [idsIn] at hp; obtain ⟨a1, a2, a3, a4⟩ := ih hp; simp [denI, denB, denV, denL, a1, a3]
  | blen a ih => intro hp; simp only [idsIn] at hp; obtain ⟨a1, a2, a3, a4⟩ := ih hp; simp [denI, denB, denV, denL, a1, a3]
  | iapp f a ih => intro hp; simp only [idsIn] at hp; obtain ⟨a1, a2, a3, a4⟩ := ih hp; simp [denI, denB, denV, denL, a4]
  | not a ih => intro hp; simp only [idsIn] at hp; obtain ⟨a1, a2, a3, a4⟩ := ih hp; simp [denI, denB, denV, denL, a2]
  | bapp f a ih => intro hp; simp only [idsIn] at hp; obtain ⟨a1, a2, a3, a4⟩ := ih hp; simp [denI, denB, denV, denL, a4]
  | int k a ih => intro hp; simp only [idsIn] at hp; obtain ⟨a1, a2, a3, a4⟩ := ih hp; simp [denI, denB, denV, denL, a1]
  | bool a ih => intro hp; simp only [idsIn] at hp; obtain ⟨a1, a2, a3, a4⟩ := ih hp; simp [denI, denB, denV, denL, a2]
  | agg a ih => intro hp; simp only [idsIn] at hp; obtain ⟨a1, a2, a3, a4⟩ := ih hp; simp [denI, denB, denV, denL, a4]
  | tup a ih => intro hp; simp only [idsIn] at hp; obtain ⟨a1, a2, a3, a4⟩ := ih hp; simp [denI, denB, denV, denL, a4]
  | err a ih => intro hp; simp only [idsIn] at hp; obtain ⟨a1, a2, a3, a4⟩ := ih hp; simp [denI, denB, denV, denL, a1]
  | iface t a ih => intro hp; simp only [idsIn] at hp; obtain ⟨a1, a2, a3, a4⟩ := ih hp; simp [denI, denB, denV, denL, a3]
  | vapp f a ih => intro hp; simp only [idsIn] at hp; obtain ⟨a1, a2, a3, a4⟩ := ih hp; simp [denI, denB, denV, denL, a4]
  | sapp f a ih => intro hp; simp only [idsIn] at hp; obtain ⟨a1, a2, a3, a4⟩ := ih hp; simp [denI, denB, denV, denL, a4]
  | osl id n => intro hp; simp only [idsIn] at hp; simp [denI, denB, denV, denL, h id hp]
  | _ => intro _; simp [denI, denB, denV, denL]
theorem denV_congr {ρ : Env} {β β' : Nat → Nat} {p : Nat → Bool} (h : ∀ i, p i = true → β i = β' i) {t : Tm} (ht : idsIn p t = true) : denV ρ β t = denV ρ β' t := (den_congr h t ht).2.2.1

def mkI2 : I2 → Tm → Tm → Tm
  | o, .lit x, .lit y => .lit (o.den x y)
  | o, a, b => .i2 o a b
theorem den_mkI2 (ρ : Env) (β : Nat → Nat) (o : I2) (a b : Tm) : denI ρ β (mkI2 o a b) = o.den (denI ρ β a) (denI ρ β b) := by
  unfold mkI2; split <;> simp [denI]
def mkWrap : IntKind → Tm → Tm
  | k, .lit x => .lit (k.wrap x)
  | k, a => .wrap k a
theorem den_mkWrap (ρ : Env) (β : Nat → Nat) (k : IntKind) (a : Tm) : denI ρ β (mkWrap k a) = k.wrap (denI ρ β a) := by
  unfold mkWrap; split <;> simp [denI]
def mkNot : Tm → Tm
  | .tt b => .tt !b
  | .not a => a
  | a => .not a
theorem den_mkNot (ρ : Env) (β : Nat → Nat) (a : Tm) : denB ρ β (mkNot a) = !denB ρ β a := by
  unfold mkNot; split <;> simp [denB]
def mkCmp (o : B2) (a b : Tm) : Tm :=
  match a, b with
  | .lit x, .lit y => .tt (o.denI x y)
  | a, b => if a = b then .tt (match o with | .lt => false | _ => true) else .b2 o a b
theorem den_mkCmp (ρ : Env) (β : Nat → Nat) (o : B2) (a b : Tm) (ho : o.ofInts = true) : denB ρ β (mkCmp o a b) = o.denI (denI ρ β a) (denI ρ β b) := by
  unfold mkCmp
  split
  · simp [denB, denI]
  · split
    · rename_i h; subst h
      cases o <;> simp [denB, B2.denI, B2.ofInts] at ho ⊢
    · simp [denB, ho]
def mkAnd : Tm → Tm → Tm
  | .tt true, b => b
  | .tt false, b => .tt false
  | a, .tt true => a
  | a, .tt false => .tt false
  | a, b => .b2 .and a b
theorem den_mkAnd (ρ : Env) (β : Nat → Nat) (a b : Tm) : denB ρ β (mkAnd a b) = (denB ρ β a && denB ρ β b) := by
  unfold mkAnd; split <;> simp [denB, B2.ofInts, B2.denB]
def mkBeq : Tm → Tm → Tm
  | .tt x, .tt y => .tt (x == y)
  | a, .tt true => a
  | .tt true, b => b
  | a, .tt false => mkNot a
  | .tt false, b => mkNot b
  | a, b => if a = b then .tt true else .b2 .beq a b
theorem den_mkBeq (ρ : Env) (β : Nat → Nat) (a b : Tm) : denB ρ β (mkBeq a b) = (denB ρ β a == denB ρ β b) := by
  unfold mkBeq
  split
  · simp [denB]
  · simp [denB]
  · simp [denB]
  · simp [denB, den_mkNot]
  · simp [denB, den_mkNot]
  · split
    · rename_i h; subst h; simp [denB]
    · simp [denB, B2.ofInts, B2.denB]

/-- constants as terms -/
def ofVal0 : Value → Option Tm
  | .bool b => some (.bool (.tt b))
  | .int k n => some (.int k (.lit n))
  | .float k b => some (.cst (.flt k b))
  | .complex k a b => some (.cst (.cpx k a b))
  | .string s => some (.cst (.strc (s.data.toList.map UInt8.toNat)))
  | .pointer none => some (.cst .nilP)
  | .slice none 0 0 => some (.cst .nilS)
  | .func (.func f) a b => if a.size = 0 ∧ b.size = 0 then some (.cst (.fn f)) else none
  | .nilFunc => some (.cst .nilF)
  | .nilIface => some (.cst .nilI)
  | .tuple vs => if vs.size = 0 then some (.cst .undef) else none
  | _ => none
def ofVals : List Value → Option Tm
  | [] => some .nil
  | v :: r => match ofVal0 v, ofVals r with
    | some a, some b => some (.cons a b)
    | _, _ => none
def ofVal : Value → Option Tm
  | .agg cs => (ofVals cs.toList).map .agg
  | v => ofVal0 v
theorem ofVal0_den {ρ : Env} {β : Nat → Nat} {v : Value} {t : Tm} (h : ofVal0 v = some t) : denV ρ β t = v := by
  unfold ofVal0 at h
  split at h
  case h_5 s =>
    obtain rfl := Option.some.inj h
    have : (s.data.toList.map UInt8.toNat).map UInt8.ofNat = s.data.toList := by
      rw [List.map_map]
      conv => rhs; rw [← List.map_id s.data.toList]
      apply List.map_congr_left
      intro x _
      simp
    simp [denV, Cst.den, this]
  case h_8 f a b =>
    split at h
    · rename_i hab
      obtain rfl := Option.some.inj h
      obtain ⟨ha, hb⟩ := hab
      have ha' : a = #[] := Array.eq_empty_of_size_eq_zero ha
      have hb' : b = #[] := Array.eq_empty_of_size_eq_zero hb
      subst ha' hb'
      rfl
    · cases h
  case h_11 vs =>
    split at h
    · rename_i hv
      obtain rfl := Option.some.inj h
      have : vs = #[] := Array.eq_empty_of_size_eq_zero hv
      subst this
      rfl
    · cases h
  all_goals first | (obtain rfl := Option.some.inj h; simp [denV, denI, denB, Cst.den]; done) | cases h
theorem ofVals_den {ρ : Env} {β : Nat → Nat} : ∀ {l : List Value} {t : Tm}, ofVals l = some t → denL ρ β t = l
  | [], t, h => by obtain rfl := Option.some.inj h; rfl
  | v :: r, t, h => by
    unfold ofVals at h
    split at h
    · rename_i a b h1 h2
      obtain rfl := Option.some.inj h
      simp [denL, ofVal0_den h1, ofVals_den h2]
    · cases h
theorem ofVal_den {ρ : Env} {β : Nat → Nat} {v : Value} {t : Tm} (h : ofVal v = some t) : denV ρ β t = v := by
  unfold ofVal at h
  split at h
  · rename_i cs
    cases hc : ofVals cs.toList with
    | none => rw [hc] at h; cases h
    | some x => rw [hc] at h; obtain rfl := Option.some.inj h; simp [denV, ofVals_den hc]
  · exact ofVal0_den h

/-- lists -/
def toL : Tm → List Tm
  | .cons a b => a :: toL b
  | _ => []
def ofL : List Tm → Tm
  | [] => .nil
  | a :: r => .cons a (ofL r)
theorem denL_toL (ρ : Env) (β : Nat → Nat) : ∀ t, denL ρ β t = (toL t).map (denV ρ β) := by
  intro t
  induction t with
  | cons a b _ ih => simp [denL, toL, ih]
  | _ => simp [denL, toL]
theorem denL_ofL (ρ : Env) (β : Nat → Nat) (l : List Tm) : denL ρ β (ofL l) = l.map (denV ρ β) := by
  induction l with
  | nil => rfl
  | cons a r ih => simp [ofL, denL, ih]
/-- the cells of a value -/
def cellsT : Tm → List Tm
  | .agg l => toL l
  | t => [t]
def scalar : Tm → Bool
  | .int .. | .bool .. | .str .. | .ssel .. | .sapp .. | .osl .. | .sl .. | .ep .. | .ptr .. | .err .. | .iface .. | .cst .. => true
  | _ => false
/-- a value whose cells are known -/
def known : Tm → Bool
  | .agg l => (toL l).all scalar
  | t => scalar t
theorem scalar_cells {ρ : Env} {β : Nat → Nat} {t : Tm} (h : scalar t = true) : (denV ρ β t).cells = #[denV ρ β t] := by
  cases t <;> simp [scalar] at h <;> simp [denV, Value.cells, Slc.val]
  case err a => unfold errVal; by_cases h0 : denI ρ β a = 0 <;> simp [h0]
  case cst c => cases c <;> simp [Cst.den, Go.undef]
theorem cells_den {ρ : Env} {β : Nat → Nat} {t : Tm} (h : known t = true) : (denV ρ β t).cells = ((cellsT t).map (denV ρ β)).toArray := by
  cases t with
  | agg l => simp [denV, Value.cells, cellsT, denL_toL]
  | _ => first | (rw [scalar_cells (by simpa [known] using h)]; simp [cellsT]; done) | (simp [known, scalar] at h; done)
theorem scalar_store {ρ : Env} {β : Nat → Nat} {t : Tm} (h : scalar t = true) : (∀ c, denV ρ β t ≠ .agg c) ∧ ((∀ c, denV ρ β t = .tuple c → t = .cst .undef)) := by
  cases t <;> simp [scalar] at h <;> simp [denV, Slc.val]
  case err a => unfold errVal; split <;> simp
  case cst c => cases c <;> simp [Cst.den, Go.undef]

/-- operands -/
def getT (tm : List Tm) (t : Nat) : Option Tm :=
  match tm[t]? with
  | some .junk => none
  | x => x
def evalO (tm : List Tm) : Operand → Option Tm
  | .tmp t => getT tm t
  | .const v => ofVal v
  | .func f => some (.cst (.fn f))
  | .global _ => none
def Rel (ρ : Env) (β : Nat → Nat) (t : Tm) (v : Value) : Prop := t ≠ .junk → v = denV ρ β t
theorem getT_some {tm : List Tm} {i : Nat} {t : Tm} (h : getT tm i = some t) : tm.getD i .junk = t ∧ t ≠ .junk ∧ tm[i]? = some t := by
  unfold getT at h
  split at h
  · cases h
  · rename_i hne
    refine ⟨by simp [List.getD, h], ?_, h⟩
    rintro rfl
    exact hne h
theorem evalO_den {ρ : Env} {β : Nat → Nat} {tm : List Tm} {a : Act} (h : ∀ i, Rel ρ β (tm.getD i .junk) (a.tmps.getD i Go.undef)) {x : Operand} {t : Tm} (he : evalO tm x = some t) : a.eval x = denV ρ β t := by
  cases x with
  | tmp i =>
    obtain ⟨h1, h2, _⟩ := getT_some he
    have h0 := h i
    rw [h1] at h0
    exact h0 h2
  | const v => exact (ofVal_den he).symm
  | func f => obtain rfl := Option.some.inj he; rfl
  | global g => cases he
/-! Part 3: comparisons. -/

theorem r_underlying {P : Program} {t : TypeId} {d : TypeDesc} (h : P.underlying t = some d) (w : World) : (underlying t).run P w = .ok d w := by
  unfold underlying
  rw [Sem.run_bind]
  show (match P.underlying t with | some d => pure d | none => stuck "no such type" : Sem TypeDesc).run P w = _
  rw [h]
  rfl
theorem r_program {P : Program} (w : World) : program.run P w = .ok P w := rfl
theorem r_typeInfo {P : Program} {t : TypeId} {i : TypeInfo} (h : P.info? t = some i) (w : World) : (typeInfo t).run P w = .ok i w := by
  unfold typeInfo
  rw [Sem.run_bind]
  show (match P.info? t with | some i => pure i | none => stuck "no such type" : Sem TypeInfo).run P w = _
  rw [h]
  rfl
theorem r_sizeOf {P : Program} {t : TypeId} {i : TypeInfo} (h : P.info? t = some i) (w : World) : (Go.sizeOf t).run P w = .ok i.size w := by
  unfold Go.sizeOf
  rw [Sem.run_bind, r_typeInfo h]
  rfl
def isAggD : TypeDesc → Bool
  | .struct _ | .array _ _ => true
  | _ => false
theorem r_isAgg {P : Program} {t : TypeId} {d : TypeDesc} (h : P.underlying t = some d) (w : World) : (Go.isAgg t).run P w = .ok (isAggD d) w := by
  unfold Go.isAgg
  rw [Sem.run_bind, r_underlying h]
  cases d <;> rfl
/-- the part of some cells that a variable of a type has -/
def partT (P : Program) (t : TypeId) (l : List Tm) (off : Nat) : Option Tm :=
  match P.underlying t, P.info? t with
  | some d, some i => if isAggD d then some (.agg (ofL ((l.drop off).take i.size))) else l[off]?
  | _, _ => none
theorem r_part {P : Program} {t : TypeId} {l : List Tm} {off : Nat} {x : Tm} {ρ : Env} {β : Nat → Nat} (h : partT P t l off = some x) (w : World) :
    (part t (l.map (denV ρ β)).toArray off).run P w = .ok (denV ρ β x) w := by
  unfold partT at h
  split at h
  · rename_i d i hd hi
    unfold part
    rw [Sem.run_bind, r_isAgg hd]
    split at h
    · rename_i ha
      obtain rfl := Option.some.inj h
      simp only [Result.andThen, ha, if_true, Sem.run_bind, r_sizeOf hi]
      show Result.ok _ w = _
      congr 1
      simp only [denV, denL_ofL]
      congr 1
      simp [Array.ext_iff, List.map_take, List.map_drop]
    · rename_i ha
      simp only [Result.andThen, ha]
      simp [h]
  · cases h

def nilish : Tm → Option Tm
  | .cst .nilI => some (.tt true)
  | .err a => some (mkCmp .eq a (.lit 0))
  | .iface _ _ => some (.tt false)
  | _ => none
def eqIface (x y : Tm) : Option Tm :=
  match x, y with
  | .cst .nilI, y => nilish y
  | x, .cst .nilI => nilish x
  | _, _ => none
def eqFields (P : Program) (g : TypeId → Tm → Tm → Option Tm) (xs ys : List Tm) : List Field → Option Tm
  | [] => some (.tt true)
  | f :: r => if f.name = "_" then eqFields P g xs ys r else
    match partT P f.type xs f.offset, partT P f.type ys f.offset, eqFields P g xs ys r with
    | some p, some q, some e => (g f.type p q).map fun c => mkAnd c e
    | _, _, _ => none
def eqItems (P : Program) (g : TypeId → Tm → Tm → Option Tm) (e : TypeId) (n : Nat) (xs ys : List Tm) : List Nat → Option Tm
  | [] => some (.tt true)
  | i :: r =>
    match partT P e xs (i * n), partT P e ys (i * n), eqItems P g e n xs ys r with
    | some p, some q, some c => (g e p q).map fun d => mkAnd d c
    | _, _, _ => none
def strT : Tm → Bool
  | .str _ => true
  | .ssel .. => true
  | .sapp .. => true
  | .cst (.strc _) => true
  | _ => false
/-- are two values the same? -/
def eqT (P : Program) : Nat → TypeId → Tm → Tm → Option Tm
  | 0, _, _, _ => none
  | d + 1, t, x, y =>
    match P.underlying t with
    | some .bool => match x, y with
      | .bool a, .bool b => some (mkBeq a b)
      | _, _ => none
    | some (.int _) => match x, y with
      | .int k a, .int k' b => if k = k' then some (mkCmp .eq a b) else none
      | _, _ => none
    | some .string => if strT x && strT y then some (if x = y then .tt true else .veq x y) else none
    | some (.interface _) => eqIface x y
    | some (.struct fs) => match x, y with
      | .agg xs, .agg ys => if P.stoodInHeld t then none else eqFields P (eqT P d) (toL xs) (toL ys) fs.toList
      | _, _ => none
    | some (.array n e) => match x, y with
      | .agg xs, .agg ys => match P.info? e with
        | some i => eqItems P (eqT P d) e i.size (toL xs) (toL ys) (List.range n)
        | none => none
      | _, _ => none
    | _ => none
theorem bytes_self (a : ByteArray) : (a == a) = true := by
  show (a.data == a.data) = true
  simp
theorem strT_den {ρ : Env} {β : Nat → Nat} {x : Tm} (h : strT x = true) : ∃ s, denV ρ β x = .string s := by
  unfold strT at h
  split at h
  · exact ⟨_, rfl⟩
  · exact ⟨_, rfl⟩
  · exact ⟨_, rfl⟩
  · exact ⟨_, rfl⟩
  · cases h
theorem nilish_den {ρ : Env} {β : Nat → Nat} {x c : Tm} (h : nilish x = some c) : (denV ρ β x = .nilIface ∧ denB ρ β c = true) ∨ ((∃ t v, denV ρ β x = .iface t v) ∧ denB ρ β c = false) := by
  unfold nilish at h
  split at h
  · obtain rfl := Option.some.inj h; exact .inl ⟨rfl, rfl⟩
  · rename_i a
    obtain rfl := Option.some.inj h
    by_cases h0 : denI ρ β a = 0
    · refine .inl ⟨by simp [denV, errVal, h0], by rw [den_mkCmp _ _ _ _ _ rfl]; simp [B2.denI, denI, h0]⟩
    · refine .inr ⟨⟨ρ.et, .int .i64 (denI ρ β a), by simp [denV, errVal, h0]⟩, by rw [den_mkCmp _ _ _ _ _ rfl]; simp [B2.denI, denI, h0]⟩
  · obtain rfl := Option.some.inj h; exact .inr ⟨⟨_, _, rfl⟩, rfl⟩
  · cases h
theorem forIn_fields {P : Program} {w : World} {α : Type} (G : α → (Option Bool × PUnit) → Sem (ForInStep (Option Bool × PUnit))) (b : α → Bool) :
    ∀ l : List α, (∀ f ∈ l, (G f (none, ⟨⟩)).run P w = .ok (if b f then .yield (none, ⟨⟩) else .done (some false, ⟨⟩)) w) →
    (forIn l (none, ⟨⟩) G).run P w = .ok (if l.all b then (none, ⟨⟩) else (some false, ⟨⟩)) w
  | [], _ => rfl
  | f :: r, h => by
    rw [List.forIn_cons, Sem.run_bind, h f (by simp)]
    have ih := forIn_fields G b r (fun x hx => h x (by simp [hx]))
    cases hb : b f
    · simp only [Result.andThen, hb, List.all_cons, Bool.false_and, Bool.false_eq_true, if_false]
      rfl
    · simp only [Result.andThen, hb, List.all_cons, Bool.true_and, if_true]
      exact ih
theorem fields_sound (P : Program) (ρ : Env) (β : Nat → Nat) (w : World) (d : Nat) (xs ys : List Tm)
    (ih : ∀ (t : TypeId) (x y c : Tm), eqT P d t x y = some c → (Op.equalIn d t (denV ρ β x) (denV ρ β y)).run P w = .ok (denB ρ β c) w) : ∀ (l : List Field) (c : Tm), eqFields P (eqT P d) xs ys l = some c →
    ∃ b : Field → Bool, (∀ f ∈ l, (if f.name ≠ "_" then do
            let __do_lift ← part f.type (List.map (denV ρ β) xs).toArray f.offset
            let __do_lift_1 ← part f.type (List.map (denV ρ β) ys).toArray f.offset
            let __do_lift ← Op.equalIn d f.type __do_lift __do_lift_1
            if (!__do_lift) = true then pure (ForInStep.done (some false, ())) else pure (ForInStep.yield (none, ()))
          else pure (ForInStep.yield (none, ())) : Sem (ForInStep (Option Bool × PUnit))).run P w = .ok (if b f then .yield (none, ⟨⟩) else .done (some false, ⟨⟩)) w) ∧ l.all b = denB ρ β c := by
  intro l
  suffices H : ∀ (l : List Field) (c : Tm), eqFields P (eqT P d) xs ys l = some c → (∀ f ∈ l, f.name ≠ "_" → ∃ p q e, partT P f.type xs f.offset = some p ∧ partT P f.type ys f.offset = some q ∧ eqT P d f.type p q = some e) ∧
      l.all (fun f => if f.name ≠ "_" then (match partT P f.type xs f.offset, partT P f.type ys f.offset with | some p, some q => (match eqT P d f.type p q with | some e => denB ρ β e | none => true) | _, _ => true) else true) = denB ρ β c by
    intro c h
    obtain ⟨h1, h2⟩ := H l c h
    refine ⟨_, fun f hf => ?_, h2⟩
    by_cases hn : f.name = "_"
    · simp only [hn, ne_eq, not_true_eq_false, if_false, if_true]; rfl
    · obtain ⟨p, q, e, hp, hq, he⟩ := h1 f hf hn
      simp only [ne_eq, hn, not_false_eq_true, if_true, Sem.run_bind, r_part hp, r_part hq, Result.andThen, ih _ _ _ _ he, hp, hq, he]
      cases denB ρ β e <;> rfl
  intro l
  induction l with
  | nil => intro c h; obtain rfl := Option.some.inj h; exact ⟨by simp, by simp [denB]⟩
  | cons f r ih2 =>
    intro c h
    unfold eqFields at h
    split at h
    · rename_i hn
      obtain ⟨h1, h2⟩ := ih2 c h
      refine ⟨fun x hx hne => ?_, ?_⟩
      · rcases List.mem_cons.1 hx with rfl | hx
        · exact absurd hn hne
        · exact h1 x hx hne
      · simp only [List.all_cons, hn, ne_eq, not_true_eq_false, if_false, Bool.true_and]; exact h2
    · rename_i hn
      split at h
      · rename_i p q e hp hq he
        cases hg : eqT P d f.type p q with
        | none => rw [hg] at h; cases h
        | some v =>
          rw [hg] at h
          obtain rfl := Option.some.inj h
          obtain ⟨h1, h2⟩ := ih2 e he
          refine ⟨fun x hx hne => ?_, ?_⟩
          · rcases List.mem_cons.1 hx with rfl | hx
            · exact ⟨p, q, v, hp, hq, hg⟩
            · exact h1 x hx hne
          · simp only [List.all_cons, hn, ne_eq, not_false_eq_true, if_true, hp, hq, hg, den_mkAnd]
            rw [← h2]
      · cases h
theorem items_sound (P : Program) (ρ : Env) (β : Nat → Nat) (w : World) (d : Nat) (e : TypeId) (n : Nat) (xs ys : List Tm)
    (ih : ∀ (t : TypeId) (x y c : Tm), eqT P d t x y = some c → (Op.equalIn d t (denV ρ β x) (denV ρ β y)).run P w = .ok (denB ρ β c) w) : ∀ (l : List Nat) (c : Tm), eqItems P (eqT P d) e n xs ys l = some c →
    ∃ b : Nat → Bool, (∀ i ∈ l, (do
            let __do_lift ← part e (List.map (denV ρ β) xs).toArray (i * n)
            let __do_lift_1 ← part e (List.map (denV ρ β) ys).toArray (i * n)
            let __do_lift ← Op.equalIn d e __do_lift __do_lift_1
            if (!__do_lift) = true then pure (ForInStep.done (some false, ())) else pure (ForInStep.yield (none, ()))
             : Sem (ForInStep (Option Bool × PUnit))).run P w = .ok (if b i then .yield (none, ⟨⟩) else .done (some false, ⟨⟩)) w) ∧ l.all b = denB ρ β c := by
  intro l
  suffices H : ∀ (l : List Nat) (c : Tm), eqItems P (eqT P d) e n xs ys l = some c → (∀ i ∈ l, ∃ p q r, partT P e xs (i * n) = some p ∧ partT P e ys (i * n) = some q ∧ eqT P d e p q = some r) ∧
      l.all (fun i => (match partT P e xs (i * n), partT P e ys (i * n) with | some p, some q => (match eqT P d e p q with | some r => denB ρ β r | none => true) | _, _ => true)) = denB ρ β c by
    intro c h
    obtain ⟨h1, h2⟩ := H l c h
    refine ⟨_, fun i hi => ?_, h2⟩
    obtain ⟨p, q, r, hp, hq, he⟩ := h1 i hi
    simp only [Sem.run_bind, r_part hp, r_part hq, Result.andThen, ih _ _ _ _ he, hp, hq, he]
    cases denB ρ β r <;> rfl
  intro l
  induction l with
  | nil => intro c h; obtain rfl := Option.some.inj h; exact ⟨by simp, by simp [denB]⟩
  | cons i r ih2 =>
    intro c h
    unfold eqItems at h
    split at h
    · rename_i p q x hp hq he
      cases hg : eqT P d e p q with
      | none => rw [hg] at h; cases h
      | some v =>
        rw [hg] at h
        obtain rfl := Option.some.inj h
        obtain ⟨h1, h2⟩ := ih2 x he
        refine ⟨fun y hy => ?_, ?_⟩
        · rcases List.mem_cons.1 hy with rfl | hy
          · exact ⟨p, q, v, hp, hq, hg⟩
          · exact h1 y hy
        · simp only [List.all_cons, hp, hq, hg, den_mkAnd]
          rw [← h2]
    · cases h
theorem eqT_sound (P : Program) (ρ : Env) (β : Nat → Nat) (w : World) : ∀ (d : Nat) (t : TypeId) (x y c : Tm), eqT P d t x y = some c → (Op.equalIn d t (denV ρ β x) (denV ρ β y)).run P w = .ok (denB ρ β c) w := by
  intro d
  induction d with
  | zero => intro t x y c h; cases h
  | succ d ih =>
    intro t x y c h
    unfold eqT at h
    split at h
    case h_1 hu =>
      split at h
      · obtain rfl := Option.some.inj h
        unfold Op.equalIn
        rw [Sem.run_bind, r_underlying hu, den_mkBeq]
        rfl
      · cases h
    case h_2 k hu =>
      split at h
      · split at h
        · rename_i hk
          subst hk
          obtain rfl := Option.some.inj h
          unfold Op.equalIn
          rw [Sem.run_bind, r_underlying hu, den_mkCmp _ _ _ _ _ rfl]
          simp only [denV, Result.andThen, if_true, B2.denI]
          rfl
        · cases h
      · cases h
    case h_3 hu =>
      split at h
      · rename_i hs
        obtain rfl := Option.some.inj h
        rw [Bool.and_eq_true] at hs
        obtain ⟨a, ha⟩ := strT_den (ρ := ρ) (β := β) hs.1
        obtain ⟨b, hb⟩ := strT_den (ρ := ρ) (β := β) hs.2
        unfold Op.equalIn
        rw [Sem.run_bind, r_underlying hu]
        have hc : denB ρ β (if x = y then .tt true else .veq x y) = (a == b) := by
          split
          · rename_i he
            subst he
            rw [ha] at hb
            cases hb
            exact (bytes_self a).symm
          · simp [denB, ha, hb, strEq]
        rw [hc, ha, hb]
        rfl
      · cases h
    case h_4 ms hu =>
      unfold Op.equalIn
      rw [Sem.run_bind, r_underlying hu]
      unfold eqIface at h
      split at h
      · rcases nilish_den (ρ := ρ) (β := β) h with ⟨h1, h2⟩ | ⟨⟨t, v, h1⟩, h2⟩
        · rw [h1, h2]; rfl
        · rw [h1, h2]; rfl
      · rcases nilish_den (ρ := ρ) (β := β) h with ⟨h1, h2⟩ | ⟨⟨t, v, h1⟩, h2⟩
        · rw [h1, h2]; rfl
        · rw [h1, h2]; rfl
      · cases h
    case h_5 fs hu =>
      split at h
      · rename_i xs ys
        split at h
        · cases h
        · rename_i hst
          have hst' : P.stoodInHeld t = false := by simpa using hst
          unfold Op.equalIn
          rw [Sem.run_bind, r_underlying hu]
          simp only [denV, Result.andThen, denL_toL]
          simp only [Sem.run_bind, r_program, Result.andThen, hst', Bool.false_eq_true, if_false]
          rw [← Array.forIn_toList]
          obtain ⟨b, hb1, hb2⟩ := fields_sound P ρ β w d _ _ ih fs.toList c h
          rw [forIn_fields _ b fs.toList hb1, ← hb2]
          cases fs.toList.all b <;> rfl
      · cases h
    case h_6 n e hu =>
      split at h
      · rename_i xs ys
        split at h
        · rename_i i hi
          unfold Op.equalIn
          rw [Sem.run_bind, r_underlying hu]
          simp only [denV, Result.andThen, denL_toL]
          simp only [Sem.run_bind, r_sizeOf hi, Result.andThen]
          simp only [Std.Legacy.Range.forIn_eq_forIn_range', Std.Legacy.Range.size, Nat.sub_zero, Nat.add_one_sub_one, Nat.div_one]
          rw [← List.range_eq_range']
          obtain ⟨b, hb1, hb2⟩ := items_sound P ρ β w d e i.size _ _ ih (List.range n) c h
          rw [forIn_fields _ b (List.range n) hb1, ← hb2]
          cases (List.range n).all b <;> rfl
        · cases h
      · cases h
    case h_7 => cases h
/-! Part 4: operators. -/

def isC : Operand → Bool
  | .const _ => true
  | _ => false
def evalInt (o : BinOp) (k : IntKind) (a b : Tm) : Option (Tm × Tm) :=
  match o with
  | .add => some (.tt true, .int k (mkWrap k (mkI2 .add a b)))
  | .sub => some (.tt true, .int k (mkWrap k (mkI2 .sub a b)))
  | .mul => some (.tt true, .int k (mkWrap k (mkI2 .mul a b)))
  | .quo => some (mkNot (mkCmp .eq b (.lit 0)), .int k (mkWrap k (mkI2 .quo a b)))
  | .rem => some (mkNot (mkCmp .eq b (.lit 0)), .int k (mkI2 .rem a b))
  | .and => some (.tt true, .int k (mkI2 (.bits .and k) a b))
  | .or => some (.tt true, .int k (mkI2 (.bits .or k) a b))
  | .xor => some (.tt true, .int k (mkI2 (.bits .xor k) a b))
  | .andNot => some (.tt true, .int k (mkI2 (.bits .andNot k) a b))
  | .eql => some (.tt true, .bool (mkCmp .eq a b))
  | .neq => some (.tt true, .bool (mkNot (mkCmp .eq a b)))
  | .lss => some (.tt true, .bool (mkCmp .lt a b))
  | .leq => some (.tt true, .bool (mkCmp .le a b))
  | .gtr => some (.tt true, .bool (mkCmp .lt b a))
  | .geq => some (.tt true, .bool (mkCmp .le b a))
  | _ => none
def ifaceT : Tm → Bool
  | .cst .nilI | .err _ | .iface _ _ => true
  | _ => false
def finT (o : BinOp) (c : Option Tm) : Option (Tm × Tm) :=
  match o with
  | .eql => c.map fun c => (.tt true, .bool c)
  | .neq => c.map fun c => (.tt true, .bool (mkNot c))
  | _ => none
theorem finT_spec {o : BinOp} {e : Option Tm} {c v : Tm} (he : finT o e = some (c, v)) : ∃ d, e = some d ∧ ((o = .eql ∧ v = .bool d) ∨ (o = .neq ∧ v = .bool (mkNot d))) := by
  unfold finT at he
  split at he
  · cases e with
    | none => cases he
    | some d => obtain ⟨_, rfl⟩ := Prod.mk.inj (Option.some.inj he); exact ⟨d, rfl, .inl ⟨rfl, rfl⟩⟩
  · cases e with
    | none => cases he
    | some d => obtain ⟨_, rfl⟩ := Prod.mk.inj (Option.some.inj he); exact ⟨d, rfl, .inr ⟨rfl, rfl⟩⟩
  · cases he
def evalShift (o : BinOp) (k : IntKind) (a b : Tm) : Option (Tm × Tm) :=
  match o with
  | .shl => some (mkCmp .le (.lit 0) b, .int k (mkI2 (.shl k) a b))
  | .shr => some (mkCmp .le (.lit 0) b, .int k (mkI2 (.shr k) a b))
  | _ => none
def isShift : BinOp → Bool
  | .shl | .shr => true
  | _ => false
def evalOther (P : Program) (o : BinOp) (t : TypeId) (ox oy : Operand) (x y : Tm) : Option (Tm × Tm) :=
  if strT x && strT y then finT o (some (if x = y then .tt true else .veq x y))
  else if ifaceT x && ifaceT y && (isC ox || isC oy) then finT o (eqT P Op.maxDepth t x y) else none
def evalBin (P : Program) (o : BinOp) (t : TypeId) (ox oy : Operand) (x y : Tm) : Option (Tm × Tm) :=
  match x, y with
  | .int k a, .int k' b => if isShift o then evalShift o k a b else if k = k' then evalInt o k a b else none
  | .bool a, .bool b => finT o (eqT P Op.maxDepth t (.bool a) (.bool b))
  | .agg a, .agg b => if P.eqGuardType P.depth t then none else finT o (eqT P Op.maxDepth t (.agg a) (.agg b))
  | x, y => evalOther P o t ox oy x y
theorem evalInt_sound {P : Program} {ρ : Env} {β : Nat → Nat} {w : World} {o : BinOp} {k : IntKind} {a b c v : Tm} (h : evalInt o k a b = some (c, v)) (hc : denB ρ β c = true) (t : TypeId) (ox oy : Operand) :
    ((do eqGuard o t ox oy (.int k (denI ρ β a)) (.int k (denI ρ β b)); binOp o t (.int k (denI ρ β a)) (.int k (denI ρ β b))) : Sem Value).run P w = .ok (denV ρ β v) w := by
  unfold evalInt at h
  split at h <;> first | cases h | (obtain ⟨rfl, rfl⟩ := Prod.mk.inj (Option.some.inj h))
  case h_4 =>
    rw [den_mkNot, den_mkCmp _ _ _ _ _ (show B2.ofInts .eq = true from rfl)] at hc
    have hc' : denI ρ β b ≠ 0 := by simpa [B2.denI, denI] using hc
    simp [eqGuard, binOp, Op.intDiv, hc', denV, den_mkI2, den_mkWrap, I2.den]
  case h_5 =>
    rw [den_mkNot, den_mkCmp _ _ _ _ _ (show B2.ofInts .eq = true from rfl)] at hc
    have hc' : denI ρ β b ≠ 0 := by simpa [B2.denI, denI] using hc
    simp [eqGuard, binOp, Op.intDiv, hc', denV, den_mkI2, den_mkWrap, I2.den]
  all_goals simp [eqGuard, binOp, Op.intArith, Op.intBits, Op.intCmp, denV, den_mkI2, den_mkWrap, I2.den, bitsV, den_mkNot, den_mkCmp _ _ _ _ _ (show B2.ofInts .eq = true from rfl), den_mkCmp _ _ _ _ _ (show B2.ofInts .lt = true from rfl), den_mkCmp _ _ _ _ _ (show B2.ofInts .le = true from rfl), B2.denI]
  all_goals rfl
theorem strEq_toList (a b : ByteArray) : (a.toList == b.toList) = (a == b) := by
  rw [ByteArray.toList_eq, ByteArray.toList_eq]
  show _ = (a.data == b.data)
  rw [Bool.eq_iff_iff]
  simp
theorem iface_den {ρ : Env} {β : Nat → Nat} {x : Tm} (h : ifaceT x = true) : denV ρ β x = .nilIface ∨ ∃ t v, denV ρ β x = .iface t v := by
  unfold ifaceT at h
  split at h
  · exact .inl rfl
  · rename_i a
    by_cases h0 : denI ρ β a = 0
    · exact .inl (by simp [denV, errVal, h0])
    · exact .inr ⟨ρ.et, .int .i64 (denI ρ β a), by simp only [denV, errVal, h0, if_false]⟩
  · exact .inr ⟨_, _, rfl⟩
  · cases h
theorem evalOther_sound {P : Program} {ρ : Env} {β : Nat → Nat} {w : World} {o : BinOp} {t : TypeId} {ox oy : Operand} {x y c v : Tm} (h : evalOther P o t ox oy x y = some (c, v)) :
    ((do eqGuard o t ox oy (denV ρ β x) (denV ρ β y); binOp o t (denV ρ β x) (denV ρ β y)) : Sem Value).run P w = .ok (denV ρ β v) w := by
  unfold evalOther at h
  split at h
  · rename_i hs
    rw [Bool.and_eq_true] at hs
    obtain ⟨a, ha⟩ := strT_den (ρ := ρ) (β := β) hs.1
    obtain ⟨b, hb⟩ := strT_den (ρ := ρ) (β := β) hs.2
    obtain ⟨d, he, hd⟩ := finT_spec h
    obtain rfl := Option.some.inj he
    have hc : denB ρ β (if x = y then .tt true else .veq x y) = (a == b) := by
      split
      · rename_i he
        subst he
        rw [ha] at hb
        cases hb
        exact (bytes_self a).symm
      · simp [denB, ha, hb, strEq]
    rw [ha, hb]
    rcases hd with ⟨rfl, rfl⟩ | ⟨rfl, rfl⟩
    · simp only [denV, hc]
      simp [eqGuard, binOp, Op.stringOp, strEq_toList]
    · simp only [denV, den_mkNot, hc]
      simp [eqGuard, binOp, Op.stringOp, strEq_toList]
  · split at h
    · rename_i hi
      simp only [Bool.and_eq_true] at hi
      obtain ⟨d, he, hd⟩ := finT_spec h
      have := eqT_sound P ρ β w _ _ _ _ _ he
      have hgr : ∀ o X Y, (X = .nilIface ∨ ∃ t v, X = .iface t v) → (Y = .nilIface ∨ ∃ t v, Y = .iface t v) → (eqGuard o t ox oy X Y).run P w = .ok () w := by
        intro o X Y hX hY
        have hcst := hi.2
        rcases hX with rfl | ⟨t1, v1, rfl⟩ <;> rcases hY with rfl | ⟨t2, v2, rfl⟩
        · unfold eqGuard
          cases ox <;> cases oy <;> simp only [isC, Bool.or_self, Bool.false_eq_true] at hcst <;> cases o <;> rfl
        all_goals (unfold eqGuard; cases o <;> rfl)
      have hX := iface_den (ρ := ρ) (β := β) hi.1.1
      have hY := iface_den (ρ := ρ) (β := β) hi.1.2
      rw [Sem.run_bind, hgr _ _ _ hX hY]
      simp only [Result.andThen]
      have hb : ∀ X Y, (X = .nilIface ∨ ∃ t v, X = .iface t v) → (Y = .nilIface ∨ ∃ t v, Y = .iface t v) → binOp .eql t X Y = (do pure (.bool (← Op.equal t X Y))) ∧ binOp .neq t X Y = (do pure (.bool (!(← Op.equal t X Y)))) := by
        intro X Y hX hY
        rcases hX with rfl | ⟨t1, v1, rfl⟩ <;> rcases hY with rfl | ⟨t2, v2, rfl⟩ <;> exact ⟨rfl, rfl⟩
      rcases hd with ⟨rfl, rfl⟩ | ⟨rfl, rfl⟩
      · rw [(hb _ _ hX hY).1, Sem.run_bind]
        unfold Op.equal
        rw [this]
        rfl
      · rw [(hb _ _ hX hY).2, Sem.run_bind]
        unfold Op.equal
        rw [this]
        simp only [denV, den_mkNot]
        rfl
    · cases h
theorem evalBin_sound {P : Program} {ρ : Env} {β : Nat → Nat} {w : World} {o : BinOp} {t : TypeId} {ox oy : Operand} {x y c v : Tm} (h : evalBin P o t ox oy x y = some (c, v)) (hc : denB ρ β c = true) :
    ((do eqGuard o t ox oy (denV ρ β x) (denV ρ β y); binOp o t (denV ρ β x) (denV ρ β y)) : Sem Value).run P w = .ok (denV ρ β v) w := by
  unfold evalBin at h
  split at h
  · rename_i k a k' b
    split at h
    · unfold evalShift at h
      split at h
      · obtain ⟨rfl, rfl⟩ := Prod.mk.inj (Option.some.inj h)
        rw [den_mkCmp _ _ _ _ _ (show B2.ofInts .le = true from rfl)] at hc
        have hc' : ¬ denI ρ β b < 0 := by have := of_decide_eq_true (p := 0 ≤ denI ρ β b) hc; omega
        simp [eqGuard, binOp, Op.shift, denV, den_mkI2, I2.den, hc']
      · obtain ⟨rfl, rfl⟩ := Prod.mk.inj (Option.some.inj h)
        rw [den_mkCmp _ _ _ _ _ (show B2.ofInts .le = true from rfl)] at hc
        have hc' : ¬ denI ρ β b < 0 := by have := of_decide_eq_true (p := 0 ≤ denI ρ β b) hc; omega
        simp [eqGuard, binOp, Op.shift, denV, den_mkI2, I2.den, hc']
      · cases h
    · split at h
      · rename_i hk
        subst hk
        exact evalInt_sound h hc t ox oy
      · cases h
  · rename_i a b
    obtain ⟨d, he, hd⟩ := finT_spec h
    have := eqT_sound P ρ β w _ _ _ _ _ he
    have hgr : ∀ o (p q : Bool), (eqGuard o t ox oy (.bool p) (.bool q)).run P w = .ok () w := by
      intro o p q
      unfold eqGuard
      cases o <;> rfl
    simp only [denV] at this ⊢
    rw [Sem.run_bind, hgr]
    simp only [Result.andThen]
    rcases hd with ⟨rfl, rfl⟩ | ⟨rfl, rfl⟩
    · show ((do pure (.bool (← Op.equal t _ _))) : Sem Value).run P w = _
      rw [Sem.run_bind]
      unfold Op.equal
      rw [this]
      rfl
    · show ((do pure (.bool (!(← Op.equal t _ _)))) : Sem Value).run P w = _
      rw [Sem.run_bind]
      unfold Op.equal
      rw [this]
      simp only [denV, den_mkNot]
      rfl
  · rename_i a b
    split at h
    · cases h
    · rename_i hg
      have hg' : P.eqGuardType P.depth t = false := by simpa using hg
      obtain ⟨d, he, hd⟩ := finT_spec h
      have := eqT_sound P ρ β w _ _ _ _ _ he
      have hgr : ∀ o, (eqGuard o t ox oy (.agg (denL ρ β a).toArray) (.agg (denL ρ β b).toArray)).run P w = .ok () w := by
        intro o
        unfold eqGuard
        cases o
        all_goals first
          | rfl
          | (show Sem.run P (do let x ← program; let y ← program; if (!x.eqGuardType y.depth t) = true then pure () else _) w = _
             simp only [Sem.run_bind, r_program, Result.andThen, hg', Bool.not_false, if_true]
             rfl)
      simp only [denV] at this ⊢
      rw [Sem.run_bind, hgr]
      simp only [Result.andThen]
      rcases hd with ⟨rfl, rfl⟩ | ⟨rfl, rfl⟩
      · show ((do pure (.bool (← Op.equal t _ _))) : Sem Value).run P w = _
        rw [Sem.run_bind]
        unfold Op.equal
        rw [this]
        rfl
      · show ((do pure (.bool (!(← Op.equal t _ _)))) : Sem Value).run P w = _
        rw [Sem.run_bind]
        unfold Op.equal
        rw [this]
        simp only [denV, den_mkNot]
        rfl
  · exact evalOther_sound h
/-! Part 5: operations that yield a value. -/

theorem addr_add (b off n : Nat) : (⟨b, off, none⟩ : Addr).add n = ⟨b, off + n, none⟩ := by
  unfold Addr.add
  split
  · rename_i h; subst h; rfl
  · rfl
/-- known facts of this way -/
def decT (pc : List (Tm × Bool)) : Tm → Option Bool
  | .tt b => some b
  | .not a => (decT pc a).map fun x => !x
  | a => (pc.find? (fun x => x.1 == a)).map fun x => x.2
def PcOk (ρ : Env) (β : Nat → Nat) (pc : List (Tm × Bool)) : Prop := ∀ x ∈ pc, denB ρ β x.1 = x.2
theorem find_den {ρ : Env} {β : Nat → Nat} {pc : List (Tm × Bool)} (h : PcOk ρ β pc) {a : Tm} {x : Tm × Bool} (hf : pc.find? (fun x => x.1 == a) = some x) : denB ρ β a = x.2 := by
  have h1 := List.mem_of_find?_eq_some hf
  have h2 := List.find?_some hf
  have h3 : x.1 = a := by simpa using h2
  rw [← h3]
  exact h x h1
theorem decT_den {ρ : Env} {β : Nat → Nat} {pc : List (Tm × Bool)} (h : PcOk ρ β pc) : ∀ {t : Tm} {b : Bool}, decT pc t = some b → denB ρ β t = b := by
  intro t
  induction t with
  | tt b => intro c hd; simp only [decT, Option.some.injEq] at hd; subst hd; rfl
  | not a ih =>
    intro c hd
    simp only [decT] at hd
    cases hx : decT pc a with
    | none => rw [hx] at hd; cases hd
    | some x => rw [hx] at hd; obtain rfl := Option.some.inj hd; simp [denB, ih hx]
  | _ =>
    intro c hd
    simp only [decT] at hd
    cases hf : List.find? (fun x => x.1 == _) pc with
    | none => rw [hf] at hd; cases hd
    | some x => rw [hf] at hd; obtain rfl := Option.some.inj hd; exact find_den h hf
def evalUn (o : UnOp) : Tm → Option Tm
  | .int k a => match o with
    | .neg => some (.int k (mkWrap k (mkI2 .sub (.lit 0) a)))
    | .xor => some (.int k (mkI2 (.bits .xor k) (.lit (if k.signed then -1 else k.max)) a))
    | _ => none
  | .bool a => match o with
    | .not => some (.bool (mkNot a))
    | _ => none
  | _ => none
theorem evalUn_sound {P : Program} {ρ : Env} {β : Nat → Nat} {w : World} {o : UnOp} {x v : Tm} (h : evalUn o x = some v) : (Op.unary o (denV ρ β x)).run P w = .ok (denV ρ β v) w := by
  unfold evalUn at h
  split at h
  · split at h
    · obtain rfl := Option.some.inj h
      simp [Op.unary, Op.intArith, denV, den_mkWrap, den_mkI2, I2.den, denI]
    · obtain rfl := Option.some.inj h
      simp [Op.unary, Op.intBits, denV, den_mkWrap, den_mkI2, I2.den, denI, bitsV]
    · cases h
  · split at h
    · obtain rfl := Option.some.inj h
      simp [Op.unary, denV, den_mkNot]
    · cases h
  · cases h
def evalConv (P : Program) (src dst : TypeId) (x : Tm) : Option Tm :=
  match P.underlying src, P.underlying dst with
  | some _, some (.int k) => match x with
    | .int _ a => some (.int k (mkWrap k a))
    | _ => none
  | some _, some .string => if strT x then some x else none
  | _, _ => none
theorem evalConv_sound {P : Program} {ρ : Env} {β : Nat → Nat} {w : World} {src dst : TypeId} {x v : Tm} (h : evalConv P src dst x = some v) : (convert src dst (denV ρ β x)).run P w = .ok (denV ρ β v) w := by
  unfold evalConv at h
  split at h
  · rename_i d k hs hd
    split at h
    · obtain rfl := Option.some.inj h
      unfold convert
      simp only [Sem.run_bind, r_underlying hs, r_underlying hd, Result.andThen, denV, den_mkWrap]
      cases d <;> rfl
    · cases h
  · rename_i d hs hd
    split at h
    · rename_i hx
      obtain rfl := Option.some.inj h
      obtain ⟨s, hs'⟩ := strT_den (ρ := ρ) (β := β) hx
      unfold convert
      simp only [Sem.run_bind, r_underlying hs, r_underlying hd, Result.andThen, hs']
      cases d <;> rfl
    · cases h
  · cases h
def evalIface (P : Program) (t : TypeId) (x : Tm) : Option Tm :=
  match P.underlying t with
  | some (.interface _) => none
  | some _ => some (.iface t x)
  | none => none
theorem evalIface_sound {P : Program} {ρ : Env} {β : Nat → Nat} {w : World} {t : TypeId} {x v : Tm} (h : evalIface P t x = some v) : (Instr.makeInterface t (denV ρ β x)).run P w = .ok (denV ρ β v) w := by
  unfold evalIface at h
  split at h
  · cases h
  · rename_i d hne hd
    obtain rfl := Option.some.inj h
    unfold Instr.makeInterface
    rw [Sem.run_bind, r_underlying hd]
    cases d <;> first | rfl | exact (hne _ rfl).elim
  · cases h
def evalFieldAddr (P : Program) (s : TypeId) (x : Tm) (f : Nat) : Option Tm :=
  match P.underlying s with
  | some (.struct fs) => match fs[f]?, x with
    | some fld, .ptr id off => match P.info? fld.type with
      | some i => if i.size = 0 then none else some (.ptr id (off + fld.offset))
      | none => none
    | some fld, .ep b n off => match P.info? fld.type with
      | some i => if i.size = 0 then none else some (.ep b n (off + fld.offset))
      | none => none
    | _, _ => none
  | _ => none
theorem evalFieldAddr_sound {P : Program} {ρ : Env} {β : Nat → Nat} {w : World} {s : TypeId} {x v : Tm} {f : Nat} (h : evalFieldAddr P s x f = some v) : (Instr.fieldAt s (denV ρ β x) f).run P w = .ok (denV ρ β v) w := by
  unfold evalFieldAddr at h
  split at h
  · rename_i fs hd
    split at h
    · rename_i fld id off hf
      split at h
      · rename_i i hi
        split at h
        · cases h
        · rename_i hz
          obtain rfl := Option.some.inj h
          unfold Instr.fieldAt
          rw [Sem.run_bind, r_underlying hd]
          simp only [Result.andThen, hf, denV]
          show ((do let a ← Instr.sureAddr (.pointer (some ⟨β id, off, none⟩)); pure (Value.pointer (some (← fieldPlace a fld)))) : Sem Value).run P w = _
          simp only [Instr.sureAddr, fieldPlace, Sem.run_bind, Sem.run_pure, Result.andThen, r_sizeOf hi, hz, if_false, addr_add]
      · cases h
    · rename_i fld b n off hf
      split at h
      · rename_i i hi
        split at h
        · cases h
        · rename_i hz
          obtain rfl := Option.some.inj h
          unfold Instr.fieldAt
          rw [Sem.run_bind, r_underlying hd]
          simp only [Result.andThen, hf, denV]
          show ((do let a ← Instr.sureAddr (.pointer (some ((ρ.sls b).addr (denI ρ β n).toNat off))); pure (Value.pointer (some (← fieldPlace a fld)))) : Sem Value).run P w = _
          simp only [Instr.sureAddr, fieldPlace, Sem.run_bind, Sem.run_pure, Result.andThen, r_sizeOf hi, hz, if_false, Slc.addr, addr_add, Nat.add_assoc]
      · cases h
    · cases h
  · cases h
def evalIndexAddr (P : Program) (t : TypeId) (x i : Tm) : Option Tm :=
  match P.underlying t with
  | some (.array len e) => match x, i, P.info? e with
    | .ptr id off, .int _ (.lit n), some inf => if 0 ≤ n ∧ n < (len : Int) then some (.ptr id (off + n.toNat * inf.size)) else none
    | .ep b m off, .int _ (.lit n), some inf => if 0 ≤ n ∧ n < (len : Int) then some (.ep b m (off + n.toNat * inf.size)) else none
    | _, _, _ => none
  | some (.slice e) => match x, i, P.info? e with
    | .osl id m, .int _ (.lit n), some inf => if 0 ≤ n ∧ n < (m : Int) then some (.ptr id (n.toNat * inf.size)) else none
    | _, _, _ => none
  | _ => none
theorem evalIndexAddr_sound {P : Program} {ρ : Env} {β : Nat → Nat} {w : World} {t : TypeId} {x i v : Tm} (h : evalIndexAddr P t x i = some v) : (Instr.indexAt t (denV ρ β x) (denV ρ β i)).run P w = .ok (denV ρ β v) w := by
  unfold evalIndexAddr at h
  split at h
  · rename_i len e hd
    split at h
    · rename_i id off k n inf hi
      split at h
      · rename_i hn
        obtain rfl := Option.some.inj h
        unfold Instr.indexAt
        simp only [denV, denI, asIntOf, Sem.run_bind, Sem.run_pure, Result.andThen, r_underlying hd, Instr.sureAddr, hn, and_self, if_true, r_sizeOf hi, addr_add]
      · cases h
    · rename_i b m off k n inf hi
      split at h
      · rename_i hn
        obtain rfl := Option.some.inj h
        unfold Instr.indexAt
        simp only [denV, denI, asIntOf, Sem.run_bind, Sem.run_pure, Result.andThen, r_underlying hd, Instr.sureAddr, hn, and_self, if_true, r_sizeOf hi, Slc.addr, addr_add, Nat.add_assoc]
      · cases h
    · cases h
  · rename_i e hd
    split at h
    · rename_i id m k n inf hi
      split at h
      · rename_i hn
        obtain rfl := Option.some.inj h
        unfold Instr.indexAt
        simp only [denV, denI, asIntOf, Sem.run_bind, Sem.run_pure, Result.andThen, r_underlying hd, Instr.sureAddr, hn, and_self, if_true, r_sizeOf hi, addr_add, Nat.zero_add]
      · cases h
    · cases h
  · cases h
/-- an element of a slice that lies in the world: where it is -/
def evalElem (P : Program) (ks : List (List CK)) (t : TypeId) (x i : Tm) : Option (Tm × Tm) :=
  match P.underlying t with
  | some (.slice e) => match x, i, P.info? e with
    | .sl b, .int _ n, some inf => match ks[b]? with
      | some k => if inf.size = k.length then some (mkAnd (mkCmp .le (.lit 0) n) (mkCmp .lt n (.slen b)), .ep b n 0) else none
      | none => none
    | _, _, _ => none
  | _ => none
theorem evalElem_sound {P : Program} {ρ : Env} {β : Nat → Nat} {W w : World} {ks : List (List CK)} {t : TypeId} {x i c v : Tm} (hs : SlsOk W ρ.sls ks) (h : evalElem P ks t x i = some (c, v)) (hc : denB ρ β c = true) : (Instr.indexAt t (denV ρ β x) (denV ρ β i)).run P w = .ok (denV ρ β v) w := by
  unfold evalElem at h
  split at h
  · rename_i e hd
    split at h
    · rename_i b kd n inf hi
      split at h
      · rename_i k hk
        split at h
        · rename_i hsz
          obtain ⟨rfl, rfl⟩ := Prod.mk.inj (Option.some.inj h)
          rw [den_mkAnd, den_mkCmp _ _ _ _ _ rfl, den_mkCmp _ _ _ _ _ rfl, Bool.and_eq_true] at hc
          have h1 : 0 ≤ denI ρ β n := of_decide_eq_true (p := 0 ≤ denI ρ β n) hc.1
          have h2 : denI ρ β n < ((ρ.sls b).len : Int) := of_decide_eq_true (p := denI ρ β n < ((ρ.sls b).len : Int)) hc.2
          obtain ⟨he, hl⟩ := hs b k hk
          have hnn := (hl (denI ρ β n).toNat (by omega)).1
          have hz : ¬ (ρ.sls b).len = 0 := by omega
          unfold Instr.indexAt
          simp only [denV, Slc.val, hnn, hz, Bool.false_eq_true, if_false, asIntOf, Sem.run_bind, Sem.run_pure, Result.andThen, r_underlying hd, h1, h2, and_self, if_true, r_sizeOf hi, addr_add, Slc.addr, hsz, he, Nat.add_zero]
        · cases h
      · cases h
    · cases h
  · cases h
/-- a cell of such an element -/
def cellK (b : Nat) (n : Tm) (j : Nat) : CK → Tm
  | .int k => .int k (.sel b n j)
  | .bool => .bool (.bsel b n j)
  | .str => .ssel b n j
theorem cellK_den {ρ : Env} {β : Nat → Nat} {b : Nat} {n : Tm} {j : Nat} {k : CK} (h : k.fits ((ρ.sls b).cont (denI ρ β n).toNat j)) : denV ρ β (cellK b n j k) = (ρ.sls b).cont (denI ρ β n).toNat j := by
  cases k <;> exact h.symm
def cellsK (b : Nat) (n : Tm) : Nat → List CK → List Tm
  | _, [] => []
  | j, k :: r => cellK b n j k :: cellsK b n (j + 1) r
def evalLoadX (P : Program) (ks : List (List CK)) (t : TypeId) (b : Nat) (n : Tm) (off : Nat) : Option (Tm × Tm) :=
  match P.underlying t, P.info? t, ks[b]? with
  | some d, some i, some k =>
    if isAggD d then (if ((k.drop off).take i.size).length = i.size then some (mkAnd (mkCmp .le (.lit 0) n) (mkCmp .lt n (.slen b)), .agg (ofL (cellsK b n off ((k.drop off).take i.size)))) else none)
    else match k[off]? with
      | some c => some (mkAnd (mkCmp .le (.lit 0) n) (mkCmp .lt n (.slen b)), cellK b n off c)
      | none => none
  | _, _, _ => none
def evalField (P : Program) (t : TypeId) (x : Tm) (f : Nat) : Option Tm :=
  match P.underlying t with
  | some (.struct fs) => match fs[f]?, x with
    | some fld, .agg l => partT P fld.type (toL l) fld.offset
    | _, _ => none
  | _ => none
theorem evalField_sound {P : Program} {ρ : Env} {β : Nat → Nat} {w : World} {t : TypeId} {x v : Tm} {f : Nat} (h : evalField P t x f = some v) : (Instr.field t (denV ρ β x) f).run P w = .ok (denV ρ β v) w := by
  unfold evalField at h
  split at h
  · rename_i fs hd
    split at h
    · rename_i fld l hf
      unfold Instr.field
      rw [Sem.run_bind, r_underlying hd]
      simp only [Result.andThen, hf, denV, denL_toL, asAgg, Sem.run_bind, Sem.run_pure]
      exact r_part h w
    · cases h
  · cases h
def evalIndex (P : Program) (t : TypeId) (x i : Tm) : Option Tm :=
  match P.underlying t with
  | some (.array len e) => match x, i, P.info? e with
    | .agg l, .int _ (.lit n), some inf => if 0 ≤ n ∧ n < (len : Int) then partT P e (toL l) (n.toNat * inf.size) else none
    | _, _, _ => none
  | _ => none
theorem evalIndex_sound {P : Program} {ρ : Env} {β : Nat → Nat} {w : World} {t : TypeId} {x i v : Tm} (h : evalIndex P t x i = some v) : (Instr.index t (denV ρ β x) (denV ρ β i)).run P w = .ok (denV ρ β v) w := by
  unfold evalIndex at h
  split at h
  · rename_i len e hd
    split at h
    · rename_i l k n inf hi
      split at h
      · rename_i hn
        unfold Instr.index
        simp only [denV, denI, asIntOf, Sem.run_bind, Sem.run_pure, Result.andThen, r_underlying hd, hn, and_self, if_true, r_sizeOf hi, denL_toL]
        exact r_part h w
      · cases h
    · cases h
  · cases h
def evalExtract (x : Tm) (i : Nat) : Option Tm :=
  match x with
  | .tup l => (toL l)[i]?
  | _ => none
theorem evalExtract_sound {P : Program} {ρ : Env} {β : Nat → Nat} {w : World} {x v : Tm} {i : Nat} (h : evalExtract x i = some v) : (Instr.extract (denV ρ β x) i).run P w = .ok (denV ρ β v) w := by
  unfold evalExtract at h
  split at h
  · rename_i l
    simp only [denV, Instr.extract, denL_toL]
    simp [h]
  · cases h
/-- parts into cells -/
def putAll (cells : List Tm) (off : Nat) : List Tm → List Tm
  | [] => cells
  | c :: r => putAll (cells.set off c) (off + 1) r
def fillT (place : Nat → Option (Nat × Nat)) (cells : List Tm) : List (Nat × Tm) → Option (List Tm)
  | [] => some cells
  | (i, v) :: rest =>
    match place i with
    | none => none
    | some (off, size) =>
      if known v = true ∧ (cellsT v).length = size ∧ off + (cellsT v).length ≤ cells.length then fillT place (putAll cells off (cellsT v)) rest else none
theorem putAll_length : ∀ (l cells : List Tm) (off : Nat), (putAll cells off l).length = cells.length
  | [], _, _ => rfl
  | c :: r, cells, off => by simp [putAll, putAll_length r]
theorem putAll_den {ρ : Env} {β : Nat → Nat} : ∀ (l : List Tm) (cells : List Tm) (off k : Nat),
    ((l.map (denV ρ β)).zipIdx k).foldl (fun cs (p : Value × Nat) => cs.setIfInBounds (off + p.2) p.1) (cells.map (denV ρ β)).toArray = ((putAll cells (off + k) l).map (denV ρ β)).toArray
  | [], cells, off, k => rfl
  | c :: r, cells, off, k => by
    simp only [List.map_cons, List.zipIdx_cons, List.foldl_cons, putAll]
    have := putAll_den (ρ := ρ) (β := β) r (cells.set (off + k) c) off (k + 1)
    rw [← Nat.add_assoc] at this
    rw [← this]
    congr 1
    rw [List.map_set]
    simp
theorem fillT_sound {ρ : Env} {β : Nat → Nat} {place : Nat → Option (Nat × Nat)} : ∀ (parts : List (Nat × Tm)) (cells res : List Tm), fillT place cells parts = some res →
    Instr.fill place (cells.map (denV ρ β)).toArray (parts.map fun p => (p.1, denV ρ β p.2)) = some (res.map (denV ρ β)).toArray
  | [], cells, res, h => by obtain rfl := Option.some.inj h; rfl
  | (i, v) :: rest, cells, res, h => by
    unfold fillT at h
    split at h
    · cases h
    · rename_i off size hp
      split at h
      · rename_i hc
        obtain ⟨hk, hs, hl⟩ := hc
        have ih := fillT_sound (ρ := ρ) (β := β) rest _ _ h
        simp only [List.map_cons, Instr.fill, hp, cells_den hk]
        have h1 : ((cellsT v).map (denV ρ β)).toArray.size = size := by simpa using hs
        have h2 : ¬ (off + ((cellsT v).map (denV ρ β)).toArray.size > (cells.map (denV ρ β)).toArray.size) := by simp; omega
        simp only [h1, ne_eq, not_true_eq_false, decide_false, Bool.false_or]
        rw [h1] at h2
        simp only [h2, decide_false, Bool.false_eq_true, if_false]
        rw [← ih]
        congr 1
        have := putAll_den (ρ := ρ) (β := β) (cellsT v) cells off 0
        rw [Nat.add_zero] at this
        rw [← this]
        simp
      · cases h
/-! Part 6: contracts, and what an operation does. -/

/-- what stands in the place of a slice: one that lies in the world, an own block whole, none -/
inductive SRef where
  | ext (b : Nat) | own (id n esz : Nat) (cells : List Tm) | nul (esz : Nat)
  deriving DecidableEq
def SRef.slen : SRef → Tm
  | .ext b => .slen b
  | .own _ n _ _ => .lit n
  | .nul _ => .lit 0
def SRef.slv : SRef → Tm
  | .ext b => .slv b
  | .own _ _ _ cells => .tup (ofL cells)
  | .nul _ => .tup .nil
def SRef.sl : SRef → Tm
  | .ext b => .sl b
  | .own id n _ _ => .osl id n
  | .nul _ => .cst .nilS
def SRef.ix : SRef → Nat
  | .ext b => b
  | _ => 0
def SRef.isExt : SRef → Bool
  | .ext _ => true
  | _ => false
def SRef.good : SRef → Bool
  | .own _ n esz cells => cells.length == n * esz
  | _ => true
def SRef.slc (ρ : Env) (β : Nat → Nat) : SRef → Slc
  | .ext b => ρ.sls b
  | .own id n esz cells => ⟨β id, 0, false, n, n, esz, fun i j => denV ρ β (cells.getD (i * esz + j) .junk), ⟨0, 0, none⟩⟩
  | .nul esz => ⟨0, 0, true, 0, 0, esz, fun _ _ => Go.undef, ⟨0, 0, none⟩⟩
theorem chunks {α : Type} (f : Nat → α) (e : Nat) : ∀ n, ((List.range n).flatMap fun i => (List.range e).map fun j => f (i * e + j)) = (List.range (n * e)).map f
  | 0 => by simp
  | n + 1 => by
    rw [List.range_succ, List.flatMap_append, chunks f e n, Nat.succ_mul, List.range_add, List.map_append]
    simp [Function.comp_def]
theorem map_getD {α β : Type} (g : α → β) (l : List α) (d : α) : ((List.range l.length).map fun k => g (l.getD k d)) = l.map g := by
  apply List.ext_getElem
  · simp
  · intro i h1 h2
    simp only [List.length_map] at h2
    simp [List.getD_eq_getElem?_getD, List.getElem?_eq_getElem h2]
theorem SRef.slen_den (ρ : Env) (β : Nat → Nat) (r : SRef) : denI ρ β r.slen = (r.slc ρ β).len ∧ denB ρ β r.slen = false ∧ denV ρ β r.slen = Go.undef ∧ denL ρ β r.slen = [] := by
  cases r <;> exact ⟨rfl, rfl, rfl, rfl⟩
theorem SRef.sl_den (ρ : Env) (β : Nat → Nat) (r : SRef) : denI ρ β r.sl = 0 ∧ denB ρ β r.sl = false ∧ denV ρ β r.sl = (r.slc ρ β).val ∧ denL ρ β r.sl = [] := by
  cases r <;> first | exact ⟨rfl, rfl, rfl, rfl⟩ | simp [SRef.sl, SRef.slc, Slc.val, denI, denB, denV, denL, Cst.den]
theorem SRef.slv_den (ρ : Env) (β : Nat → Nat) (r : SRef) (h : r.good = true) : denI ρ β r.slv = 0 ∧ denB ρ β r.slv = false ∧ denV ρ β r.slv = (r.slc ρ β).all ∧ denL ρ β r.slv = [] := by
  cases r with
  | ext b => exact ⟨rfl, rfl, rfl, rfl⟩
  | nul e => exact ⟨rfl, rfl, rfl, rfl⟩
  | own id n e cells =>
    refine ⟨rfl, rfl, ?_, rfl⟩
    simp only [SRef.good, beq_iff_eq] at h
    simp only [SRef.slv, denV, denL_ofL, SRef.slc, Slc.all, Slc.cells]
    rw [chunks (fun k => denV ρ β (cells.getD k .junk)) e n, ← h, map_getD]
/-- its single elements are named only where it lies in the world -/
def selOk (p : Nat → Bool) : Tm → Bool
  | .sel b i _ => p b && selOk p i
  | .bsel b i _ => p b && selOk p i
  | .ssel b i _ => p b && selOk p i
  | .ep b i _ => p b && selOk p i
  | .i2 _ a b => selOk p a && selOk p b
  | .b2 _ a b => selOk p a && selOk p b
  | .veq a b => selOk p a && selOk p b
  | .cons a b => selOk p a && selOk p b
  | .wrap _ a => selOk p a
  | .blen a => selOk p a
  | .iapp _ a => selOk p a
  | .not a => selOk p a
  | .bapp _ a => selOk p a
  | .int _ a => selOk p a
  | .bool a => selOk p a
  | .agg a => selOk p a
  | .tup a => selOk p a
  | .err a => selOk p a
  | .iface _ a => selOk p a
  | .vapp _ a => selOk p a
  | .sapp _ a => selOk p a
  | _ => true
theorem selOk_all {p : Nat → Bool} (h : ∀ b, p b = true) : ∀ t, selOk p t = true := by
  intro t
  induction t <;> simp_all [selOk]
structure Sub where
  i : List Tm
  b : List Tm
  v : List Tm
  s : List Tm
  l : Option (List SRef)
/-- which slice -/
def Sub.lk (σ : Sub) (b : Nat) : SRef :=
  match σ.l with
  | none => .ext b
  | some l => l.getD b (.ext 0)
def subst (σ : Sub) : Tm → Tm
  | .lit n => .lit n
  | .var i => σ.i.getD i (.lit 0)
  | .i2 o a b => mkI2 o (subst σ a) (subst σ b)
  | .wrap k a => mkWrap k (subst σ a)
  | .iapp f l => .iapp f (subst σ l)
  | .tt b => .tt b
  | .bvar i => σ.b.getD i (.tt false)
  | .veq a b => .veq (subst σ a) (subst σ b)
  | .b2 o a b => .b2 o (subst σ a) (subst σ b)
  | .not a => .not (subst σ a)
  | .bapp f l => .bapp f (subst σ l)
  | .int k a => .int k (subst σ a)
  | .bool a => .bool (subst σ a)
  | .opq i => σ.v.getD i (.cst .undef)
  | .str i => σ.s.getD i (.cst (.strc []))
  | .slen b => (σ.lk b).slen
  | .sel b i j => .sel (σ.lk b).ix (subst σ i) j
  | .bsel b i j => .bsel (σ.lk b).ix (subst σ i) j
  | .ssel b i j => .ssel (σ.lk b).ix (subst σ i) j
  | .sl b => (σ.lk b).sl
  | .slv b => (σ.lk b).slv
  | .ep b i j => .ep (σ.lk b).ix (subst σ i) j
  | .blen a => .blen (subst σ a)
  | .ptr id off => .ptr id off
  | .agg l => .agg (subst σ l)
  | .tup l => .tup (subst σ l)
  | .err a => .err (subst σ a)
  | .iface t v => .iface t (subst σ v)
  | .cst c => .cst c
  | .vapp f l => .vapp f (subst σ l)
  | .sapp f l => .sapp f (subst σ l)
  | .osl id n => .osl id n
  | .junk => .junk
  | .nil => .nil
  | .cons a b => .cons (subst σ a) (subst σ b)
def Env.sub (ρ : Env) (β : Nat → Nat) (σ : Sub) : Env :=
  { ρ with iv := σ.i.map (denI ρ β), bv := σ.b.map (denB ρ β), vv := σ.v.map (denV ρ β), sv := σ.s.map (fun t => strOf (denV ρ β t)), sls := fun b => (σ.lk b).slc ρ β }
def isI : Tm → Bool
  | .lit _ | .var _ | .slen .. | .sel .. | .blen .. | .i2 .. | .wrap .. | .iapp .. => true
  | _ => false
def isB : Tm → Bool
  | .tt _ | .bvar _ | .veq .. | .bsel .. | .b2 .. | .not _ | .bapp .. => true
  | _ => false
def isV : Tm → Bool
  | .int .. | .bool _ | .opq _ | .str _ | .ssel .. | .sl .. | .slv .. | .ep .. | .ptr .. | .agg _ | .tup _ | .err _ | .iface .. | .cst _ | .vapp .. | .sapp .. | .osl .. => true
  | _ => false
def Sub.ok (σ : Sub) : Bool := σ.i.all isI && σ.b.all isB && σ.v.all isV && σ.s.all strT
theorem isI_den {ρ : Env} {β : Nat → Nat} {t : Tm} (h : isI t = true) : denB ρ β t = false ∧ denV ρ β t = Go.undef ∧ denL ρ β t = [] := by
  cases t <;> simp [isI] at h <;> simp [denB, denV, denL]
theorem isB_den {ρ : Env} {β : Nat → Nat} {t : Tm} (h : isB t = true) : denI ρ β t = 0 ∧ denV ρ β t = Go.undef ∧ denL ρ β t = [] := by
  cases t <;> simp [isB] at h <;> simp [denI, denV, denL]
theorem isV_den {ρ : Env} {β : Nat → Nat} {t : Tm} (h : isV t = true) : denI ρ β t = 0 ∧ denB ρ β t = false ∧ denL ρ β t = [] := by
  cases t <;> simp [isV] at h <;> simp [denI, denB, denL]
theorem getD_all {p : Tm → Bool} {l : List Tm} (h : l.all p = true) {d : Tm} (hd : p d = true) (i : Nat) : p (l.getD i d) = true := by
  rw [List.getD_eq_getElem?_getD]
  cases hl : l[i]? with
  | none => simpa using hd
  | some x => simpa using List.all_eq_true.1 h x (List.mem_of_getElem? hl)
theorem mkI2_isI (o : I2) (a b : Tm) : isI (mkI2 o a b) = true := by unfold mkI2; split <;> rfl
theorem mkWrap_isI (k : IntKind) (a : Tm) : isI (mkWrap k a) = true := by unfold mkWrap; split <;> rfl
theorem getD_map {α β : Type} (f : α → β) (l : List α) (i : Nat) (d : α) (e : β) (h : f d = e) : f (l.getD i d) = (l.map f).getD i e := by
  simp only [List.getD_eq_getElem?_getD, List.getElem?_map]
  cases l[i]? <;> simp [h]
theorem subst_den (ρ : Env) (β : Nat → Nat) (σ : Sub) (hs : σ.ok = true) (hl : ∀ b, (σ.lk b).good = true) : ∀ t, selOk (fun b => (σ.lk b).isExt) t = true → denI ρ β (subst σ t) = denI (ρ.sub β σ) β t ∧ denB ρ β (subst σ t) = denB (ρ.sub β σ) β t ∧ denV ρ β (subst σ t) = denV (ρ.sub β σ) β t ∧ denL ρ β (subst σ t) = denL (ρ.sub β σ) β t := by
  simp only [Sub.ok, Bool.and_eq_true, and_assoc] at hs
  have hx : ∀ b, (σ.lk b).isExt = true → ρ.sls (σ.lk b).ix = (ρ.sub β σ).sls b := by
    intro b hb
    show ρ.sls (σ.lk b).ix = (σ.lk b).slc ρ β
    generalize σ.lk b = r at hb ⊢
    cases r <;> first | rfl | cases hb
  intro t
  induction t with
  | var i =>
    intro _
    have h := isI_den (ρ := ρ) (β := β) (getD_all hs.1 (show isI (.lit 0) = true from rfl) i)
    exact ⟨getD_map (denI ρ β) σ.i i (.lit 0) 0 rfl, h.1, h.2.1, h.2.2⟩
  | bvar i =>
    intro _
    have h := isB_den (ρ := ρ) (β := β) (getD_all hs.2.1 (show isB (.tt false) = true from rfl) i)
    exact ⟨h.1, getD_map (denB ρ β) σ.b i (.tt false) false rfl, h.2.1, h.2.2⟩
  | opq i =>
    intro _
    have h := isV_den (ρ := ρ) (β := β) (getD_all hs.2.2.1 (show isV (.cst .undef) = true from rfl) i)
    exact ⟨h.1, h.2.1, getD_map (denV ρ β) σ.v i (.cst .undef) Go.undef rfl, h.2.2⟩
  | str i =>
    intro _
    have h0 := getD_all hs.2.2.2 (show strT (.cst (.strc [])) = true from rfl) i
    have h1 : isV (σ.s.getD i (.cst (.strc []))) = true := by
      generalize σ.s.getD i (.cst (.strc [])) = x at h0 ⊢
      unfold strT at h0
      split at h0 <;> first | rfl | cases h0
    have h := isV_den (ρ := ρ) (β := β) h1
    refine ⟨h.1, h.2.1, ?_, h.2.2⟩
    obtain ⟨x, hx⟩ := strT_den (ρ := ρ) (β := β) h0
    have h3 := getD_map (fun t => strOf (denV ρ β t)) σ.s i (.cst (.strc [])) ByteArray.empty rfl
    show denV ρ β (σ.s.getD i (.cst (.strc []))) = .string ((σ.s.map fun t => strOf (denV ρ β t)).getD i ByteArray.empty)
    rw [← h3, hx]
    rfl
  | i2 o a b iha ihb =>
    intro hq; simp only [selOk, Bool.and_eq_true] at hq; replace iha := iha hq.1; replace ihb := ihb hq.2
    have h := isI_den (ρ := ρ) (β := β) (mkI2_isI o (subst σ a) (subst σ b))
    exact ⟨by simp [subst, den_mkI2, denI, iha.1, ihb.1], h.1, h.2.1, h.2.2⟩
  | wrap k a ih =>
    intro hq; replace ih := ih hq
    have h := isI_den (ρ := ρ) (β := β) (mkWrap_isI k (subst σ a))
    exact ⟨by simp [subst, den_mkWrap, denI, ih.1], h.1, h.2.1, h.2.2⟩
  | b2 o a b iha ihb =>
    intro hq; simp only [selOk, Bool.and_eq_true] at hq; replace iha := iha hq.1; replace ihb := ihb hq.2
    simp only [subst]
    refine ⟨rfl, ?_, rfl, rfl⟩
    simp only [denB, iha.1, iha.2.1, ihb.1, ihb.2.1]
  | not a ih => intro hq; replace ih := ih hq; simp [subst, denI, denB, denV, denL, ih.2.1]
  | slen b => intro _; exact (σ.lk b).slen_den ρ β
  | sl b => intro _; exact (σ.lk b).sl_den ρ β
  | slv b => intro _; exact (σ.lk b).slv_den ρ β (hl b)
  | sel b i j ih => intro hq; simp only [selOk, Bool.and_eq_true] at hq; replace ih := ih hq.2; exact ⟨by simp only [subst, denI, ih.1, hx b hq.1], rfl, rfl, rfl⟩
  | bsel b i j ih => intro hq; simp only [selOk, Bool.and_eq_true] at hq; replace ih := ih hq.2; exact ⟨rfl, by simp only [subst, denB, ih.1, hx b hq.1], rfl, rfl⟩
  | ssel b i j ih => intro hq; simp only [selOk, Bool.and_eq_true] at hq; replace ih := ih hq.2; exact ⟨rfl, rfl, by simp only [subst, denV, ih.1, hx b hq.1], rfl⟩
  | ep b i j ih => intro hq; simp only [selOk, Bool.and_eq_true] at hq; replace ih := ih hq.2; exact ⟨rfl, rfl, by simp only [subst, denV, ih.1, hx b hq.1], rfl⟩
  | blen a ih => intro hq; replace ih := ih hq; exact ⟨by simp only [subst, denI, ih.2.2.1], rfl, rfl, rfl⟩
  | iapp f l ih => intro hq; replace ih := ih hq; exact ⟨by simp only [subst, denI, ih.2.2.2]; rfl, rfl, rfl, rfl⟩
  | bapp f l ih => intro hq; replace ih := ih hq; exact ⟨rfl, by simp only [subst, denB, ih.2.2.2]; rfl, rfl, rfl⟩
  | vapp f l ih => intro hq; replace ih := ih hq; exact ⟨rfl, rfl, by simp only [subst, denV, ih.2.2.2]; rfl, rfl⟩
  | sapp f l ih => intro hq; replace ih := ih hq; exact ⟨rfl, rfl, by simp only [subst, denV, ih.2.2.2]; rfl, rfl⟩
  | err a ih => intro hq; replace ih := ih hq; exact ⟨rfl, rfl, by simp only [subst, denV, ih.1]; rfl, rfl⟩
  | veq a b iha ihb => intro hq; simp only [selOk, Bool.and_eq_true] at hq; replace iha := iha hq.1; replace ihb := ihb hq.2; simp [subst, denI, denB, denV, denL, iha.2.2.1, ihb.2.2.1]
  | int k a ih => intro hq; replace ih := ih hq; simp [subst, denI, denB, denV, denL, ih.1]
  | bool a ih => intro hq; replace ih := ih hq; simp [subst, denI, denB, denV, denL, ih.2.1]
  | agg a ih => intro hq; replace ih := ih hq; simp [subst, denI, denB, denV, denL, ih.2.2.2]
  | tup a ih => intro hq; replace ih := ih hq; simp [subst, denI, denB, denV, denL, ih.2.2.2]
  | iface t a ih => intro hq; replace ih := ih hq; simp [subst, denI, denB, denV, denL, ih.2.2.1]
  | cons a b iha ihb => intro hq; simp only [selOk, Bool.and_eq_true] at hq; replace iha := iha hq.1; replace ihb := ihb hq.2; simp [subst, denI, denB, denV, denL, iha.2.2.1, ihb.2.2.2]
  | _ => intro _; exact ⟨rfl, rfl, rfl, rfl⟩
def closed (t : Tm) : Bool := idsIn (fun _ => false) t
theorem closed_den {ρ : Env} {t : Tm} (h : closed t = true) (β β' : Nat → Nat) : denI ρ β t = denI ρ β' t ∧ denB ρ β t = denB ρ β' t ∧ denV ρ β t = denV ρ β' t ∧ denL ρ β t = denL ρ β' t :=
  den_congr (p := fun _ => false) (fun i hi => by cases hi) t h
def b0 : Nat → Nat := fun _ => 0
/-- a condition as a proposition -/
def holds (ρ : Env) : Tm → Prop
  | .tt b => b = true
  | .not a => ¬ holds ρ a
  | .b2 .lt a b => denI ρ b0 a < denI ρ b0 b
  | .b2 .le a b => denI ρ b0 a ≤ denI ρ b0 b
  | .b2 .eq a b => denI ρ b0 a = denI ρ b0 b
  | .b2 .and a b => holds ρ a ∧ holds ρ b
  | .b2 .or a b => holds ρ a ∨ holds ρ b
  | .b2 .beq a b => (holds ρ a ↔ holds ρ b)
  | t => denB ρ b0 t = true
theorem holds_iff (ρ : Env) : ∀ t, holds ρ t ↔ denB ρ b0 t = true := by
  intro t
  induction t with
  | tt b => simp [holds, denB]
  | not a ih => simp [holds, denB, ih]
  | b2 o a b iha ihb =>
    cases o
    case lt => simp [holds, denB, B2.ofInts, B2.denI]
    case le => simp [holds, denB, B2.ofInts, B2.denI]
    case eq => simp [holds, denB, B2.ofInts, B2.denI]
    case and => simp [holds, denB, B2.ofInts, B2.denB, iha, ihb]
    case or => simp [holds, denB, B2.ofInts, B2.denB, iha, ihb]
    case beq =>
      simp only [holds, denB, B2.ofInts, B2.denB, iha, ihb]
      cases denB ρ b0 a <;> cases denB ρ b0 b <;> simp
  | _ => simp [holds]
/-- a contract: the function, its arguments with holes, a condition, its result -/
structure Con where
  f : FuncId
  pat : List Tm
  cnd : Tm
  res : Tm
  ks : List (List CK) := []
def Con.Good (P : Program) (ρ : Env) (W : World) (c : Con) : Prop :=
  ∀ (iv : List Int) (bv : List Bool) (vv : List Value) (sv : List ByteArray) (sls : Nat → Slc) (β : Nat → Nat), holds { ρ with iv := iv, bv := bv, vv := vv, sv := sv, sls := sls } c.cnd →
    ∀ w, Below W.heap.size W w → SlsOk w sls c.ks → Calls P c.f (c.pat.map (denV { ρ with iv := iv, bv := bv, vv := vv, sv := sv, sls := sls } β)).toArray w
      fun e w' => e = .returned (denV { ρ with iv := iv, bv := bv, vv := vv, sv := sv, sls := sls } β c.res) ∧ Below w.heap.size w w'
/-- contracts at hand, and the kinds of the slices that are named -/
structure Ctx where
  l : List Con
  ks : List (List CK) := []
structure Ctx.Ok (Γ : Ctx) (P : Program) (ρ : Env) (W : World) : Prop where
  l : ∀ x ∈ Γ.l, x.Good P ρ W
  s : SlsOk W ρ.sls Γ.ks
def matchT (et : TypeId) (hp : List (List Tm)) (ck : List (List CK)) : Tm → Tm → Sub → Option Sub
  | .int k (.var _), .int k' a, σ => if k = k' then some { σ with i := σ.i ++ [a] } else none
  | .bool (.bvar _), .bool a, σ => some { σ with b := σ.b ++ [a] }
  | .opq _, a, σ => some { σ with v := σ.v ++ [a] }
  | .sl _, .sl b, σ => some { σ with l := σ.l.map fun l => l ++ [.ext b] }
  | .sl _, .osl id n, σ => (hp[id]?).map fun cs => { σ with l := σ.l.map fun l => l ++ [.own id n (ck.getD l.length []).length cs] }
  | .sl _, .cst .nilS, σ => some { σ with l := σ.l.map fun l => l ++ [.nul (ck.getD l.length []).length] }
  | .str _, a, σ => if strT a then some { σ with s := σ.s ++ [a] } else none
  | .err (.var _), .err a, σ => some { σ with i := σ.i ++ [a] }
  | .agg l, .agg m, σ => matchT et hp ck l m σ
  | .tup l, .tup m, σ => matchT et hp ck l m σ
  | .cons a b, .cons c d, σ => (matchT et hp ck a c σ).bind fun σ => matchT et hp ck b d σ
  | p, a, σ => if p = a then some σ else none
def matchAll (et : TypeId) (hp : List (List Tm)) (ck : List (List CK)) : List Tm → List Tm → Sub → Option Sub
  | [], [], σ => some σ
  | p :: ps, a :: as, σ => (matchT et hp ck p a σ).bind fun σ => matchAll et hp ck ps as σ
  | _, _, _ => none
/-- an error as the pattern wants it -/
def coerce (et : TypeId) : Tm → Tm → Tm
  | .err _, .cst .nilI => .err (.lit 0)
  | .err _, .iface t (.int .i64 (.lit n)) => if t = et ∧ n ≠ 0 then .err (.lit n) else .iface t (.int .i64 (.lit n))
  | _, a => a
def coerceAll (et : TypeId) : List Tm → List Tm → List Tm
  | p :: ps, a :: as => coerce et p a :: coerceAll et ps as
  | _, l => l
theorem coerce_den {ρ : Env} {β : Nat → Nat} (p a : Tm) : denV ρ β (coerce ρ.et p a) = denV ρ β a := by
  unfold coerce
  split
  · simp [denV, errVal, denI, Cst.den]
  · split
    · rename_i h
      simp [denV, errVal, denI, h.1, h.2]
    · rfl
  · rfl
theorem coerceAll_den {ρ : Env} {β : Nat → Nat} : ∀ (ps as : List Tm), (coerceAll ρ.et ps as).map (denV ρ β) = as.map (denV ρ β)
  | [], l => by cases l <;> rfl
  | p :: ps, [] => rfl
  | p :: ps, a :: as => by simp [coerceAll, coerce_den, coerceAll_den ps as]
def cellFits : CK → Tm → Bool
  | .int k, .int k' _ => k == k'
  | .bool, .bool _ => true
  | .str, t => strT t
  | _, _ => false
theorem cellFits_den {ρ : Env} {β : Nat → Nat} {q : CK} {c : Tm} (h : cellFits q c = true) : q.fits (denV ρ β c) ∧ c ≠ .junk := by
  unfold cellFits at h
  split at h
  · simp only [beq_iff_eq] at h; subst h; exact ⟨rfl, by simp⟩
  · exact ⟨rfl, by simp⟩
  · obtain ⟨s, hs⟩ := strT_den (ρ := ρ) (β := β) h
    refine ⟨by rw [hs]; rfl, ?_⟩
    rintro rfl
    cases h
  · cases h
/-- is a slice of the kind that a contract wants? -/
def kindOk (ks : List (List CK)) (hp : List (List Tm)) (k : List CK) : SRef → Bool
  | .ext b => ks[b]? == some k
  | .own id n esz cells => hp[id]? == some cells && k.length == esz && cells.length == n * esz && (List.range (n * esz)).all fun m => match k[m % esz]?, cells[m]? with
    | some q, some c => cellFits q c
    | _, _ => false
  | .nul esz => k.length == esz
def kindsOk (ks : List (List CK)) (hp : List (List Tm)) (l : Nat → SRef) : Nat → List (List CK) → Bool
  | _, [] => true
  | b, k :: r => kindOk ks hp k (l b) && kindsOk ks hp l (b + 1) r
theorem kindsOk_get {ks : List (List CK)} {hp : List (List Tm)} {l : Nat → SRef} : ∀ {r : List (List CK)} {b : Nat}, kindsOk ks hp l b r = true → ∀ (i : Nat) k, r[i]? = some k → kindOk ks hp k (l (b + i)) = true
  | [], _, _ => fun i k h => by simp at h
  | k :: r, b, h => by
    simp only [kindsOk, Bool.and_eq_true] at h
    intro i q hq
    cases i with
    | zero => simp at hq; subst hq; exact h.1
    | succ i => have := kindsOk_get h.2 i q (by simpa using hq); rw [show b + (i + 1) = b + 1 + i by omega]; exact this
/-- a condition, reckoned as far as may be -/
def normB : Tm → Tm
  | .b2 .and a b => mkAnd (normB a) (normB b)
  | .b2 .lt a b => mkCmp .lt a b
  | .b2 .le a b => mkCmp .le a b
  | .b2 .eq a b => mkCmp .eq a b
  | .not a => mkNot (normB a)
  | t => t
theorem normB_den (ρ : Env) (β : Nat → Nat) : ∀ t, denB ρ β (normB t) = denB ρ β t := by
  intro t
  induction t with
  | b2 o a b iha ihb =>
    cases o
    case and => simp [normB, den_mkAnd, iha, ihb, denB, B2.ofInts, B2.denB]
    case lt => simp only [normB]; rw [den_mkCmp _ _ _ _ _ rfl]; simp [denB, B2.ofInts]
    case le => simp only [normB]; rw [den_mkCmp _ _ _ _ _ rfl]; simp [denB, B2.ofInts]
    case eq => simp only [normB]; rw [den_mkCmp _ _ _ _ _ rfl]; simp [denB, B2.ofInts]
    all_goals rfl
  | not a ih => simp [normB, den_mkNot, ih, denB]
  | _ => rfl
/-- an own block in the world -/
def BlkOk (ρ : Env) (β : Nat → Nat) (W w : World) (id : Nat) (cs : List Tm) : Prop :=
  ∀ off c, cs[off]? = some c → W.heap.size ≤ β id ∧ β id < w.heap.size ∧ (∃ v, w.cell? ⟨β id, off, none⟩ = some v ∧ Rel ρ β c v) ∧ w.frozen? ⟨β id, off, none⟩ = false
def HpOk (ρ : Env) (β : Nat → Nat) (W w : World) (hp : List (List Tm)) : Prop := ∀ id cs, hp[id]? = some cs → BlkOk ρ β W w id cs
theorem SlOk.below {W w : World} {s : Slc} {ks : List CK} (h : SlOk W s ks) (hb : Below W.heap.size W w) : SlOk w s ks :=
  ⟨h.1, fun i hi => ⟨(h.2 i hi).1, fun j k hk => by
    obtain ⟨h1, h2, h3⟩ := (h.2 i hi).2 j k hk
    exact ⟨Nat.lt_of_lt_of_le h1 hb.size, by rw [hb.cell (p := s.addr i j) h1]; exact h2, h3⟩⟩⟩
theorem SRef.slok {ρ : Env} {β : Nat → Nat} {W w : World} {ks : List (List CK)} {hp : List (List Tm)} {k : List CK} {r : SRef} (hs : SlsOk W ρ.sls ks) (hb : Below W.heap.size W w) (hh : HpOk ρ β W w hp) (h : kindOk ks hp k r = true) : SlOk w (r.slc ρ β) k := by
  cases r with
  | ext b =>
    simp only [kindOk, beq_iff_eq] at h
    exact (hs b k h).below hb
  | nul e =>
    simp only [kindOk, beq_iff_eq] at h
    exact ⟨h, fun i hi => absurd hi (Nat.not_lt_zero i)⟩
  | own id n e cells =>
    simp only [kindOk, Bool.and_eq_true, beq_iff_eq] at h
    obtain ⟨⟨⟨h1, h2⟩, h3⟩, h4⟩ := h
    refine ⟨h2, fun i hi => ⟨rfl, fun j q hq => ?_⟩⟩
    have hj : j < e := by
      rw [← h2]
      rcases Nat.lt_or_ge j k.length with h | h
      · exact h
      · rw [List.getElem?_eq_none h] at hq; cases hq
    have hi' : i < n := hi
    have hm : i * e + j < n * e := by
      have : (i + 1) * e ≤ n * e := Nat.mul_le_mul_right e hi'
      rw [Nat.succ_mul] at this
      omega
    have hmod : (i * e + j) % e = j := by rw [Nat.add_comm, Nat.add_mul_mod_self_right]; exact Nat.mod_eq_of_lt hj
    have := List.all_eq_true.1 h4 (i * e + j) (List.mem_range.2 hm)
    rw [hmod, hq, List.getElem?_eq_getElem (by omega)] at this
    obtain ⟨f1, f2⟩ := cellFits_den (ρ := ρ) (β := β) this
    obtain ⟨_, b2, ⟨v, b3, b4⟩, _⟩ := hh id cells h1 (i * e + j) _ (List.getElem?_eq_getElem (by omega))
    have hg : cells.getD (i * e + j) .junk = cells[i * e + j] := by rw [List.getD_eq_getElem?_getD, List.getElem?_eq_getElem (by omega)]; rfl
    refine ⟨b2, ?_, ?_⟩
    · show w.cell? ⟨β id, 0 + i * e + j, none⟩ = some (denV ρ β (cells.getD (i * e + j) .junk))
      rw [hg, ← b4 f2, Nat.zero_add]
      exact b3
    · show q.fits (denV ρ β (cells.getD (i * e + j) .junk))
      rw [hg]
      exact f1
def tryCon (et : TypeId) (ks : List (List CK)) (hp : List (List Tm)) (c : Con) (args : List Tm) : Option (Tm × Tm) :=
  let l := coerceAll et c.pat args
  match matchAll et hp c.ks c.pat l ⟨[], [], [], [], some []⟩ with
  | some σ => if (σ.ok = true ∧ closed c.cnd = true ∧ kindsOk ks hp σ.lk 0 c.ks = true ∧ l = c.pat.map (subst σ)) ∧ ((σ.l.getD []).all SRef.good = true ∧ selOk (fun b => (σ.lk b).isExt) c.cnd = true ∧ selOk (fun b => (σ.lk b).isExt) c.res = true ∧ (c.pat.all fun t => selOk (fun b => (σ.lk b).isExt) t) = true) then some (normB (subst σ c.cnd), subst σ c.res) else none
  | none => none
def findCon (et : TypeId) (ks : List (List CK)) (hp : List (List Tm)) (f : FuncId) (args : List Tm) : List Con → Option (Tm × Tm)
  | [] => none
  | c :: r => if c.f = f then (match tryCon et ks hp c args with | some x => some x | none => findCon et ks hp f args r) else findCon et ks hp f args r
theorem lk_good {σ : Sub} (h : (σ.l.getD []).all SRef.good = true) (b : Nat) : (σ.lk b).good = true := by
  unfold Sub.lk
  cases hl : σ.l with
  | none => rfl
  | some l =>
    rw [hl] at h
    simp only [Option.getD_some] at h
    show (l.getD b (.ext 0)).good = true
    rw [List.getD_eq_getElem?_getD]
    cases hx : l[b]? with
    | none => rfl
    | some x => exact List.all_eq_true.1 h x (List.mem_of_getElem? hx)
theorem findCon_sound {P : Program} {ρ : Env} {β : Nat → Nat} {W w : World} {f : FuncId} {args : List Tm} {c v : Tm} {ks : List (List CK)} {hp : List (List Tm)} (hks : SlsOk W ρ.sls ks) (hb : Below W.heap.size W w) (hh : HpOk ρ β W w hp) : ∀ {Γ : List Con}, (∀ x ∈ Γ, x.Good P ρ W) → findCon ρ.et ks hp f args Γ = some (c, v) → denB ρ β c = true →
    Calls P f (args.map (denV ρ β)).toArray w fun e w' => e = .returned (denV ρ β v) ∧ Below w.heap.size w w'
  | [], _, h, _ => by cases h
  | x :: r, hg, h, hc => by
    unfold findCon at h
    split at h
    · rename_i hf
      split at h
      · rename_i y hy
        obtain rfl := Option.some.inj h
        unfold tryCon at hy
        dsimp only at hy
        split at hy
        · rename_i σ hm
          split at hy
          · rename_i hσ
            obtain ⟨hσ, g1, g2, g3, g4⟩ := hσ
            obtain ⟨rfl, rfl⟩ := Prod.mk.inj (Option.some.inj hy)
            have hl := lk_good g1
            rw [normB_den] at hc
            have this : holds (ρ.sub β σ) x.cnd → Calls P x.f (x.pat.map (denV (ρ.sub β σ) β)).toArray w fun e w' => e = .returned (denV (ρ.sub β σ) β x.res) ∧ Below w.heap.size w w' := fun hx =>
              hg x (by simp) (σ.i.map (denI ρ β)) (σ.b.map (denB ρ β)) (σ.v.map (denV ρ β)) (σ.s.map fun t => strOf (denV ρ β t)) (fun b => (σ.lk b).slc ρ β) β hx w hb (fun b k hk => by
                have := kindsOk_get hσ.2.2.1 b k hk
                rw [Nat.zero_add] at this
                exact SRef.slok hks hb hh this)
            rw [(subst_den ρ β σ hσ.1 hl _ g2).2.1] at hc
            rw [(closed_den hσ.2.1 β b0).2.1] at hc
            have h2 := this ((holds_iff _ _).2 hc)
            rw [← (subst_den ρ β σ hσ.1 hl _ g3).2.2.1] at h2
            have h3 : x.pat.map (denV (ρ.sub β σ) β) = args.map (denV ρ β) := by
              rw [← coerceAll_den x.pat args, hσ.2.2.2, List.map_map]
              apply List.map_congr_left
              intro t ht
              exact (subst_den ρ β σ hσ.1 hl t (List.all_eq_true.1 g4 t ht)).2.2.1.symm
            rw [h3, hf] at h2
            exact h2
          · cases hy
        · cases hy
      · exact findCon_sound hks hb hh (fun y hy => hg y (by simp [hy])) h hc
    · exact findCon_sound hks hb hh (fun y hy => hg y (by simp [hy])) h hc
/-! Part 7: what an operation does. -/

inductive Out where
  | val (v : Tm) | alloc (cells : List Tm) (e : TypeId) (sl : Option Nat) | store (id off : Nat) (cells : List Tm) | call (f : FuncId) (args : List Tm) (v : Tm)
  deriving DecidableEq
inductive Ev where
  | ok (c : Tm) (o : Out) | ask (c : Tm) | bad
  deriving DecidableEq
def ofO : Option Tm → Ev
  | some v => .ok (.tt true) (.val v)
  | none => .bad
def ofP : Option (Tm × Tm) → Ev
  | some (c, v) => .ok c (.val v)
  | none => .bad
def evalLoad (P : Program) (hp : List (List Tm)) (t : TypeId) (id off : Nat) : Option Tm :=
  match hp[id]?, P.underlying t, P.info? t with
  | some cs, some d, some i =>
    if isAggD d then
      (let l := (cs.drop off).take i.size
       if l.length = i.size ∧ l.all (fun c => c != .junk) then some (.agg (ofL l)) else none)
    else match cs[off]? with
      | some .junk => none
      | x => x
  | _, _, _ => none
def storable : Tm → Bool
  | .cst .undef => false
  | t => scalar t
def evalStore (P : Program) (hp : List (List Tm)) (t : TypeId) (id off : Nat) (v : Tm) : Ev :=
  match hp[id]?, P.info? t with
  | some cs, some i => if known v = true ∧ (cellsT v).all storable = true ∧ (cellsT v).length = i.size ∧ off + i.size ≤ cs.length then .ok (.tt true) (.store id off (cellsT v)) else .bad
  | _, _ => .bad
def evalAlloc (P : Program) (e : TypeId) : Ev :=
  match P.info? e with
  | some i => match i.zero with
    | some v => match ofVal v with
      | some t => if known t then .ok (.tt true) (.alloc (cellsT t) e none) else .bad
      | none => .bad
    | none => .bad
  | none => .bad
def allSome : List (Option Tm) → Option (List Tm)
  | [] => some []
  | some a :: r => (allSome r).map fun l => a :: l
  | none :: _ => none
def evalParts (tm : List Tm) : List (Nat × Operand) → Option (List (Nat × Tm))
  | [] => some []
  | (i, x) :: r => match evalO tm x, evalParts tm r with
    | some t, some l => some ((i, t) :: l)
    | _, _ => none
def placesOf (P : Program) : List Field → Option (List (Nat × Nat))
  | [] => some []
  | f :: r => match P.info? f.type, placesOf P r with
    | some i, some l => some ((f.offset, i.size) :: l)
    | _, _ => none
def zeroT (P : Program) (t : TypeId) : Option Tm :=
  match P.info? t with
  | some i => match i.zero with
    | some v => ofVal v
    | none => none
  | none => none
def evalBuild (P : Program) (tm : List Tm) (t : TypeId) (parts : List (Nat × Operand)) : Option Tm :=
  match zeroT P t, evalParts tm parts with
  | some z, some ps =>
    if known z then
      match P.underlying t with
      | some (.struct fs) => match placesOf P fs.toList with
        | some pl => (fillT (fun i => pl[i]?) (cellsT z) ps).map fun l => .agg (ofL l)
        | none => none
      | some (.array _ e) => match P.info? e with
        | some i => (fillT (fun n => some (n * i.size, i.size)) (cellsT z) ps).map fun l => .agg (ofL l)
        | none => none
      | _ => none
    else none
  | _, _ => none
/-- a slice's literal -/
def evalBuildSlice (P : Program) (tm : List Tm) (t : TypeId) (len : Nat) (parts : List (Nat × Operand)) : Ev :=
  match P.underlying t with
  | some (.slice e) => match P.info? e, zeroT P e, evalParts tm parts with
    | some i, some z, some ps =>
      if known z = true ∧ 0 < len * i.size ∧ len * i.size ≤ 2 ^ 24 then
        match fillT (fun n => some (n * i.size, i.size)) ((List.range (len * i.size)).map fun k => (cellsT z).getD (k % (cellsT z).length) .junk) ps with
        | some l => if l.all (fun c => c != .junk) && decide (0 < (cellsT z).length) then .ok (.tt true) (.alloc l e (some len)) else .bad
        | none => .bad
      else .bad
    | _, _, _ => .bad
  | _ => .bad
def evalArgs (tm : List Tm) : List Operand → Option (List Tm)
  | [] => some []
  | x :: r => match evalO tm x, evalArgs tm r with
    | some t, some l => some (t :: l)
    | _, _ => none
def callable (P : Program) (f : FuncId) : Bool :=
  match P.funcs[f]? with
  | some fn => !(fn.name == "runtime.NumGoroutine") && fn.body.isSome
  | none => false
def isSliceT (P : Program) (ts : List TypeId) : Bool :=
  match ts with
  | t :: _ => match P.underlying t with
    | some (.slice _) => true
    | _ => false
  | _ => false
def isStrT (P : Program) (ts : List TypeId) : Bool :=
  match ts with
  | t :: _ => match P.underlying t with
    | some .string => true
    | _ => false
  | _ => false
def evalBuiltin (P : Program) (b : Builtin) (ts : List TypeId) (args : List Tm) : Option Tm :=
  match b, args with
  | .len, [.sl b] => if isSliceT P ts then some (.int .i64 (.slen b)) else none
  | .len, [.str i] => if isStrT P ts then some (.int .i64 (.blen (.str i))) else none
  | .len, [.ssel b i j] => if isStrT P ts then some (.int .i64 (.blen (.ssel b i j))) else none
  | .len, [.sapp f l] => if isStrT P ts then some (.int .i64 (.blen (.sapp f l))) else none
  | .len, [.osl _ n] => if isSliceT P ts then some (.int .i64 (.lit n)) else none
  | .max, [.int k a, .int k' c] => some (.int k (mkI2 .max a c))
  | .min, [.int k a, .int k' c] => some (.int k (mkI2 .min a c))
  | .len, [.cst (.strc l)] => match ts with
    | t :: _ => match P.underlying t with
      | some .string => some (.int .i64 (.lit l.length))
      | _ => none
    | _ => none
  | _, _ => none
def evalCall (P : Program) (et : TypeId) (Γ : Ctx) (tm : List Tm) (hp : List (List Tm)) (c : Call) : Ev :=
  match evalArgs tm c.args.toList with
  | none => .bad
  | some args =>
    match c.callee with
    | .value f => match evalO tm f with
      | some (.cst (.fn f)) => if callable P f then (match findCon et Γ.ks hp f args Γ.l with
        | some (cnd, res) => .ok cnd (.call f args res)
        | none => .bad) else .bad
      | _ => .bad
    | .builtin b => ofO (evalBuiltin P b c.argTypes.toList args)
    | _ => .bad
/-- what an operation does -/
def evalOp (P : Program) (et : TypeId) (Γ : Ctx) (pc : List (Tm × Bool)) (tm : List Tm) (hp : List (List Tm)) (op : Op) : Ev :=
  match op with
  | .move x => ofO (evalO tm x)
  | .assign x => ofO (evalO tm x)
  | .pick c a b => match evalO tm c with
    | some (.bool t) => match decT pc t with
      | some true => ofO (evalO tm a)
      | some false => ofO (evalO tm b)
      | none => .ask t
    | _ => .bad
  | .alloc e => evalAlloc P e
  | .box e x => match evalO tm x with
    | some t => if known t then .ok (.tt true) (.alloc (cellsT t) e none) else .bad
    | none => .bad
  | .build t parts => ofO (evalBuild P tm t parts.toList)
  | .buildSlice t len parts => evalBuildSlice P tm t len parts.toList
  | .load t a => match evalO tm a with
    | some (.ptr id off) => ofO (evalLoad P hp t id off)
    | some (.ep b n off) => ofP (evalLoadX P Γ.ks t b n off)
    | _ => .bad
  | .store t a x => match evalO tm a, evalO tm x with
    | some (.ptr id off), some v => evalStore P hp t id off v
    | _, _ => .bad
  | .nilCheck x => match evalO tm x with
    | some (.ptr id off) => .ok (.tt true) (.val (.ptr id off))
    | _ => .bad
  | .binOp o t x y _ => match evalO tm x, evalO tm y with
    | some a, some b => match evalBin P o t x y a b with
      | some (c, v) => .ok c (.val v)
      | none => .bad
    | _, _ => .bad
  | .unOp o _ x => ofO ((evalO tm x).bind (evalUn o))
  | .convert s d x => ofO ((evalO tm x).bind (evalConv P s d))
  | .makeInterface t x => ofO ((evalO tm x).bind (evalIface P t))
  | .makeFunc fn a b => match fn with
    | .func f => if a.size = 0 ∧ b.size = 0 then .ok (.tt true) (.val (.cst (.fn f))) else .bad
    | _ => .bad
  | .fieldAddr s x f => ofO ((evalO tm x).bind fun t => evalFieldAddr P s t f)
  | .field s x f => ofO ((evalO tm x).bind fun t => evalField P s t f)
  | .indexAddr t x i => match evalO tm x, evalO tm i with
    | some (.sl c), some b => ofP (evalElem P Γ.ks t (.sl c) b)
    | some a, some b => ofO (evalIndexAddr P t a b)
    | _, _ => .bad
  | .index t x i => match evalO tm x, evalO tm i with
    | some a, some b => ofO (evalIndex P t a b)
    | _, _ => .bad
  | .extract x i => ofO ((evalO tm x).bind fun t => evalExtract t i)
  | .call c => evalCall P et Γ tm hp c
  | _ => .bad
def TmOk (ρ : Env) (β : Nat → Nat) (tm : List Tm) (a : Act) : Prop := ∀ i, Rel ρ β (tm.getD i .junk) (a.tmps.getD i Go.undef)
/-- a new block, as a pointer or as a slice -/
def allocT : Option Nat → Nat → Tm
  | none, id => .ptr id 0
  | some n, id => .osl id n
def allocV : Option Nat → Nat → Value
  | none, b => .pointer (some ⟨b, 0, none⟩)
  | some n, b => .slice (some ⟨b, 0, none⟩) n n
theorem allocT_den (ρ : Env) (β : Nat → Nat) (sl : Option Nat) (id : Nat) : denV ρ β (allocT sl id) = allocV sl (β id) := by cases sl <;> rfl
theorem allocT_ids (p : Nat → Bool) (sl : Option Nat) (id : Nat) : idsIn p (allocT sl id) = p id := by cases sl <;> rfl
/-- what an outcome means -/
def OutOk (P : Program) (ρ : Env) (β : Nat → Nat) (a : Act) (w : World) (o : Oper) : Out → Prop
  | .val v => (execOp a.eval o).run P w = .ok (.value (denV ρ β v)) w
  | .alloc cells e sl => (execOp a.eval o).run P w = .ok (.value (allocV sl w.heap.size)) (w.alloc (.cells (cells.map (denV ρ β)).toArray e))
  | .store id off cells => (execOp a.eval o).run P w = .ok .skip (w.setCells (β id) off (cells.map (denV ρ β)))
  | .call f args v => (execOp a.eval o).run P w = .ok (.enter f (args.map (denV ρ β)).toArray) w
theorem r_load {P : Program} {w : World} {x : Addr} {v : Value} (h : w.cell? x = some v) : (load x).run P w = .ok v w := by
  unfold load
  simp only [Sem.run, h]
theorem r_loadCells {P : Program} {w : World} {b off : Nat} : ∀ (vs : List Value) (i : Nat) (acc : Array Value), (∀ j v, vs[j]? = some v → w.cell? ⟨b, off + (i + j), none⟩ = some v) →
    (loadCellsFrom ⟨b, off, none⟩ i vs.length acc).run P w = .ok (acc ++ vs.toArray) w
  | [], i, acc, _ => by simp [loadCellsFrom]
  | v :: r, i, acc, h => by
    have h0 := h 0 v rfl
    unfold loadCellsFrom
    simp only [List.length_cons]
    rw [Sem.run_bind, addr_add, r_load (by simpa using h0)]
    simp only [Result.andThen]
    rw [r_loadCells r (i + 1) (acc.push v) (fun j u hj => by have := h (j + 1) u (by simpa using hj); rw [show i + 1 + j = i + (j + 1) by omega]; exact this)]
    simp
theorem cellsK_den {ρ : Env} {β : Nat → Nat} {b : Nat} {n : Tm} : ∀ (l : List CK) (j : Nat), (∀ (i : Nat) k, l[i]? = some k → k.fits ((ρ.sls b).cont (denI ρ β n).toNat (j + i))) → (cellsK b n j l).map (denV ρ β) = (List.range' j l.length).map fun m => (ρ.sls b).cont (denI ρ β n).toNat m
  | [], _, _ => rfl
  | k :: r, j, h => by
    simp only [cellsK, List.map_cons, List.length_cons, List.range'_succ]
    have h0 := h 0 k rfl
    rw [Nat.add_zero] at h0
    rw [cellK_den h0, cellsK_den r (j + 1) (fun i q hq => by have := h (i + 1) q (by simpa using hq); rwa [show j + (i + 1) = j + 1 + i by omega] at this)]
theorem evalLoadX_sound {P : Program} {ρ : Env} {β : Nat → Nat} {W w : World} {ks : List (List CK)} {t : TypeId} {b off : Nat} {n c v : Tm} (hs : SlsOk W ρ.sls ks) (hb : Below W.heap.size W w) (h : evalLoadX P ks t b n off = some (c, v)) (hc : denB ρ β c = true) :
    (Instr.loadAt t (.pointer (some ((ρ.sls b).addr (denI ρ β n).toNat off)))).run P w = .ok (denV ρ β v) w := by
  unfold evalLoadX at h
  split at h
  · rename_i d i k hd hi hk
    obtain ⟨he, hl⟩ := hs b k hk
    have hin : denB ρ β (mkAnd (mkCmp .le (.lit 0) n) (mkCmp .lt n (.slen b))) = true → ∀ (j : Nat) kd, k[j]? = some kd → w.cell? ((ρ.sls b).addr (denI ρ β n).toNat j) = some ((ρ.sls b).cont (denI ρ β n).toNat j) ∧ kd.fits ((ρ.sls b).cont (denI ρ β n).toNat j) := by
      intro hc j kd hj
      rw [den_mkAnd, den_mkCmp _ _ _ _ _ rfl, den_mkCmp _ _ _ _ _ rfl, Bool.and_eq_true] at hc
      have h1 : 0 ≤ denI ρ β n := of_decide_eq_true (p := 0 ≤ denI ρ β n) hc.1
      have h2 : denI ρ β n < ((ρ.sls b).len : Int) := of_decide_eq_true (p := denI ρ β n < ((ρ.sls b).len : Int)) hc.2
      obtain ⟨g1, g2, g3⟩ := (hl (denI ρ β n).toNat (by omega)).2 j kd hj
      exact ⟨by rw [hb.cell (p := (ρ.sls b).addr (denI ρ β n).toNat j) g1]; exact g2, g3⟩
    show (loadVar t ((ρ.sls b).addr (denI ρ β n).toNat off)).run P w = _
    unfold loadVar
    rw [Sem.run_bind, r_isAgg hd]
    simp only [Result.andThen]
    split at h
    · rename_i ha
      split at h
      · rename_i hlen
        obtain ⟨rfl, rfl⟩ := Prod.mk.inj (Option.some.inj h)
        rw [ha]
        simp only [if_true, Sem.run_bind, r_sizeOf hi, Result.andThen, loadCells]
        have hget : ∀ (m : Nat) kd, ((k.drop off).take i.size)[m]? = some kd → k[off + m]? = some kd := by
          intro m kd hm
          rw [List.getElem?_take] at hm
          split at hm
          · simpa using hm
          · cases hm
        have hcd := cellsK_den (ρ := ρ) (β := β) (b := b) (n := n) ((k.drop off).take i.size) off (fun m kd hm => (hin hc _ kd (hget m kd hm)).2)
        have := r_loadCells (P := P) (w := w) (b := (ρ.sls b).blk) (off := (ρ.sls b).off + (denI ρ β n).toNat * (ρ.sls b).esz + off) ((List.range' off i.size).map fun m => (ρ.sls b).cont (denI ρ β n).toNat m) 0 #[] (fun j u hj => by
          rw [List.getElem?_map] at hj
          cases hr : (List.range' off i.size)[j]? with
          | none => rw [hr] at hj; cases hj
          | some m =>
            rw [hr] at hj
            obtain rfl := Option.some.inj hj
            have hjl : j < i.size := by
              rcases Nat.lt_or_ge j i.size with h | h
              · exact h
              · rw [List.getElem?_eq_none (by simpa using h)] at hr; cases hr
            have hm : m = off + j := by
              rw [List.getElem?_eq_getElem (by simpa using hjl)] at hr
              simp at hr
              omega
            subst hm
            obtain ⟨kd, hkd⟩ : ∃ kd, ((k.drop off).take i.size)[j]? = some kd := ⟨_, List.getElem?_eq_getElem (by rw [hlen]; exact hjl)⟩
            have := (hin hc _ kd (hget j kd hkd)).1
            simp only [Slc.addr] at this
            rw [Nat.zero_add, Nat.add_assoc ((ρ.sls b).off + (denI ρ β n).toNat * (ρ.sls b).esz)]
            exact this)
        rw [List.length_map, List.length_range'] at this
        simp only [Slc.addr]
        rw [this]
        simp only [denV, denL_ofL, hcd, hlen]
        simp
      · cases h
    · rename_i ha
      have hf : isAggD d = false := by simpa using ha
      rw [hf]
      simp only [Bool.false_eq_true, if_false]
      split at h
      · rename_i kd hkd
        obtain ⟨rfl, rfl⟩ := Prod.mk.inj (Option.some.inj h)
        obtain ⟨g1, g2⟩ := hin hc off kd hkd
        rw [r_load g1, cellK_den g2]
      · cases h
  · cases h
theorem evalLoad_sound {P : Program} {ρ : Env} {β : Nat → Nat} {W w : World} {hp : List (List Tm)} {t : TypeId} {id off : Nat} {v : Tm} (hh : HpOk ρ β W w hp) (h : evalLoad P hp t id off = some v) :
    (Instr.loadAt t (.pointer (some ⟨β id, off, none⟩))).run P w = .ok (denV ρ β v) w := by
  unfold evalLoad at h
  split at h
  · rename_i cs d i hc hd hi
    have hb := hh id cs hc
    show (loadVar t ⟨β id, off, none⟩).run P w = _
    unfold loadVar
    rw [Sem.run_bind, r_isAgg hd]
    simp only [Result.andThen]
    split at h
    · rename_i ha
      dsimp only at h
      split at h
      · rename_i hl
        obtain rfl := Option.some.inj h
        rw [ha]
        simp only [if_true, Sem.run_bind, r_sizeOf hi, Result.andThen, loadCells]
        have := r_loadCells (P := P) (w := w) (b := β id) (off := off) (((cs.drop off).take i.size).map (denV ρ β)) 0 #[] (fun j u hj => by
          rw [List.getElem?_map] at hj
          cases hx : ((cs.drop off).take i.size)[j]? with
          | none => rw [hx] at hj; cases hj
          | some c =>
            rw [hx] at hj
            obtain rfl := Option.some.inj hj
            have hne : c ≠ .junk := by
              have := List.all_eq_true.1 hl.2 c (List.mem_of_getElem? hx)
              simpa using this
            have hcs : cs[off + j]? = some c := by
              rw [List.getElem?_take] at hx
              split at hx
              · simpa using hx
              · cases hx
            obtain ⟨_, _, ⟨u, hu, hr⟩, _⟩ := hb (off + j) c hcs
            rw [Nat.zero_add, hu, hr hne])
        rw [List.length_map, hl.1] at this
        rw [this]
        simp [denV, denL_ofL]
      · cases h
    · rename_i ha
      have hf : isAggD d = false := by simpa using ha
      rw [hf]
      simp only [Bool.false_eq_true, if_false]
      split at h
      · cases h
      · rename_i hne
        have hne' : v ≠ .junk := by rintro rfl; exact hne h
        obtain ⟨_, _, ⟨u, hu, hr⟩, _⟩ := hb off v h
        rw [r_load hu, hr hne']
  · cases h
theorem storable_one {ρ : Env} {β : Nat → Nat} {t : Tm} (h : storable t = true) : (denV ρ β t).oneCell' = true := by
  unfold storable at h
  split at h
  · cases h
  · rename_i hne
    obtain ⟨h1, h2⟩ := scalar_store (ρ := ρ) (β := β) h
    cases hv : denV ρ β t <;> first | rfl | exact absurd hv (h1 _) | exact absurd (h2 _ hv) hne
theorem evalStore_sound {P : Program} {ρ : Env} {β : Nat → Nat} {W w : World} {hp : List (List Tm)} {t : TypeId} {id off : Nat} {v c : Tm} {o : Out} (hh : HpOk ρ β W w hp) (h : evalStore P hp t id off v = .ok c o) :
    o = .store id off (cellsT v) ∧ (Instr.storeAt t (.pointer (some ⟨β id, off, none⟩)) (denV ρ β v)).run P w = .ok () (w.setCells (β id) off ((cellsT v).map (denV ρ β))) := by
  unfold evalStore at h
  split at h
  · rename_i cs i hc hi
    split at h
    · rename_i hl
      obtain ⟨hk, hs, hn, ho⟩ := hl
      obtain ⟨_, rfl⟩ := (Ev.ok.injEq _ _ _ _ ▸ h : _ ∧ _)
      refine ⟨rfl, ?_⟩
      have hb := hh id cs hc
      show (storeVar t ⟨β id, off, none⟩ (denV ρ β v)).run P w = _
      unfold storeVar
      rw [Sem.run_bind, r_sizeOf hi]
      simp only [Result.andThen, cells_den hk]
      have hsz : ((cellsT v).map (denV ρ β)).toArray.size = i.size := by simpa using hn
      simp only [hsz, ne_eq, not_true_eq_false, if_false]
      have hcell : ∀ j, j < ((cellsT v).map (denV ρ β)).length → ∃ x, cs[off + 0 + j]? = some x := by
        intro j hj
        have : off + 0 + j < cs.length := by simp at hj; omega
        exact ⟨_, List.getElem?_eq_getElem this⟩
      have := run_storeCells_cells (P := P) (β id) off ((cellsT v).map (denV ρ β)) 0 w (fun j hj => by
          obtain ⟨x, hx⟩ := hcell j hj
          obtain ⟨_, _, ⟨u, hu, _⟩, _⟩ := hb _ x hx
          rw [hu]; rfl) (fun j hj => by
          obtain ⟨x, hx⟩ := hcell j hj
          exact (hb _ x hx).2.2.2) (fun x hx => by
          obtain ⟨y, hy, rfl⟩ := List.mem_map.1 hx
          exact storable_one (List.all_eq_true.1 hs y hy))
      exact this
    · cases h
  · cases h
theorem parts_den {ρ : Env} {β : Nat → Nat} {tm : List Tm} {a : Act} (ht : TmOk ρ β tm a) : ∀ {l : List (Nat × Operand)} {ps : List (Nat × Tm)}, evalParts tm l = some ps → l.map (fun (i, x) => (i, a.eval x)) = ps.map fun p => (p.1, denV ρ β p.2)
  | [], ps, h => by obtain rfl := Option.some.inj h; rfl
  | (i, x) :: r, ps, h => by
    unfold evalParts at h
    split at h
    · rename_i t l h1 h2
      obtain rfl := Option.some.inj h
      simp [evalO_den ht h1, parts_den ht h2]
    · cases h
theorem args_den {ρ : Env} {β : Nat → Nat} {tm : List Tm} {a : Act} (ht : TmOk ρ β tm a) : ∀ {l : List Operand} {ps : List Tm}, evalArgs tm l = some ps → l.map a.eval = ps.map (denV ρ β)
  | [], ps, h => by obtain rfl := Option.some.inj h; rfl
  | x :: r, ps, h => by
    unfold evalArgs at h
    split at h
    · rename_i t l h1 h2
      obtain rfl := Option.some.inj h
      simp [evalO_den ht h1, args_den ht h2]
    · cases h
theorem zero_den {P : Program} {ρ : Env} {β : Nat → Nat} {t : TypeId} {z : Tm} (h : zeroT P t = some z) (w : World) : (zeroValue t).run P w = .ok (denV ρ β z) w := by
  unfold zeroT at h
  split at h
  · rename_i i hi
    split at h
    · rename_i v hv
      unfold zeroValue
      rw [Sem.run_bind, r_typeInfo hi]
      simp only [Result.andThen, hv, ofVal_den h]
      rfl
    · cases h
  · cases h
theorem places_run {P : Program} {w : World} : ∀ {l : List Field} {pl : List (Nat × Nat)}, placesOf P l = some pl → (l.mapM fun f => (do pure (f.offset, ← Go.sizeOf f.type) : Sem (Nat × Nat))).run P w = .ok pl w
  | [], pl, h => by obtain rfl := Option.some.inj h; rfl
  | f :: r, pl, h => by
    unfold placesOf at h
    split at h
    · rename_i i l hi hl
      obtain rfl := Option.some.inj h
      rw [List.mapM_cons]
      simp only [Sem.run_bind, r_sizeOf hi, Result.andThen, Sem.run_pure]
      rw [places_run hl]
    · cases h
theorem evalBuild_sound {P : Program} {ρ : Env} {β : Nat → Nat} {w : World} {tm : List Tm} {a : Act} {t : TypeId} {parts : Array (Nat × Operand)} {v : Tm} (ht : TmOk ρ β tm a) (h : evalBuild P tm t parts.toList = some v) :
    (Instr.build t (parts.map fun (i, x) => (i, a.eval x))).run P w = .ok (denV ρ β v) w := by
  unfold evalBuild at h
  split at h
  · rename_i z ps hz hp
    split at h
    · rename_i hk
      have hpa : (parts.map fun (i, x) => (i, a.eval x)).toList = ps.map fun p => (p.1, denV ρ β p.2) := by
        rw [Array.toList_map]
        exact parts_den ht hp
      unfold Instr.build
      rw [Sem.run_bind, zero_den (ρ := ρ) (β := β) hz]
      simp only [Result.andThen, Sem.run_bind, cells_den hk, hpa]
      split at h
      · rename_i fs hd
        rw [r_underlying hd]
        simp only [Result.andThen]
        split at h
        · rename_i pl hpl
          cases hf : fillT (fun i => pl[i]?) (cellsT z) ps with
          | none => rw [hf] at h; cases h
          | some res =>
            rw [hf] at h
            obtain rfl := Option.some.inj h
            have hm : (fs.mapM fun f => (do pure (f.offset, ← Go.sizeOf f.type) : Sem (Nat × Nat))).run P w = .ok pl.toArray w := by
              have hpr := places_run (w := w) hpl
              rw [Array.mapM_eq_mapM_toList, Sem.run_map, hpr]
              rfl
            rw [Sem.run_bind, hm]
            simp only [Result.andThen]
            have h3 := fillT_sound (ρ := ρ) (β := β) ps _ _ hf
            simp only [List.getElem?_toArray, h3, denV, denL_ofL]
            rfl
        · cases h
      · rename_i n e hd
        rw [r_underlying hd]
        simp only [Result.andThen]
        split at h
        · rename_i i hi
          cases hf : fillT (fun n => some (n * i.size, i.size)) (cellsT z) ps with
          | none => rw [hf] at h; cases h
          | some res =>
            rw [hf] at h
            obtain rfl := Option.some.inj h
            rw [Sem.run_bind, r_sizeOf hi]
            simp only [Result.andThen]
            have h3 := fillT_sound (ρ := ρ) (β := β) ps _ _ hf
            simp only [h3, denV, denL_ofL]
            rfl
        · cases h
      · cases h
    · cases h
  · cases h
theorem evalBuildSlice_sound {P : Program} {ρ : Env} {β : Nat → Nat} {w : World} {tm : List Tm} {a : Act} {t : TypeId} {len : Nat} {parts : Array (Nat × Operand)} {c : Tm} {out : Out} (ht : TmOk ρ β tm a) (h : evalBuildSlice P tm t len parts.toList = .ok c out) :
    ∃ cells e, out = .alloc cells e (some len) ∧ (Instr.buildSlice t len (parts.map fun (i, x) => (i, a.eval x))).run P w = .ok (.slice (some ⟨w.heap.size, 0, none⟩) len len) (w.alloc (.cells (cells.map (denV ρ β)).toArray e)) := by
  unfold evalBuildSlice at h
  split at h
  · rename_i e hd
    split at h
    · rename_i i z ps hi hz hp
      split at h
      · rename_i hk
        obtain ⟨hk, h0, h24⟩ := hk
        split at h
        · rename_i res hf
          split at h
          · rename_i hj
            simp only [Bool.and_eq_true, decide_eq_true_eq] at hj
            obtain ⟨_, rfl⟩ := (Ev.ok.injEq _ _ _ _ ▸ h : _ ∧ _)
            refine ⟨res, e, rfl, ?_⟩
            have hpa : (parts.map fun (i, x) => (i, a.eval x)).toList = ps.map fun p => (p.1, denV ρ β p.2) := by
              rw [Array.toList_map]
              exact parts_den ht hp
            have h3 := fillT_sound (ρ := ρ) (β := β) ps _ _ hf
            have hc : ((Array.range (len * i.size)).map fun k => (((cellsT z).map (denV ρ β)).toArray)[k % (((cellsT z).map (denV ρ β)).toArray).size]!) = ((((List.range (len * i.size)).map fun k => (cellsT z).getD (k % (cellsT z).length) .junk)).map (denV ρ β)).toArray := by
              apply Array.ext
              · simp
              · intro k h1 h2
                have hm : k % (cellsT z).length < (cellsT z).length := Nat.mod_lt _ hj.2
                simp [List.getD_eq_getElem?_getD, List.getElem?_eq_getElem hm, getElem!_def, hm]
            unfold Instr.buildSlice
            rw [Sem.run_bind, r_underlying hd]
            simp only [Result.andThen]
            rw [Sem.run_bind, r_sizeOf hi]
            simp only [Result.andThen]
            rw [if_neg (by omega), if_neg (by omega)]
            simp only [Sem.run_bind, zero_den (ρ := ρ) (β := β) hz, Result.andThen, Sem.run_pure, cells_den hk, hpa]
            rw [hc, h3]
            rfl
          · cases h
        · cases h
      · cases h
    · cases h
  · cases h
theorem slice_len {P : Program} {w : World} {ts : Array TypeId} {ty : TypeId} {cs : Array Bool} {o : Option Addr} {n c : Nat} (h : isSliceT P ts.toList = true) : (builtin .len ts ty cs #[.slice o n c]).run P w = .ok (.value (.int .i64 n)) w := by
  unfold isSliceT at h
  split at h
  · rename_i t r hts
    split at h
    · rename_i e hu
      have h0 : ts[0]? = some t := by
        have : ts.toList[0]? = some t := by rw [hts]; rfl
        simpa using this
      simp only [builtin, Builtin.len_, h0]
      simp only [Sem.run_bind, r_underlying hu, Result.andThen, List.getElem?_toArray, List.getElem?_cons_zero]
      rfl
    · cases h
  · cases h
theorem str_len {P : Program} {w : World} {ts : Array TypeId} {ty : TypeId} {cs : Array Bool} {s : ByteArray} (h : isStrT P ts.toList = true) : (builtin .len ts ty cs #[.string s]).run P w = .ok (.value (.int .i64 s.size)) w := by
  unfold isStrT at h
  split at h
  · rename_i t r hts
    split at h
    · rename_i hu
      have h0 : ts[0]? = some t := by
        have : ts.toList[0]? = some t := by rw [hts]; rfl
        simpa using this
      simp only [builtin, Builtin.len_, h0]
      simp only [Sem.run_bind, r_underlying hu, Result.andThen, List.getElem?_toArray, List.getElem?_cons_zero]
      rfl
    · cases h
  · cases h
theorem evalBuiltin_sound {P : Program} {ρ : Env} {β : Nat → Nat} {w : World} {b : Builtin} {ts : Array TypeId} {ty : TypeId} {cs : Array Bool} {args : List Tm} {v : Tm} (h : evalBuiltin P b ts.toList args = some v) :
    (builtin b ts ty cs (args.map (denV ρ β)).toArray).run P w = .ok (.value (denV ρ β v)) w := by
  unfold evalBuiltin at h
  split at h
  · split at h
    · rename_i hs
      obtain rfl := Option.some.inj h
      exact slice_len hs
    · cases h
  · split at h
    · rename_i hs
      obtain rfl := Option.some.inj h
      exact str_len hs
    · cases h
  · split at h
    · rename_i hs
      obtain rfl := Option.some.inj h
      exact str_len hs
    · cases h
  · split at h
    · rename_i hs
      obtain rfl := Option.some.inj h
      exact str_len hs
    · cases h
  · split at h
    · rename_i hs
      obtain rfl := Option.some.inj h
      exact slice_len hs
    · cases h
  · obtain rfl := Option.some.inj h
    simp only [builtin, List.map_cons, List.map_nil, Builtin.max_, denV, den_mkI2, I2.den, List.foldlM_cons, List.foldlM_nil, Builtin.max2]
    rfl
  · obtain rfl := Option.some.inj h
    simp only [builtin, List.map_cons, List.map_nil, Builtin.min_, denV, den_mkI2, I2.den, List.foldlM_cons, List.foldlM_nil, Builtin.min2]
    rfl
  · rename_i l
    split at h
    · rename_i t r hts
      split at h
      · rename_i hu
        obtain rfl := Option.some.inj h
        have h0 : ts[0]? = some t := by
          have : ts.toList[0]? = some t := by rw [hts]; rfl
          simpa using this
        simp only [builtin, Builtin.len_, List.map_cons, List.map_nil, h0, denV, Cst.den, denI]
        simp only [Sem.run_bind, r_underlying hu, Result.andThen, List.getElem?_toArray, List.getElem?_cons_zero]
        simp [goInt, ByteArray.size]
      · cases h
    · cases h
  · cases h
/-! Part 8: an operation's outcome is what the program does. -/

theorem r_call {P : Program} {f : FuncId} (h : callable P f = true) (args : Array Value) (w : World) : (callFunc f args).run P w = .ok (.enter f args) w := by
  unfold callable at h
  split at h
  · rename_i fn hf
    simp only [Bool.and_eq_true, Bool.not_eq_true', beq_eq_false_iff_ne, ne_eq] at h
    have h1 : (fn.name == "runtime.NumGoroutine") = false := by simpa using h.1
    have h2 : fn.body.isNone = false := by cases hb : fn.body <;> simp [hb] at h ⊢
    unfold callFunc
    rw [Sem.run_bind, r_program]
    simp only [Result.andThen, hf, h1, Bool.false_eq_true, if_false, h2]
    rfl
  · cases h
theorem ofO_ok {x : Option Tm} {c : Tm} {o : Out} (h : ofO x = .ok c o) : ∃ v, x = some v ∧ o = .val v := by
  unfold ofO at h
  split at h
  · obtain ⟨_, rfl⟩ := (Ev.ok.injEq _ _ _ _ ▸ h : _ ∧ _)
    exact ⟨_, rfl, rfl⟩
  · cases h
theorem ofP_ok {x : Option (Tm × Tm)} {c : Tm} {o : Out} (h : ofP x = .ok c o) : ∃ v, x = some (c, v) ∧ o = .val v := by
  unfold ofP at h
  split at h
  · obtain ⟨rfl, rfl⟩ := (Ev.ok.injEq _ _ _ _ ▸ h : _ ∧ _)
    exact ⟨_, rfl, rfl⟩
  · cases h
theorem r_box {P : Program} {w : World} {e : TypeId} {v : Value} : (Instr.box e v).run P w = .ok (.pointer (some ⟨w.heap.size, 0, none⟩)) (w.alloc (.cells v.cells e)) := rfl
theorem r_value {P : Program} {w w' : World} {s : Sem Value} {v : Value} (h : s.run P w = .ok v w') : (do pure (Next.value (← s)) : Sem Next).run P w = .ok (.value v) w' := by
  rw [Sem.run_bind, h]
  rfl
theorem r_unit {P : Program} {w w' : World} {s : Sem Unit} (h : s.run P w = .ok () w') : (do s; pure Next.skip : Sem Next).run P w = .ok .skip w' := by
  rw [Sem.run_bind, h]
  rfl
theorem evalOp_sound {P : Program} {ρ : Env} {β : Nat → Nat} {W w : World} {Γ : Ctx} {pc : List (Tm × Bool)} {tm : List Tm} {hp : List (List Tm)} {a : Act} {o : Oper} {c : Tm} {out : Out}
    (ht : TmOk ρ β tm a) (hh : HpOk ρ β W w hp) (hpc : PcOk ρ β pc) (hgs : SlsOk W ρ.sls Γ.ks) (hbw : Below W.heap.size W w) (hc : denB ρ β c = true) (h : evalOp P ρ.et Γ pc tm hp o.op = .ok c out) : OutOk P ρ β a w o out := by
  obtain ⟨dst, op, ty, pos, aft, grd⟩ := o
  dsimp only at h
  unfold evalOp at h
  split at h
  case h_1 x =>
    obtain ⟨v, hv, rfl⟩ := ofO_ok h
    show Result.ok (Next.value (a.eval x)) w = _
    rw [evalO_den ht hv]
  case h_2 x =>
    obtain ⟨v, hv, rfl⟩ := ofO_ok h
    show Result.ok (Next.value (a.eval x)) w = _
    rw [evalO_den ht hv]
  case h_3 x y z =>
    split at h
    · rename_i t hx
      have hxe := evalO_den ht hx
      split at h
      · rename_i hd
        obtain ⟨v, hv, rfl⟩ := ofO_ok h
        show (do pure (.value (if ← asBool (a.eval x) then a.eval y else a.eval z)) : Sem Next).run P w = _
        rw [hxe]
        simp only [denV, asBool, decT_den hpc hd]
        show Result.ok (Next.value (a.eval y)) w = _
        rw [evalO_den ht hv]
      · rename_i hd
        obtain ⟨v, hv, rfl⟩ := ofO_ok h
        show (do pure (.value (if ← asBool (a.eval x) then a.eval y else a.eval z)) : Sem Next).run P w = _
        rw [hxe]
        simp only [denV, asBool, decT_den hpc hd]
        show Result.ok (Next.value (a.eval z)) w = _
        rw [evalO_den ht hv]
      · cases h
    · cases h
  case h_4 e =>
    unfold evalAlloc at h
    split at h
    · rename_i i hi
      split at h
      · rename_i v hv
        split at h
        · rename_i t htv
          split at h
          · rename_i hk
            obtain ⟨_, rfl⟩ := (Ev.ok.injEq _ _ _ _ ▸ h : _ ∧ _)
            show (do pure (Next.value (← Instr.alloc e true (.tuple #[]))) : Sem Next).run P w = _
            refine r_value ?_
            unfold Instr.alloc
            rw [Sem.run_bind]
            have hz : (zeroValue e).run P w = .ok v w := by
              unfold zeroValue
              rw [Sem.run_bind, r_typeInfo hi]
              simp only [Result.andThen, hv]
              rfl
            rw [hz]
            simp only [Result.andThen]
            rw [← cells_den hk, ofVal_den htv]
            rfl
          · cases h
        · cases h
      · cases h
    · cases h
  case h_5 e x =>
    split at h
    · rename_i t hx
      split at h
      · rename_i hk
        obtain ⟨_, rfl⟩ := (Ev.ok.injEq _ _ _ _ ▸ h : _ ∧ _)
        show (do pure (Next.value (← Instr.box e (a.eval x))) : Sem Next).run P w = _
        refine r_value ?_
        rw [evalO_den ht hx, r_box, cells_den hk]
        rfl
      · cases h
    · cases h
  case h_6 t parts =>
    obtain ⟨v, hv, rfl⟩ := ofO_ok h
    exact r_value (evalBuild_sound ht hv)
  case h_7 t len parts =>
    obtain ⟨cells, e, rfl, hr⟩ := evalBuildSlice_sound (w := w) ht h
    exact r_value hr
  case h_8 t x =>
    split at h
    · rename_i id off hx
      obtain ⟨v, hv, rfl⟩ := ofO_ok h
      show (do pure (Next.value (← Instr.loadAt t (a.eval x))) : Sem Next).run P w = _
      refine r_value ?_
      rw [evalO_den ht hx]
      exact evalLoad_sound hh hv
    · rename_i b n off hx
      obtain ⟨v, hv, rfl⟩ := ofP_ok h
      show (do pure (Next.value (← Instr.loadAt t (a.eval x))) : Sem Next).run P w = _
      refine r_value ?_
      rw [evalO_den ht hx]
      exact evalLoadX_sound hgs hbw hv hc
    · cases h
  case h_9 t x y =>
    split at h
    · rename_i id off v hx hy
      obtain ⟨rfl, hs⟩ := evalStore_sound (ρ := ρ) (β := β) hh h
      show (do Instr.storeAt t (a.eval x) (a.eval y); pure Next.skip : Sem Next).run P w = _
      refine r_unit ?_
      rw [evalO_den ht hx, evalO_den ht hy]
      exact hs
    · cases h
  case h_10 x =>
    split at h
    · rename_i id off hx
      obtain ⟨_, rfl⟩ := (Ev.ok.injEq _ _ _ _ ▸ h : _ ∧ _)
      simp only [OutOk, execOp, evalO_den ht hx, denV]
      rfl
    · cases h
  case h_11 op t x y yt =>
    split at h
    · rename_i p q hx hy
      split at h
      · rename_i c' v hv
        obtain ⟨rfl, rfl⟩ := (Ev.ok.injEq _ _ _ _ ▸ h : _ ∧ _)
        show (do pure (Next.value (← (do eqGuard op t x y (a.eval x) (a.eval y); binOp op t (a.eval x) (a.eval y)))) : Sem Next).run P w = _
        refine r_value ?_
        rw [evalO_den ht hx, evalO_den ht hy]
        exact evalBin_sound hv hc
      · cases h
    · cases h
  case h_12 op t x =>
    obtain ⟨v, hv, rfl⟩ := ofO_ok h
    obtain ⟨y, hy, hv⟩ := Option.bind_eq_some_iff.1 hv
    show (do pure (Next.value (← Op.unary op (a.eval x))) : Sem Next).run P w = _
    refine r_value ?_
    rw [evalO_den ht hy]
    exact evalUn_sound hv
  case h_13 s d x =>
    obtain ⟨v, hv, rfl⟩ := ofO_ok h
    obtain ⟨y, hy, hv⟩ := Option.bind_eq_some_iff.1 hv
    show (do pure (Next.value (← convert s d (a.eval x))) : Sem Next).run P w = _
    refine r_value ?_
    rw [evalO_den ht hy]
    exact evalConv_sound hv
  case h_14 t x =>
    obtain ⟨v, hv, rfl⟩ := ofO_ok h
    obtain ⟨y, hy, hv⟩ := Option.bind_eq_some_iff.1 hv
    show (do pure (Next.value (← Instr.makeInterface t (a.eval x))) : Sem Next).run P w = _
    refine r_value ?_
    rw [evalO_den ht hy]
    exact evalIface_sound hv
  case h_15 fn p q =>
    split at h
    · split at h
      · rename_i f hpq
        obtain ⟨_, rfl⟩ := (Ev.ok.injEq _ _ _ _ ▸ h : _ ∧ _)
        have h1 : p = #[] := Array.eq_empty_of_size_eq_zero hpq.1
        have h2 : q = #[] := Array.eq_empty_of_size_eq_zero hpq.2
        subst h1 h2
        simp only [OutOk, execOp, Array.map_empty]
        rfl
      · cases h
    · cases h
  case h_16 s x f =>
    obtain ⟨v, hv, rfl⟩ := ofO_ok h
    obtain ⟨y, hy, hv⟩ := Option.bind_eq_some_iff.1 hv
    show (do pure (Next.value (← Instr.fieldAt s (a.eval x) f)) : Sem Next).run P w = _
    refine r_value ?_
    rw [evalO_den ht hy]
    exact evalFieldAddr_sound hv
  case h_17 s x f =>
    obtain ⟨v, hv, rfl⟩ := ofO_ok h
    obtain ⟨y, hy, hv⟩ := Option.bind_eq_some_iff.1 hv
    show (do pure (Next.value (← Instr.field s (a.eval x) f)) : Sem Next).run P w = _
    refine r_value ?_
    rw [evalO_den ht hy]
    exact evalField_sound hv
  case h_18 t x i =>
    split at h
    · rename_i p q hx hy
      obtain ⟨v, hv, rfl⟩ := ofP_ok h
      show (do pure (Next.value (← Instr.indexAt t (a.eval x) (a.eval i))) : Sem Next).run P w = _
      refine r_value ?_
      rw [evalO_den ht hx, evalO_den ht hy]
      exact evalElem_sound hgs hv hc
    · rename_i p q _ hx hy
      obtain ⟨v, hv, rfl⟩ := ofO_ok h
      show (do pure (Next.value (← Instr.indexAt t (a.eval x) (a.eval i))) : Sem Next).run P w = _
      refine r_value ?_
      rw [evalO_den ht hx, evalO_den ht hy]
      exact evalIndexAddr_sound hv
    · cases h
  case h_19 t x i =>
    split at h
    · rename_i p q hx hy
      obtain ⟨v, hv, rfl⟩ := ofO_ok h
      show (do pure (Next.value (← Instr.index t (a.eval x) (a.eval i))) : Sem Next).run P w = _
      refine r_value ?_
      rw [evalO_den ht hx, evalO_den ht hy]
      exact evalIndex_sound hv
    · cases h
  case h_20 x i =>
    obtain ⟨v, hv, rfl⟩ := ofO_ok h
    obtain ⟨y, hy, hv⟩ := Option.bind_eq_some_iff.1 hv
    show (do pure (Next.value (← Instr.extract (a.eval x) i)) : Sem Next).run P w = _
    refine r_value ?_
    rw [evalO_den ht hy]
    exact evalExtract_sound hv
  case h_21 cl =>
    obtain ⟨callee, cargs, cts⟩ := cl
    unfold evalCall at h
    dsimp only at h
    split at h
    · cases h
    · rename_i args hargs
      have hae : cargs.map a.eval = (args.map (denV ρ β)).toArray := by
        rw [← Array.toList_inj, Array.toList_map, args_den ht hargs]
      split at h
      · rename_i f
        split at h
        · rename_i g hg
          split at h
          · rename_i hcall
            split at h
            · rename_i cnd res hcon
              obtain ⟨rfl, rfl⟩ := (Ev.ok.injEq _ _ _ _ ▸ h : _ ∧ _)
              show (do let d ← resolve a.eval ⟨.value f, cargs, cts⟩ ty; invoke d.target d.args : Sem Next).run P w = _
              unfold resolve
              simp only [hae, evalO_den ht hg, denV, Cst.den, Deferred.ofValue]
              show (invoke (.fn (.func g) #[]) (#[] ++ (args.map (denV ρ β)).toArray)).run P w = _
              simp only [invoke, Array.append_empty, Array.empty_append]
              exact r_call hcall _ _
            · cases h
          · cases h
        · cases h
      · rename_i b
        obtain ⟨v, hv, rfl⟩ := ofO_ok h
        show (do let d ← resolve a.eval ⟨.builtin b, cargs, cts⟩ ty; invoke d.target d.args : Sem Next).run P w = _
        unfold resolve
        simp only [hae]
        show (builtin b cts ty _ (args.map (denV ρ β)).toArray).run P w = _
        exact evalBuiltin_sound hv
      · cases h
  case h_22 => cases h
/-- a call's contract -/
theorem evalOp_call {P : Program} {ρ : Env} {β : Nat → Nat} {W w : World} {Γ : Ctx} {pc : List (Tm × Bool)} {tm : List Tm} {hp : List (List Tm)} {op : Op} {c : Tm} {f : FuncId} {args : List Tm} {v : Tm}
    (hg : Γ.Ok P ρ W) (hb : Below W.heap.size W w) (hh : HpOk ρ β W w hp) (hc : denB ρ β c = true) (h : evalOp P ρ.et Γ pc tm hp op = .ok c (.call f args v)) :
    Calls P f (args.map (denV ρ β)).toArray w fun e w' => e = .returned (denV ρ β v) ∧ Below w.heap.size w w' := by
  unfold evalOp at h
  split at h
  case h_21 cl =>
    unfold evalCall at h
    split at h
    · cases h
    · split at h
      · split at h
        · split at h
          · split at h
            · rename_i hcon
              obtain ⟨rfl, h2⟩ := (Ev.ok.injEq _ _ _ _ ▸ h : _ ∧ _)
              obtain ⟨rfl, rfl, rfl⟩ := (Out.call.injEq _ _ _ _ _ _ ▸ h2 : _ ∧ _ ∧ _)
              exact findCon_sound hg.s hb hh hg.l hcon hc
            · cases h
          · cases h
        · cases h
      · obtain ⟨_, _, h2⟩ := ofO_ok h; cases h2
      · cases h
  case h_4 e =>
    unfold evalAlloc at h
    repeat' split at h
    all_goals first | (obtain ⟨_, h2⟩ := (Ev.ok.injEq _ _ _ _ ▸ h : _ ∧ _); cases h2) | cases h
  case h_7 t len parts =>
    unfold evalBuildSlice at h
    repeat' split at h
    all_goals first | (obtain ⟨_, h2⟩ := (Ev.ok.injEq _ _ _ _ ▸ h : _ ∧ _); cases h2) | cases h
  case h_9 t x y =>
    split at h
    · unfold evalStore at h
      repeat' split at h
      all_goals first | (obtain ⟨_, h2⟩ := (Ev.ok.injEq _ _ _ _ ▸ h : _ ∧ _); cases h2) | cases h
    · cases h
  all_goals first
    | (obtain ⟨_, _, h2⟩ := ofO_ok h; cases h2; done)
    | (repeat' split at h
       all_goals first | (obtain ⟨_, _, h2⟩ := ofP_ok h; cases h2; done) | (obtain ⟨_, _, h2⟩ := ofO_ok h; cases h2; done) | (obtain ⟨_, h2⟩ := (Ev.ok.injEq _ _ _ _ ▸ h : _ ∧ _); cases h2; done) | (cases h; done))
/-! Part 9: the walk. -/

/-- how many integers, truth values, values and strings are named -/
structure Cnt where
  i : Nat
  b : Nat
  v : Nat
  s : Nat
  deriving DecidableEq
structure St where
  tm : List Tm
  hp : List (List Tm)
  pc : List (Tm × Bool)
  n : Cnt
/-- a loop's head: its state with new names, how many there were and are, what holds there, and what gets less -/
structure Head where
  st : St
  n : Cnt
  inv : Tm
  mes : Tm
structure Ann where
  id : Nat
  new : Cnt
  slots : List (Nat × Tm)
  heap : Option (List (List Tm))
  inv : Tm
  mes : Tm
inductive It where
  | code (c : Code) | blk (id : Nat) | ops (all : Array Oper) (l : List Oper) | dops (all : Array Oper) (l : List Oper) (s0 : St) (acc : List (Option (Tm × Out))) | back (h : Head)
inductive Tree where
  | ret (v : Tm) | br (c : Tm) (x y : Tree) | need (c : Tm) (x : Tree) | loop (new : Cnt) (pre inv : Tm) (x : Tree) | back (inv m m0 : Tm)

/-- only names that there are -/
def inScope (n : Cnt) : Tm → Bool
  | .var i => decide (i < n.i)
  | .bvar i => decide (i < n.b)
  | .opq i => decide (i < n.v)
  | .str i => decide (i < n.s)
  | .i2 _ a b => inScope n a && inScope n b
  | .b2 _ a b => inScope n a && inScope n b
  | .veq a b => inScope n a && inScope n b
  | .cons a b => inScope n a && inScope n b
  | .wrap _ a => inScope n a
  | .sel _ a _ => inScope n a
  | .bsel _ a _ => inScope n a
  | .ssel _ a _ => inScope n a
  | .ep _ a _ => inScope n a
  | .blen a => inScope n a
  | .iapp _ a => inScope n a
  | .not a => inScope n a
  | .bapp _ a => inScope n a
  | .int _ a => inScope n a
  | .bool a => inScope n a
  | .agg a => inScope n a
  | .tup a => inScope n a
  | .err a => inScope n a
  | .iface _ a => inScope n a
  | .vapp _ a => inScope n a
  | .sapp _ a => inScope n a
  | _ => true
def Env.has (ρ : Env) (n : Cnt) : Prop := ρ.iv.length = n.i ∧ ρ.bv.length = n.b ∧ ρ.vv.length = n.v ∧ ρ.sv.length = n.s
def Env.more (ρ : Env) (li : List Int) (lb : List Bool) (lv : List Value) (ls : List ByteArray) : Env :=
  { ρ with iv := ρ.iv ++ li, bv := ρ.bv ++ lb, vv := ρ.vv ++ lv, sv := ρ.sv ++ ls }
/-- for every list of the length -/
def AllN {α : Type} : Nat → (List α → Prop) → Prop
  | 0, p => p []
  | n + 1, p => ∀ a, AllN n fun l => p (a :: l)
theorem AllN.all {α : Type} : ∀ {n : Nat} {p : List α → Prop}, AllN n p → ∀ l, l.length = n → p l
  | 0, p, h, l, hl => by rw [List.length_eq_zero_iff.mp hl]; exact h
  | n + 1, p, h, [], hl => by simp at hl
  | n + 1, p, h, a :: l, hl => (h a).all l (by simpa using hl)
def Tree.holds (K : Value → Prop) : Tree → Env → Prop
  | .ret v, ρ => K (denV ρ b0 v)
  | .br c x y, ρ => (Sx.holds ρ c → x.holds K ρ) ∧ (¬ Sx.holds ρ c → y.holds K ρ)
  | .need c x, ρ => Sx.holds ρ c ∧ (Sx.holds ρ c → x.holds K ρ)
  | .loop new pre inv x, ρ => Sx.holds ρ pre ∧ AllN new.i fun li => AllN new.b fun lb => AllN new.v fun lv => AllN new.s fun ls => Sx.holds (ρ.more li lb lv ls) inv → x.holds K (ρ.more li lb lv ls)
  | .back inv m m0, ρ => Sx.holds ρ inv ∧ (denI ρ b0 m).toNat < (denI ρ b0 m0).toNat

/-- a fact without its negations -/
def bare : Tm → Bool → Tm × Bool
  | .not a, b => bare a (!b)
  | t, b => (t, b)
theorem bare_den (ρ : Env) (β : Nat → Nat) : ∀ (t : Tm) (b : Bool), denB ρ β t = b → denB ρ β (bare t b).1 = (bare t b).2 := by
  intro t
  induction t with
  | not a ih => intro b h; simp only [bare]; refine ih (!b) ?_; simp only [denB] at h; rw [← h]; simp
  | _ => intro b h; exact h
theorem bare_closed : ∀ (t : Tm) (b : Bool), closed t = true → closed (bare t b).1 = true := by
  intro t
  induction t with
  | not a ih => intro b h; exact ih (!b) h
  | _ => intro b h; exact h
def St.learn (st : St) (t : Tm) (b : Bool) : St := { st with pc := st.pc ++ [bare t b] }
def St.put (st : St) (d : Option Tmp) (v : Tm) : St := { st with tm := match d with | some d => st.tm.set d v | none => st.tm }
def St.idsOk (st : St) (v : Tm) : Bool := idsIn (fun i => decide (i < st.hp.length)) v
/-- an outcome, done -/
def St.done (st : St) (d : Option Tmp) : Out → St
  | .val v => st.put d v
  | .alloc cells _ sl => { st.put d (allocT sl st.hp.length) with hp := st.hp ++ [cells] }
  | .store id off cells => { st.put d (.cst .undef) with hp := st.hp.modify id fun cs => putAll cs off cells }
  | .call _ _ v => st.put d v
def St.outOk (st : St) : Out → Bool
  | .val v => st.idsOk v
  | .alloc cells _ _ => cells.all st.idsOk
  | .store id off cells => (match st.hp[id]? with | some cs => decide (off + cells.length ≤ cs.length) | none => false) && cells.all st.idsOk
  | .call _ _ v => closed v
def popTo (id : Nat) : List It → Option (List It)
  | [] => none
  | .blk j :: k => if id = j then some k else popTo id k
  | _ :: k => popTo id k
inductive Want where | yes | no | ask (c : Tm) | bad
def wantedS (st : St) (all : Array Oper) (o : Oper) : Want :=
  match o.guard with
  | none => .yes
  | some (j, b) => match ((all[j]?).bind (·.dst)).bind (getT st.tm) with
    | some (.bool c) => match decT st.pc c with
      | some x => if x = b then .yes else .no
      | none => .ask c
    | some (.cst _) => .no
    | _ => .bad
def branch (t : Tm) (x y : Option Tree) : Option Tree :=
  if closed t then match x, y with
    | some a, some b => some (.br t a b)
    | _, _ => none
  else none
def needT (t : Tm) (x : Option Tree) : Option Tree :=
  match t with
  | .tt true => x
  | t => if closed t then x.map fun a => .need t a else none
def resT (P : Program) (st : St) : ResultVar → Option Tm
  | .tmp t => getT st.tm t
  | .cell a t => match getT st.tm a with
    | some (.ptr id off) => evalLoad P st.hp t id off
    | _ => none
def resAll (P : Program) (st : St) : List ResultVar → Option (List Tm)
  | [] => some []
  | r :: rs => match resT P st r, resAll P st rs with
    | some a, some l => some (a :: l)
    | _, _ => none
def retT (P : Program) (st : St) (rs : List ResultVar) : Option Tree :=
  match resAll P st rs with
  | some [v] => if closed v then some (.ret v) else none
  | some l => if closed (ofL l) then some (.ret (.tup (ofL l))) else none
  | none => none
/-- the slots that a piece of code writes -/
def assigned : Code → List Nat
  | .region _ ops _ => ops.toList.filterMap (·.dst)
  | .seq a b => assigned a ++ assigned b
  | .cond _ a b => assigned a ++ assigned b
  | .block _ b => assigned b
  | .loop b => assigned b
  | .scope b => assigned b
  | _ => []
def headTm (slots : List (Nat × Tm)) (as : List Nat) : Nat → List Tm → List Tm
  | _, [] => []
  | i, t :: r => (match slots.find? (fun p => p.1 == i) with
    | some p => p.2
    | none => if as.contains i then .junk else t) :: headTm slots as (i + 1) r
def Cnt.add (a b : Cnt) : Cnt := ⟨a.i + b.i, a.b + b.b, a.v + b.v, a.s + b.s⟩
def bindI (ps : List (Tm × Tm)) (j : Nat) : Tm := (ps.findSome? fun | (.int _ (.var i), .int _ x) => if i = j then some x else none | _ => none).getD .junk
def bindB (ps : List (Tm × Tm)) (j : Nat) : Tm := (ps.findSome? fun | (.bool (.bvar i), .bool x) => if i = j then some x else none | _ => none).getD .junk
def bindV (ps : List (Tm × Tm)) (j : Nat) : Tm := (ps.findSome? fun | (.opq i, x) => if i = j then some x else none | _ => none).getD .junk
def bindS (ps : List (Tm × Tm)) (j : Nat) : Tm := (ps.findSome? fun | (.str i, x) => if i = j then some x else none | _ => none).getD .junk
def solve (h : Head) (st : St) : Sub :=
  let ps := h.st.tm.zip st.tm ++ (h.st.hp.zip st.hp).flatMap fun p => p.1.zip p.2
  { i := (List.range h.st.n.i).map fun j => if j < h.n.i then .var j else bindI ps j
    b := (List.range h.st.n.b).map fun j => if j < h.n.b then .bvar j else bindB ps j
    v := (List.range h.st.n.v).map fun j => if j < h.n.v then .opq j else bindV ps j
    s := (List.range h.st.n.s).map fun j => if j < h.n.s then .str j else bindS ps j
    l := none }
def fitsL (σ : Sub) : List Tm → List Tm → Bool
  | [], [] => true
  | p :: ps, t :: ts => (p == .junk || t == subst σ p) && fitsL σ ps ts
  | _, _ => false
def fitsH (σ : Sub) : List (List Tm) → List (List Tm) → Bool
  | [], _ => true
  | p :: ps, t :: ts => fitsL σ p t && fitsH σ ps ts
  | _, _ => false
/-- is a state an instance of a head's? -/
def fits (h : Head) (σ : Sub) (st : St) : Bool :=
  σ.ok && (σ.i.all fun t => closed t) && (σ.b.all fun t => closed t) && (σ.v.all fun t => closed t) && (σ.s.all fun t => closed t) && fitsL σ h.st.tm st.tm && fitsH σ h.st.hp st.hp
def headOf (an : Ann) (st : St) (b : Code) : Head :=
  { st := { tm := headTm an.slots (assigned b) 0 st.tm, hp := an.heap.getD st.hp, pc := st.pc, n := st.n.add an.new }, n := st.n, inv := an.inv, mes := an.mes }
/-- is everything at a loop's head named there? -/
def headOk (h : Head) : Bool :=
  (h.st.pc.all fun p => inScope h.n p.1 && closed p.1) && (h.st.tm.all fun t => inScope h.st.n t && idsIn (fun i => decide (i < h.st.hp.length)) t) && (h.st.hp.all fun cs => cs.all fun t => inScope h.st.n t && idsIn (fun i => decide (i < h.st.hp.length)) t) && closed h.inv && closed h.mes && inScope h.st.n h.inv && inScope h.st.n h.mes
def blkId : List It → Option Nat
  | .blk id :: _ => some id
  | _ => none
def findAnn (anns : List Ann) (id : Option Nat) : Option Ann := anns.find? fun a => some a.id == id
/-- which operations stand before one, as bits -/
def maskOf (ms : List Nat) (o : Oper) : Nat := o.after.toList.foldr (fun e m => if Region.binds .any e then (2 ^ e.on ||| ms.getD e.on 0) ||| m else m) 0
def mkMasks : List Oper → List Nat → List Nat
  | [], ms => ms
  | o :: r, ms => mkMasks r (ms ++ [maskOf ms o])
def reach (ms : List Nat) (j g : Nat) : Bool := (ms.getD j 0).testBit g
def writer (all : Array Oper) (d : Nat) : Option Nat := (List.range all.size).find? fun g => (all[g]?).bind (·.dst) == some d
/-- the blocks that a region makes: by which operation, and what they hold -/
def allocsOf : Nat → List (Option (Tm × Out)) → List (Nat × List Tm)
  | _, [] => []
  | i, some (_, .alloc cells _ _) :: r => (i, cells) :: allocsOf (i + 1) r
  | i, _ :: r => allocsOf (i + 1) r
def allowed (ms : List Nat) (al : List (Nat × List Tm)) (base j id : Nat) : Bool :=
  decide (id < base) || (match al[id - base]? with
    | some (g, _) => reach ms j g
    | none => false)
def allowedV (ms : List Nat) (al : List (Nat × List Tm)) (base j id : Nat) : Bool :=
  allowed ms al base j id || (match al[id - base]? with
    | some (g, _) => g == j
    | none => false)
def maskTm (l : List Nat) : Nat → List Tm → List Tm
  | _, [] => []
  | i, t :: r => (if l.contains i then t else .junk) :: maskTm l (i + 1) r
/-- the stores of a region: by which operation, where, what -/
def storesOf : Nat → List (Option (Tm × Out)) → List (Nat × Nat × Nat × List Tm)
  | _, [] => []
  | i, some (_, .store id off cells) :: r => (i, id, off, cells) :: storesOf (i + 1) r
  | i, _ :: r => storesOf (i + 1) r
/-- a block behind those stores that were done -/
def applySt (p : Nat → Bool) (id : Nat) : List (Nat × Nat × Nat × List Tm) → List Tm → List Tm
  | [], cs => cs
  | s :: r, cs => applySt p id r (if s.2.1 = id ∧ p s.1 = true then putAll cs s.2.2.1 s.2.2.2 else cs)
/-- a block as an operation may find it -/
def viewCs (ms : List Nat) (j id : Nat) : List (Nat × Nat × Nat × List Tm) → List Tm → List Tm
  | [], cs => cs
  | s :: r, cs => viewCs ms j id r (if s.2.1 = id then (if reach ms j s.1 then putAll cs s.2.2.1 s.2.2.2 else if s.1 = j ∨ reach ms s.1 j = true then cs else putAll cs s.2.2.1 (s.2.2.2.map fun _ => .junk)) else cs)
def apartSt (s t : Nat × Nat × Nat × List Tm) : Bool := s.2.1 != t.2.1 || decide (s.2.2.1 + s.2.2.2.length ≤ t.2.2.1) || decide (t.2.2.1 + t.2.2.2.length ≤ s.2.2.1)
def disjOk : List (Nat × Nat × Nat × List Tm) → Bool
  | [] => true
  | s :: r => (r.all fun t => apartSt s t) && disjOk r
def viewHp (ms : List Nat) (al : List (Nat × List Tm)) (sts : List (Nat × Nat × Nat × List Tm)) (hp : List (List Tm)) (j : Nat) : List (List Tm) :=
  (hp ++ al.map fun x => if reach ms j x.1 then x.2 else []).mapIdx fun id cs => viewCs ms j id sts cs
def viewSt (ms : List Nat) (al : List (Nat × List Tm)) (sts : List (Nat × Nat × Nat × List Tm)) (all : Array Oper) (s0 s1 : St) (o : Oper) (j : Nat) : St := { tm := maskTm (o.looksAt all) 0 s1.tm, hp := viewHp ms al sts s0.hp j, pc := s1.pc, n := s1.n }
def opOk (P : Program) (et : TypeId) (Γ : Ctx) (ms : List Nat) (al : List (Nat × List Tm)) (sts : List (Nat × Nat × Nat × List Tm)) (all : Array Oper) (s0 s1 : St) (j : Nat) (o : Oper) (x : Option (Tm × Out)) : Bool :=
  (o.looksAt all).all (fun d => match writer all d with | some g => reach ms j g | none => true) &&
  (match o.dst with | some d => writer all d == some j | none => true) &&
  match x with
  | none => (match wantedS (viewSt ms al sts all s0 s1 o j) all o with | .no => true | _ => false) && (match o.dst with | some d => s1.tm[d]? == some (.cst .undef) || decide (s1.tm.length ≤ d) | none => true)
  | some (c, out) => (match wantedS (viewSt ms al sts all s0 s1 o j) all o with | .yes => true | _ => false) &&
      (match evalOp P et Γ s1.pc (maskTm (o.looksAt all) 0 s1.tm) (viewHp ms al sts s0.hp j) o.op with | .ok c' out' => c' == c && out' == out | _ => false) &&
      (match out with
       | .val v => idsIn (allowed ms al s0.hp.length j) v && (match o.dst with | some d => s1.tm[d]? == some v || decide (s1.tm.length ≤ d) | none => true)
       | .alloc cells _ sl => cells.all (fun t => idsIn (allowed ms al s0.hp.length j) t) && ((List.range al.length).any fun k => (al[k]?).map (·.1) == some j && (al[k]?).map (·.2) == some cells && (match o.dst with | some d => s1.tm[d]? == some (allocT sl (s0.hp.length + k)) || decide (s1.tm.length ≤ d) | none => true))
       | .store id off cells => allowed ms al s0.hp.length j id && cells.all (fun t => idsIn (allowed ms al s0.hp.length j) t) && (match (s0.hp ++ al.map (·.2))[id]? with | some cs => decide (off + cells.length ≤ cs.length) | none => false) && (match o.dst with | some d => s1.tm[d]? == some (.cst .undef) || decide (s1.tm.length ≤ d) | none => true)
       | .call _ _ v => closed v && (match o.dst with | some d => s1.tm[d]? == some v || decide (s1.tm.length ≤ d) | none => true))
def opsOk (P : Program) (et : TypeId) (Γ : Ctx) (ms : List Nat) (al : List (Nat × List Tm)) (sts : List (Nat × Nat × Nat × List Tm)) (all : Array Oper) (s0 s1 : St) : Nat → List Oper → List (Option (Tm × Out)) → Bool
  | _, [], [] => true
  | j, o :: l, x :: r => opOk P et Γ ms al sts all s0 s1 j o x && opsOk P et Γ ms al sts all s0 s1 (j + 1) l r
  | _, _, _ => false
def slotsOk (all : Array Oper) : Nat → List Tm → List Tm → Bool
  | _, [], [] => true
  | d, a :: as, b :: bs => ((writer all d).isSome || a == b) && slotsOk all (d + 1) as bs
  | _, _, _ => false
def downOk : Nat → List Oper → Bool
  | _, [] => true
  | i, o :: r => (o.after.toList.all fun e => !Region.binds .any e || decide (e.on < i)) && downOk (i + 1) r
def drawOk (P : Program) (et : TypeId) (Γ : Ctx) (all : Array Oper) (s0 s1 : St) (outs : List (Option (Tm × Out))) : Bool :=
  let ms := mkMasks all.toList []
  let al := allocsOf 0 outs
  let sts := storesOf 0 outs
  downOk 0 all.toList && (al.map (·.1)).Nodup && slotsOk all 0 s0.tm s1.tm && (sts.map (·.1)).Nodup && disjOk sts && s1.hp == (s0.hp ++ al.map (·.2)).mapIdx (fun id cs => applySt (fun _ => true) id sts cs) && s1.n == s0.n && opsOk P et Γ ms al sts all s0 s1 0 all.toList outs

def run (P : Program) (et : TypeId) (Γ : Ctx) (anns : List Ann) (rs : List ResultVar) : Nat → St → List It → Option Tree
  | 0, _, _ => none
  | n + 1, st, [] => retT P st rs
  | n + 1, st, .code c :: k =>
    match c with
    | .skip => run P et Γ anns rs n st k
    | .seq a b => run P et Γ anns rs n st (.code a :: .code b :: k)
    | .cond c x y => match evalO st.tm c with
      | some (.bool t) => match decT st.pc t with
        | some true => run P et Γ anns rs n st (.code x :: k)
        | some false => run P et Γ anns rs n st (.code y :: k)
        | none => branch t (run P et Γ anns rs n (st.learn t true) (.code x :: k)) (run P et Γ anns rs n (st.learn t false) (.code y :: k))
      | _ => none
    | .block id b => run P et Γ anns rs n st (.code b :: .blk id :: k)
    | .exit id => match popTo id k with
      | some k' => run P et Γ anns rs n st k'
      | none => none
    | .ret => retT P st rs
    | .region _ ops false => run P et Γ anns rs n st (.ops ops ops.toList :: k)
    | .region _ ops true => run P et Γ anns rs n st (.dops ops ops.toList st [] :: k)
    | .loop b => match findAnn anns (blkId k) with
      | some an =>
        (let h := headOf an st b
         let σ := solve h st
         if headOk h && fits h σ st && closed (subst σ h.inv) then (run P et Γ anns rs n h.st (.code b :: .back h :: k)).map fun x => .loop an.new (subst σ h.inv) h.inv x else none)
      | none => none
    | _ => none
  | n + 1, st, .blk _ :: k => run P et Γ anns rs n st k
  | n + 1, st, .back h :: k =>
    (let σ := solve h st
     if fits h σ st && closed (subst σ h.inv) && closed (subst σ h.mes) then some (.back (subst σ h.inv) (subst σ h.mes) h.mes) else none)
  | n + 1, st, .ops all [] :: k => run P et Γ anns rs n st k
  | n + 1, st, .ops all (o :: l) :: k =>
    match wantedS st all o with
    | .no => run P et Γ anns rs n (st.put o.dst (.cst .undef)) (.ops all l :: k)
    | .ask c => branch c (run P et Γ anns rs n (st.learn c true) (.ops all (o :: l) :: k)) (run P et Γ anns rs n (st.learn c false) (.ops all (o :: l) :: k))
    | .yes => match evalOp P et Γ st.pc st.tm st.hp o.op with
      | .ok c out => if st.outOk out then needT c (run P et Γ anns rs n (st.done o.dst out) (.ops all l :: k)) else none
      | .ask c => branch c (run P et Γ anns rs n (st.learn c true) (.ops all (o :: l) :: k)) (run P et Γ anns rs n (st.learn c false) (.ops all (o :: l) :: k))
      | .bad => none
    | .bad => none
  | n + 1, st, .dops all [] s0 acc :: k => if drawOk P et Γ all s0 st acc then run P et Γ anns rs n st k else none
  | n + 1, st, .dops all (o :: l) s0 acc :: k =>
    match wantedS st all o with
    | .no => run P et Γ anns rs n (st.put o.dst (.cst .undef)) (.dops all l s0 (acc ++ [none]) :: k)
    | .ask c => branch c (run P et Γ anns rs n (st.learn c true) (.dops all (o :: l) s0 acc :: k)) (run P et Γ anns rs n (st.learn c false) (.dops all (o :: l) s0 acc :: k))
    | .yes => match evalOp P et Γ st.pc st.tm st.hp o.op with
      | .ok c out => if st.outOk out then needT c (run P et Γ anns rs n (st.done o.dst out) (.dops all l s0 (acc ++ [some (c, out)]) :: k)) else none
      | .ask c => branch c (run P et Γ anns rs n (st.learn c true) (.dops all (o :: l) s0 acc :: k)) (run P et Γ anns rs n (st.learn c false) (.dops all (o :: l) s0 acc :: k))
      | .bad => none
    | .bad => none
/-! Part 10: a state and the program's. -/

structure Match (ρ : Env) (β : Nat → Nat) (W : World) (st : St) (a : Act) (w : World) : Prop where
  dfr : a.defers = []
  len : st.tm.length = a.tmps.size
  tm : TmOk ρ β st.tm a
  tmi : ∀ t ∈ st.tm, st.idsOk t = true
  hp : HpOk ρ β W w st.hp
  hpi : ∀ cs ∈ st.hp, ∀ t ∈ cs, st.idsOk t = true
  inj : ∀ i j, i < st.hp.length → j < st.hp.length → β i = β j → i = j
  lt : ∀ i, i < st.hp.length → W.heap.size ≤ β i ∧ β i < w.heap.size
  pc : PcOk ρ b0 st.pc
  pcc : ∀ x ∈ st.pc, closed x.1 = true
  below : Below W.heap.size W w
  n : ρ.has st.n
theorem Match.pcb {ρ : Env} {β : Nat → Nat} {W w : World} {st : St} {a : Act} (m : Match ρ β W st a w) : PcOk ρ β st.pc :=
  fun x hx => by rw [(closed_den (m.pcc x hx) β b0).2.1]; exact m.pc x hx
theorem Match.world {ρ : Env} {β : Nat → Nat} {W w w' : World} {st : St} {a : Act} (m : Match ρ β W st a w) (hb : Below w.heap.size w w') : Match ρ β W st a w' :=
  { m with
    hp := fun id cs hc off c ho => by
      obtain ⟨h1, h2, ⟨v, h3, h4⟩, h5⟩ := m.hp id cs hc off c ho
      exact ⟨h1, Nat.lt_of_lt_of_le h2 hb.size, ⟨v, by rw [hb.cell (p := ⟨β id, off, none⟩) h2]; exact h3, h4⟩, by rw [hb.frozen (p := ⟨β id, off, none⟩) h2]; exact h5⟩
    lt := fun i hi => ⟨(m.lt i hi).1, Nat.lt_of_lt_of_le (m.lt i hi).2 hb.size⟩
    below := m.below.trans (hb.mono m.below.size) }
theorem idsOk_of {st st' : St} (h : st'.hp.length = st.hp.length) (t : Tm) : st'.idsOk t = st.idsOk t := by unfold St.idsOk; rw [h]
theorem tmOk_put {ρ : Env} {β : Nat → Nat} {tm : List Tm} {a : Act} (ht : TmOk ρ β tm a) (hl : tm.length = a.tmps.size) (d : Nat) {v : Tm} {x : Value} (hr : Rel ρ β v x) : TmOk ρ β (tm.set d v) (a.put (some d) x) := by
  intro i
  have h0 := ht i
  simp only [Act.put, List.getD_eq_getElem?_getD, Array.getD_eq_getD_getElem?, List.getElem?_set, Array.getElem?_setIfInBounds] at h0 ⊢
  by_cases hd : d = i
  · subst hd
    simp only [if_true]
    by_cases hlt : d < tm.length
    · rw [if_pos hlt, if_pos (by omega)]
      simpa using hr
    · rw [if_neg hlt, if_neg (by omega)]
      intro hj
      exact absurd rfl hj
  · rw [if_neg hd, if_neg hd]
    exact h0
theorem Match.put {ρ : Env} {β : Nat → Nat} {W w : World} {st : St} {a : Act} (m : Match ρ β W st a w) (d : Option Tmp) {v : Tm} {x : Value} (hi : st.idsOk v = true) (hr : Rel ρ β v x) : Match ρ β W (st.put d v) (a.put d x) w := by
  cases d with
  | none => exact m
  | some d =>
    have hl : (a.put (some d) x).tmps.size = a.tmps.size := by simp [Act.put]
    exact
      { m with
        len := by rw [hl, ← m.len]; simp [St.put]
        tm := tmOk_put m.tm m.len d hr
        tmi := fun t ht => by
          show st.idsOk t = true
          rcases List.mem_or_eq_of_mem_set ht with h | h
          · exact m.tmi t h
          · rw [h]; exact hi
        hpi := fun cs hc t ht => by show st.idsOk t = true; exact m.hpi cs hc t ht }
theorem Match.learn {ρ : Env} {β : Nat → Nat} {W w : World} {st : St} {a : Act} (m : Match ρ β W st a w) {t : Tm} {b : Bool} (hc : closed t = true) (hb : denB ρ b0 t = b) : Match ρ β W (st.learn t b) a w :=
  { m with
    tmi := fun t ht => by show st.idsOk t = true; exact m.tmi t ht
    hpi := fun cs hc t ht => by show st.idsOk t = true; exact m.hpi cs hc t ht
    pc := fun x hx => by
      simp only [St.learn, List.mem_append, List.mem_singleton] at hx
      rcases hx with hx | rfl
      · exact m.pc x hx
      · exact bare_den ρ b0 t b hb
    pcc := fun x hx => by
      simp only [St.learn, List.mem_append, List.mem_singleton] at hx
      rcases hx with hx | rfl
      · exact m.pcc x hx
      · exact bare_closed t b hc }
theorem rel_congr {ρ : Env} {β β' : Nat → Nat} {n : Nat} (h : ∀ i, i < n → β i = β' i) {t : Tm} (ht : idsIn (fun i => decide (i < n)) t = true) {v : Value} (hr : Rel ρ β t v) : Rel ρ β' t v := by
  intro hj
  rw [hr hj]
  exact denV_congr (p := fun i => decide (i < n)) (fun i hi => h i (by simpa using hi)) ht
theorem idsIn_mono {p q : Nat → Bool} (h : ∀ i, p i = true → q i = true) : ∀ t, idsIn p t = true → idsIn q t = true := by
  intro t
  induction t with
  | ptr id off => exact h id
  | i2 o a b iha ihb => intro hp; simp only [idsIn, Bool.and_eq_true] at hp ⊢; exact ⟨iha hp.1, ihb hp.2⟩
  | b2 o a b iha ihb => intro hp; simp only [idsIn, Bool.and_eq_true] at hp ⊢; exact ⟨iha hp.1, ihb hp.2⟩
  | veq a b iha ihb => intro hp; simp only [idsIn, Bool.and_eq_true] at hp ⊢; exact ⟨iha hp.1, ihb hp.2⟩
  | cons a b iha ihb => intro hp; simp only [idsIn, Bool.and_eq_true] at hp ⊢; exact ⟨iha hp.1, ihb hp.2⟩
  | wrap k a ih => exact ih
  | sel b a j ih => exact ih
  | bsel b a j ih => exact ih
  | ssel b a j ih => exact ih
  | ep b a j ih => exact ih
  | blen a ih => exact ih
  | iapp f a ih => exact ih
  | not a ih => exact ih
  | bapp f a ih => exact ih
  | int k a ih => exact ih
  | bool a ih => exact ih
  | agg a ih => exact ih
  | tup a ih => exact ih
  | err a ih => exact ih
  | iface t a ih => exact ih
  | vapp f a ih => exact ih
  | sapp f a ih => exact ih
  | osl id n => exact h id
  | _ => intro _; rfl
theorem idsOk_closed {st : St} {t : Tm} (h : closed t = true) : st.idsOk t = true := idsIn_mono (fun i hi => by cases hi) t h
/-- a new block -/
theorem Match.alloc {ρ : Env} {β : Nat → Nat} {W w : World} {st : St} {a : Act} (m : Match ρ β W st a w) (d : Option Tmp) {cells : List Tm} {e : TypeId} (sl : Option Nat) (hi : cells.all st.idsOk = true) :
    Match ρ (fun i => if i = st.hp.length then w.heap.size else β i) W (st.done d (.alloc cells e sl)) (a.put d (allocV sl w.heap.size)) (w.alloc (.cells (cells.map (denV ρ β)).toArray e)) := by
  have hb : Below w.heap.size w (w.alloc (.cells (cells.map (denV ρ β)).toArray e)) := (Below.refl _ _).alloc (Nat.le_refl _) _
  have hag : ∀ i, i < st.hp.length → β i = (fun i => if i = st.hp.length then w.heap.size else β i) i := fun i hi => by simp [Nat.ne_of_lt hi]
  have hlen : (st.done d (.alloc cells e sl)).hp.length = st.hp.length + 1 := by simp [St.done]
  have hmono : ∀ t, st.idsOk t = true → (st.done d (.alloc cells e sl)).idsOk t = true := fun t ht => by
    unfold St.idsOk at ht ⊢
    rw [hlen]
    exact idsIn_mono (fun i hi => by simp at hi ⊢; omega) t ht
  have m1 : Match ρ (fun i => if i = st.hp.length then w.heap.size else β i) W st a (w.alloc (.cells (cells.map (denV ρ β)).toArray e)) := by
    have m0 := m.world hb
    exact
      { m0 with
        tm := fun i => by
          by_cases hlt : i < st.tm.length
          · have hm : st.tm.getD i .junk ∈ st.tm := by simp [List.getD_eq_getElem?_getD, List.getElem?_eq_getElem hlt]
            exact rel_congr hag (m.tmi _ hm) (m.tm i)
          · intro hj
            exact absurd (by simp [List.getD_eq_getElem?_getD, List.getElem?_eq_none (Nat.le_of_not_lt hlt)]) hj
        hp := fun id cs hc off c ho => by
          have hid : id < st.hp.length := by
            rcases Nat.lt_or_ge id st.hp.length with h | h
            · exact h
            · rw [List.getElem?_eq_none h] at hc; cases hc
          obtain ⟨h1, h2, ⟨v, h3, h4⟩, h5⟩ := m0.hp id cs hc off c ho
          rw [← hag id hid]
          exact ⟨h1, h2, ⟨v, h3, rel_congr hag (m.hpi cs (List.mem_of_getElem? hc) c (List.mem_of_getElem? ho)) h4⟩, h5⟩
        inj := fun i j hi hj he => by
          have h1 := hag i hi
          have h2 := hag j hj
          dsimp only at h1 h2 he
          rw [← h1, ← h2] at he
          exact m.inj i j hi hj he
        lt := fun i hi => by
          have h1 := hag i hi
          dsimp only at h1
          rw [← h1]
          exact m0.lt i hi }
  have hst : st.done d (.alloc cells e sl) = { st.put d (allocT sl st.hp.length) with hp := st.hp ++ [cells] } := rfl
  have htm : (st.done d (.alloc cells e sl)).tm = (st.put d (allocT sl st.hp.length)).tm := rfl
  refine
    { dfr := by cases d <;> exact m.dfr
      len := ?_
      tm := ?_
      tmi := ?_
      hp := ?_
      hpi := ?_
      inj := ?_
      lt := ?_
      pc := ?_
      pcc := ?_
      below := m1.below
      n := ?_ }
  · cases d with
    | none => exact m.len
    | some d => simp [St.done, St.put, Act.put, m.len]
  · cases d with
    | none => exact m1.tm
    | some d => exact tmOk_put m1.tm m1.len d (fun _ => by rw [allocT_den]; simp)
  · intro t ht
    rw [htm] at ht
    cases d with
    | none => exact hmono t (m.tmi t ht)
    | some d =>
      rcases List.mem_or_eq_of_mem_set ht with h | h
      · exact hmono t (m.tmi t h)
      · rw [h]; unfold St.idsOk; rw [hlen, allocT_ids]; simp
  · intro id cs hc off c ho
    have hc' : (st.hp ++ [cells])[id]? = some cs := hc
    rcases Nat.lt_or_ge id st.hp.length with hid | hid
    · rw [List.getElem?_append_left hid] at hc'
      exact m1.hp id cs hc' off c ho
    · rw [List.getElem?_append_right hid] at hc'
      have h0 : id - st.hp.length = 0 := by
        rcases Nat.eq_zero_or_pos (id - st.hp.length) with h | h
        · exact h
        · rw [List.getElem?_eq_none (by simp; omega)] at hc'; cases hc'
      rw [h0] at hc'
      obtain rfl := Option.some.inj hc'
      obtain rfl : id = st.hp.length := by omega
      simp only [if_true]
      have hoff : off < cells.length := by
        rcases Nat.lt_or_ge off cells.length with h | h
        · exact h
        · rw [List.getElem?_eq_none h] at ho; cases ho
      refine ⟨m.below.size, by simp, ⟨denV ρ β c, ?_, ?_⟩, by simp⟩
      · rw [World.cell?_alloc_new]
        simp [ho]
      · exact rel_congr hag (List.all_eq_true.1 hi c (List.mem_of_getElem? ho)) (fun _ => rfl)
  · intro cs hc t ht
    have hc' : cs ∈ st.hp ++ [cells] := hc
    rw [List.mem_append, List.mem_singleton] at hc'
    rcases hc' with h | rfl
    · exact hmono t (m.hpi cs h t ht)
    · exact hmono t (List.all_eq_true.1 hi t ht)
  · intro i j hi hj he
    rw [hlen] at hi hj
    by_cases h1 : i = st.hp.length
    · by_cases h2 : j = st.hp.length
      · omega
      · rw [if_pos h1, if_neg h2] at he
        have := (m.lt j (by omega)).2
        omega
    · by_cases h2 : j = st.hp.length
      · rw [if_neg h1, if_pos h2] at he
        have := (m.lt i (by omega)).2
        omega
      · rw [if_neg h1, if_neg h2] at he
        exact m.inj i j (by omega) (by omega) he
  · intro i hi
    rw [hlen] at hi
    by_cases h1 : i = st.hp.length
    · rw [if_pos h1]; exact ⟨m.below.size, by simp⟩
    · rw [if_neg h1]
      have := m.lt i (by omega)
      exact ⟨this.1, by simp; omega⟩
  · cases d <;> exact m.pc
  · cases d <;> exact m.pcc
  · cases d <;> exact m.n
/-! Part 11: stores; what is left to do. -/

theorem putAll_get : ∀ (l cells : List Tm) (off k : Nat), (putAll cells off l)[k]? = if off ≤ k ∧ k < off + l.length ∧ k < cells.length then l[k - off]? else cells[k]?
  | [], cells, off, k => by simp [putAll]; intro h1 h2; omega
  | c :: r, cells, off, k => by
    rw [putAll, putAll_get r]
    simp only [List.length_set, List.length_cons, List.getElem?_set]
    by_cases h : off = k
    · subst h
      rw [if_neg (show ¬ (off + 1 ≤ off ∧ off < off + 1 + r.length ∧ off < cells.length) by omega)]
      by_cases h3 : off < cells.length
      · rw [if_pos (show off ≤ off ∧ off < off + (r.length + 1) ∧ off < cells.length by omega)]
        simp [h3]
      · rw [if_neg (show ¬ (off ≤ off ∧ off < off + (r.length + 1) ∧ off < cells.length) by omega)]
        simp [h3]
    · by_cases h2 : off ≤ k ∧ k < off + (r.length + 1) ∧ k < cells.length
      · rw [if_pos (by omega), if_pos h2]
        have : k - off = (k - (off + 1)) + 1 := by omega
        rw [this]
        simp
      · rw [if_neg (by omega), if_neg h2, if_neg h]
theorem below_setCells {B : Nat} {a : World} {b : Nat} (hb : B ≤ b) : ∀ (vs : List Value) (o : Nat) (w : World), Below B a w → Below B a (w.setCells b o vs)
  | [], _, _, h => h
  | v :: r, o, w, h => below_setCells hb r (o + 1) _ (h.setCell hb v)
theorem size_setCells (b : Nat) : ∀ (vs : List Value) (o : Nat) (w : World), (w.setCells b o vs).heap.size = w.heap.size
  | [], _, _ => rfl
  | v :: r, o, w => by rw [World.setCells, size_setCells b r]; simp [World.setCell]
/-- a store -/
theorem Match.store {ρ : Env} {β : Nat → Nat} {W w : World} {st : St} {a : Act} (m : Match ρ β W st a w) (d : Option Tmp) {id off : Nat} {cells : List Tm} (hi : st.outOk (.store id off cells) = true) :
    Match ρ β W (st.done d (.store id off cells)) (a.put d Go.undef) (w.setCells (β id) off (cells.map (denV ρ β))) := by
  simp only [St.outOk, Bool.and_eq_true] at hi
  obtain ⟨hi1, hi2⟩ := hi
  cases hc : st.hp[id]? with
  | none => rw [hc] at hi1; cases hi1
  | some cs =>
    rw [hc] at hi1
    have hlen : off + cells.length ≤ cs.length := by simpa using hi1
    have hid : id < st.hp.length := by
      rcases Nat.lt_or_ge id st.hp.length with h | h
      · exact h
      · rw [List.getElem?_eq_none h] at hc; cases hc
    have m0 := m.put d (v := .cst .undef) (x := Go.undef) rfl (fun _ => rfl)
    have hids : ∀ t, (st.done d (.store id off cells)).idsOk t = st.idsOk t := fun t => by unfold St.idsOk; simp [St.done]
    have hids0 : ∀ t, (st.put d (.cst .undef)).idsOk t = st.idsOk t := fun t => by cases d <;> rfl
    refine
      { dfr := m0.dfr
        len := m0.len
        tm := m0.tm
        tmi := fun t ht => by rw [hids]; rw [← hids0]; exact m0.tmi t ht
        hp := ?_
        hpi := ?_
        inj := fun i j h1 h2 => m.inj i j (by simpa [St.done] using h1) (by simpa [St.done] using h2)
        lt := fun i h1 => by rw [size_setCells]; exact m.lt i (by simpa [St.done] using h1)
        pc := m0.pc
        pcc := m0.pcc
        below := below_setCells (m.lt id hid).1 _ _ _ m.below
        n := m0.n }
    · intro j cj hj k c hk
      have hj' : (st.hp.modify id fun cs => putAll cs off cells)[j]? = some cj := hj
      rw [List.getElem?_modify] at hj'
      rw [size_setCells, World.frozen?_setCells]
      by_cases hij : id = j
      · subst hij
        rw [hc] at hj'
        simp only [if_true, Option.map_eq_map, Option.map_some] at hj'
        obtain rfl := Option.some.inj hj'
        rw [putAll_get] at hk
        by_cases hin : off ≤ k ∧ k < off + cells.length ∧ k < cs.length
        · rw [if_pos hin] at hk
          obtain ⟨c0, hc0⟩ : ∃ c0, cs[k]? = some c0 := ⟨_, List.getElem?_eq_getElem hin.2.2⟩
          obtain ⟨h1, h2, _, h5⟩ := m.hp id cs hc k c0 hc0
          refine ⟨h1, h2, ⟨denV ρ β c, ?_, fun _ => rfl⟩, h5⟩
          have := World.cell?_setCells_in (β id) (cells.map (denV ρ β)) off w (fun i hi => by
            have hi' : off + i < cs.length := by simp at hi; omega
            obtain ⟨_, _, ⟨v, hv, _⟩, _⟩ := m.hp id cs hc (off + i) _ (List.getElem?_eq_getElem hi')
            rw [hv]; rfl) (k - off) (by simp; omega)
          rw [show off + (k - off) = k by omega] at this
          rw [this]
          congr 1
          simp only [List.getElem_map]
          rw [List.getElem?_eq_getElem (by omega)] at hk
          rw [Option.some.inj hk]
        · rw [if_neg hin] at hk
          obtain ⟨h1, h2, ⟨v, h3, h4⟩, h5⟩ := m.hp id cs hc k c hk
          refine ⟨h1, h2, ⟨v, ?_, h4⟩, h5⟩
          rw [World.cell?_setCells_out (β id) _ off w ⟨β id, k, none⟩ (fun _ _ => ?_)]
          · exact h3
          · have : k < cs.length := by
              rcases Nat.lt_or_ge k cs.length with h | h
              · exact h
              · rw [List.getElem?_eq_none h] at hk; cases hk
            simp only [List.length_map]
            omega
      · simp only [hij, if_false, Option.map_eq_map, Option.map_id'] at hj'
        have hjl : j < st.hp.length := by
          rcases Nat.lt_or_ge j st.hp.length with h | h
          · exact h
          · rw [List.getElem?_eq_none h] at hj'; cases hj'
        obtain ⟨h1, h2, ⟨v, h3, h4⟩, h5⟩ := m.hp j cj (by simpa using hj') k c hk
        refine ⟨h1, h2, ⟨v, ?_, h4⟩, h5⟩
        rw [World.cell?_setCells_out (β id) _ off w ⟨β j, k, none⟩ (fun hb _ => absurd (m.inj j id hjl hid hb) (fun e => hij e.symm))]
        exact h3
    · intro cj hj t ht
      rw [hids]
      obtain ⟨j, hj'⟩ := List.getElem?_of_mem hj
      have hj' : (st.hp.modify id fun cs => putAll cs off cells)[j]? = some cj := hj'
      rw [List.getElem?_modify] at hj'
      by_cases hij : id = j
      · subst hij
        rw [hc] at hj'
        simp only [if_true, Option.map_eq_map, Option.map_some] at hj'
        obtain rfl := Option.some.inj hj'
        obtain ⟨k, hk⟩ := List.getElem?_of_mem ht
        rw [putAll_get] at hk
        split at hk
        · exact List.all_eq_true.1 hi2 t (List.mem_of_getElem? hk)
        · exact m.hpi cs (List.mem_of_getElem? hc) t (List.mem_of_getElem? hk)
      · simp only [hij, if_false, Option.map_eq_map, Option.map_id'] at hj'
        exact m.hpi cj (List.mem_of_getElem? (by simpa using hj')) t ht

/-- what is left to do, as the program's -/
inductive SIt where
  | code (c : Code) | blk (id : Nat) | ops (all : Array Oper) (l : List Oper) | back (J : Act → World → Prop)
def kwp (P : Program) (Q : Exit → Act → World → Prop) : List SIt → Exit → Act → World → Prop
  | [] => Q
  | .code c :: k => Exit.then (fun a w => c.wp P (kwp P Q k) a w) (kwp P Q k)
  | .blk id :: k => Exit.inBlock id (kwp P Q k)
  | .ops all l :: k => Exit.then (fun a w => wpList P all (kwp P Q k) l a w) (kwp P Q k)
  | .back J :: k => Exit.then J (kwp P Q k)
theorem kwp_ret {P : Program} {Q : Exit → Act → World → Prop} {a : Act} {w : World} (h : Q .ret a w) : ∀ k, kwp P Q k .ret a w
  | [] => h
  | .code _ :: k => kwp_ret h k
  | .blk _ :: k => kwp_ret h k
  | .ops _ _ :: k => kwp_ret h k
  | .back _ :: k => kwp_ret h k
def Env.ext (ρ0 ρ : Env) : Prop := ∃ li lb lv ls, ρ = ρ0.more li lb lv ls
theorem Env.ext.more {ρ0 ρ : Env} (h : ρ0.ext ρ) (li : List Int) (lb : List Bool) (lv : List Value) (ls : List ByteArray) : ρ0.ext (ρ.more li lb lv ls) := by
  obtain ⟨a, b, c, d, rfl⟩ := h
  exact ⟨a ++ li, b ++ lb, c ++ lv, d ++ ls, by simp [Env.more]⟩
inductive Corr (W : World) : Env → List It → List SIt → Prop
  | nil {ρ} : Corr W ρ [] []
  | code {ρ c k s} : Corr W ρ k s → Corr W ρ (.code c :: k) (.code c :: s)
  | blk {ρ id k s} : Corr W ρ k s → Corr W ρ (.blk id :: k) (.blk id :: s)
  | ops {ρ all l k s} : Corr W ρ k s → Corr W ρ (.ops all l :: k) (.ops all l :: s)
  | back {ρ ρ0 ρ1 h J k s new n0} : Corr W ρ k s → ρ0.ext ρ → ρ0.has h.n → h.st.n = h.n.add new → headOk h = true → PcOk ρ0 b0 h.st.pc → ρ1.has h.st.n → ρ1.ext ρ → n0 = (denI ρ1 b0 h.mes).toNat →
      (∀ li lb lv ls β a w, li.length = new.i → lb.length = new.b → lv.length = new.v → ls.length = new.s → holds (ρ0.more li lb lv ls) h.inv → (denI (ρ0.more li lb lv ls) b0 h.mes).toNat < n0 → Match (ρ0.more li lb lv ls) β W h.st a w → J a w) →
      Corr W ρ (.back h :: k) (.back J :: s)
theorem popTo_kwp {P : Program} {Q : Exit → Act → World → Prop} {W : World} {ρ : Env} {id : Nat} : ∀ {k : List It} {s : List SIt} {k' : List It}, Corr W ρ k s → popTo id k = some k' → ∃ s', Corr W ρ k' s' ∧ ∀ a w, kwp P Q s' .normal a w → kwp P Q s (.exit id) a w
  | _, _, _, .nil, h => by cases h
  | _, _, _, .code c, h => by
    obtain ⟨s', h1, h2⟩ := popTo_kwp (P := P) (Q := Q) c h
    exact ⟨s', h1, h2⟩
  | _, _, _, .ops c, h => by
    obtain ⟨s', h1, h2⟩ := popTo_kwp (P := P) (Q := Q) c h
    exact ⟨s', h1, h2⟩
  | _, _, _, .back c _ _ _ _ _ _ _ _ _, h => by
    obtain ⟨s', h1, h2⟩ := popTo_kwp (P := P) (Q := Q) c h
    exact ⟨s', h1, h2⟩
  | _, _, _, .blk (id := j) (s := s) c, h => by
    unfold popTo at h
    split at h
    · rename_i hij
      obtain rfl := Option.some.inj h
      exact ⟨s, c, fun a w hk => by show (if id = j then _ else _); rw [if_pos hij]; exact hk⟩
    · rename_i hij
      obtain ⟨s', h1, h2⟩ := popTo_kwp (P := P) (Q := Q) c h
      exact ⟨s', h1, fun a w hk => by show (if id = j then _ else _); rw [if_neg hij]; exact h2 a w hk⟩
/-! Part 12: loops' heads. -/

theorem getD_app {α : Type} {l m : List α} {i : Nat} (h : i < l.length) (d : α) : (l ++ m).getD i d = l.getD i d := by
  simp [List.getD_eq_getElem?_getD, List.getElem?_append_left h]
theorem scope_den {n : Cnt} {ρ0 ρ : Env} (hn : ρ0.has n) (he : ρ0.ext ρ) (β : Nat → Nat) : ∀ t, inScope n t = true → denI ρ β t = denI ρ0 β t ∧ denB ρ β t = denB ρ0 β t ∧ denV ρ β t = denV ρ0 β t ∧ denL ρ β t = denL ρ0 β t := by
  obtain ⟨li, lb, lv, ls, rfl⟩ := he
  obtain ⟨n1, n2, n3, n4⟩ := hn
  intro t
  induction t with
  | var i => intro h; simp only [inScope, decide_eq_true_eq] at h; exact ⟨getD_app (by omega) _, rfl, rfl, rfl⟩
  | bvar i => intro h; simp only [inScope, decide_eq_true_eq] at h; exact ⟨rfl, getD_app (by omega) _, rfl, rfl⟩
  | opq i => intro h; simp only [inScope, decide_eq_true_eq] at h; exact ⟨rfl, rfl, getD_app (by omega) _, rfl⟩
  | str i => intro h; simp only [inScope, decide_eq_true_eq] at h; refine ⟨rfl, rfl, ?_, rfl⟩; simp only [denV]; exact congrArg _ (getD_app (by omega) _)
  | i2 o a b iha ihb => intro h; simp only [inScope, Bool.and_eq_true] at h; obtain ⟨a1, a2, a3, a4⟩ := iha h.1; obtain ⟨b1, b2, b3, b4⟩ := ihb h.2; simp [denI, denB, denV, denL, a1, b1]
  | b2 o a b iha ihb => intro h; simp only [inScope, Bool.and_eq_true] at h; obtain ⟨a1, a2, a3, a4⟩ := iha h.1; obtain ⟨b1, b2, b3, b4⟩ := ihb h.2; simp [denI, denB, denV, denL, a1, b1, a2, b2]
  | veq a b iha ihb => intro h; simp only [inScope, Bool.and_eq_true] at h; obtain ⟨a1, a2, a3, a4⟩ := iha h.1; obtain ⟨b1, b2, b3, b4⟩ := ihb h.2; simp [denI, denB, denV, denL, a3, b3]
  | cons a b iha ihb => intro h; simp only [inScope, Bool.and_eq_true] at h; obtain ⟨a1, a2, a3, a4⟩ := iha h.1; obtain ⟨b1, b2, b3, b4⟩ := ihb h.2; simp [denI, denB, denV, denL, a3, b4]
  | wrap k a ih => intro h; obtain ⟨a1, a2, a3, a4⟩ := ih h; simp [denI, denB, denV, denL, a1]
  | sel b a j ih => intro h; obtain ⟨a1, a2, a3, a4⟩ := ih h; simp [denI, denB, denV, denL, a1, a3]; try rfl
  | bsel b a j ih => intro h; obtain ⟨a1, a2, a3, a4⟩ := ih h; simp [denI, denB, denV, denL, a1, a3]; try rfl
  | ssel b a j ih => intro h; obtain ⟨a1, a2, a3, a4⟩ := ih h; simp [denI, denB, denV, denL, a1, a3]; try rfl
  | ep b a j ih => intro h; obtain ⟨a1, a2, a3, a4⟩ := ih h; simp [denI, denB, denV, denL, a1, a3]; try rfl
  | blen a ih => intro h; obtain ⟨a1, a2, a3, a4⟩ := ih h; simp [denI, denB, denV, denL, a1, a3]; try rfl
  | slen b => intro _; exact ⟨rfl, rfl, rfl, rfl⟩
  | sl b => intro _; exact ⟨rfl, rfl, rfl, rfl⟩
  | slv b => intro _; exact ⟨rfl, rfl, rfl, rfl⟩
  | iapp f a ih => intro h; obtain ⟨a1, a2, a3, a4⟩ := ih h; simp [denI, denB, denV, denL, a4]; rfl
  | not a ih => intro h; obtain ⟨a1, a2, a3, a4⟩ := ih h; simp [denI, denB, denV, denL, a2]
  | bapp f a ih => intro h; obtain ⟨a1, a2, a3, a4⟩ := ih h; simp [denI, denB, denV, denL, a4]; rfl
  | int k a ih => intro h; obtain ⟨a1, a2, a3, a4⟩ := ih h; simp [denI, denB, denV, denL, a1]
  | bool a ih => intro h; obtain ⟨a1, a2, a3, a4⟩ := ih h; simp [denI, denB, denV, denL, a2]
  | agg a ih => intro h; obtain ⟨a1, a2, a3, a4⟩ := ih h; simp [denI, denB, denV, denL, a4]
  | tup a ih => intro h; obtain ⟨a1, a2, a3, a4⟩ := ih h; simp [denI, denB, denV, denL, a4]
  | err a ih => intro h; obtain ⟨a1, a2, a3, a4⟩ := ih h; simp [denI, denB, denV, denL, a1]; rfl
  | iface t a ih => intro h; obtain ⟨a1, a2, a3, a4⟩ := ih h; simp [denI, denB, denV, denL, a3]
  | vapp f a ih => intro h; obtain ⟨a1, a2, a3, a4⟩ := ih h; simp [denI, denB, denV, denL, a4]; rfl
  | sapp f a ih => intro h; obtain ⟨a1, a2, a3, a4⟩ := ih h; simp [denI, denB, denV, denL, a4]; rfl
  | _ => intro _; simp [denI, denB, denV, denL]
theorem range_map {α : Type} (F : Tm → α) (l0 : List α) (V B : Nat → Tm) (m k : Nat) (hl : l0.length = m) (h : ∀ j (hj : j < m), F (V j) = l0[j]) :
    ((List.range (m + k)).map fun j => if j < m then V j else B j).map F = l0 ++ ((List.range k).map fun j => F (B (m + j))) := by
  rw [List.range_add, List.map_append, List.map_append]
  congr 1
  · apply List.ext_getElem
    · simp [hl]
    · intro i h1 h2
      have hi : i < m := by omega
      simp [hi, h i hi]
  · simp only [List.map_map]
    apply List.map_congr_left
    intro j _
    simp only [Function.comp]
    rw [if_neg (by omega)]
theorem subst_junk {σ : Sub} (h : σ.ok = true) {p : Tm} (hp : p ≠ .junk) : subst σ p ≠ .junk := by
  simp only [Sub.ok, Bool.and_eq_true, and_assoc] at h
  obtain ⟨h1, h2, h3, h4⟩ := h
  have iI : ∀ t, isI t = true → t ≠ .junk := by intro t ht e; subst e; cases ht
  have iB : ∀ t, isB t = true → t ≠ .junk := by intro t ht e; subst e; cases ht
  have iV : ∀ t, isV t = true → t ≠ .junk := by intro t ht e; subst e; cases ht
  have iS : ∀ t, strT t = true → t ≠ .junk := by intro t ht e; subst e; cases ht
  cases p with
  | junk => exact absurd rfl hp
  | var i => exact iI _ (getD_all h1 (show isI (.lit 0) = true from rfl) i)
  | bvar i => exact iB _ (getD_all h2 (show isB (.tt false) = true from rfl) i)
  | opq i => exact iV _ (getD_all h3 (show isV (.cst .undef) = true from rfl) i)
  | str i => exact iS _ (getD_all h4 (show strT (.cst (.strc [])) = true from rfl) i)
  | i2 o a b => exact iI _ (mkI2_isI _ _ _)
  | wrap k a => exact iI _ (mkWrap_isI _ _)
  | slen b => show (σ.lk b).slen ≠ .junk; cases σ.lk b <;> simp [SRef.slen]
  | slv b => show (σ.lk b).slv ≠ .junk; cases σ.lk b <;> simp [SRef.slv]
  | sl b => show (σ.lk b).sl ≠ .junk; cases σ.lk b <;> simp [SRef.sl]
  | _ => simp [subst]
theorem sub_closed {ρ : Env} {σ : Sub} (h1 : (σ.i.all fun t => closed t) = true) (h2 : (σ.b.all fun t => closed t) = true) (h3 : (σ.v.all fun t => closed t) = true) (h4 : (σ.s.all fun t => closed t) = true) (h0 : σ.l = none) (β β' : Nat → Nat) : ρ.sub β σ = ρ.sub β' σ := by
  have hs : (fun b => (σ.lk b).slc ρ β) = fun b => (σ.lk b).slc ρ β' := by
    funext b
    unfold Sub.lk
    rw [h0]
    rfl
  unfold Env.sub
  rw [hs]
  congr 1
  · exact List.map_congr_left fun t ht => (closed_den (List.all_eq_true.1 h1 t ht) β β').1
  · exact List.map_congr_left fun t ht => (closed_den (List.all_eq_true.1 h2 t ht) β β').2.1
  · exact List.map_congr_left fun t ht => (closed_den (List.all_eq_true.1 h3 t ht) β β').2.2.1
  · exact List.map_congr_left fun t ht => by rw [(closed_den (List.all_eq_true.1 h4 t ht) β β').2.2.1]
theorem fitsL_get {σ : Sub} : ∀ {ps ts : List Tm}, fitsL σ ps ts = true → ps.length = ts.length ∧ ∀ (i : Nat) p t, ps[i]? = some p → ts[i]? = some t → p = .junk ∨ t = subst σ p
  | [], [], _ => ⟨rfl, fun i p t h => by simp at h⟩
  | [], _ :: _, h => by cases h
  | _ :: _, [], h => by cases h
  | p :: ps, t :: ts, h => by
    simp only [fitsL, Bool.and_eq_true, Bool.or_eq_true, beq_iff_eq] at h
    obtain ⟨h1, h2⟩ := fitsL_get h.2
    refine ⟨by simp [h1], fun i q u hq hu => ?_⟩
    cases i with
    | zero => simp at hq hu; subst hq hu; exact h.1
    | succ i => exact h2 i q u (by simpa using hq) (by simpa using hu)
theorem fitsH_get {σ : Sub} : ∀ {ps ts : List (List Tm)}, fitsH σ ps ts = true → ps.length ≤ ts.length ∧ ∀ (i : Nat) p, ps[i]? = some p → ∃ t, ts[i]? = some t ∧ fitsL σ p t = true
  | [], ts, _ => ⟨by simp, fun i p h => by simp at h⟩
  | _ :: _, [], h => by cases h
  | p :: ps, t :: ts, h => by
    simp only [fitsH, Bool.and_eq_true] at h
    obtain ⟨h1, h2⟩ := fitsH_get h.2
    refine ⟨by simp [h1], fun i q hq => ?_⟩
    cases i with
    | zero => simp at hq; subst hq; exact ⟨t, rfl, h.1⟩
    | succ i => simpa using h2 i q (by simpa using hq)
theorem env_eq {ρ ρ0 : Env} {σ : Sub} {li : List Int} {lb : List Bool} {lv : List Value} {ls : List ByteArray} (h1 : σ.i.map (denI ρ b0) = ρ0.iv ++ li) (h2 : σ.b.map (denB ρ b0) = ρ0.bv ++ lb) (h3 : σ.v.map (denV ρ b0) = ρ0.vv ++ lv) (h4 : (σ.s.map fun t => strOf (denV ρ b0 t)) = ρ0.sv ++ ls)
    (h0 : σ.l = none) (h9 : ρ.sls = ρ0.sls) (h5 : ρ.fi = ρ0.fi) (h6 : ρ.fb = ρ0.fb) (h7 : ρ.fv = ρ0.fv) (h8 : ρ.et = ρ0.et) : ρ.sub b0 σ = ρ0.more li lb lv ls := by
  unfold Env.sub Env.more
  have hl : (fun b => (σ.lk b).slc ρ b0) = ρ0.sls := by
    rw [← h9]
    funext b
    unfold Sub.lk
    rw [h0]
    rfl
  rw [h1, h2, h3, h4, h5, h6, h7, h8, hl]
theorem solve_l (h : Head) (st : St) : (solve h st).l = none := rfl
theorem none_good {σ : Sub} (h : σ.l = none) (b : Nat) : (σ.lk b).good = true := by unfold Sub.lk; rw [h]; rfl
theorem none_sel {σ : Sub} (h : σ.l = none) (t : Tm) : selOk (fun b => (σ.lk b).isExt) t = true := selOk_all (fun b => by unfold Sub.lk; rw [h]; rfl) t
/-- an instance of a head's state matches it under the new names' values -/
theorem fits_match {W w : World} {ρ0 ρ : Env} {β : Nat → Nat} {st : St} {a : Act} {h : Head} {new : Cnt} (m : Match ρ β W st a w) (he : ρ0.ext ρ) (hn : ρ0.has h.n) (hnew : h.st.n = h.n.add new) (hok : headOk h = true) (hpc : PcOk ρ0 b0 h.st.pc) (hf : fits h (solve h st) st = true) :
    ∃ li lb lv ls, li.length = new.i ∧ lb.length = new.b ∧ lv.length = new.v ∧ ls.length = new.s ∧ ρ.sub b0 (solve h st) = ρ0.more li lb lv ls ∧ Match (ρ0.more li lb lv ls) β W h.st a w := by
  obtain ⟨n1, n2, n3, n4⟩ := hn
  have hext := he
  obtain ⟨ei, eb, ev, es, rfl⟩ := he
  unfold fits at hf
  simp only [Bool.and_eq_true] at hf
  obtain ⟨⟨⟨⟨⟨⟨f1, f2⟩, f3⟩, f4⟩, f5⟩, f6⟩, f7⟩ := hf
  have hσl := solve_l h st
  generalize hσ : solve h st = σ at *
  have hsub : ∃ li lb lv ls, li.length = new.i ∧ lb.length = new.b ∧ lv.length = new.v ∧ ls.length = new.s ∧ (ρ0.more ei eb ev es).sub b0 σ = ρ0.more li lb lv ls := by
    subst hσ
    obtain ⟨ps, hps⟩ : ∃ ps, ps = h.st.tm.zip st.tm ++ (h.st.hp.zip st.hp).flatMap fun p => p.1.zip p.2 := ⟨_, rfl⟩
    have hI := range_map (denI (ρ0.more ei eb ev es) b0) ρ0.iv (fun j => .var j) (fun j => bindI ps j) h.n.i new.i n1 (fun j hj => by
            show (ρ0.iv ++ ei).getD j 0 = _
            rw [getD_app (by omega)]
            simp [List.getD_eq_getElem?_getD, List.getElem?_eq_getElem (show j < ρ0.iv.length by omega)])
    have hB := range_map (denB (ρ0.more ei eb ev es) b0) ρ0.bv (fun j => .bvar j) (fun j => bindB ps j) h.n.b new.b n2 (fun j hj => by
            show (ρ0.bv ++ eb).getD j false = _
            rw [getD_app (by omega)]
            simp [List.getD_eq_getElem?_getD, List.getElem?_eq_getElem (show j < ρ0.bv.length by omega)])
    have hV := range_map (denV (ρ0.more ei eb ev es) b0) ρ0.vv (fun j => .opq j) (fun j => bindV ps j) h.n.v new.v n3 (fun j hj => by
            show (ρ0.vv ++ ev).getD j Go.undef = _
            rw [getD_app (by omega)]
            simp [List.getD_eq_getElem?_getD, List.getElem?_eq_getElem (show j < ρ0.vv.length by omega)])
    have hS := range_map (fun t => strOf (denV (ρ0.more ei eb ev es) b0 t)) ρ0.sv (fun j => .str j) (fun j => bindS ps j) h.n.s new.s n4 (fun j hj => by
            show strOf (.string ((ρ0.sv ++ es).getD j ByteArray.empty)) = _
            rw [getD_app (by omega)]
            simp [strOf, List.getD_eq_getElem?_getD, List.getElem?_eq_getElem (show j < ρ0.sv.length by omega)])
    subst hps
    have hn' : h.st.n.i = h.n.i + new.i ∧ h.st.n.b = h.n.b + new.b ∧ h.st.n.v = h.n.v + new.v ∧ h.st.n.s = h.n.s + new.s := by rw [hnew]; exact ⟨rfl, rfl, rfl, rfl⟩
    refine ⟨_, _, _, _, ?_, ?_, ?_, ?_, env_eq (σ := solve h st) (by unfold solve; simp only [hn'.1]; exact hI) (by unfold solve; simp only [hn'.2.1]; exact hB) (by unfold solve; simp only [hn'.2.2.1]; exact hV) (by unfold solve; simp only [hn'.2.2.2]; exact hS) rfl rfl rfl rfl rfl rfl⟩
    all_goals simp
  obtain ⟨li, lb, lv, ls, l1, l2, l3, l4, hs⟩ := hsub
  refine ⟨li, lb, lv, ls, l1, l2, l3, l4, hs, ?_⟩
  have hden : ∀ t, denV (ρ0.more ei eb ev es) β (subst σ t) = denV (ρ0.more li lb lv ls) β t := fun t => by
    rw [(subst_den _ β σ f1 (none_good hσl) t (none_sel hσl t)).2.2.1, sub_closed f2 f3 f4 f5 hσl β b0, hs]
  have hrel : ∀ p t v, (p = .junk ∨ t = subst σ p) → Rel (ρ0.more ei eb ev es) β t v → Rel (ρ0.more li lb lv ls) β p v := by
    intro p t v hpt hr hj
    rcases hpt with rfl | rfl
    · exact absurd rfl hj
    · rw [← hden]
      exact hr (subst_junk f1 hj)
  unfold headOk at hok
  simp only [Bool.and_eq_true] at hok
  obtain ⟨⟨⟨⟨⟨⟨k1, k2⟩, k3⟩, k4⟩, k5⟩, k6⟩, k7⟩ := hok
  obtain ⟨t1, t2⟩ := fitsL_get f6
  obtain ⟨g1, g2⟩ := fitsH_get f7
  exact
    { dfr := m.dfr
      len := by rw [t1]; exact m.len
      tm := fun i => by
        rcases Nat.lt_or_ge i h.st.tm.length with hi | hi
        · have e1 := List.getElem?_eq_getElem hi
          have e2 := List.getElem?_eq_getElem (show i < st.tm.length by omega)
          have hm := m.tm i
          simp only [List.getD_eq_getElem?_getD, e1, e2, Option.getD_some] at hm ⊢
          exact hrel _ _ _ (t2 i _ _ e1 e2) hm
        · intro hj
          exact absurd (by simp [List.getD_eq_getElem?_getD, List.getElem?_eq_none hi]) hj
      tmi := fun t ht => by
        have := List.all_eq_true.1 k2 t ht
        rw [Bool.and_eq_true] at this
        exact this.2
      hp := fun id cs hc off c ho => by
        obtain ⟨ts, ht, hl⟩ := g2 id cs hc
        obtain ⟨q1, q2⟩ := fitsL_get hl
        have hoff : off < ts.length := by
          rw [← q1]
          rcases Nat.lt_or_ge off cs.length with h | h
          · exact h
          · rw [List.getElem?_eq_none h] at ho; cases ho
        obtain ⟨h1, h2, ⟨v, h3, h4⟩, h5⟩ := m.hp id ts ht off _ (List.getElem?_eq_getElem hoff)
        exact ⟨h1, h2, ⟨v, h3, hrel _ _ _ (q2 off _ _ ho (List.getElem?_eq_getElem hoff)) h4⟩, h5⟩
      hpi := fun cs hc t ht => by
        have := List.all_eq_true.1 (List.all_eq_true.1 k3 cs hc) t ht
        rw [Bool.and_eq_true] at this
        exact this.2
      inj := fun i j hi hj => m.inj i j (by omega) (by omega)
      lt := fun i hi => m.lt i (by omega)
      pc := fun x hx => by
        have := List.all_eq_true.1 k1 x hx
        rw [Bool.and_eq_true] at this
        rw [(scope_den ⟨n1, n2, n3, n4⟩ ⟨li, lb, lv, ls, rfl⟩ b0 x.1 this.1).2.1]
        exact hpc x hx
      pcc := fun x hx => by
        have := List.all_eq_true.1 k1 x hx
        rw [Bool.and_eq_true] at this
        exact this.2
      below := m.below
      n := by
        refine ⟨?_, ?_, ?_, ?_⟩ <;> simp [Env.more, hnew, Cnt.add] <;> omega }
/-- a loop whose measure is told by its relation -/
theorem wp_loop_ghost {P : Program} {Q : Exit → Act → World → Prop} {c : Code} {a : Act} {w : World} (I : Nat → Act → World → Prop) {n0 : Nat} (h0 : I n0 a w)
    (round : ∀ n a w, I n a w → c.wp P (Exit.then (fun a' w' => ∃ m, m < n ∧ I m a' w') Q) a w) : (Code.loop c).wp P Q a w := by
  intro b k cs
  have key : ∀ n a w, I n a w → ∃ e a' w', Q e a' w' ∧ Arrives P (lone (b.at a (.code c :: .inLoop c :: k)) cs w) b k cs e a' w' := by
    intro n
    induction n using Nat.strongRecOn with
    | _ n ih =>
      intro a w hI
      obtain ⟨e, a₁, w₁, hq, harr⟩ := round n a w hI b (.inLoop c :: k) cs
      cases e with
      | normal =>
        obtain ⟨m, hm, hI₁⟩ := hq
        obtain ⟨e₂, a₂, w₂, hq₂, harr₂⟩ := ih m hm a₁ w₁ hI₁
        exact ⟨e₂, a₂, w₂, hq₂, .of_steps (Steps.trans harr (.one step_inLoop)) harr₂⟩
      | exit id => exact ⟨_, a₁, w₁, hq, .pass (x := .inLoop c) rfl (fun _ _ => .inl (by simp)) harr⟩
      | goto l => exact ⟨_, a₁, w₁, hq, .pass (x := .inLoop c) rfl (fun _ _ => .inl (by simp)) harr⟩
      | ret => exact ⟨_, a₁, w₁, hq, .pass (x := .inLoop c) rfl (fun _ _ => .inl (by simp)) harr⟩
      | panic ch => exact ⟨_, a₁, w₁, hq, .pass (x := .inLoop c) rfl (fun _ _ => .inl (by simp)) harr⟩
      | outgrown => exact ⟨_, a₁, w₁, hq, .pass (x := .inLoop c) rfl (fun _ _ => .inl (by simp)) harr⟩
  obtain ⟨e, a', w', hq, harr⟩ := key n0 a w h0
  exact ⟨e, a', w', hq, .of_steps (.one step_loop) harr⟩
/-! Part 13: a walk's tree holds: the program does as it says. -/

def resM (a : Act) : ResultVar → Sem Value
  | .tmp t => pure (a.tmps.getD t Go.undef)
  | .cell x t => do loadVar t (← asAddr (a.tmps.getD x Go.undef))
theorem resT_sound {P : Program} {ρ : Env} {β : Nat → Nat} {W w : World} {st : St} {a : Act} (m : Match ρ β W st a w) {r : ResultVar} {v : Tm} (h : resT P st r = some v) : (resM a r).run P w = .ok (denV ρ β v) w := by
  cases r with
  | tmp t =>
    obtain ⟨h1, h2, _⟩ := getT_some (show getT st.tm t = some v from h)
    have := m.tm t
    rw [h1] at this
    simp only [resM, this h2]
    rfl
  | cell x t =>
    unfold resT at h
    dsimp only at h
    split at h
    · rename_i id off hx
      obtain ⟨h1, h2, _⟩ := getT_some hx
      have := m.tm x
      rw [h1] at this
      simp only [resM, this h2, denV]
      exact evalLoad_sound m.hp h
    · cases h
theorem resAll_sound {P : Program} {ρ : Env} {β : Nat → Nat} {W w : World} {st : St} {a : Act} (m : Match ρ β W st a w) : ∀ {rs : List ResultVar} {l : List Tm}, resAll P st rs = some l → (rs.mapM (resM a)).run P w = .ok (l.map (denV ρ β)) w
  | [], l, h => by obtain rfl := Option.some.inj h; rfl
  | r :: rs, l, h => by
    unfold resAll at h
    split at h
    · rename_i x ls h1 h2
      obtain rfl := Option.some.inj h
      rw [List.mapM_cons, Sem.run_bind, resT_sound m h1]
      simp only [Result.andThen]
      rw [Sem.run_bind, resAll_sound m h2]
      rfl
    · cases h
def RetQ (K : Value → Prop) (W : World) : Ending → World → Prop := fun e w' => (∃ x, e = .returned x ∧ K x) ∧ Below W.heap.size W w'
theorem retT_sound {P : Program} {ρ : Env} {β : Nat → Nat} {W w : World} {st : St} {a : Act} {fn : Func} {K : Value → Prop} {t : Tree} (m : Match ρ β W st a w) (h : retT P st fn.results.toList = some t) (ht : t.holds K ρ) : bodyPost P fn (RetQ K W) .ret a w := by
  unfold retT at h
  have key : ∀ l, resAll P st fn.results.toList = some l → (results fn a.tmps).run P w = .ok (if h : (l.map (denV ρ β)).toArray.size = 1 then (l.map (denV ρ β)).toArray[0] else .tuple (l.map (denV ρ β)).toArray) w := by
    intro l hl
    unfold results
    have hm := resAll_sound m hl
    have : (fn.results.mapM (resM a)).run P w = .ok (l.map (denV ρ β)).toArray w := by
      rw [Array.mapM_eq_mapM_toList, Sem.run_map, hm]
      rfl
    show ((fn.results.mapM (resM a)) >>= fun vs => pure (if h : vs.size = 1 then vs[0] else .tuple vs)).run P w = _
    rw [Sem.run_bind, this]
    rfl
  split at h
  · rename_i v hv
    split at h
    · rename_i hc
      obtain rfl := Option.some.inj h
      refine ⟨m.dfr, denV ρ β v, ?_, ⟨⟨denV ρ β v, rfl, ?_⟩, m.below⟩⟩
      · rw [key _ hv]; rfl
      · rw [(closed_den hc β b0).2.2.1]; exact ht
    · cases h
  · rename_i l hne hl
    split at h
    · rename_i hc
      obtain rfl := Option.some.inj h
      refine ⟨m.dfr, denV ρ β (.tup (ofL l)), ?_, ⟨⟨_, rfl, ?_⟩, m.below⟩⟩
      · rw [key _ hl]
        have : ¬ (l.map (denV ρ β)).toArray.size = 1 := by
          intro h1
          simp at h1
          obtain ⟨x, rfl⟩ := List.length_eq_one_iff.1 h1
          exact hne x rfl
        rw [dif_neg this]
        simp only [denV, denL_ofL]
      · have hc' : closed (.tup (ofL l)) = true := hc
        rw [(closed_den hc' β b0).2.2.1]; exact ht
    · cases h
  · cases h
theorem wanted_of' {ρ : Env} {β : Nat → Nat} {st : St} {a : Act} (mt : TmOk ρ β st.tm a) (ml : st.tm.length = a.tmps.size) (mp : PcOk ρ β st.pc) {all : Array Oper} {o : Oper} :
    (wantedS st all o = .yes → Region.wanted o (yielded all a.tmps) = true) ∧ (wantedS st all o = .no → Region.wanted o (yielded all a.tmps) = false) := by
  unfold wantedS Region.wanted
  cases hg : o.guard with
  | none => simp
  | some jb =>
    obtain ⟨j, b⟩ := jb
    dsimp only
    cases hd : (all[j]?).bind (·.dst) with
    | none => simp
    | some d =>
      simp only [Option.bind_some]
      cases ht : getT st.tm d with
      | none => simp
      | some t =>
        have hlt : d < a.tmps.size := by
          obtain ⟨_, _, h3⟩ := getT_some ht
          rw [← ml]
          rcases Nat.lt_or_ge d st.tm.length with h | h
          · exact h
          · rw [List.getElem?_eq_none h] at h3; cases h3
        have hval : a.tmps[d]? = some (denV ρ β t) := by
          obtain ⟨h1, h2, h3⟩ := getT_some ht
          have hr := mt d
          rw [h1] at hr
          have hv := hr h2
          rw [Array.getElem?_eq_getElem hlt]
          congr 1
          simpa [Array.getD_eq_getD_getElem?, Array.getElem?_eq_getElem hlt] using hv
        cases t
        case bool c =>
          have hy : yielded all a.tmps j = some (denB ρ β c) := by
            unfold yielded
            rw [hd]
            simp only [Option.bind_some, hval, denV]
          rw [hy]
          dsimp only
          cases hdec : decT st.pc c with
          | none => simp
          | some x =>
            have := decT_den mp hdec
            rw [this]
            dsimp only
            by_cases hxb : x = b
            · subst hxb; simp
            · rw [if_neg hxb]; simp [hxb]
        case cst c =>
          have hy : yielded all a.tmps j = none := by
            unfold yielded
            rw [hd]
            simp only [Option.bind_some, hval, denV]
            cases c <;> rfl
          rw [hy]
          exact ⟨fun h => (by cases h), fun _ => rfl⟩
        all_goals simp
theorem wanted_of {ρ : Env} {β : Nat → Nat} {W w : World} {st : St} {a : Act} (m : Match ρ β W st a w) {all : Array Oper} {o : Oper} :
    (wantedS st all o = .yes → Region.wanted o (yielded all a.tmps) = true) ∧ (wantedS st all o = .no → Region.wanted o (yielded all a.tmps) = false) := wanted_of' m.tm m.len m.pcb
theorem branch_spec {K : Value → Prop} {ρ : Env} {t : Tm} {x y : Option Tree} {r : Tree} (h : branch t x y = some r) (hr : r.holds K ρ) :
    closed t = true ∧ ((denB ρ b0 t = true ∧ ∃ a, x = some a ∧ a.holds K ρ) ∨ (denB ρ b0 t = false ∧ ∃ a, y = some a ∧ a.holds K ρ)) := by
  unfold branch at h
  split at h
  · rename_i hc
    refine ⟨hc, ?_⟩
    split at h
    · rename_i p q
      obtain rfl := Option.some.inj h
      obtain ⟨h1, h2⟩ := hr
      rw [holds_iff] at h1 h2
      cases hb : denB ρ b0 t
      · exact .inr ⟨rfl, q, rfl, h2 (by rw [hb]; decide)⟩
      · exact .inl ⟨rfl, p, rfl, h1 hb⟩
    · cases h
  · cases h
theorem needT_spec {K : Value → Prop} {ρ : Env} {t : Tm} {x : Option Tree} {r : Tree} (h : needT t x = some r) (hr : r.holds K ρ) (β : Nat → Nat) : denB ρ β t = true ∧ ∃ a, x = some a ∧ a.holds K ρ := by
  unfold needT at h
  split at h
  · exact ⟨rfl, r, h, hr⟩
  · split at h
    · rename_i hc
      cases x with
      | none => cases h
      | some a =>
        obtain rfl := Option.some.inj h
        obtain ⟨h1, h2⟩ := hr
        refine ⟨?_, a, rfl, h2 h1⟩
        rw [(closed_den hc β b0).2.1]
        exact (holds_iff ρ t).1 h1
    · cases h
/-- an operation in its turn -/
theorem op_step {P : Program} {Γ : Ctx} {ρ : Env} {β : Nat → Nat} {W w : World} {st : St} {a : Act} (m : Match ρ β W st a w) (hg : Γ.Ok P ρ W) {o : Oper} {c : Tm} {out : Out} (he : evalOp P ρ.et Γ st.pc st.tm st.hp o.op = .ok c out) (hc : denB ρ β c = true) (hok : st.outOk out = true)
    {Q : Exit → Act → World → Prop} {next : Act → World → Prop} (hn : ∀ β' a' w', Match ρ β' W (st.done o.dst out) a' w' → next a' w') : o.wp P a w next Q := by
  have ho := evalOp_sound m.tm m.hp m.pcb hg.s m.below hc he
  unfold Oper.wp
  cases out with
  | val v =>
    rw [show (execOp a.eval o).run P w = _ from ho]
    exact hn β _ _ (m.put o.dst hok fun _ => rfl)
  | alloc cells e sl =>
    rw [show (execOp a.eval o).run P w = _ from ho]
    exact hn _ _ _ (m.alloc o.dst sl hok)
  | store id off cells =>
    rw [show (execOp a.eval o).run P w = _ from ho]
    exact hn _ _ _ (m.store o.dst hok)
  | call f args v =>
    rw [show (execOp a.eval o).run P w = _ from ho]
    show Calls P f (args.map (denV ρ β)).toArray w _
    refine (evalOp_call hg m.below m.hp hc he).mono ?_
    rintro e w' ⟨rfl, hb⟩
    exact hn β _ _ ((m.world hb).put o.dst (idsOk_closed hok) fun _ => rfl)
theorem Corr.more {W : World} {ρ : Env} (li : List Int) (lb : List Bool) (lv : List Value) (ls : List ByteArray) : ∀ {k : List It} {s : List SIt}, Corr W ρ k s → Corr W (ρ.more li lb lv ls) k s
  | _, _, .nil => .nil
  | _, _, .code c => .code (Corr.more li lb lv ls c)
  | _, _, .blk c => .blk (Corr.more li lb lv ls c)
  | _, _, .ops c => .ops (Corr.more li lb lv ls c)
  | _, _, .back c h1 h2 h3 h4 h5 h6 h7 h8 h9 => .back (Corr.more li lb lv ls c) (h1.more _ _ _ _) h2 h3 h4 h5 h6 (h7.more _ _ _ _) h8 h9
theorem Env.ext.refl (ρ : Env) : ρ.ext ρ := ⟨[], [], [], [], by simp [Env.more]⟩
/-! Part 14: a region that draws its order. -/

theorem maskOf_bit (ms : List Nat) (l : List Edge) (g : Nat) : (l.foldr (fun e m => if Region.binds .any e then (2 ^ e.on ||| ms.getD e.on 0) ||| m else m) 0).testBit g = true →
    ∃ e ∈ l, Region.binds .any e = true ∧ (e.on = g ∨ (ms.getD e.on 0).testBit g = true) := by
  induction l with
  | nil => intro h; simp at h
  | cons e r ih =>
    intro h
    rw [List.foldr_cons] at h
    split at h
    · rename_i hb
      simp only [Nat.testBit_or, Bool.or_eq_true, Nat.testBit_two_pow, decide_eq_true_eq] at h
      rcases h with (h | h) | h
      · exact ⟨e, by simp, hb, .inl h⟩
      · exact ⟨e, by simp, hb, .inr h⟩
      · obtain ⟨x, h1, h2⟩ := ih h
        exact ⟨x, by simp [h1], h2⟩
    · obtain ⟨x, h1, h2⟩ := ih h
      exact ⟨x, by simp [h1], h2⟩
theorem mkMasks_spec : ∀ (l : List Oper) (ms : List Nat), ∃ X, mkMasks l ms = ms ++ X ∧ X.length = l.length ∧ ∀ (i : Nat) (o : Oper), l[i]? = some o → ∀ g, ((ms ++ X).getD (ms.length + i) 0).testBit g = true →
    ∃ e ∈ o.after.toList, Region.binds .any e = true ∧ (e.on = g ∨ ((ms ++ X).getD e.on 0).testBit g = true)
  | [], ms => ⟨[], by simp [mkMasks], rfl, fun i o h => by simp at h⟩
  | o :: r, ms => by
    obtain ⟨X, h1, h2, h3⟩ := mkMasks_spec r (ms ++ [maskOf ms o])
    refine ⟨maskOf ms o :: X, by simp [mkMasks, h1], by simp [h2], fun i q hq g hg => ?_⟩
    have happ : ms ++ maskOf ms o :: X = ms ++ [maskOf ms o] ++ X := by simp
    cases i with
    | zero =>
      simp at hq
      subst hq
      have : (ms ++ maskOf ms o :: X).getD (ms.length + 0) 0 = maskOf ms o := by simp [List.getD_eq_getElem?_getD]
      rw [this] at hg
      obtain ⟨e, he, hb, hh⟩ := maskOf_bit ms o.after.toList g hg
      refine ⟨e, he, hb, hh.imp id fun h => ?_⟩
      have hlt : e.on < ms.length := by
        rcases Nat.lt_or_ge e.on ms.length with h' | h'
        · exact h'
        · simp [List.getD_eq_getElem?_getD, List.getElem?_eq_none h'] at h
      rw [getD_app hlt]
      exact h
    | succ i =>
      have := h3 i q (by simpa using hq) g (by
        rw [← happ]
        rw [show (ms ++ [maskOf ms o]).length + i = ms.length + (i + 1) by simp; omega]
        exact hg)
      rw [happ]
      exact this
theorem downOk_get : ∀ (l : List Oper) (i j : Nat) (o : Oper), downOk i l = true → l[j]? = some o → ∀ e ∈ o.after, Region.binds .any e = true → e.on < i + j
  | [], _, _, _, _, h => by simp at h
  | o :: r, i, j, q, hd, h => by
    simp only [downOk, Bool.and_eq_true] at hd
    intro e he hb
    cases j with
    | zero =>
      simp at h
      subst h
      have := List.all_eq_true.1 hd.1 e (by simpa using he)
      simpa [hb] using this
    | succ j =>
      have := downOk_get r (i + 1) j q hd.2 (by simpa using h) e he hb
      omega
def Closed (all : Array Oper) (L : Array Bool) : Prop := ∀ (g : Nat) (o : Oper), all[g]? = some o → L.getD g false = true → ∀ e ∈ o.after, Region.binds .any e = true → L.getD e.on false = true
theorem reach_listed {all : Array Oper} {L : Array Bool} (hd : downOk 0 all.toList = true) (hc : Closed all L) : ∀ (j : Nat) (o : Oper), all[j]? = some o → (∀ e ∈ o.after, Region.binds .any e = true → L.getD e.on false = true) → ∀ g, reach (mkMasks all.toList []) j g = true → L.getD g false = true := by
  obtain ⟨X, h1, h2, h3⟩ := mkMasks_spec all.toList []
  rw [List.nil_append] at h1
  intro j
  induction j using Nat.strongRecOn with
  | _ j ih =>
    intro o ho hp g hg
    unfold reach at hg
    rw [h1] at hg
    have ho' : all.toList[j]? = some o := by simpa using ho
    obtain ⟨e, he, hb, hh⟩ := h3 j o ho' g (by simpa using hg)
    have he' : e ∈ o.after := by simpa using he
    have hlt := downOk_get _ _ _ _ hd ho' e he' hb
    rw [Nat.zero_add] at hlt
    rcases hh with rfl | hh
    · exact hp e he' hb
    · have hsz : j < all.size := (Array.getElem?_eq_some_iff.1 ho).1
      have hon : all[e.on]? = some all[e.on] := Array.getElem?_eq_getElem (by omega)
      refine ih e.on hlt _ hon (hc e.on _ hon (hp e he' hb)) g ?_
      unfold reach
      rw [h1]
      simpa using hh
theorem writer_spec {all : Array Oper} {d g : Nat} (h : writer all d = some g) : ∃ o, all[g]? = some o ∧ o.dst = some d := by
  unfold writer at h
  have := List.find?_some h
  simp only [beq_iff_eq] at this
  cases ho : all[g]? with
  | none => rw [ho] at this; cases this
  | some o => rw [ho] at this; exact ⟨o, rfl, this⟩
theorem slotsOk_get {all : Array Oper} : ∀ {as bs : List Tm} {d : Nat}, slotsOk all d as bs = true → as.length = bs.length ∧ ∀ (i : Nat) a b, as[i]? = some a → bs[i]? = some b → writer all (d + i) = none → a = b
  | [], [], _, _ => ⟨rfl, fun i a b h => by simp at h⟩
  | [], _ :: _, _, h => by cases h
  | _ :: _, [], _, h => by cases h
  | a :: as, b :: bs, d, h => by
    simp only [slotsOk, Bool.and_eq_true, Bool.or_eq_true, beq_iff_eq] at h
    obtain ⟨h1, h2⟩ := slotsOk_get h.2
    refine ⟨by simp [h1], fun i x y hx hy hw => ?_⟩
    cases i with
    | zero =>
      simp at hx hy hw
      subst hx hy
      rcases h.1 with h | h
      · rw [hw] at h; cases h
      · exact h
    | succ i => exact h2 i x y (by simpa using hx) (by simpa using hy) (by rw [← hw]; congr 1; omega)
theorem opsOk_get {P : Program} {et : TypeId} {Γ : Ctx} {ms : List Nat} {al : List (Nat × List Tm)} {sts : List (Nat × Nat × Nat × List Tm)} {all : Array Oper} {s0 s1 : St} : ∀ {l : List Oper} {r : List (Option (Tm × Out))} {j : Nat}, opsOk P et Γ ms al sts all s0 s1 j l r = true →
    ∀ (i : Nat) o, l[i]? = some o → ∃ x, r[i]? = some x ∧ opOk P et Γ ms al sts all s0 s1 (j + i) o x = true
  | [], _, _, _ => fun i o h => by simp at h
  | _ :: _, [], _, h => by cases h
  | o :: l, x :: r, j, h => by
    simp only [opsOk, Bool.and_eq_true] at h
    intro i q hq
    cases i with
    | zero => simp at hq; subst hq; exact ⟨x, rfl, h.1⟩
    | succ i =>
      obtain ⟨y, h1, h2⟩ := opsOk_get h.2 i q (by simpa using hq)
      exact ⟨y, by simpa using h1, by rw [show j + (i + 1) = j + 1 + i by omega]; exact h2⟩
theorem maskTm_get (l : List Nat) : ∀ (ts : List Tm) (i k : Nat), (maskTm l i ts)[k]? = (ts[k]?).map fun t => if l.contains (i + k) then t else .junk
  | [], i, k => by simp [maskTm]
  | t :: r, i, k => by
    cases k with
    | zero => simp [maskTm]
    | succ k => simp only [maskTm, List.getElem?_cons_succ]; rw [maskTm_get l r (i + 1) k]; rw [show i + 1 + k = i + (k + 1) by omega]
theorem maskTm_length (l : List Nat) : ∀ (ts : List Tm) (i : Nat), (maskTm l i ts).length = ts.length
  | [], _ => rfl
  | t :: r, i => by simp [maskTm, maskTm_length l r]
/-! Part 15: a region that draws its order: whatever comes up. -/
abbrev Sto := Nat × Nat × Nat × List Tm
theorem putAll_mem {l cells : List Tm} {off : Nat} {t : Tm} (h : t ∈ putAll cells off l) : t ∈ cells ∨ t ∈ l := by
  obtain ⟨k, hk⟩ := List.getElem?_of_mem h
  rw [putAll_get] at hk
  split at hk
  · exact .inr (List.mem_of_getElem? hk)
  · exact .inl (List.mem_of_getElem? hk)
theorem applySt_mem {p : Nat → Bool} {id : Nat} {q : Tm → Prop} : ∀ (sts : List Sto) (cs : List Tm), (∀ t ∈ cs, q t) → (∀ s ∈ sts, p s.1 = true → s.2.1 = id → ∀ t ∈ s.2.2.2, q t) → ∀ t ∈ applySt p id sts cs, q t
  | [], cs, h, _ => h
  | s :: r, cs, h, hs => by
    unfold applySt
    refine applySt_mem r _ ?_ (fun x hx => hs x (by simp [hx]))
    split
    · rename_i hc
      intro t ht
      rcases putAll_mem ht with h1 | h1
      · exact h t h1
      · exact hs s (by simp) hc.2 hc.1 t h1
    · exact h
theorem applySt_none {p : Nat → Bool} {id : Nat} : ∀ (sts : List Sto) (cs : List Tm), (∀ s ∈ sts, s.2.1 = id → p s.1 = false) → applySt p id sts cs = cs
  | [], cs, _ => rfl
  | s :: r, cs, h => by
    unfold applySt
    rw [if_neg, applySt_none r cs (fun x hx => h x (by simp [hx]))]
    rintro ⟨h1, h2⟩
    rw [h s (by simp) h1] at h2
    cases h2
theorem applySt_congr {p q : Nat → Bool} {id : Nat} : ∀ (sts : List Sto) (cs : List Tm), (∀ s ∈ sts, p s.1 = q s.1) → applySt p id sts cs = applySt q id sts cs
  | [], cs, _ => rfl
  | s :: r, cs, h => by
    unfold applySt
    rw [h s (by simp), applySt_congr r _ (fun x hx => h x (by simp [hx]))]
theorem applySt_length {p : Nat → Bool} {id : Nat} : ∀ (sts : List Sto) (cs : List Tm), (applySt p id sts cs).length = cs.length
  | [], cs => rfl
  | s :: r, cs => by
    unfold applySt
    rw [applySt_length r]
    split
    · rw [putAll_length]
    · rfl
theorem putAll_comm {cs a b : List Tm} {i j : Nat} (h : i + a.length ≤ j ∨ j + b.length ≤ i) : putAll (putAll cs i a) j b = putAll (putAll cs j b) i a := by
  apply List.ext_getElem?
  intro k
  simp only [putAll_get, putAll_length]
  by_cases h1 : j ≤ k ∧ k < j + b.length ∧ k < cs.length <;> by_cases h2 : i ≤ k ∧ k < i + a.length ∧ k < cs.length
  · omega
  · rw [if_pos h1, if_neg h2, if_pos h1]
  · rw [if_neg h1, if_pos h2, if_pos h2]
  · rw [if_neg h1, if_neg h2, if_neg h2, if_neg h1]
theorem applySt_put {p : Nat → Bool} {id off : Nat} {cells : List Tm} : ∀ (sts : List Sto) (cs : List Tm), (∀ s ∈ sts, s.2.1 = id → off + cells.length ≤ s.2.2.1 ∨ s.2.2.1 + s.2.2.2.length ≤ off) → applySt p id sts (putAll cs off cells) = putAll (applySt p id sts cs) off cells
  | [], cs, _ => rfl
  | s :: r, cs, h => by
    unfold applySt
    split
    · rename_i hc
      rw [putAll_comm (h s (by simp) hc.1), applySt_put r _ (fun x hx => h x (by simp [hx]))]
    · exact applySt_put r _ (fun x hx => h x (by simp [hx]))
/-- one more store done -/
theorem applySt_one {p q : Nat → Bool} {j id off : Nat} {cells : List Tm} : ∀ (sts : List Sto) (cs : List Tm), disjOk sts = true → (sts.map (·.1)).Nodup → (j, id, off, cells) ∈ sts → p j = false → (∀ g, q g = if g = j then true else p g) → ∀ i, applySt q i sts cs = if i = id then putAll (applySt p i sts cs) off cells else applySt p i sts cs
  | [], cs, _, _, hm, _, _ => by cases hm
  | s :: r, cs, hd, hn, hm, hp, hq => by
    intro i
    simp only [disjOk, Bool.and_eq_true] at hd
    simp only [List.map_cons, List.nodup_cons] at hn
    by_cases hs : s.1 = j
    · have hse : s = (j, id, off, cells) := by
        rcases List.mem_cons.1 hm with h | h
        · exact h.symm
        · exact absurd (List.mem_map.2 ⟨_, h, hs.symm⟩) hn.1
      subst hse
      have hr : ∀ x ∈ r, q x.1 = p x.1 := fun x hx => by
        rw [hq, if_neg]
        intro e
        exact hn.1 (List.mem_map.2 ⟨x, hx, e⟩)
      unfold applySt
      have hqj : q j = true := by rw [hq]; simp
      simp only [hqj, hp, Bool.false_eq_true, and_false, if_false, and_true]
      by_cases hi : i = id
      · subst hi
        rw [if_pos rfl, if_pos rfl, applySt_congr r _ hr, applySt_put]
        intro x hx he
        have := List.all_eq_true.1 hd.1 x hx
        simp only [apartSt, Bool.or_eq_true, bne_iff_ne, ne_eq, decide_eq_true_eq] at this
        rcases this with (h | h) | h
        · exact absurd he.symm h
        · exact .inl h
        · exact .inr h
      · rw [if_neg (fun e => hi e.symm), if_neg hi, applySt_congr r _ hr]
    · have hm' : (j, id, off, cells) ∈ r := by
        rcases List.mem_cons.1 hm with h | h
        · exact absurd (by rw [← h]) hs
        · exact h
      unfold applySt
      rw [hq, if_neg hs]
      exact applySt_one r _ hd.2 hn.2 hm' hp hq i
theorem storesOf_mem {i j id off : Nat} {cells : List Tm} : ∀ {l : List (Option (Tm × Out))}, (j, id, off, cells) ∈ storesOf i l ↔ ∃ n c, j = i + n ∧ l[n]? = some (some (c, .store id off cells))
  | [] => by simp [storesOf]
  | z :: r => by
    have tail : (j, id, off, cells) ∈ storesOf (i + 1) r ↔ ∃ n c, j = i + (n + 1) ∧ r[n]? = some (some (c, .store id off cells)) := by
      rw [storesOf_mem]
      constructor
      · rintro ⟨n, c, h1, h2⟩; exact ⟨n, c, by omega, h2⟩
      · rintro ⟨n, c, h1, h2⟩; exact ⟨n, c, by omega, h2⟩
    have up : (∃ n c, j = i + (n + 1) ∧ r[n]? = some (some (c, .store id off cells))) → ∃ n c, j = i + n ∧ (z :: r)[n]? = some (some (c, .store id off cells)) := by
      rintro ⟨n, c, h1, h2⟩; exact ⟨n + 1, c, h1, by simpa using h2⟩
    have down : (∀ c, z ≠ some (c, .store id off cells)) → (∃ n c, j = i + n ∧ (z :: r)[n]? = some (some (c, .store id off cells))) → ∃ n c, j = i + (n + 1) ∧ r[n]? = some (some (c, .store id off cells)) := by
      rintro hz ⟨n, c, h1, h2⟩
      cases n with
      | zero => simp at h2; exact absurd h2 (hz c)
      | succ n => exact ⟨n, c, h1, by simpa using h2⟩
    rcases z with _ | ⟨c, out⟩
    · rw [show storesOf i (none :: r) = storesOf (i + 1) r from rfl, tail]; exact ⟨up, down (by simp)⟩
    · cases out with
      | store id' off' cells' =>
        simp only [storesOf, List.mem_cons, tail]
        constructor
        · rintro (h | h)
          · obtain ⟨rfl, rfl, rfl, rfl⟩ : j = i ∧ id = id' ∧ off = off' ∧ cells = cells' := by simpa using h
            exact ⟨0, c, rfl, rfl⟩
          · exact up h
        · rintro ⟨n, c', h1, h2⟩
          cases n with
          | zero => simp at h2; obtain ⟨_, rfl, rfl, rfl⟩ := h2; exact .inl (by simp [h1])
          | succ n => exact .inr ⟨n, c', h1, by simpa using h2⟩
      | val v => rw [show storesOf i (some (c, .val v) :: r) = storesOf (i + 1) r from rfl, tail]; exact ⟨up, down (by simp)⟩
      | alloc a e sl => rw [show storesOf i (some (c, .alloc a e sl) :: r) = storesOf (i + 1) r from rfl, tail]; exact ⟨up, down (by simp)⟩
      | call a e v => rw [show storesOf i (some (c, .call a e v) :: r) = storesOf (i + 1) r from rfl, tail]; exact ⟨up, down (by simp)⟩
theorem allocsOf_mem {g : Nat} {cs : List Tm} : ∀ {i : Nat} {l : List (Option (Tm × Out))}, (g, cs) ∈ allocsOf i l → ∃ n c e sl, g = i + n ∧ l[n]? = some (some (c, .alloc cs e sl))
  | _, [], h => by simp [allocsOf] at h
  | i, z :: r, h => by
    have tail : (g, cs) ∈ allocsOf (i + 1) r → ∃ n c e sl, g = i + n ∧ (z :: r)[n]? = some (some (c, .alloc cs e sl)) := fun h => by
      obtain ⟨n, c, e, sl, h1, h2⟩ := allocsOf_mem h
      exact ⟨n + 1, c, e, sl, by omega, by simpa using h2⟩
    rcases z with _ | ⟨c, out⟩
    · exact tail h
    · cases out with
      | alloc cells e sl =>
        simp only [allocsOf, List.mem_cons] at h
        rcases h with h | h
        · obtain ⟨rfl, rfl⟩ := Prod.mk.inj h; exact ⟨0, c, e, sl, rfl, rfl⟩
        · exact tail h
      | val v => exact tail h
      | store _ _ _ => exact tail h
      | call _ _ _ => exact tail h
/-- what is seen knows no more than what is -/
def Weaker (v a : List Tm) : Prop := v.length = a.length ∧ ∀ (k : Nat) c, v[k]? = some c → c = .junk ∨ a[k]? = some c
theorem Weaker.put {v a : List Tm} (h : Weaker v a) (off : Nat) (l : List Tm) : Weaker (putAll v off l) (putAll a off l) := by
  refine ⟨by rw [putAll_length, putAll_length]; exact h.1, fun k c hk => ?_⟩
  rw [putAll_get] at hk ⊢
  rw [← h.1]
  split at hk
  · rename_i hc; rw [if_pos hc]; exact .inr hk
  · rename_i hc; rw [if_neg hc]; exact h.2 k c hk
theorem Weaker.veil {v a : List Tm} (h : Weaker v a) (off : Nat) (l : List Tm) (b : Bool) : Weaker (putAll v off (l.map fun _ => .junk)) (if b then putAll a off l else a) := by
  refine ⟨by cases b <;> simp [putAll_length, h.1], fun k c hk => ?_⟩
  rw [putAll_get, List.length_map] at hk
  split at hk
  · left
    rw [List.getElem?_map] at hk
    cases hl : l[k - off]? with
    | none => rw [hl] at hk; cases hk
    | some x => rw [hl] at hk; exact (Option.some.inj hk).symm
  · rename_i hc
    rcases h.2 k c hk with h1 | h1
    · exact .inl h1
    · right
      cases b
      · exact h1
      · simp only [if_true]
        rw [putAll_get, ← h.1, if_neg hc]
        exact h1
theorem viewCs_weaker {ms : List Nat} {p : Nat → Bool} {j id : Nat} (h1 : ∀ g, reach ms j g = true → p g = true) (h2 : ∀ g, reach ms g j = true → p g = false) (h3 : p j = false) : ∀ (sts : List Sto) (v a : List Tm), Weaker v a → Weaker (viewCs ms j id sts v) (applySt p id sts a)
  | [], v, a, h => h
  | s :: r, v, a, h => by
    unfold viewCs applySt
    refine viewCs_weaker h1 h2 h3 r _ _ ?_
    by_cases hid : s.2.1 = id
    · rw [if_pos hid]
      by_cases hr : reach ms j s.1 = true
      · rw [if_pos hr, if_pos ⟨hid, h1 _ hr⟩]; exact h.put _ _
      · rw [if_neg hr]
        by_cases hr2 : s.1 = j ∨ reach ms s.1 j = true
        · rw [if_pos hr2, if_neg]
          · exact h
          · rintro ⟨_, hc⟩
            rcases hr2 with hr2 | hr2
            · rw [hr2, h3] at hc; cases hc
            · rw [h2 _ hr2] at hc; cases hc
        · rw [if_neg hr2]
          have := h.veil s.2.2.1 s.2.2.2 (p s.1)
          by_cases hp : p s.1 = true
          · rw [if_pos ⟨hid, hp⟩]; rw [hp] at this; exact this
          · rw [if_neg (fun hc => hp hc.2)]; simp only [Bool.not_eq_true] at hp; rw [hp] at this; exact this
    · rw [if_neg hid, if_neg (fun hc => hid hc.1)]; exact h
theorem BlkOk.weaker {ρ : Env} {β : Nat → Nat} {W w : World} {id : Nat} {v a : List Tm} (h : BlkOk ρ β W w id a) (hw : Weaker v a) : BlkOk ρ β W w id v := by
  intro off c hc
  have hlt : off < a.length := by
    rw [← hw.1]
    rcases Nat.lt_or_ge off v.length with h | h
    · exact h
    · rw [List.getElem?_eq_none h] at hc; cases hc
  obtain ⟨h1, h2, ⟨x, h3, h4⟩, h5⟩ := h off _ (List.getElem?_eq_getElem hlt)
  refine ⟨h1, h2, ⟨x, h3, ?_⟩, h5⟩
  rcases hw.2 off c hc with rfl | h6
  · intro hj; exact absurd rfl hj
  · rw [List.getElem?_eq_getElem hlt] at h6
    rw [← Option.some.inj h6]
    exact h4
theorem getD_set (L : Array Bool) (j g : Nat) (h : j < L.size) : (L.setIfInBounds j true).getD g false = if g = j then true else L.getD g false := by
  simp only [Array.getD_eq_getD_getElem?, Array.getElem?_setIfInBounds]
  by_cases hg : j = g
  · subst hg; simp [h]
  · rw [if_neg hg, if_neg (fun e => hg e.symm)]
def Pres (al : List (Nat × List Tm)) (base : Nat) (L : Array Bool) (id : Nat) : Bool :=
  decide (id < base) || (match al[id - base]? with
    | some (g, _) => L.getD g false
    | none => false)
/-- all blocks of a region as they are made -/
def blksOf (s0 : St) (acc : List (Option (Tm × Out))) : List (List Tm) := s0.hp ++ (allocsOf 0 acc).map (·.2)
/-- what holds while a region's operations come up in whatever order -/
structure Inv (all : Array Oper) (acc : List (Option (Tm × Out))) (s0 s1 : St) (ρ : Env) (W : World) (β : Nat → Nat) (L : Array Bool) (a : Act) (w : World) : Prop where
  dfr : a.defers = []
  len : s1.tm.length = a.tmps.size
  sz : L.size = all.size
  cl : Closed all L
  slot : ∀ d t, s1.tm[d]? = some t → (∀ g, writer all d = some g → L.getD g false = true) → Rel ρ β t (a.tmps.getD d Go.undef)
  blk : ∀ id cs, (blksOf s0 acc)[id]? = some cs → Pres (allocsOf 0 acc) s0.hp.length L id = true → BlkOk ρ β W w id (applySt (fun g => L.getD g false) id (storesOf 0 acc) cs)
  inj : ∀ i j, Pres (allocsOf 0 acc) s0.hp.length L i = true → Pres (allocsOf 0 acc) s0.hp.length L j = true → β i = β j → i = j
  lt : ∀ i, Pres (allocsOf 0 acc) s0.hp.length L i = true → W.heap.size ≤ β i ∧ β i < w.heap.size
  below : Below W.heap.size W w
structure Draw (P : Program) (Γ : Ctx) (all : Array Oper) (s0 s1 : St) (acc : List (Option (Tm × Out))) (ρ : Env) : Prop where
  down : downOk 0 all.toList = true
  nodup : ((allocsOf 0 acc).map (·.1)).Nodup
  slots : slotsOk all 0 s0.tm s1.tm = true
  snd : ((storesOf 0 acc).map (·.1)).Nodup
  dis : disjOk (storesOf 0 acc) = true
  hp : s1.hp = (blksOf s0 acc).mapIdx (fun id cs => applySt (fun _ => true) id (storesOf 0 acc) cs)
  n : s1.n = s0.n
  ops : opsOk P ρ.et Γ (mkMasks all.toList []) (allocsOf 0 acc) (storesOf 0 acc) all s0 s1 0 all.toList acc = true
  pc : PcOk ρ b0 s1.pc
  pcc : ∀ x ∈ s1.pc, closed x.1 = true
  need : ∀ c out, some (c, out) ∈ acc → ∀ β, denB ρ β c = true
  tmi : ∀ t ∈ s0.tm, s0.idsOk t = true
  hpi : ∀ cs ∈ s0.hp, ∀ t ∈ cs, s0.idsOk t = true
theorem dst_tm {s1 : St} {x : Tm} {od : Option Tmp} (h : (match od with | some d => s1.tm[d]? == some x || decide (s1.tm.length ≤ d) | none => true) = true) {d : Nat} (hd : od = some d) {t : Tm} (ht : s1.tm[d]? = some t) : t = x := by
  subst hd
  simp only [Bool.or_eq_true, beq_iff_eq, decide_eq_true_eq] at h
  rcases h with h | h
  · rw [ht] at h; exact Option.some.inj h
  · rw [List.getElem?_eq_none h] at ht; cases ht
theorem allowed_pres {all : Array Oper} {al : List (Nat × List Tm)} {base : Nat} {L : Array Bool} (hd : downOk 0 all.toList = true) (hc : Closed all L) {j : Nat} {o : Oper} (ho : all[j]? = some o) (hp : ∀ e ∈ o.after, Region.binds .any e = true → L.getD e.on false = true) :
    ∀ i, allowed (mkMasks all.toList []) al base j i = true → Pres al base L i = true := by
  intro i hi
  unfold allowed at hi
  unfold Pres
  simp only [Bool.or_eq_true] at hi ⊢
  refine hi.imp id fun h => ?_
  cases hal : al[i - base]? with
  | none => rw [hal] at h; cases h
  | some x => rw [hal] at h; exact reach_listed hd hc j o ho hp _ h
section
variable {P : Program} {Γ : Ctx} {all : Array Oper} {s0 s1 : St} {acc : List (Option (Tm × Out))} {ρ : Env} {W : World}
/-- what a written slot's term may name is there -/
theorem slot_ids (D : Draw P Γ all s0 s1 acc ρ) {L : Array Bool} (hc : Closed all L) {d : Nat} {t : Tm} (ht : s1.tm[d]? = some t) (hw : ∀ g, writer all d = some g → L.getD g false = true) : idsIn (Pres (allocsOf 0 acc) s0.hp.length L) t = true := by
  cases hwr : writer all d with
  | none =>
    obtain ⟨h1, h2⟩ := slotsOk_get D.slots
    have hlt : d < s0.tm.length := by
      rw [h1]
      rcases Nat.lt_or_ge d s1.tm.length with h | h
      · exact h
      · rw [List.getElem?_eq_none h] at ht; cases ht
    have := h2 d _ _ (List.getElem?_eq_getElem hlt) ht (by simpa using hwr)
    rw [← this]
    refine idsIn_mono (fun i hi => ?_) _ (D.tmi _ (List.getElem_mem hlt))
    unfold Pres
    rw [hi]
    rfl
  | some g =>
    obtain ⟨o, ho, hdst⟩ := writer_spec hwr
    have hL := hw g hwr
    obtain ⟨x, hx, hok⟩ := opsOk_get D.ops g o (by simpa using ho)
    rw [Nat.zero_add] at hok
    unfold opOk at hok
    simp only [Bool.and_eq_true] at hok
    obtain ⟨⟨_, _⟩, hok⟩ := hok
    have hal := allowed_pres (al := allocsOf 0 acc) (base := s0.hp.length) D.down hc ho (hc g o ho hL)
    cases x with
    | none =>
      simp only [Bool.and_eq_true] at hok
      rw [dst_tm hok.2 hdst ht]
      rfl
    | some co =>
      obtain ⟨c, out⟩ := co
      simp only [Bool.and_eq_true] at hok
      obtain ⟨_, hok⟩ := hok
      cases out with
      | val v =>
        simp only [Bool.and_eq_true] at hok
        rw [dst_tm hok.2 hdst ht]
        exact idsIn_mono hal _ hok.1
      | alloc cells e sl =>
        simp only [Bool.and_eq_true] at hok
        obtain ⟨k, _, hk⟩ := List.any_eq_true.1 hok.2
        simp only [Bool.and_eq_true, beq_iff_eq] at hk
        rw [dst_tm hk.2 hdst ht]
        rw [allocT_ids]
        simp only [Pres]
        have : s0.hp.length + k - s0.hp.length = k := by omega
        rw [this]
        cases hak : (allocsOf 0 acc)[k]? with
        | none => rw [hak] at hk; cases hk.1.1
        | some y =>
          rw [hak] at hk
          have := hk.1.1
          simp at this
          simp [this, hL]
      | store id off cells =>
        simp only [Bool.and_eq_true] at hok
        rw [dst_tm hok.2 hdst ht]
        rfl
      | call f args v =>
        simp only [Bool.and_eq_true] at hok
        rw [dst_tm hok.2 hdst ht]
        exact idsIn_mono (fun i hi => by cases hi) _ hok.1
theorem rel_pres {β β' : Nat → Nat} {p : Nat → Bool} (h : ∀ i, p i = true → β i = β' i) {t : Tm} (ht : idsIn p t = true) {v : Value} (hr : Rel ρ β t v) : Rel ρ β' t v := by
  intro hj
  rw [hr hj]
  exact denV_congr h ht
theorem pres_base {al : List (Nat × List Tm)} {base : Nat} {L : Array Bool} {id : Nat} (h : id < base) : Pres al base L id = true := by unfold Pres; simp [h]
theorem listed_size {L : Array Bool} {g : Nat} (h : L.getD g false = true) : g < L.size := by
  rcases Nat.lt_or_ge g L.size with h' | h'
  · exact h'
  · simp [Array.getD_eq_getD_getElem?, Array.getElem?_eq_none h'] at h
/-- what is in the blocks that are there names such blocks alone -/
theorem cell_ids (D : Draw P Γ all s0 s1 acc ρ) {L : Array Bool} (hsz : L.size = all.size) (hcl : Closed all L) {id : Nat} {cs : List Tm} (hc : (blksOf s0 acc)[id]? = some cs) (hp : Pres (allocsOf 0 acc) s0.hp.length L id = true) :
    ∀ t ∈ applySt (fun g => L.getD g false) id (storesOf 0 acc) cs, idsIn (Pres (allocsOf 0 acc) s0.hp.length L) t = true := by
  have hop : ∀ g, L.getD g false = true → ∀ c out, acc[g]? = some (some (c, out)) → ∃ o, all[g]? = some o ∧ opOk P ρ.et Γ (mkMasks all.toList []) (allocsOf 0 acc) (storesOf 0 acc) all s0 s1 g o (some (c, out)) = true ∧ ∀ i, allowed (mkMasks all.toList []) (allocsOf 0 acc) s0.hp.length g i = true → Pres (allocsOf 0 acc) s0.hp.length L i = true := by
    intro g hg c out ha
    have hgs : g < all.size := by rw [← hsz]; exact listed_size hg
    have hog := Array.getElem?_eq_getElem hgs
    obtain ⟨y, hy, hok⟩ := opsOk_get D.ops g all[g] (by simpa using hog)
    rw [Nat.zero_add] at hok
    rw [ha] at hy
    obtain rfl := Option.some.inj hy
    exact ⟨_, hog, hok, allowed_pres D.down hcl hog (hcl g _ hog hg)⟩
  refine applySt_mem _ cs (fun t ht => ?_) (fun s hs hl hid t ht => ?_)
  · unfold blksOf at hc
    rcases Nat.lt_or_ge id s0.hp.length with hid | hid
    · rw [List.getElem?_append_left hid] at hc
      exact idsIn_mono (fun i hi => pres_base (by simpa using hi)) _ (D.hpi cs (List.mem_of_getElem? hc) t ht)
    · rw [List.getElem?_append_right hid, List.getElem?_map] at hc
      cases hal : (allocsOf 0 acc)[id - s0.hp.length]? with
      | none => rw [hal] at hc; cases hc
      | some y =>
        obtain ⟨g, cells⟩ := y
        rw [hal] at hc
        obtain rfl := Option.some.inj hc
        unfold Pres at hp
        rw [hal] at hp
        simp only [Bool.or_eq_true, decide_eq_true_eq] at hp
        obtain ⟨n, c, e, sl, h1, h2⟩ := allocsOf_mem (List.mem_of_getElem? hal)
        rw [Nat.zero_add] at h1
        subst h1
        obtain ⟨o, _, hok, hpr⟩ := hop g (hp.resolve_left (by omega)) c _ h2
        unfold opOk at hok
        simp only [Bool.and_eq_true] at hok
        exact idsIn_mono hpr _ (List.all_eq_true.1 hok.2.2.1 t ht)
  · obtain ⟨g, id', off, cells⟩ := s
    obtain ⟨n, c, h1, h2⟩ := storesOf_mem.1 hs
    rw [Nat.zero_add] at h1
    subst h1
    obtain ⟨o, _, hok, hpr⟩ := hop g hl c _ h2
    unfold opOk at hok
    simp only [Bool.and_eq_true] at hok
    exact idsIn_mono hpr _ (List.all_eq_true.1 hok.2.2.1.1.2 t ht)
/-- one more operation is done, and its slot holds its term -/
theorem Inv.put {β β' : Nat → Nat} {L : Array Bool} {a : Act} {w w' : World} (D : Draw P Γ all s0 s1 acc ρ) (I : Inv all acc s0 s1 ρ W β L a w) {j : Nat} {o : Oper} (ho : all[j]? = some o) (hj : L.getD j true = false) (hp : ∀ e ∈ o.after, Region.binds .any e = true → L.getD e.on false = true)
    {x : Value} (hx : ∀ d t, o.dst = some d → s1.tm[d]? = some t → Rel ρ β' t x)
    (hβ : ∀ i, Pres (allocsOf 0 acc) s0.hp.length L i = true → β i = β' i) (hb : Below W.heap.size W w') (hsz : w.heap.size ≤ w'.heap.size)
    (hblk : ∀ id cs, (blksOf s0 acc)[id]? = some cs → Pres (allocsOf 0 acc) s0.hp.length L id = true → BlkOk ρ β' W w' id (applySt (fun g => (L.setIfInBounds j true).getD g false) id (storesOf 0 acc) cs))
    (hnew : ∀ (k : Nat) (cs : List Tm), (allocsOf 0 acc)[k]? = some (j, cs) → BlkOk ρ β' W w' (s0.hp.length + k) (applySt (fun g => (L.setIfInBounds j true).getD g false) (s0.hp.length + k) (storesOf 0 acc) cs) ∧ w.heap.size ≤ β' (s0.hp.length + k) ∧ β' (s0.hp.length + k) < w'.heap.size) :
    Inv all acc s0 s1 ρ W β' (L.setIfInBounds j true) (a.put o.dst x) w' := by
  have hjs : j < L.size := by
    rcases Nat.lt_or_ge j L.size with h | h
    · exact h
    · simp [Array.getD_eq_getD_getElem?, Array.getElem?_eq_none h] at hj
  have hset : ∀ g, (L.setIfInBounds j true).getD g false = if g = j then true else L.getD g false := fun g => getD_set L j g hjs
  have hlen : (a.put o.dst x).tmps.size = a.tmps.size := by cases o.dst <;> simp [Act.put]
  have hpres' : ∀ i, Pres (allocsOf 0 acc) s0.hp.length (L.setIfInBounds j true) i = true → Pres (allocsOf 0 acc) s0.hp.length L i = true ∨ ∃ (k : Nat) (cs : List Tm), i = s0.hp.length + k ∧ (allocsOf 0 acc)[k]? = some (j, cs) := by
    intro i hi
    unfold Pres at hi ⊢
    simp only [Bool.or_eq_true, decide_eq_true_eq] at hi ⊢
    rcases hi with hi | hi
    · exact .inl (.inl hi)
    · cases hak : (allocsOf 0 acc)[i - s0.hp.length]? with
      | none => rw [hak] at hi; cases hi
      | some y =>
        obtain ⟨g, cs⟩ := y
        rw [hak] at hi
        dsimp only at hi ⊢
        rw [hset] at hi
        by_cases hgj : g = j
        · subst hgj
          by_cases hlt : i < s0.hp.length
          · exact .inl (.inl hlt)
          · exact .inr ⟨i - s0.hp.length, cs, by omega, hak⟩
        · rw [if_neg hgj] at hi
          exact .inl (.inr hi)
  have huniq : ∀ (k k' : Nat) (cs cs' : List Tm), (allocsOf 0 acc)[k]? = some (j, cs) → (allocsOf 0 acc)[k']? = some (j, cs') → k = k' := by
    intro k k' cs cs' h1 h2
    have hk : k < ((allocsOf 0 acc).map (·.1)).length := by
      rw [List.length_map]
      rcases Nat.lt_or_ge k (allocsOf 0 acc).length with h | h
      · exact h
      · rw [List.getElem?_eq_none h] at h1; cases h1
    refine (List.getElem?_inj hk D.nodup).1 ?_
    rw [List.getElem?_map, List.getElem?_map, h1, h2]
    rfl
  refine
    { dfr := by cases o.dst <;> exact I.dfr
      len := by rw [hlen]; exact I.len
      sz := by rw [Array.size_setIfInBounds]; exact I.sz
      cl := fun g q hq hg e he hbd => ?_
      slot := fun d t ht hw => ?_
      blk := fun id cs hc hpr => ?_
      inj := fun i i' hi hi' he => ?_
      lt := fun i hi => ?_
      below := hb }
  · rw [hset] at hg ⊢
    split
    · rfl
    · by_cases hgj : g = j
      · subst hgj
        rw [ho] at hq
        obtain rfl := Option.some.inj hq
        exact hp e he hbd
      · rw [if_neg hgj] at hg
        exact I.cl g q hq hg e he hbd
  · by_cases hdd : o.dst = some d
    · have hput : (a.put o.dst x).tmps.getD d Go.undef = x := by
        rw [hdd]
        have hlt : d < a.tmps.size := by
          rw [← I.len]
          rcases Nat.lt_or_ge d s1.tm.length with h | h
          · exact h
          · rw [List.getElem?_eq_none h] at ht; cases ht
        simp [Act.put, hlt]
      rw [hput]
      exact hx d t hdd ht
    · have hput : (a.put o.dst x).tmps.getD d Go.undef = a.tmps.getD d Go.undef := by
        cases hod : o.dst with
        | none => rfl
        | some e =>
          have hne : e ≠ d := fun h => hdd (by rw [hod, h])
          simp [Act.put, Array.getElem?_setIfInBounds_ne hne]
      rw [hput]
      have hw' : ∀ g, writer all d = some g → L.getD g false = true := by
        intro g hg
        have := hw g hg
        rw [hset] at this
        by_cases hgj : g = j
        · subst hgj
          obtain ⟨q, hq, hqd⟩ := writer_spec hg
          rw [ho] at hq
          obtain rfl := Option.some.inj hq
          exact absurd hqd hdd
        · rw [if_neg hgj] at this
          exact this
      exact rel_pres hβ (slot_ids D I.cl ht hw') (I.slot d t ht hw')
  · rcases hpres' id hpr with h1 | ⟨k, cs', rfl, hk⟩
    · exact hblk id cs hc h1
    · have : (blksOf s0 acc)[s0.hp.length + k]? = some cs' := by
        unfold blksOf
        rw [List.getElem?_append_right (by omega), List.getElem?_map, show s0.hp.length + k - s0.hp.length = k by omega, hk]
        rfl
      rw [this] at hc
      obtain rfl := Option.some.inj hc
      exact (hnew k _ hk).1
  · rcases hpres' i hi with h1 | ⟨k, cs, rfl, hk⟩ <;> rcases hpres' i' hi' with h2 | ⟨k', cs', rfl, hk'⟩
    · rw [← hβ i h1, ← hβ i' h2] at he
      exact I.inj i i' h1 h2 he
    · have h3 := (hnew k' cs' hk').2
      rw [← hβ i h1] at he
      have := (I.lt i h1).2
      omega
    · have h3 := (hnew k cs hk).2
      rw [← hβ i' h2] at he
      have := (I.lt i' h2).2
      omega
    · rw [huniq k k' cs cs' hk hk']
  · rcases hpres' i hi with h1 | ⟨k, cs, rfl, hk⟩
    · rw [← hβ i h1]
      exact ⟨(I.lt i h1).1, Nat.lt_of_lt_of_le (I.lt i h1).2 hsz⟩
    · obtain ⟨_, h3, h4⟩ := hnew k cs hk
      exact ⟨Nat.le_trans I.below.size h3, h4⟩
/-- the blocks that are there behind an operation that stores nothing -/
theorem Inv.keep {β β' : Nat → Nat} {L : Array Bool} {a : Act} {w w' : World} (D : Draw P Γ all s0 s1 acc ρ) (I : Inv all acc s0 s1 ρ W β L a w) {j : Nat} (hjs : j < L.size) (hns : ∀ s ∈ storesOf 0 acc, s.1 ≠ j)
    (hβ : ∀ i, Pres (allocsOf 0 acc) s0.hp.length L i = true → β i = β' i) (hb : Below w.heap.size w w') : ∀ id cs, (blksOf s0 acc)[id]? = some cs → Pres (allocsOf 0 acc) s0.hp.length L id = true → BlkOk ρ β' W w' id (applySt (fun g => (L.setIfInBounds j true).getD g false) id (storesOf 0 acc) cs) := by
  intro id cs hc hp
  have he : applySt (fun g => (L.setIfInBounds j true).getD g false) id (storesOf 0 acc) cs = applySt (fun g => L.getD g false) id (storesOf 0 acc) cs :=
    applySt_congr _ _ (fun s hs => by rw [getD_set L j s.1 hjs, if_neg (hns s hs)])
  rw [he]
  intro off c hco
  obtain ⟨h1, h2, ⟨v, h3, h4⟩, h5⟩ := I.blk id cs hc hp off c hco
  rw [← hβ id hp]
  exact ⟨h1, Nat.lt_of_lt_of_le h2 hb.size, ⟨v, by rw [hb.cell (p := ⟨β id, off, none⟩) h2]; exact h3, rel_pres hβ (cell_ids D I.sz I.cl hc hp c (List.mem_of_getElem? hco)) h4⟩, by rw [hb.frozen (p := ⟨β id, off, none⟩) h2]; exact h5⟩
end
/-! Part 16: a region that draws its order, walked. -/
section
variable {P : Program} {Γ : Ctx} {all : Array Oper} {s0 s1 : St} {acc : List (Option (Tm × Out))} {ρ : Env} {W : World}
theorem draw_step (hg : Γ.Ok P ρ W) (D : Draw P Γ all s0 s1 acc ρ) {β : Nat → Nat} {L : Array Bool} {a : Act} {w : World} (I : Inv all acc s0 s1 ρ W β L a w) {j : Nat} (hr : j ∈ Region.ready .any all L) {Q : Exit → Act → World → Prop} {K : Act → World → Prop}
    (hK : ∀ β' a' w', Inv all acc s0 s1 ρ W β' (L.setIfInBounds j true) a' w' → K a' w') : wpOp P all Q j K a w := by
  obtain ⟨hj, o, ho, hp⟩ := mem_ready.1 hr
  obtain ⟨x, hx, hok⟩ := opsOk_get D.ops j o (by simpa using ho)
  rw [Nat.zero_add] at hok
  unfold opOk at hok
  simp only [Bool.and_eq_true] at hok
  obtain ⟨⟨hlook, hdst⟩, hok⟩ := hok
  have hjs : j < L.size := by
    rcases Nat.lt_or_ge j L.size with h | h
    · exact h
    · simp [Array.getD_eq_getD_getElem?, Array.getElem?_eq_none h] at hj
  have hjf : L.getD j false = false := by
    simp [Array.getD_eq_getD_getElem?, Array.getElem?_eq_getElem hjs] at hj ⊢
    exact hj
  have hset : ∀ g, (L.setIfInBounds j true).getD g false = if g = j then true else L.getD g false := fun g => getD_set L j g hjs
  have hreach : ∀ g, reach (mkMasks all.toList []) j g = true → L.getD g false = true := fun g h => reach_listed D.down I.cl j o ho hp g h
  have hunreach : ∀ g, reach (mkMasks all.toList []) g j = true → L.getD g false = false := fun g h => by
    cases hl : L.getD g false with
    | false => rfl
    | true =>
      have hgs : g < all.size := by rw [← I.sz]; exact listed_size hl
      have hog := Array.getElem?_eq_getElem hgs
      have := reach_listed D.down I.cl g all[g] hog (I.cl g _ hog hl) j h
      rw [hjf] at this
      cases this
  have htm : TmOk ρ β (viewSt (mkMasks all.toList []) (allocsOf 0 acc) (storesOf 0 acc) all s0 s1 o j).tm a := by
    intro i
    show Rel ρ β ((maskTm (o.looksAt all) 0 s1.tm).getD i .junk) _
    rw [List.getD_eq_getElem?_getD, maskTm_get, Nat.zero_add]
    cases ht : s1.tm[i]? with
    | none => intro h; exact absurd rfl h
    | some t =>
      simp only [Option.map_some, Option.getD_some]
      split
      · rename_i hc
        refine I.slot i t ht fun g hgw => ?_
        have := List.all_eq_true.1 hlook i (by simpa using hc)
        rw [hgw] at this
        exact hreach g this
      · intro h; exact absurd rfl h
  have hlen : (viewSt (mkMasks all.toList []) (allocsOf 0 acc) (storesOf 0 acc) all s0 s1 o j).tm.length = a.tmps.size := by
    show (maskTm (o.looksAt all) 0 s1.tm).length = _
    rw [maskTm_length]; exact I.len
  have hhp : HpOk ρ β W w (viewHp (mkMasks all.toList []) (allocsOf 0 acc) (storesOf 0 acc) s0.hp j) := by
    intro id cs hc
    unfold viewHp at hc
    rw [List.getElem?_mapIdx] at hc
    have weak : ∀ v a, Weaker v a → Weaker (viewCs (mkMasks all.toList []) j id (storesOf 0 acc) v) (applySt (fun g => L.getD g false) id (storesOf 0 acc) a) := fun v a h => viewCs_weaker hreach hunreach hjf _ v a h
    rcases Nat.lt_or_ge id s0.hp.length with hid | hid
    · rw [List.getElem?_append_left hid] at hc
      rw [List.getElem?_eq_getElem hid] at hc
      obtain rfl := Option.some.inj hc
      have hb : (blksOf s0 acc)[id]? = some s0.hp[id] := by unfold blksOf; rw [List.getElem?_append_left hid, List.getElem?_eq_getElem hid]
      exact (I.blk id _ hb (pres_base hid)).weaker (weak _ _ ⟨rfl, fun k c h => .inr h⟩)
    · rw [List.getElem?_append_right hid, List.getElem?_map] at hc
      cases hal : (allocsOf 0 acc)[id - s0.hp.length]? with
      | none => rw [hal] at hc; cases hc
      | some y =>
        obtain ⟨g, cells⟩ := y
        rw [hal] at hc
        obtain rfl := Option.some.inj hc
        dsimp only
        by_cases hre : reach (mkMasks all.toList []) j g = true
        · have hb : (blksOf s0 acc)[id]? = some cells := by unfold blksOf; rw [List.getElem?_append_right hid, List.getElem?_map, hal]; rfl
          rw [if_pos hre]
          refine (I.blk id _ hb ?_).weaker (weak _ _ ⟨rfl, fun k c h => .inr h⟩)
          unfold Pres
          rw [hal]
          simp only [Bool.or_eq_true]
          exact .inr (hreach g hre)
        · rw [if_neg hre]
          intro off c h
          have hl := (weak [] [] ⟨rfl, fun k c h => .inr h⟩).1
          rw [applySt_length] at hl
          rw [List.getElem?_eq_none (by rw [hl]; exact Nat.zero_le _)] at h
          cases h
  have hpc : PcOk ρ β s1.pc := fun y hy => by rw [(closed_den (D.pcc y hy) β b0).2.1]; exact D.pc y hy
  obtain ⟨hyes, hno⟩ := wanted_of' (st := viewSt (mkMasks all.toList []) (allocsOf 0 acc) (storesOf 0 acc) all s0 s1 o j) htm hlen hpc (all := all) (o := o)
  unfold wpOp
  simp only [ho]
  have noal : (∀ c e sl cells, x ≠ some (c, .alloc cells e sl)) → ∀ (k : Nat) (cs : List Tm), (allocsOf 0 acc)[k]? = some (j, cs) → False := by
    intro hne k cs hk
    obtain ⟨n, c, e, sl, h1, h2⟩ := allocsOf_mem (List.mem_of_getElem? hk)
    rw [Nat.zero_add] at h1
    subst h1
    rw [h2] at hx
    exact hne c e sl cs (Option.some.inj hx).symm
  have nost : (∀ c id off cells, x ≠ some (c, .store id off cells)) → ∀ s ∈ storesOf 0 acc, s.1 ≠ j := by
    intro hne s hs he
    obtain ⟨g, id, off, cells⟩ := s
    obtain ⟨n, c, h1, h2⟩ := storesOf_mem.1 hs
    rw [Nat.zero_add] at h1
    dsimp only at he
    subst he h1
    rw [h2] at hx
    exact hne c id off cells (Option.some.inj hx).symm
  cases x with
  | none =>
    simp only [Bool.and_eq_true] at hok
    have hw : Region.wanted o (yielded all a.tmps) = false := by
      refine hno ?_
      have := hok.1
      split at this
      · assumption
      · cases this
    rw [if_neg (by rw [hw]; decide)]
    refine hK β _ _ (I.put D ho hj hp (fun d t hd ht => ?_) (fun _ _ => rfl) I.below (Nat.le_refl _) (I.keep D hjs (nost (by simp)) (fun _ _ => rfl) (Below.refl _ _)) (fun k cs hk => (noal (by simp) k cs hk).elim))
    rw [dst_tm hok.2 hd ht]
    intro _; rfl
  | some co =>
    obtain ⟨c, out⟩ := co
    simp only [Bool.and_eq_true] at hok
    obtain ⟨⟨hwant, hev⟩, hok⟩ := hok
    have hw : Region.wanted o (yielded all a.tmps) = true := by
      refine hyes ?_
      split at hwant
      · assumption
      · cases hwant
    rw [if_pos hw]
    have hev' : evalOp P ρ.et Γ s1.pc (maskTm (o.looksAt all) 0 s1.tm) (viewHp (mkMasks all.toList []) (allocsOf 0 acc) (storesOf 0 acc) s0.hp j) o.op = .ok c out := by
      split at hev
      · rename_i c' out' he
        simp only [Bool.and_eq_true, beq_iff_eq] at hev
        rw [he, hev.1, hev.2]
      · cases hev
    have hc := D.need c out (List.mem_of_getElem? hx)
    have hout := evalOp_sound (W := W) htm hhp hpc hg.s I.below (hc β) hev'
    refine .inl ?_
    unfold Oper.wp
    cases out with
    | val v =>
      rw [show (execOp a.eval o).run P w = _ from hout]
      simp only [Bool.and_eq_true] at hok
      refine hK β _ _ (I.put D ho hj hp (fun d t hd ht => ?_) (fun _ _ => rfl) I.below (Nat.le_refl _) (I.keep D hjs (nost (by simp)) (fun _ _ => rfl) (Below.refl _ _)) (fun k cs hk => (noal (by simp) k cs hk).elim))
      rw [dst_tm hok.2 hd ht]
      intro _; rfl
    | store id off cells =>
      rw [show (execOp a.eval o).run P w = _ from hout]
      simp only [Bool.and_eq_true] at hok
      obtain ⟨⟨⟨hal, hids⟩, hfit⟩, hd0⟩ := hok
      have hpid := allowed_pres D.down I.cl ho hp id hal
      have hmem : (j, id, off, cells) ∈ storesOf 0 acc := storesOf_mem.2 ⟨j, c, by omega, hx⟩
      cases hbl : (blksOf s0 acc)[id]? with
      | none =>
        have hfit' := hfit
        rw [show (s0.hp ++ (allocsOf 0 acc).map (·.2))[id]? = none from hbl] at hfit'
        cases hfit'
      | some cs0 =>
        have hfit' := hfit
        rw [show (s0.hp ++ (allocsOf 0 acc).map (·.2))[id]? = some cs0 from hbl] at hfit'
        have hle : off + cells.length ≤ cs0.length := by simpa using hfit'
        refine hK β _ _ (I.put D ho hj hp (fun d t hd ht => ?_) (fun _ _ => rfl) (below_setCells (I.lt id hpid).1 _ _ _ I.below) (by rw [size_setCells]; exact Nat.le_refl _) (fun id' cs hcs hp' => ?_) (fun k cs hk => (noal (by simp) k cs hk).elim))
        · rw [dst_tm hd0 hd ht]
          intro _; rfl
        · rw [applySt_one (storesOf 0 acc) cs D.dis D.snd hmem hjf hset id']
          intro k t hk
          rw [size_setCells, World.frozen?_setCells]
          by_cases hid : id' = id
          · subst hid
            rw [hbl] at hcs
            obtain rfl := Option.some.inj hcs
            have hB := I.blk id' cs0 hbl hp'
            rw [if_pos rfl, putAll_get, applySt_length] at hk
            by_cases hin : off ≤ k ∧ k < off + cells.length ∧ k < cs0.length
            · rw [if_pos hin] at hk
              have hlk : k < (applySt (fun g => L.getD g false) id' (storesOf 0 acc) cs0).length := by rw [applySt_length]; exact hin.2.2
              obtain ⟨h1, h2, _, h5⟩ := hB k _ (List.getElem?_eq_getElem hlk)
              refine ⟨h1, h2, ⟨denV ρ β t, ?_, fun _ => rfl⟩, h5⟩
              have := World.cell?_setCells_in (β id') (cells.map (denV ρ β)) off w (fun i hi => by
                have hi' : off + i < (applySt (fun g => L.getD g false) id' (storesOf 0 acc) cs0).length := by rw [applySt_length]; simp at hi; omega
                obtain ⟨_, _, ⟨v, hv, _⟩, _⟩ := hB (off + i) _ (List.getElem?_eq_getElem hi')
                rw [hv]; rfl) (k - off) (by simp; omega)
              rw [show off + (k - off) = k by omega] at this
              rw [this]
              congr 1
              simp only [List.getElem_map]
              rw [List.getElem?_eq_getElem (by omega)] at hk
              rw [Option.some.inj hk]
            · rw [if_neg hin] at hk
              have hlk : k < cs0.length := by
                rcases Nat.lt_or_ge k cs0.length with h | h
                · exact h
                · rw [List.getElem?_eq_none (by rw [applySt_length]; exact h)] at hk; cases hk
              obtain ⟨h1, h2, ⟨v, h3, h4⟩, h5⟩ := hB k t hk
              refine ⟨h1, h2, ⟨v, ?_, h4⟩, h5⟩
              rw [World.cell?_setCells_out (β id') _ off w ⟨β id', k, none⟩ (fun _ _ => by simp only [List.length_map]; omega)]
              exact h3
          · rw [if_neg hid] at hk
            obtain ⟨h1, h2, ⟨v, h3, h4⟩, h5⟩ := I.blk id' cs hcs hp' k t hk
            refine ⟨h1, h2, ⟨v, ?_, h4⟩, h5⟩
            rw [World.cell?_setCells_out (β id) _ off w ⟨β id', k, none⟩ (fun hb _ => absurd (I.inj id' id hp' hpid hb) hid)]
            exact h3
    | call f args v =>
      rw [show (execOp a.eval o).run P w = _ from hout]
      simp only [Bool.and_eq_true] at hok
      show Calls P f (args.map (denV ρ β)).toArray w _
      refine (evalOp_call hg I.below hhp (hc β) hev').mono ?_
      rintro e w' ⟨rfl, hb⟩
      refine hK β _ _ (I.put D ho hj hp (fun d t hd ht => ?_) (fun _ _ => rfl) (I.below.trans (hb.mono I.below.size)) hb.size (I.keep D hjs (nost (by simp)) (fun _ _ => rfl) hb) (fun k cs hk => (noal (by simp) k cs hk).elim))
      rw [dst_tm hok.2 hd ht]
      intro _; rfl
    | alloc cells e sl =>
      rw [show (execOp a.eval o).run P w = _ from hout]
      simp only [Bool.and_eq_true] at hok
      obtain ⟨hids, hany⟩ := hok
      obtain ⟨k, _, hk⟩ := List.any_eq_true.1 hany
      simp only [Bool.and_eq_true, beq_iff_eq] at hk
      obtain ⟨⟨hk1, hk2⟩, hk3⟩ := hk
      have hak : (allocsOf 0 acc)[k]? = some (j, cells) := by
        cases h : (allocsOf 0 acc)[k]? with
        | none => rw [h] at hk1; cases hk1
        | some y =>
          rw [h] at hk1 hk2
          obtain ⟨g, cs⟩ := y
          simp at hk1 hk2
          rw [hk1, hk2]
      have hnp : Pres (allocsOf 0 acc) s0.hp.length L (s0.hp.length + k) = false := by
        unfold Pres
        have h1 : s0.hp.length + k - s0.hp.length = k := by omega
        have h0 : decide (s0.hp.length + k < s0.hp.length) = false := decide_eq_false (by omega)
        rw [h1, hak, h0]
        exact hjf
      have hb : Below w.heap.size w (w.alloc (.cells (cells.map (denV ρ β)).toArray e)) := (Below.refl _ _).alloc (Nat.le_refl _) _
      have hag : ∀ i, Pres (allocsOf 0 acc) s0.hp.length L i = true → β i = (if i = s0.hp.length + k then w.heap.size else β i) := by
        intro i hi
        rw [if_neg]
        rintro rfl
        rw [hnp] at hi
        cases hi
      refine hK (fun i => if i = s0.hp.length + k then w.heap.size else β i) _ _ (I.put D ho hj hp (fun d t hd ht => ?_) hag (I.below.trans (hb.mono I.below.size)) hb.size (I.keep D hjs (nost (by simp)) hag hb) (fun k' cs hk' => ?_))
      · rw [dst_tm hk3 hd ht]
        intro _
        rw [allocT_den]
        simp
      · have hkk : k = k' := by
          have hkl : k < ((allocsOf 0 acc).map (·.1)).length := by
            rw [List.length_map]
            rcases Nat.lt_or_ge k (allocsOf 0 acc).length with h | h
            · exact h
            · rw [List.getElem?_eq_none h] at hak; cases hak
          refine (List.getElem?_inj hkl D.nodup).1 ?_
          rw [List.getElem?_map, List.getElem?_map, hak, hk']
          rfl
        subst hkk
        rw [hak] at hk'
        obtain ⟨_, rfl⟩ := Prod.mk.inj (Option.some.inj hk')
        have hnone : applySt (fun g => (L.setIfInBounds j true).getD g false) (s0.hp.length + k) (storesOf 0 acc) cells = cells := by
          refine applySt_none _ _ fun s hs hid => ?_
          rw [hset, if_neg (nost (by simp) s hs)]
          cases hl : L.getD s.1 false with
          | false => rfl
          | true =>
            obtain ⟨g, id, off, cl⟩ := s
            obtain ⟨n, c', h1, h2⟩ := storesOf_mem.1 hs
            rw [Nat.zero_add] at h1
            dsimp only at hid hl
            subst h1 hid
            have hgs : g < all.size := by rw [← I.sz]; exact listed_size hl
            have hog := Array.getElem?_eq_getElem hgs
            obtain ⟨y, hy, hok'⟩ := opsOk_get D.ops g all[g] (by simpa using hog)
            rw [Nat.zero_add, ] at hok'
            rw [h2] at hy
            obtain rfl := Option.some.inj hy
            unfold opOk at hok'
            simp only [Bool.and_eq_true] at hok'
            have := allowed_pres D.down I.cl hog (I.cl g _ hog hl) _ hok'.2.2.1.1.1
            rw [hnp] at this
            cases this
        rw [hnone]
        simp only [if_true]
        refine ⟨fun off c hco => ?_, Nat.le_refl _, by simp⟩
        simp only [if_true]
        refine ⟨I.below.size, by simp, ⟨denV ρ β c, ?_, ?_⟩, by simp⟩
        · rw [World.cell?_alloc_new]
          simp [hco]
        · exact rel_pres hag (idsIn_mono (allowed_pres D.down I.cl ho hp) _ (List.all_eq_true.1 hids c (List.mem_of_getElem? hco))) (fun _ => rfl)
/-- how many have not come up -/
def left (L : Array Bool) : Nat := L.toList.countP (fun b => !b)
theorem left_set {L : Array Bool} {j : Nat} (h : L.getD j true = false) : left (L.setIfInBounds j true) + 1 = left L := by
  have hjs : j < L.size := by
    rcases Nat.lt_or_ge j L.size with h' | h'
    · exact h'
    · simp [Array.getD_eq_getD_getElem?, Array.getElem?_eq_none h'] at h
  have hf : L.toList[j]'(by simpa using hjs) = false := by
    simpa [Array.getD_eq_getD_getElem?, Array.getElem?_eq_getElem hjs] using h
  unfold left
  rw [Array.toList_setIfInBounds]
  have key : ∀ (l : List Bool) (j : Nat) (hj : j < l.length), l[j] = false → (l.set j true).countP (fun b => !b) + 1 = l.countP (fun b => !b) := by
    intro l
    induction l with
    | nil => intro j hj; simp at hj
    | cons b r ih =>
      intro j hj hb
      cases j with
      | zero => simp at hb; subst hb; simp
      | succ j =>
        have := ih j (by simpa using hj) (by simpa using hb)
        simp only [List.set_cons_succ, List.countP_cons]
        omega
  exact key _ _ (by simpa using hjs) hf
theorem ready_least (hd : downOk 0 all.toList = true) {L : Array Bool} (hsz : L.size = all.size) (hr : Region.ready .any all L = []) : ∀ j, j < all.size → L.getD j false = true := by
  intro j
  induction j using Nat.strongRecOn with
  | _ j ih =>
    intro hj
    cases hl : L.getD j false with
    | true => rfl
    | false =>
      have hjs : j < L.size := by omega
      have : j ∈ Region.ready .any all L := by
        rw [mem_ready]
        refine ⟨?_, all[j], Array.getElem?_eq_getElem hj, fun e he hb => ?_⟩
        · simp [Array.getD_eq_getD_getElem?, Array.getElem?_eq_getElem hjs] at hl ⊢
          exact hl
        · have := downOk_get _ _ _ _ hd (show all.toList[j]? = some all[j] by simp [hj]) e he hb
          exact ih e.on (by omega) (by omega)
      rw [hr] at this
      cases this
theorem draw_any (hg : Γ.Ok P ρ W) (D : Draw P Γ all s0 s1 acc ρ) {Q : Exit → Act → World → Prop}
    (hQ : ∀ β L a w, Inv all acc s0 s1 ρ W β L a w → (∀ j, j < all.size → L.getD j false = true) → Q .normal a w) :
    ∀ (fuel : Nat) (L : Array Bool) (β : Nat → Nat) (a : Act) (w : World), Inv all acc s0 s1 ρ W β L a w → left L ≤ fuel → wpAny P .any all Q fuel L a w := by
  intro fuel
  induction fuel with
  | zero =>
    intro L β a w I hf
    have hr : Region.ready .any all L = [] := by
      cases h : Region.ready .any all L with
      | nil => rfl
      | cons j r =>
        have hm : j ∈ Region.ready .any all L := by rw [h]; simp
        have := left_set (mem_ready.1 hm).1
        omega
    exact ⟨hr, hQ β L a w I (ready_least D.down I.sz hr)⟩
  | succ fuel ih =>
    intro L β a w I hf
    refine ⟨fun hr => hQ β L a w I (ready_least D.down I.sz hr), fun j hj => ?_⟩
    refine draw_step hg D I hj fun β' a' w' I' => ?_
    refine ih _ β' a' w' I' ?_
    have := left_set (mem_ready.1 hj).1
    omega
end
/-! Part 17: the walk is right. -/
theorem dops_path {P : Program} {et : TypeId} {Γ : Ctx} {anns : List Ann} {rs : List ResultVar} {K : Value → Prop} {ρ : Env} {all : Array Oper} {s0 : St} {k : List It} : ∀ (n : Nat) (st : St) (l : List Oper) (acc : List (Option (Tm × Out))) (t : Tree),
    run P et Γ anns rs n st (.dops all l s0 acc :: k) = some t → t.holds K ρ → PcOk ρ b0 st.pc → (∀ x ∈ st.pc, closed x.1 = true) → (∀ c out, some (c, out) ∈ acc → ∀ β, denB ρ β c = true) →
    ∃ n' s1 acc' t', n' < n ∧ drawOk P et Γ all s0 s1 acc' = true ∧ run P et Γ anns rs n' s1 k = some t' ∧ t'.holds K ρ ∧ PcOk ρ b0 s1.pc ∧ (∀ x ∈ s1.pc, closed x.1 = true) ∧ (∀ c out, some (c, out) ∈ acc' → ∀ β, denB ρ β c = true) := by
  intro n
  induction n with
  | zero => intro st l acc t h; cases h
  | succ n ih =>
    intro st l acc t h ht hpc hcl hnd
    have up : (∃ n' s1 acc' t', n' < n ∧ drawOk P et Γ all s0 s1 acc' = true ∧ run P et Γ anns rs n' s1 k = some t' ∧ t'.holds K ρ ∧ PcOk ρ b0 s1.pc ∧ (∀ x ∈ s1.pc, closed x.1 = true) ∧ (∀ c out, some (c, out) ∈ acc' → ∀ β, denB ρ β c = true)) →
        ∃ n' s1 acc' t', n' < n + 1 ∧ drawOk P et Γ all s0 s1 acc' = true ∧ run P et Γ anns rs n' s1 k = some t' ∧ t'.holds K ρ ∧ PcOk ρ b0 s1.pc ∧ (∀ x ∈ s1.pc, closed x.1 = true) ∧ (∀ c out, some (c, out) ∈ acc' → ∀ β, denB ρ β c = true) := by
      rintro ⟨n', s1, acc', t', h1, h2⟩
      exact ⟨n', s1, acc', t', by omega, h2⟩
    have hlearn : ∀ c b, closed c = true → denB ρ b0 c = b → PcOk ρ b0 (st.learn c b).pc ∧ ∀ x ∈ (st.learn c b).pc, closed x.1 = true := by
      intro c b h1 h2
      refine ⟨fun x hx => ?_, fun x hx => ?_⟩
      · simp only [St.learn, List.mem_append, List.mem_singleton] at hx
        rcases hx with hx | rfl
        · exact hpc x hx
        · exact bare_den ρ b0 c b h2
      · simp only [St.learn, List.mem_append, List.mem_singleton] at hx
        rcases hx with hx | rfl
        · exact hcl x hx
        · exact bare_closed c b h1
    cases l with
    | nil =>
      unfold run at h
      split at h
      · rename_i hd
        exact ⟨n, st, acc, t, Nat.lt_succ_self n, hd, h, ht, hpc, hcl, hnd⟩
      · cases h
    | cons o l =>
      unfold run at h
      split at h
      · refine up (ih _ l _ t h ht (by cases o.dst <;> exact hpc) (by cases o.dst <;> exact hcl) fun c out hm => ?_)
        rw [List.mem_append, List.mem_singleton] at hm
        rcases hm with hm | hm
        · exact hnd c out hm
        · cases hm
      · rename_i c _
        obtain ⟨hc, ⟨hb, x, hx, hxt⟩ | ⟨hb, x, hx, hxt⟩⟩ := branch_spec h ht
        · exact up (ih _ (o :: l) acc x hx hxt (hlearn c true hc hb).1 (hlearn c true hc hb).2 hnd)
        · exact up (ih _ (o :: l) acc x hx hxt (hlearn c false hc hb).1 (hlearn c false hc hb).2 hnd)
      · split at h
        · rename_i c out he
          split at h
          · have hned := needT_spec h ht
            obtain ⟨_, x, hx, hxt⟩ := hned b0
            have hpcd : (st.done o.dst out).pc = st.pc := by cases out <;> cases o.dst <;> rfl
            refine up (ih _ l _ x hx hxt (by rw [hpcd]; exact hpc) (by rw [hpcd]; exact hcl) fun c' out' hm => ?_)
            rw [List.mem_append, List.mem_singleton] at hm
            rcases hm with hm | hm
            · exact hnd c' out' hm
            · obtain ⟨rfl, rfl⟩ := Prod.mk.inj (Option.some.inj hm)
              exact fun β => (hned β).1
          · cases h
        · rename_i c _
          obtain ⟨hc, ⟨hb, x, hx, hxt⟩ | ⟨hb, x, hx, hxt⟩⟩ := branch_spec h ht
          · exact up (ih _ (o :: l) acc x hx hxt (hlearn c true hc hb).1 (hlearn c true hc hb).2 hnd)
          · exact up (ih _ (o :: l) acc x hx hxt (hlearn c false hc hb).1 (hlearn c false hc hb).2 hnd)
        · cases h
      · cases h
theorem opsOk_len {P : Program} {et : TypeId} {Γ : Ctx} {ms : List Nat} {al : List (Nat × List Tm)} {sts : List Sto} {all : Array Oper} {s0 s1 : St} : ∀ {l : List Oper} {r : List (Option (Tm × Out))} {j : Nat}, opsOk P et Γ ms al sts all s0 s1 j l r = true → r.length = l.length
  | [], [], _, _ => rfl
  | [], _ :: _, _, h => by cases h
  | _ :: _, [], _, h => by cases h
  | o :: l, x :: r, j, h => by
    simp only [opsOk, Bool.and_eq_true] at h
    simp [opsOk_len h.2]
theorem draw_sound {P : Program} {Γ : Ctx} {anns : List Ann} {rs : List ResultVar} {K : Value → Prop} {ρ : Env} {β : Nat → Nat} {W w : World} {st : St} {a : Act} {k : List It} {Q : Exit → Act → World → Prop} {id : Nat} {ops : Array Oper} {t : Tree} {n : Nat}
    (hm : P.follows .mixedOrders = true) (hg : Γ.Ok P ρ W) (m : Match ρ β W st a w) (h : run P ρ.et Γ anns rs n st (.dops ops ops.toList st [] :: k) = some t) (ht : t.holds K ρ)
    (hk : ∀ n' st' a' w' β' t', n' < n → run P ρ.et Γ anns rs n' st' k = some t' → t'.holds K ρ → Match ρ β' W st' a' w' → Q .normal a' w') : (Code.region id ops true).wp P Q a w := by
  obtain ⟨n', s1, acc, t', hn, hd, hr, ht', hpc, hcl, hnd⟩ := dops_path n st _ _ t h ht m.pc m.pcc (fun c out hm => by cases hm)
  unfold drawOk at hd
  simp only [Bool.and_eq_true, decide_eq_true_eq, beq_iff_eq] at hd
  obtain ⟨⟨⟨⟨⟨⟨⟨d1, d2⟩, d3⟩, d7⟩, d8⟩, d4⟩, d5⟩, d6⟩ := hd
  replace d4 : s1.hp = (blksOf st acc).mapIdx (fun id cs => applySt (fun _ => true) id (storesOf 0 acc) cs) := d4
  have D : Draw P Γ ops st s1 acc ρ := { down := d1, nodup := d2, slots := d3, snd := d7, dis := d8, hp := d4, n := d5, ops := d6, pc := hpc, pcc := hcl, need := hnd, tmi := m.tmi, hpi := m.hpi }
  have md := m.world (Below.refl w.heap.size w).drew
  obtain ⟨e1, e2⟩ := slotsOk_get d3
  have hfalse : ∀ g, (Array.replicate ops.size false).getD g false = false := fun g => by
    rcases Nat.lt_or_ge g ops.size with h | h <;> simp [Array.getD_eq_getD_getElem?, Array.getElem?_replicate, h]
  have hpres : ∀ i, Pres (allocsOf 0 acc) st.hp.length (Array.replicate ops.size false) i = true → i < st.hp.length := by
    intro i hi
    unfold Pres at hi
    simp only [Bool.or_eq_true, decide_eq_true_eq] at hi
    rcases hi with hi | hi
    · exact hi
    · split at hi
      · rw [hfalse] at hi; cases hi
      · cases hi
  have I : Inv ops acc st s1 ρ W β (Array.replicate ops.size false) a w.drew :=
    { dfr := m.dfr
      len := by rw [← e1]; exact m.len
      sz := by simp
      cl := fun g o _ hl => by rw [hfalse] at hl; cases hl
      slot := fun d t htd hw => by
        have hwn : writer ops d = none := by
          cases hwr : writer ops d with
          | none => rfl
          | some g => have := hw g hwr; rw [hfalse] at this; cases this
        have hlt : d < st.tm.length := by
          rw [e1]
          rcases Nat.lt_or_ge d s1.tm.length with h | h
          · exact h
          · rw [List.getElem?_eq_none h] at htd; cases htd
        have h0 := e2 d _ _ (List.getElem?_eq_getElem hlt) htd (by simpa using hwn)
        have := m.tm d
        rw [List.getD_eq_getElem?_getD, List.getElem?_eq_getElem hlt, h0] at this
        exact this
      blk := fun id cs hc hp => by
        have hid := hpres id hp
        unfold blksOf at hc
        rw [List.getElem?_append_left hid] at hc
        rw [applySt_none _ _ (fun s _ _ => hfalse s.1)]
        exact md.hp id cs hc
      inj := fun i j hi hj => m.inj i j (hpres i hi) (hpres j hj)
      lt := fun i hi => md.lt i (hpres i hi)
      below := md.below }
  refine wp_region_any hm (draw_any hg D (fun β' L a' w' I' hall => ?_) ops.size _ β a _ I ?_)
  · refine hk n' s1 a' w' β' t' hn hr ht' ?_
    have hpr : ∀ i, Pres (allocsOf 0 acc) st.hp.length L i = true ↔ i < s1.hp.length := by
      intro i
      rw [d4]
      unfold Pres blksOf
      simp only [Bool.or_eq_true, decide_eq_true_eq, List.length_append, List.length_map, List.length_mapIdx]
      constructor
      · rintro (h | h)
        · omega
        · split at h
          · rename_i g cs hgc
            have : i - st.hp.length < (allocsOf 0 acc).length := by
              rcases Nat.lt_or_ge (i - st.hp.length) (allocsOf 0 acc).length with h | h
              · exact h
              · rw [List.getElem?_eq_none h] at hgc; cases hgc
            omega
          · cases h
      · intro h
        by_cases hlt : i < st.hp.length
        · exact .inl hlt
        · refine .inr ?_
          have hl : i - st.hp.length < (allocsOf 0 acc).length := by omega
          rw [List.getElem?_eq_getElem hl]
          dsimp only
          have hgl : ((allocsOf 0 acc)[i - st.hp.length]).1 < ops.size := by
            have key : ∀ (i : Nat) (l : List (Option (Tm × Out))) (x : Nat × List Tm), x ∈ allocsOf i l → x.1 < i + l.length := by
              intro i l
              induction l generalizing i with
              | nil => intro x h; simp [allocsOf] at h
              | cons z r ih =>
                intro x hx
                have tail : x ∈ allocsOf (i + 1) r → x.1 < i + (z :: r).length := fun h => by have := ih (i + 1) x h; simp; omega
                rcases z with _ | ⟨c, out⟩
                · exact tail hx
                · cases out with
                  | alloc cells e sl =>
                    simp only [allocsOf, List.mem_cons] at hx
                    rcases hx with rfl | hx
                    · simp
                    · exact tail hx
                  | val v => exact tail hx
                  | store _ _ _ => exact tail hx
                  | call _ _ _ => exact tail hx
            have hlen : ∀ (j : Nat) (l : List Oper) (r : List (Option (Tm × Out))), opsOk P ρ.et Γ (mkMasks ops.toList []) (allocsOf 0 acc) (storesOf 0 acc) ops st s1 j l r = true → r.length = l.length := by
              intro j l
              induction l generalizing j with
              | nil => intro r h; cases r with
                | nil => rfl
                | cons _ _ => cases h
              | cons o l ih => intro r h; cases r with
                | nil => cases h
                | cons x r => simp only [opsOk, Bool.and_eq_true] at h; simp [ih _ r h.2]
            have h1 := key 0 acc _ (List.getElem_mem hl)
            have h2 := hlen _ _ _ d6
            simp at h2
            omega
          exact hall _ hgl
    have happ : ∀ id cs, applySt (fun g => L.getD g false) id (storesOf 0 acc) cs = applySt (fun _ => true) id (storesOf 0 acc) cs := by
      intro id cs
      refine applySt_congr _ _ fun s hs => ?_
      obtain ⟨g, id', off, cl⟩ := s
      obtain ⟨n, c, h1, h2⟩ := storesOf_mem.1 hs
      rw [Nat.zero_add] at h1
      dsimp only
      refine hall g ?_
      have hl := opsOk_len d6
      have : n < acc.length := by
        rcases Nat.lt_or_ge n acc.length with h | h
        · exact h
        · rw [List.getElem?_eq_none h] at h2; cases h2
      rw [hl] at this
      simp at this
      omega
    have hget : ∀ (id : Nat) cs, s1.hp[id]? = some cs → ∃ c0, (blksOf st acc)[id]? = some c0 ∧ cs = applySt (fun g => L.getD g false) id (storesOf 0 acc) c0 ∧ Pres (allocsOf 0 acc) st.hp.length L id = true := by
      intro id cs hc
      have hlt : id < s1.hp.length := by
        rcases Nat.lt_or_ge id s1.hp.length with h | h
        · exact h
        · rw [List.getElem?_eq_none h] at hc; cases hc
      rw [d4, List.getElem?_mapIdx] at hc
      cases hb : (blksOf st acc)[id]? with
      | none => rw [hb] at hc; cases hc
      | some c0 =>
        rw [hb] at hc
        exact ⟨c0, rfl, by rw [happ]; exact (Option.some.inj hc).symm, (hpr id).2 hlt⟩
    exact
      { dfr := I'.dfr
        len := I'.len
        tm := fun i => by
          cases hti : s1.tm[i]? with
          | none => intro hj; exact absurd (by simp [List.getD_eq_getElem?_getD, hti]) hj
          | some t =>
            rw [List.getD_eq_getElem?_getD, hti]
            refine I'.slot i t hti fun g hgw => ?_
            obtain ⟨o, ho, _⟩ := writer_spec hgw
            exact hall g (Array.getElem?_eq_some_iff.1 ho).1
        tmi := fun t htm => by
          obtain ⟨d, hd⟩ := List.getElem?_of_mem htm
          have := slot_ids D I'.cl hd (fun g hgw => by
            obtain ⟨o, ho, _⟩ := writer_spec hgw
            exact hall g (Array.getElem?_eq_some_iff.1 ho).1)
          exact idsIn_mono (fun i hi => by simpa using (hpr i).1 hi) _ this
        hp := fun id cs hc => by
          obtain ⟨c0, h1, rfl, h3⟩ := hget id cs hc
          exact I'.blk id c0 h1 h3
        hpi := fun cs hc t htc => by
          obtain ⟨id, hid⟩ := List.getElem?_of_mem hc
          obtain ⟨c0, h1, rfl, h3⟩ := hget id cs hid
          exact idsIn_mono (fun i hi => by simpa using (hpr i).1 hi) _ (cell_ids D I'.sz I'.cl h1 h3 t htc)
        inj := fun i j hi hj => I'.inj i j ((hpr i).2 hi) ((hpr j).2 hj)
        lt := fun i hi => I'.lt i ((hpr i).2 hi)
        pc := hpc
        pcc := hcl
        below := I'.below
        n := by rw [d5]; exact m.n }
  · unfold left
    simp only [Array.toList_replicate]
    refine Nat.le_trans (List.countP_le_length) ?_
    simp
theorem run_sound {P : Program} {Γ : Ctx} {anns : List Ann} {fn : Func} {K : Value → Prop} {W : World} (hm : P.follows .mixedOrders = true) : ∀ (n : Nat) (ρ : Env) (β : Nat → Nat) (st : St) (k : List It) (s : List SIt) (t : Tree) (a : Act) (w : World),
    (Γ.Ok P ρ W) → run P ρ.et Γ anns fn.results.toList n st k = some t → t.holds K ρ → Match ρ β W st a w → Corr W ρ k s → kwp P (bodyPost P fn (RetQ K W)) s .normal a w := by
  intro n
  induction n using Nat.strongRecOn with
  | _ n ih =>
    intro ρ β st k s t a w hg h ht m hc
    cases n with
    | zero => cases h
    | succ n =>
      have ih1 := fun ρ' β' st' k' s' t' a' w' => ih n (Nat.lt_succ_self n) ρ' β' st' k' s' t' a' w'
      cases hc with
      | nil => exact retT_sound m h ht
      | blk hc' =>
        rename_i id k s
        show kwp P _ s .normal a w
        unfold run at h
        exact ih1 ρ β st _ _ t a w hg h ht m hc'
      | ops hc' =>
        rename_i all l k s
        show wpList P all (kwp P _ s) l a w
        cases l with
        | nil => exact ih1 ρ β st _ _ t a w hg h ht m hc'
        | cons o l =>
          unfold run at h
          unfold wpList
          split at h
          · rename_i hw
            rw [(wanted_of m).2 hw]
            exact ih1 ρ β _ _ (.ops all l :: s) t _ w hg h ht (m.put o.dst (v := .cst .undef) rfl fun _ => rfl) (.ops hc')
          · rename_i c hw
            obtain ⟨hcl, ⟨hb, x, hx, hxt⟩ | ⟨hb, x, hx, hxt⟩⟩ := branch_spec h ht
            · exact ih1 ρ β _ _ (.ops all (o :: l) :: s) x a w hg hx hxt (m.learn hcl hb) (.ops hc')
            · exact ih1 ρ β _ _ (.ops all (o :: l) :: s) x a w hg hx hxt (m.learn hcl hb) (.ops hc')
          · rename_i hw
            split at h
            · rename_i c out he
              split at h
              · rename_i hok
                obtain ⟨hcb, x, hx, hxt⟩ := needT_spec h ht β
                rw [(wanted_of m).1 hw]
                simp only [if_true]
                refine .inl (op_step m hg he hcb hok fun β' a' w' m' => ?_)
                exact ih1 ρ β' _ _ (.ops all l :: s) x a' w' hg hx hxt m' (.ops hc')
              · cases h
            · rename_i c he
              obtain ⟨hcl, ⟨hb, x, hx, hxt⟩ | ⟨hb, x, hx, hxt⟩⟩ := branch_spec h ht
              · exact ih1 ρ β _ _ (.ops all (o :: l) :: s) x a w hg hx hxt (m.learn hcl hb) (.ops hc')
              · exact ih1 ρ β _ _ (.ops all (o :: l) :: s) x a w hg hx hxt (m.learn hcl hb) (.ops hc')
            · cases h
          · cases h
      | code hc' =>
        rename_i c k s
        show c.wp P (kwp P _ s) a w
        unfold run at h
        split at h
        · exact wp_skip (ih1 ρ β st _ _ t a w hg h ht m hc')
        · exact wp_seq (ih1 ρ β st _ (.code _ :: .code _ :: s) t a w hg h ht m (.code (.code hc')))
        · rename_i cnd x y
          split at h
          · rename_i b hcnd
            have hev : a.eval cnd = .bool (denB ρ β b) := evalO_den m.tm hcnd
            split at h
            · rename_i hd
              rw [decT_den m.pcb hd] at hev
              exact wp_cond_true hev (ih1 ρ β st _ (.code _ :: s) t a w hg h ht m (.code hc'))
            · rename_i hd
              rw [decT_den m.pcb hd] at hev
              exact wp_cond_false hev (ih1 ρ β st _ (.code _ :: s) t a w hg h ht m (.code hc'))
            · obtain ⟨hcl, ⟨hb, z, hx, hxt⟩ | ⟨hb, z, hx, hxt⟩⟩ := branch_spec h ht
              · rw [(closed_den hcl β b0).2.1, hb] at hev
                exact wp_cond_true hev (ih1 ρ β _ _ (.code _ :: s) z a w hg hx hxt (m.learn hcl hb) (.code hc'))
              · rw [(closed_den hcl β b0).2.1, hb] at hev
                exact wp_cond_false hev (ih1 ρ β _ _ (.code _ :: s) z a w hg hx hxt (m.learn hcl hb) (.code hc'))
          · cases h
        · exact wp_block (ih1 ρ β st _ (.code _ :: .blk _ :: s) t a w hg h ht m (.code (.blk hc')))
        · split at h
          · rename_i k' hp
            obtain ⟨s', h1, h2⟩ := popTo_kwp (P := P) (Q := bodyPost P fn (RetQ K W)) hc' hp
            exact wp_exit (h2 a w (ih1 ρ β st _ s' t a w hg h ht m h1))
          · cases h
        · exact wp_ret (kwp_ret (retT_sound m h ht) s)
        · exact wp_region_list (ih1 ρ β st _ (.ops _ _ :: s) t a w hg h ht m (.ops hc'))
        · exact draw_sound hm hg m h ht fun n' st' a' w' β' t' hn hr ht' m' => ih n' (by omega) ρ β' st' _ s t' a' w' hg hr ht' m' hc'
        · rename_i body
          split at h
          · rename_i an _
            dsimp only at h
            split at h
            · rename_i hcond
              simp only [Bool.and_eq_true] at hcond
              obtain ⟨⟨c1, c2⟩, c3⟩ := hcond
              cases hr : run P ρ.et Γ anns fn.results.toList n (headOf an st body).st (.code body :: .back (headOf an st body) :: k) with
              | none => rw [hr] at h; cases h
              | some x =>
                rw [hr] at h
                obtain rfl := Option.some.inj h
                obtain ⟨hpre, hall⟩ := ht
                have hok := c1
                have hn : ρ.has (headOf an st body).n := m.n
                have hpc : PcOk ρ b0 (headOf an st body).st.pc := m.pc
                generalize hh : headOf an st body = hd at *
                have hnew : hd.st.n = hd.n.add an.new := by rw [← hh]; rfl
                obtain ⟨li, lb, lv, ls, l1, l2, l3, l4, hs, m0⟩ := fits_match m (Env.ext.refl ρ) hn hnew hok hpc c2
                have hinv0 : holds (ρ.more li lb lv ls) hd.inv := by
                  rw [holds_iff] at hpre ⊢
                  have hσ : (solve hd st).ok = true := by
                    unfold fits at c2
                    simp only [Bool.and_eq_true] at c2
                    exact c2.1.1.1.1.1.1
                  rw [(subst_den ρ b0 _ hσ (none_good (solve_l _ _)) _ (none_sel (solve_l _ _) _)).2.1, hs] at hpre
                  exact hpre
                refine wp_loop_ghost (fun j a' w' => ∃ li lb lv ls β, li.length = an.new.i ∧ lb.length = an.new.b ∧ lv.length = an.new.v ∧ ls.length = an.new.s ∧ holds (ρ.more li lb lv ls) hd.inv ∧ (denI (ρ.more li lb lv ls) b0 hd.mes).toNat = j ∧ Match (ρ.more li lb lv ls) β W hd.st a' w') ⟨li, lb, lv, ls, β, l1, l2, l3, l4, hinv0, rfl, m0⟩ ?_
                rintro j a' w' ⟨li', lb', lv', ls', β', e1, e2, e3, e4, hi, hj, m'⟩
                have hx := (((hall.all li' e1).all lb' e2).all lv' e3).all ls' e4 hi
                have hco : Corr W (ρ.more li' lb' lv' ls') (.back hd :: k) (.back (fun a' w' => ∃ m, m < j ∧ ∃ li lb lv ls β, li.length = an.new.i ∧ lb.length = an.new.b ∧ lv.length = an.new.v ∧ ls.length = an.new.s ∧ holds (ρ.more li lb lv ls) hd.inv ∧ (denI (ρ.more li lb lv ls) b0 hd.mes).toNat = m ∧ Match (ρ.more li lb lv ls) β W hd.st a' w') :: s) := by
                  refine .back (hc'.more _ _ _ _) ⟨li', lb', lv', ls', rfl⟩ hn hnew hok hpc m'.n (Env.ext.refl _) hj.symm ?_
                  intro li lb lv ls β a w l1 l2 l3 l4 hi hlt m
                  exact ⟨_, hlt, li, lb, lv, ls, β, l1, l2, l3, l4, hi, rfl, m⟩
                exact ih1 (ρ.more li' lb' lv' ls') β' hd.st _ (.code body :: .back _ :: s) x a' w' ⟨hg.l, hg.s⟩ hr hx m' (.code hco)
            · cases h
          · cases h
        · cases h
      | back hc' h1 h2 h3 h4 h5 h6 h7 h8 h9 =>
        rename_i ρ0 ρ1 hd J k s new n0
        unfold run at h
        dsimp only at h
        split at h
        · rename_i hcond
          simp only [Bool.and_eq_true] at hcond
          obtain ⟨⟨c1, c2⟩, c3⟩ := hcond
          obtain rfl := Option.some.inj h
          obtain ⟨hinv, hmes⟩ := ht
          obtain ⟨li, lb, lv, ls, l1, l2, l3, l4, hs, m0⟩ := fits_match m h1 h2 h3 h4 h5 c1
          have hσ : (solve hd st).ok = true := by
            unfold fits at c1
            simp only [Bool.and_eq_true] at c1
            exact c1.1.1.1.1.1.1
          show J a w
          refine h9 li lb lv ls β a w l1 l2 l3 l4 ?_ ?_ m0
          · rw [holds_iff] at hinv ⊢
            rw [(subst_den ρ b0 _ hσ (none_good (solve_l _ _)) _ (none_sel (solve_l _ _) _)).2.1, hs] at hinv
            exact hinv
          · rw [(subst_den ρ b0 _ hσ (none_good (solve_l _ _)) _ (none_sel (solve_l _ _) _)).1, hs] at hmes
            have hk : inScope hd.st.n hd.mes = true := by
              unfold headOk at h4
              simp only [Bool.and_eq_true] at h4
              exact h4.2
            rw [(scope_den h6 h7 b0 hd.mes hk).1, ← h8] at hmes
            exact hmes
        · cases h
/-! Part 18: a function's contract from its walk. -/
def start (fn : Func) (args : List Tm) (n : Cnt) : St := { tm := args ++ List.replicate (fn.ntmps - args.length) (.cst .undef), hp := [], pc := [], n := n }
def bodyOf (fn : Func) : Code := fn.body.getD .skip
def walk (P : Program) (et : TypeId) (Γ : Ctx) (anns : List Ann) (f : FuncId) (args : List Tm) (n : Cnt) (fuel : Nat) : Option Tree :=
  match P.funcs[f]? with
  | some fn => if fn.body.isSome && args.all closed then run P et Γ anns fn.results.toList fuel (start fn args n) [.code (bodyOf fn)] else none
  | none => none
theorem calls_of_walk {P : Program} {Γ : Ctx} {anns : List Ann} {f : FuncId} {args : List Tm} {n : Cnt} {fuel : Nat} {t : Tree} {ρ : Env} {W : World} {K : Value → Prop} (hm : P.follows .mixedOrders = true)
    (hw : walk P ρ.et Γ anns f args n fuel = some t) (hn : ρ.has n) (hg : Γ.Ok P ρ W) (ht : t.holds K ρ) : Calls P f (args.map (denV ρ b0)).toArray W (RetQ K W) := by
  unfold walk at hw
  split at hw
  · rename_i fn hf
    split at hw
    · rename_i hb
      rw [Bool.and_eq_true] at hb
      obtain ⟨hb, ha⟩ := hb
      obtain ⟨c, hc⟩ := Option.isSome_iff_exists.1 hb
      have hbo : bodyOf fn = c := by unfold bodyOf; rw [hc]; rfl
      rw [hbo] at hw
      refine calls_of_wp hf hc ?_
      have hlen : (args.map (denV ρ b0)).toArray.size = args.length := by simp
      rw [hlen]
      refine run_sound hm fuel ρ b0 (start fn args n) _ [.code c] t _ W hg hw ht ?_ (.code .nil)
      exact
        { dfr := rfl
          len := by simp [start]
          tm := fun i => by
            intro _
            simp only [start]
            rcases Nat.lt_or_ge i args.length with hi | hi
            · simp [List.getD_eq_getElem?_getD, List.getElem?_append_left hi, Array.getElem?_append_left, hi]
            · simp only [List.getD_eq_getElem?_getD, List.getElem?_append_right hi, List.getElem?_replicate, Array.getD_eq_getD_getElem?]
              rw [Array.getElem?_append_right (by simpa using hi)]
              simp only [Array.getElem?_replicate, List.size_toArray, List.length_map]
              split <;> rfl
          tmi := fun x hx => by
            simp only [start, List.mem_append, List.mem_replicate] at hx
            rcases hx with hx | ⟨_, rfl⟩
            · exact idsOk_closed (List.all_eq_true.1 ha x hx)
            · rfl
          hp := fun id cs h => by simp [start] at h
          hpi := fun cs h => by simp [start] at h
          inj := fun i j hi => by simp [start] at hi
          lt := fun i hi => by simp [start] at hi
          pc := fun x hx => by simp [start] at hx
          pcc := fun x hx => by simp [start] at hx
          below := Below.refl _ _
          n := hn }
    · cases hw
  · cases hw
theorem calls_by {P : Program} {Γ : Ctx} {anns : List Ann} {f : FuncId} {args : List Tm} {n : Cnt} {fuel : Nat} {t : Tree} {et : TypeId} (ρ : Env) {W : World} {K : Value → Prop} {vs : List Value} (hm : P.follows .mixedOrders = true)
    (hw : walk P et Γ anns f args n fuel = some t) (he : ρ.et = et) (hn : ρ.has n) (hg : Γ.Ok P ρ W) (ht : t.holds K ρ) (hv : args.map (denV ρ b0) = vs) : Calls P f vs.toArray W (RetQ K W) := by
  subst he hv
  exact calls_of_walk hm hw hn hg ht
def slc0 : Slc := ⟨0, 0, true, 0, 0, 0, fun _ _ => Go.undef, ⟨0, 0, none⟩⟩
def slsOf (l : List Slc) : Nat → Slc := fun b => l.getD b slc0
theorem slsOf_zero (s : Slc) (l : List Slc) : slsOf (s :: l) 0 = s := rfl
theorem slsOf_succ (s : Slc) (l : List Slc) (n : Nat) : slsOf (s :: l) (n + 1) = slsOf l n := rfl
theorem slsOf_one (s t : Slc) (l : List Slc) : slsOf (s :: t :: l) 1 = t := rfl
theorem slsOk_nil {W : World} {sls : Nat → Slc} : SlsOk W sls [] := fun b k h => by simp at h
theorem slsOk_cons {W : World} {s : Slc} {l : List Slc} {k : List CK} {ks : List (List CK)} (h : SlOk W s k) (hl : SlsOk W (slsOf l) ks) : SlsOk W (slsOf (s :: l)) (k :: ks) := fun b q hq => by
  cases b with
  | zero => simp at hq; subst hq; exact h
  | succ b => exact hl b q (by simpa using hq)
theorem good_nil {P : Program} {ρ : Env} {W : World} : ∀ x ∈ ([] : List Con), x.Good P ρ W := fun x h => by cases h
theorem good_cons {P : Program} {ρ : Env} {W : World} {c : Con} {l : List Con} (h : c.Good P ρ W) (hl : ∀ x ∈ l, x.Good P ρ W) : ∀ x ∈ c :: l, x.Good P ρ W := fun x hx => by
  rcases List.mem_cons.1 hx with rfl | hx
  · exact h
  · exact hl x hx
theorem calls_eq {P : Program} {f : FuncId} {args : Array Value} {W : World} {r : Value} (h : Calls P f args W (RetQ (fun v => v = r) W)) : Calls P f args W fun e w' => e = .returned r ∧ Below W.heap.size W w' :=
  h.mono (by rintro e w' ⟨⟨x, rfl, rfl⟩, hb⟩; exact ⟨rfl, hb⟩)
end Go.Proofs.YtflckmhlobpfiaaDoor.Sx
