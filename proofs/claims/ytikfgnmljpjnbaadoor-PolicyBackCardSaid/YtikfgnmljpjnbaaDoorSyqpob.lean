/-
 Symbolic walks by reflection, with slices as what they hold: the walk.
-/
import Derived.Test.YtikfgnmljpjnbaaDoorSybpob
import Derived.Scope
namespace Go.Proofs.YtikfgnmljpjnbaaDoor.Sy
open Go Go.RowKit
set_option linter.unusedVariables false
set_option linter.unusedSimpArgs false
set_option linter.unnecessarySimpa false
/-! Part 10: the walk. -/

def Out.isCall : Out → Bool
 | .call .. | .mcall .. | .acall .. => true
 | _ => false
theorem evalOp_isCall {P : Program} {et : TypeId} {Γ : Ctx} {pc : List (Tm × Bool)} {tm : List Tm} {hp : List (List Tm)} {op : Op} {c : Tm} {out : Out} (h : evalOp P et Γ pc tm hp op = .ok c out) (hi : out.isCall = true) : ∃ f args, callWith et Γ hp f args = some (c, out) := by
 unfold evalOp at h
 split at h
 case h_23 cl =>
   unfold evalCall at h
   split at h
   · cases h
   · split at h
     · split at h
       · split at h
         · split at h
           · rename_i hcon
             obtain ⟨rfl, rfl⟩ := ev_ok h
             exact ⟨_, _, hcon⟩
           · cases h
         · cases h
       · split at h
         · split at h
           · rename_i hcon
             obtain ⟨rfl, rfl⟩ := ev_ok h
             exact ⟨_, _, hcon⟩
           · cases h
         · cases h
       · cases h
     · unfold evalBu evalCopy evalBuiltin evalAppend at h
       repeat' split at h
       all_goals first | (obtain ⟨_, rfl⟩ := ev_ok h; cases hi; done) | (cases h; done)
     · cases h
 case h_4 e =>
   unfold evalAlloc at h
   repeat' split at h
   all_goals first | (obtain ⟨_, rfl⟩ := ev_ok h; cases hi; done) | (cases h; done)
 case h_5 e x =>
   unfold evalBoxRo at h
   repeat' split at h
   all_goals first | (obtain ⟨_, rfl⟩ := ev_ok h; cases hi; done) | (cases h; done)
 case h_7 t len parts =>
   unfold evalBuildSlice at h
   repeat' split at h
   all_goals first | (obtain ⟨_, rfl⟩ := ev_ok h; cases hi; done) | (cases h; done)
 case h_9 t x y =>
   split at h
   · unfold evalStore at h
     repeat' split at h
     all_goals first | (obtain ⟨_, rfl⟩ := ev_ok h; cases hi; done) | (cases h; done)
   · cases h
 case h_13 s d x =>
   split at h
   · split at h
     · rename_i ev hmk
       unfold markT at hmk
       repeat' split at hmk
       all_goals first | (obtain rfl := Option.some.inj hmk; obtain ⟨_, rfl⟩ := ev_ok h; cases hi; done) | (cases hmk; done)
     · unfold evalConvX at h
       repeat' split at h
       all_goals first | (obtain ⟨_, _, rfl⟩ := ofO_ok h; cases hi; done) | (obtain ⟨_, rfl⟩ := ev_ok h; cases hi; done) | (cases h; done)
   · cases h
 case h_16 t l c' =>
   unfold evalMake at h
   repeat' split at h
   all_goals first | (obtain ⟨_, rfl⟩ := ev_ok h; cases hi; done) | (cases h; done)
 case h_17 t x l h' m =>
   split at h
   · unfold evalSlice at h
     repeat' split at h
     all_goals first | (obtain ⟨_, rfl⟩ := ev_ok h; cases hi; done) | (cases h; done)
   · cases h
 all_goals first
   | (obtain ⟨_, _, rfl⟩ := ofO_ok h; cases hi; done)
   | (repeat' split at h
      all_goals first | (obtain ⟨_, _, _, _, rfl⟩ := ofQ_ok h; cases hi; done) | (obtain ⟨_, _, rfl⟩ := ofP_ok h; cases hi; done) | (obtain ⟨_, _, rfl⟩ := ofO_ok h; cases hi; done) | (obtain ⟨_, rfl⟩ := ev_ok h; cases hi; done) | (cases h; done))
theorem evalOp_call {P : Program} {X : Cx} {Γ : Ctx} {pc : List (Tm × Bool)} {tm : List Tm} {hp : List (List Tm)} {op : Op} {c : Tm} {f : FuncId} {args : List Tm} {v : Tm} {eat : Option Nat} {xs : List Value}
   (hg : Γ.Ok P X.ρ) (hok : ∀ b off, X.w.heap.size ≤ b → X.ok b off) (hG : GlobOk Γ.G X.ok X.w) (htop : TopsOk X) (hlive : ∀ n, eat = some n → ∃ T, X.o n = some T) (hr : RelT X args xs) (hc : denB X.ρ X.β c = true) (h : evalOp P X.ρ.et Γ pc tm hp op = .ok c (.call f args v eat)) :
   Calls P f xs.toArray X.w (After X.ρ X.β v X.ok (exOf X.o eat) X.w) := by
 obtain ⟨f', args', hw⟩ := evalOp_isCall h rfl
 unfold callWith at hw
 split at hw
 · rename_i hcon
   obtain ⟨rfl, h2⟩ := Prod.mk.inj (Option.some.inj hw)
   obtain ⟨rfl, rfl, rfl, rfl⟩ := (Out.call.injEq _ _ _ _ _ _ _ _ ▸ h2 : _ ∧ _ ∧ _ ∧ _)
   exact findCon_sound hok hG htop hlive hr hg.l hcon hc
 · repeat' split at hw
   all_goals first | (obtain ⟨_, h2⟩ := Prod.mk.inj (Option.some.inj hw); cases h2; done) | cases hw
theorem evalOp_mcall {P : Program} {X : Cx} {W : World} {Γ : Ctx} {pc : List (Tm × Bool)} {tm : List Tm} {hp : List (List Tm)} {op : Op} {c : Tm} {f : FuncId} {args : List Tm} {v : Tm} {id : Nat} {cells : List Tm} {xs : List Value}
   (hg : Γ.Ok P X.ρ) (hok : ∀ b off, X.w.heap.size ≤ b → X.ok b off) (hG : GlobOk Γ.G X.ok X.w) (hh : HpOk X W hp) (hr : RelT X args xs) (hlt : ∀ cs, hp[id]? = some cs → cs ≠ [] → X.β id < X.w.heap.size ∧ ∀ off, ¬ X.ok (X.β id) off) (hne : cells ≠ []) (hc : denB X.ρ X.β c = true) (h : evalOp P X.ρ.et Γ pc tm hp op = .ok c (.mcall f args v id cells)) :
   Calls P f xs.toArray X.w (AfterM X.ρ X.β v cells X.ok (X.β id) X.w) := by
 obtain ⟨f', args', hw⟩ := evalOp_isCall h rfl
 unfold callWith at hw
 split at hw
 · obtain ⟨_, h2⟩ := Prod.mk.inj (Option.some.inj hw); cases h2
 · split at hw
   · rename_i hcon
     obtain ⟨rfl, h2⟩ := Prod.mk.inj (Option.some.inj hw)
     obtain ⟨rfl, rfl, rfl, rfl, rfl⟩ := (Out.mcall.injEq _ _ _ _ _ _ _ _ _ _ ▸ h2 : _ ∧ _ ∧ _ ∧ _ ∧ _)
     exact findM_sound hok hG hh hr hlt hne hg.m hcon hc
   · split at hw
     · obtain ⟨_, h2⟩ := Prod.mk.inj (Option.some.inj hw); cases h2
     · cases hw
theorem evalOp_acall {P : Program} {X : Cx} {Γ : Ctx} {pc : List (Tm × Bool)} {tm : List Tm} {hp : List (List Tm)} {op : Op} {c : Tm} {f : FuncId} {args : List Tm} {cells : List Tm} {xs : List Value}
   (hg : Γ.Ok P X.ρ) (hok : ∀ b off, X.w.heap.size ≤ b → X.ok b off) (hG : GlobOk Γ.G X.ok X.w) (hr : RelT X args xs) (hc : denB X.ρ X.β c = true) (h : evalOp P X.ρ.et Γ pc tm hp op = .ok c (.acall f args cells)) :
   Calls P f xs.toArray X.w (AfterA X.ρ X.β cells X.ok X.w) := by
 obtain ⟨f', args', hw⟩ := evalOp_isCall h rfl
 unfold callWith at hw
 split at hw
 · obtain ⟨_, h2⟩ := Prod.mk.inj (Option.some.inj hw); cases h2
 · split at hw
   · obtain ⟨_, h2⟩ := Prod.mk.inj (Option.some.inj hw); cases h2
   · split at hw
     · rename_i hcon
       obtain ⟨rfl, h2⟩ := Prod.mk.inj (Option.some.inj hw)
       obtain ⟨rfl, rfl, rfl⟩ := (Out.acall.injEq _ _ _ _ _ _ ▸ h2 : _ ∧ _ ∧ _)
       exact findA_sound hok hG hr hg.a hcon hc
     · cases hw
structure St where
 tm : List Tm
 hp : List (List Tm)
 pc : List (Tm × Bool)
 n : Cnt
 lv : List Nat
structure Head where
 st : St
 n : Cnt
 inv : Tm
 mes : Tm
structure Ann where
 id : Nat
 new : Cnt
 slots : List (Nat × Tm)
 heap : Option (List (List Tm))
 inv : Tm
 mes : Tm
 labs : Nat := 0
 old : List Nat := []
inductive It where
 | code (c : Code) | blk (id : Nat) | ops (all : Array Oper) (l : List Oper) | dops (all : Array Oper) (l : List Oper) (s0 : St) (acc : List (Option (Tm × Out))) | back (h : Head) | again (c : Code) | scp (c : Code) | gbk (l : Nat) (h : Head)
inductive Tree where
 | ret (v : Tm) | br (c : Tm) (x y : Tree) | need (c : Tm) (x : Tree) | loop (new : Cnt) (pre inv : Tm) (x : Tree) | back (inv m m0 : Tm)

def inScope (n : Cnt) : Tm → Bool
 | .var i => decide (i < n.i)
 | .bvar i => decide (i < n.b)
 | .opq i => decide (i < n.v)
 | .str i => decide (i < n.s)
 | .i2 _ a b => inScope n a && inScope n b
 | .b2 _ a b => inScope n a && inScope n b
 | .veq a b => inScope n a && inScope n b
 | .cons a b => inScope n a && inScope n b
 | .ep _ a b _ => inScope n a && inScope n b
 | .wrap _ a => inScope n a
 | .ofI a => inScope n a
 | .ofB a => inScope n a
 | .vop _ a => inScope n a
 | .hs _ _ a => inScope n a
 | .blen a => inScope n a
 | .iapp _ a => inScope n a
 | .not a => inScope n a
 | .bapp _ a => inScope n a
 | .int _ a => inScope n a
 | .bool a => inScope n a
 | .agg a => inScope n a
 | .tup a => inScope n a
 | .err a => inScope n a
 | .iface _ a => inScope n a
 | .vapp _ a => inScope n a
 | .sapp _ a => inScope n a
 | .clo _ a => inScope n a
 | _ => true
def Env.has (ρ : Env) (n : Cnt) : Prop := ρ.iv.length = n.i ∧ ρ.bv.length = n.b ∧ ρ.vv.length = n.v ∧ ρ.sv.length = n.s
def Env.more (ρ : Env) (li : List Int) (lb : List Bool) (lv : List Value) (ls : List ByteArray) : Env :=
 { ρ with iv := ρ.iv ++ li, bv := ρ.bv ++ lb, vv := ρ.vv ++ lv, sv := ρ.sv ++ ls }
def AllN {α : Type} : Nat → (List α → Prop) → Prop
 | 0, p => p []
 | n + 1, p => ∀ a, AllN n fun l => p (a :: l)
theorem AllN.all {α : Type} : ∀ {n : Nat} {p : List α → Prop}, AllN n p → ∀ l, l.length = n → p l
 | 0, p, h, l, hl => by rw [List.length_eq_zero_iff.mp hl]; exact h
 | n + 1, p, h, [], hl => by simp at hl
 | n + 1, p, h, a :: l, hl => (h a).all l (by simpa using hl)
def Tree.holds (K : Value → Prop) : Tree → Env → Prop
 | .ret v, ρ => K (denV ρ b0 v)
 | .br c x y, ρ => (Sy.holds ρ c → x.holds K ρ) ∧ (¬ Sy.holds ρ c → y.holds K ρ)
 | .need c x, ρ => Sy.holds ρ c ∧ (Sy.holds ρ c → x.holds K ρ)
 | .loop new pre inv x, ρ => Sy.holds ρ pre ∧ AllN new.i fun li => AllN new.b fun lb => AllN new.v fun lv => AllN new.s fun ls => Sy.holds (ρ.more li lb lv ls) inv → x.holds K (ρ.more li lb lv ls)
 | .back inv m m0, ρ => Sy.holds ρ inv ∧ (denI ρ b0 m).toNat < (denI ρ b0 m0).toNat

def bare : Tm → Bool → Tm × Bool
 | .not a, b => bare a (!b)
 | t, b => (t, b)
theorem bare_den (ρ : Env) (β : Nat → Nat) : ∀ (t : Tm) (b : Bool), denB ρ β t = b → denB ρ β (bare t b).1 = (bare t b).2 := by
 intro t
 induction t with
 | not a ih => intro b h; simp only [bare]; refine ih (!b) ?_; simp only [denB] at h; rw [← h]; simp
 | _ => intro b h; exact h
theorem bare_closed : ∀ (t : Tm) (b : Bool), closed t = true → closed (bare t b).1 = true := by
 intro t
 induction t with
 | not a ih => intro b h; exact ih (!b) h
 | _ => intro b h; exact h
def St.learn (st : St) (t : Tm) (b : Bool) : St := { st with pc := st.pc ++ [bare t b] }
def St.put (st : St) (d : Option Tmp) (v : Tm) : St := { st with tm := match d with | some d => st.tm.set d v | none => st.tm }
def St.idsOk (st : St) (v : Tm) : Bool := idsIn (fun i => decide (i < st.hp.length)) v
def lvDone (lv : List Nat) (m : Nat) (v : Tm) (eat : Option Nat) : List Nat := (if hasNew v then [m] else []) ++ lv.filter fun n => some n != eat
def St.done (st : St) (d : Option Tmp) : Out → St
 | .val v => st.put d v
 | .alloc cells _ => { st.put d (.ptr st.hp.length 0) with hp := st.hp ++ [cells] }
 | .store id off cells => { st.put d .junk with hp := st.hp.modify id fun cs => putAll cs off cells }
 | .mk v eat => { st.put d (relab st.hp.length v) with hp := st.hp ++ [[]], lv := lvDone st.lv st.hp.length v eat }
 | .call _ _ v eat => { st.put d (relab st.hp.length v) with hp := st.hp ++ [[]], lv := lvDone st.lv st.hp.length v eat }
 | .mcall _ _ v id cells => { st.put d v with hp := st.hp.modify id fun cs => putAll cs 0 cells }
 | .acall _ _ cells => { st.put d (.ptr st.hp.length 0) with hp := st.hp ++ [cells] }
def eatOk (lv : List Nat) (eat : Option Nat) : Bool :=
 match eat with
 | some n => lv.contains n
 | none => true
def St.outOk (st : St) : Out → Bool
 | .val v => st.idsOk v
 | .alloc cells _ => cells.all st.idsOk
 | .store id off cells => (match st.hp[id]? with | some cs => decide (off + cells.length ≤ cs.length) | none => false) && cells.all st.idsOk
 | .mk v eat => closed v && eatOk st.lv eat
 | .call _ _ v eat => closed v && eatOk st.lv eat
 | .mcall _ _ v id cells => closed v && cells.all closed && (match st.hp[id]? with | some cs => decide (cells.length = cs.length) && !cs.isEmpty | none => false)
 | .acall _ _ cells => cells.all closed && !cells.isEmpty
def popTo (id : Nat) : List It → Option (List It)
 | [] => none
 | .blk j :: k => if id = j then some k else popTo id k
 | _ :: k => popTo id k
inductive Goes2 where
 | back (h : Head) | at_ (rest body : Code) (k : List It)
def goTo (l : Nat) : List It → Option Goes2
 | [] => none
 | .gbk l' h :: k => if l' = l then some (.back h) else goTo l k
 | .scp body :: k => match findLabel body l with
   | some rest => some (.at_ rest body k)
   | none => goTo l k
 | _ :: k => goTo l k
inductive Want where | yes | no | ask (c : Tm) | bad
def wantedS (st : St) (all : Array Oper) (o : Oper) : Want :=
 match o.guard with
 | none => .yes
 | some (j, b) => match ((all[j]?).bind (·.dst)).bind (getT st.tm) with
   | some (.bool c) => match decT st.pc c with
     | some x => if x = b then .yes else .no
     | none => .ask c
   | some (.cst _) => .no
   | _ => .bad
def branch (t : Tm) (x y : Option Tree) : Option Tree :=
 if closed t then match x, y with
   | some a, some b => some (.br t a b)
   | _, _ => none
 else none
def needT (t : Tm) (x : Option Tree) : Option Tree :=
 match t with
 | .tt true => x
 | t => if closed t then x.map fun a => .need t a else none
def resT (P : Program) (st : St) : ResultVar → Option Tm
 | .tmp t => getT st.tm t
 | .cell a t => match getT st.tm a with
   | some (.ptr id off) => evalLoad P st.hp t id off
   | _ => none
def resAll (P : Program) (st : St) : List ResultVar → Option (List Tm)
 | [] => some []
 | r :: rs => match resT P st r, resAll P st rs with
   | some a, some l => some (a :: l)
   | _, _ => none
inductive Sh where | v | s (K : SK) | o (e : TypeId) (K : SK) | agg (l : Sh) | tup (l : Sh) | nil | cons (a b : Sh)
 deriving DecidableEq
def asSh : Sh → Tm → Option (Tm × Option Nat)
 | .v, t => if flat t && closed t then some (t, none) else none
 | .s K, .hs _ K' t => if K = K' ∧ closed t = true then some (.hs .no K t, none) else none
 | .s K, .cst .nilS => some (.hs .no K (.tup .nil), none)
 | .o e K, .hs (.id n e') K' t => if e = e' ∧ K = K' ∧ closed t = true then some (.hs (.new e) K t, some n) else none
 | .agg l, .agg m => match asSh l m with | some (t, n) => some (.agg t, n) | none => none
 | .tup l, .tup m => match asSh l m with | some (t, n) => some (.tup t, n) | none => none
 | .nil, .nil => some (.nil, none)
 | .cons a b, .cons c d => match asSh a c, asSh b d with
   | some (x, m), some (y, n) => (match m, n with
     | some _, some _ => none
     | some m, none => some (.cons x y, some m)
     | none, n => some (.cons x y, n))
   | _, _ => none
 | _, _ => none
def oneOf : List Tm → Tm
 | [v] => v
 | l => .tup (ofL l)
def retT (P : Program) (sh : Sh) (st : St) (rs : List ResultVar) : Option Tree :=
 match resAll P st rs with
 | some l => match asSh sh (oneOf l) with
   | some (v, n) => if eatOk st.lv n then some (.ret v) else none
   | none => none
 | none => none
def assigned : Code → List Nat
 | .region _ ops _ => ops.toList.filterMap (·.dst)
 | .seq a b => assigned a ++ assigned b
 | .cond _ a b => assigned a ++ assigned b
 | .block _ b => assigned b
 | .loop b => assigned b
 | .scope b => assigned b
 | _ => []
def headTm (slots : List (Nat × Tm)) (as : List Nat) : Nat → List Tm → List Tm
 | _, [] => []
 | i, t :: r => (match slots.find? (fun p => p.1 == i) with
   | some p => p.2
   | none => if as.contains i then .junk else t) :: headTm slots as (i + 1) r
def Cnt.add (a b : Cnt) : Cnt := ⟨a.i + b.i, a.b + b.b, a.v + b.v, a.s + b.s⟩
def pairs : Tm → Tm → List (Tm × Tm)
 | .agg l, .agg m => pairs l m
 | .tup l, .tup m => pairs l m
 | .cons a b, .cons c d => pairs a c ++ pairs b d
 | .int _ (.iapp _ l), .int _ (.iapp _ m) => pairs l m
 | .bool (.bapp _ l), .bool (.bapp _ m) => pairs l m
 | p, t => [(p, t)]
def bindI (ps : List (Tm × Tm)) (j : Nat) : Tm := (ps.findSome? fun | (.int _ (.var i), .int _ x) => if i = j then some x else none | _ => none).getD .junk
def bindB (ps : List (Tm × Tm)) (j : Nat) : Tm := (ps.findSome? fun | (.bool (.bvar i), .bool x) => if i = j then some x else none | _ => none).getD .junk
def bindV (ps : List (Tm × Tm)) (j : Nat) : Tm := (ps.findSome? fun | (.opq i, x) => if i = j then some x else none | (.hs _ _ (.opq i), .hs _ _ x) => if i = j then some x else none | (.hs _ _ (.opq i), .cst .nilS) => if i = j then some (.tup .nil) else none | _ => none).getD .junk
def bindS (ps : List (Tm × Tm)) (j : Nat) : Tm := (ps.findSome? fun | (.str i, x) => if i = j then some x else none | _ => none).getD .junk
def pairsOf (h : Head) (st : St) : List (Tm × Tm) := (h.st.tm.zip st.tm ++ (h.st.hp.zip st.hp).flatMap fun p => p.1.zip p.2).flatMap fun p => pairs p.1 p.2
def solve (h : Head) (st : St) : Sub :=
 let ps := pairsOf h st
 { i := (List.range h.st.n.i).map fun j => if j < h.n.i then .var j else bindI ps j
   b := (List.range h.st.n.b).map fun j => if j < h.n.b then .bvar j else bindB ps j
   v := (List.range h.st.n.v).map fun j => if j < h.n.v then .opq j else bindV ps j
   s := (List.range h.st.n.s).map fun j => if j < h.n.s then .str j else bindS ps j }
inductive LSrc where | lab (n : Nat) | nilS (e : TypeId) (sz : Nat)
 deriving DecidableEq
def bindL (ps : List (Tm × Tm)) (n : Nat) : Option LSrc := ps.findSome? fun
 | (.hs (.id m e) _ _, .hs (.id m' _) _ _) => if m = n then some (.lab m') else none
 | (.hs (.id m e) K _, .cst .nilS) => if m = n then some (.nilS e K.wd) else none
 | _ => none
def labFits (lm : Nat → Option LSrc) : Lab → Lab → Bool
 | .no, _ => true
 | .id n e, .id n' e' => decide (e = e') && decide (lm n = some (.lab n'))
 | _, _ => false
def labNil (lm : Nat → Option LSrc) (sz : Nat) : Lab → Bool
 | .no => true
 | .id n e => decide (lm n = some (.nilS e sz))
 | _ => false
def fitT (σ : Sub) (lm : Nat → Option LSrc) : Tm → Tm → Bool
 | .junk, _ => true
 | .hs lab K q, .hs lab' K' t => decide (K = K') && t == subst σ q && labFits lm lab lab'
 | .hs lab K q, .cst .nilS => subst σ q == .tup .nil && labNil lm K.wd lab
 | .agg l, .agg m => l != .junk && fitT σ lm l m
 | .tup l, .tup m => l != .junk && fitT σ lm l m
 | .clo f l, .clo f' m => l != .junk && f == f' && fitT σ lm l m
 | .ep K q (.lit i) j, .ep K' t (.lit i') j' => decide (K = K' ∧ i = i' ∧ j = j') && t == subst σ q
 | .cons a b, .cons c d => b != .junk && fitT σ lm a c && fitT σ lm b d
 | p, t => flat p && flat t && t == subst σ p
def fitsL (σ : Sub) (lm : Nat → Option LSrc) : List Tm → List Tm → Bool
 | [], [] => true
 | p :: ps, t :: ts => fitT σ lm p t && fitsL σ lm ps ts
 | _, _ => false
def fitsH (σ : Sub) (lm : Nat → Option LSrc) : List (List Tm) → List (List Tm) → Bool
 | [], _ => true
 | [] :: ps, [] => fitsH σ lm ps []
 | [] :: ps, _ :: ts => fitsH σ lm ps ts
 | p :: ps, t :: ts => fitsL σ lm p t && fitsH σ lm ps ts
 | _, _ => false
def lmOf (h : Head) (st : St) (n : Nat) : Option LSrc := bindL (pairsOf h st) n
def lvFits (lm : Nat → Option LSrc) (lv lv' : List Nat) : Bool :=
 lv.all (fun n => match lm n with | some (.lab n') => lv'.contains n' | some (.nilS _ _) => true | none => false) &&
 decide (lv.filterMap fun n => match lm n with | some (.lab n') => some n' | _ => none).Nodup && decide lv.Nodup
def fits (h : Head) (σ : Sub) (st : St) : Bool :=
 σ.ok && (σ.i.all fun t => closed t) && (σ.b.all fun t => closed t) && (σ.v.all fun t => closed t) && (σ.s.all fun t => closed t) && fitsL σ (lmOf h st) h.st.tm st.tm && fitsH σ (lmOf h st) h.st.hp st.hp && lvFits (lmOf h st) h.st.lv st.lv
def shiftL (m : Nat) : Tm → Tm
 | .hs (.id n e) K t => .hs (.id (if 1000 ≤ n then n - 1000 + m else n) e) K t
 | .agg l => .agg (shiftL m l)
 | .tup l => .tup (shiftL m l)
 | .cons a b => .cons (shiftL m a) (shiftL m b)
 | t => t
def headOf (an : Ann) (st : St) (b : Code) : Head :=
 let m := st.hp.length
 { st := { tm := headTm (an.slots.map fun p => (p.1, shiftL m p.2)) (assigned b) 0 st.tm, hp := ((an.heap.map fun l => l.map fun cs => cs.map (shiftL m)).getD st.hp) ++ List.replicate an.labs [], pc := st.pc, n := st.n.add an.new, lv := (List.range an.labs).map (fun k => m + k) ++ an.old }, n := st.n, inv := an.inv, mes := an.mes }
def headOk (h : Head) : Bool :=
 (h.st.pc.all fun p => inScope h.n p.1 && closed p.1) && (h.st.tm.all fun t => inScope h.st.n t && idsIn (fun i => decide (i < h.st.hp.length)) t) && (h.st.hp.all fun cs => cs.all fun t => inScope h.st.n t && idsIn (fun i => decide (i < h.st.hp.length)) t) && closed h.inv && closed h.mes && inScope h.st.n h.inv && inScope h.st.n h.mes && h.st.lv.all fun n => decide (h.st.hp[n]? = some [])
def blkId : List It → Option Nat
 | .blk id :: _ => some id
 | _ => none
def findAnn (anns : List Ann) (id : Option Nat) : Option Ann := anns.find? fun a => some a.id == id
def maskOf (ms : List Nat) (o : Oper) : Nat := o.after.toList.foldr (fun e m => if Region.binds .any e then (2 ^ e.on ||| ms.getD e.on 0) ||| m else m) 0
def mkMasks : List Oper → List Nat → List Nat
 | [], ms => ms
 | o :: r, ms => mkMasks r (ms ++ [maskOf ms o])
def reach (ms : List Nat) (j g : Nat) : Bool := (ms.getD j 0).testBit g
def writer (all : Array Oper) (d : Nat) : Option Nat := (List.range all.size).find? fun g => (all[g]?).bind (·.dst) == some d
def allocsOf : Nat → List (Option (Tm × Out)) → List (Nat × List Tm)
 | _, [] => []
 | i, some (_, .alloc cells _) :: r => (i, cells) :: allocsOf (i + 1) r
 | i, some (_, .mk _ _) :: r => (i, []) :: allocsOf (i + 1) r
 | i, some (_, .call _ _ _ _) :: r => (i, []) :: allocsOf (i + 1) r
 | i, some (_, .acall _ _ cells) :: r => (i, cells) :: allocsOf (i + 1) r
 | i, _ :: r => allocsOf (i + 1) r
def allowed (ms : List Nat) (al : List (Nat × List Tm)) (base j id : Nat) : Bool :=
 decide (id < base) || (match al[id - base]? with
   | some (g, _) => reach ms j g
   | none => false)
def seen (ms : List Nat) (all : Array Oper) (j d : Nat) (t0 t : Tm) : Tm :=
 match writer all d with
 | some g => if reach ms g j then t0 else t
 | none => t
def maskTm (ms : List Nat) (all : Array Oper) (j : Nat) (t0 : List Tm) (l : List Nat) : Nat → List Tm → List Tm
 | _, [] => []
 | i, t :: r => (if l.contains i then seen ms all j i (t0.getD i .junk) t else .junk) :: maskTm ms all j t0 l (i + 1) r
def storesOf : Nat → List (Option (Tm × Out)) → List (Nat × Nat × Nat × List Tm)
 | _, [] => []
 | i, some (_, .store id off cells) :: r => (i, id, off, cells) :: storesOf (i + 1) r
 | i, some (_, .mcall _ _ _ id cells) :: r => (i, id, 0, cells) :: storesOf (i + 1) r
 | i, _ :: r => storesOf (i + 1) r
def applySt (p : Nat → Bool) (id : Nat) : List (Nat × Nat × Nat × List Tm) → List Tm → List Tm
 | [], cs => cs
 | s :: r, cs => applySt p id r (if s.2.1 = id ∧ p s.1 = true then putAll cs s.2.2.1 s.2.2.2 else cs)
def viewCs (ms : List Nat) (j id : Nat) : List (Nat × Nat × Nat × List Tm) → List Tm → List Tm
 | [], cs => cs
 | s :: r, cs => viewCs ms j id r (if s.2.1 = id then (if reach ms j s.1 then putAll cs s.2.2.1 s.2.2.2 else if s.1 = j ∨ reach ms s.1 j = true then cs else putAll cs s.2.2.1 (s.2.2.2.map fun _ => .junk)) else cs)
def apartSt (s t : Nat × Nat × Nat × List Tm) : Bool := s.2.1 != t.2.1 || decide (s.2.2.1 + s.2.2.2.length ≤ t.2.2.1) || decide (t.2.2.1 + t.2.2.2.length ≤ s.2.2.1)
def disjOk (ms : List Nat) : List (Nat × Nat × Nat × List Tm) → Bool
 | [] => true
 | s :: r => (r.all fun t => apartSt s t || reach ms t.1 s.1) && disjOk ms r
def viewHp (ms : List Nat) (al : List (Nat × List Tm)) (sts : List (Nat × Nat × Nat × List Tm)) (hp : List (List Tm)) (j : Nat) : List (List Tm) :=
 (hp ++ al.map fun x => if reach ms j x.1 then x.2 else []).mapIdx fun id cs => viewCs ms j id sts cs
def viewSt (ms : List Nat) (al : List (Nat × List Tm)) (sts : List (Nat × Nat × Nat × List Tm)) (all : Array Oper) (s0 s1 : St) (o : Oper) (j : Nat) : St := { tm := maskTm ms all j s0.tm (o.looksAt all) 0 s1.tm, hp := viewHp ms al sts s0.hp j, pc := s1.pc, n := s1.n, lv := [] }
def eatsOf : Nat → List (Option (Tm × Out)) → List (Nat × Nat)
 | _, [] => []
 | i, some (_, out) :: r => (match eatOf out with | some n => [(i, n)] | none => []) ++ eatsOf (i + 1) r
 | i, none :: r => eatsOf (i + 1) r
def madeBy (acc : List (Option (Tm × Out))) (g : Nat) : Bool :=
 match acc[g]? with
 | some (some (_, .mk v _)) => hasNew v
 | some (some (_, .call _ _ v _)) => hasNew v
 | _ => false
def eatAt (ms : List Nat) (al : List (Nat × List Tm)) (acc : List (Option (Tm × Out))) (s0 : St) (j : Nat) : Option Nat → Bool
 | none => true
 | some n => s0.lv.contains n || (match al[n - s0.hp.length]? with
   | some (g, _) => decide (s0.hp.length ≤ n) && reach ms j g && madeBy acc g
   | none => false)
def newAt (al : List (Nat × List Tm)) (base j : Nat) (s1 : St) (od : Option Tmp) (cells : List Tm) (v : Nat → Tm) : Bool :=
 (List.range al.length).any fun k => (al[k]?).map (·.1) == some j && (al[k]?).map (·.2) == some cells && (match od with | some d => s1.tm[d]? == some (v (base + k)) || decide (s1.tm.length ≤ d) | none => true)
def opOk (P : Program) (et : TypeId) (Γ : Ctx) (ms : List Nat) (al : List (Nat × List Tm)) (sts : List (Nat × Nat × Nat × List Tm)) (acc : List (Option (Tm × Out))) (all : Array Oper) (s0 s1 : St) (j : Nat) (o : Oper) (x : Option (Tm × Out)) : Bool :=
 (o.looksAt all).all (fun d => match writer all d with | some g => reach ms j g || reach ms g j | none => true) &&
 (match o.dst with | some d => writer all d == some j | none => true) &&
 match x with
 | none => (match wantedS (viewSt ms al sts all s0 s1 o j) all o with | .no => true | _ => false) && (match o.dst with | some d => s1.tm[d]? == some (.cst .undef) || decide (s1.tm.length ≤ d) | none => true)
 | some (c, out) => (match wantedS (viewSt ms al sts all s0 s1 o j) all o with | .yes => true | _ => false) &&
     (match evalOp P et Γ s1.pc (maskTm ms all j s0.tm (o.looksAt all) 0 s1.tm) (viewHp ms al sts s0.hp j) o.op with | .ok c' out' => c' == c && out' == out | _ => false) &&
     (match out with
      | .val v => idsIn (allowed ms al s0.hp.length j) v && (match o.dst with | some d => s1.tm[d]? == some v || decide (s1.tm.length ≤ d) | none => true)
      | .alloc cells _ => cells.all (fun t => idsIn (allowed ms al s0.hp.length j) t) && newAt al s0.hp.length j s1 o.dst cells (fun k => .ptr k 0)
      | .store id off cells => allowed ms al s0.hp.length j id && cells.all (fun t => idsIn (allowed ms al s0.hp.length j) t) && (match (s0.hp ++ al.map (·.2))[id]? with | some cs => decide (off + cells.length ≤ cs.length) | none => false) && (match o.dst with | some d => s1.tm[d]? == some .junk || decide (s1.tm.length ≤ d) | none => true)
      | .mk v eat => closed v && eatAt ms al acc s0 j eat && newAt al s0.hp.length j s1 o.dst [] (fun k => relab k v)
      | .call _ _ v eat => closed v && eatAt ms al acc s0 j eat && newAt al s0.hp.length j s1 o.dst [] (fun k => relab k v)
      | .mcall _ _ v id cells => closed v && cells.all closed && allowed ms al s0.hp.length j id && (match (s0.hp ++ al.map (·.2))[id]? with | some cs => decide (cells.length = cs.length) && !cs.isEmpty | none => false) && (match o.dst with | some d => s1.tm[d]? == some v || decide (s1.tm.length ≤ d) | none => true)
      | .acall _ _ cells => cells.all closed && !cells.isEmpty && newAt al s0.hp.length j s1 o.dst cells (fun k => .ptr k 0))
def opsOk (P : Program) (et : TypeId) (Γ : Ctx) (ms : List Nat) (al : List (Nat × List Tm)) (sts : List (Nat × Nat × Nat × List Tm)) (acc : List (Option (Tm × Out))) (all : Array Oper) (s0 s1 : St) : Nat → List Oper → List (Option (Tm × Out)) → Bool
 | _, [], [] => true
 | j, o :: l, x :: r => opOk P et Γ ms al sts acc all s0 s1 j o x && opsOk P et Γ ms al sts acc all s0 s1 (j + 1) l r
 | _, _, _ => false
def slotsOk (all : Array Oper) : Nat → List Tm → List Tm → Bool
 | _, [], [] => true
 | d, a :: as, b :: bs => ((writer all d).isSome || a == b) && slotsOk all (d + 1) as bs
 | _, _, _ => false
def downOk : Nat → List Oper → Bool
 | _, [] => true
 | i, o :: r => (o.after.toList.all fun e => !Region.binds .any e || decide (e.on < i)) && downOk (i + 1) r
def lvOk (al : List (Nat × List Tm)) (acc : List (Option (Tm × Out))) (s0 s1 : St) : Bool :=
 s1.lv.all fun n => !((eatsOf 0 acc).any fun x => x.2 == n) && (s0.lv.contains n || (match al[n - s0.hp.length]? with
   | some (g, _) => decide (s0.hp.length ≤ n) && madeBy acc g
   | none => false))
def drawOk (P : Program) (et : TypeId) (Γ : Ctx) (all : Array Oper) (s0 s1 : St) (outs : List (Option (Tm × Out))) : Bool :=
 let ms := mkMasks all.toList []
 let al := allocsOf 0 outs
 let sts := storesOf 0 outs
 downOk 0 all.toList && (al.map (·.1)).Nodup && slotsOk all 0 s0.tm s1.tm && (sts.map (·.1)).Nodup && disjOk ms sts && s1.hp == (s0.hp ++ al.map (·.2)).mapIdx (fun id cs => applySt (fun _ => true) id sts cs) && s1.n == s0.n && opsOk P et Γ ms al sts outs all s0 s1 0 all.toList outs && ((eatsOf 0 outs).map (·.2)).Nodup && ((eatsOf 0 outs).map (·.1)).Nodup && lvOk al outs s0 s1

def kOf : Tm → Option SK
 | .int k _ => some (.int k)
 | .bool _ => some .bool
 | .hs _ K _ => some (.sl K)
 | t => if strT t then some .str else none
def kindCells : List Tm → Option SK
 | [] => some .nil
 | c :: r => match kOf c, kindCells r with
   | some a, some b => some (.cons a b)
   | _, _ => none
def frzT (id : Nat) (K : SK) (c : Tm) : Tm → Tm
 | .ptr i off => if i = id then .ep K c (.lit 0) off else .ptr i off
 | t => if idsIn (fun i => i != id) t then t else .junk
def St.frz (st : St) (id : Nat) : Option St :=
 match st.hp[id]? with
 | some cs => match kindCells cs with
   | some K => match asAll K 0 cs with
     | some l => if 0 < K.wd ∧ K.wd = cs.length ∧ l.all closed = true then some { st with tm := st.tm.map (frzT id K (.tup (ofL l))), hp := (st.hp.map fun cs => cs.map (frzT id K (.tup (ofL l)))).set id [] } else none
     | none => none
   | none => none
 | none => none
def rootId (tm : List Tm) (ops : List Oper) : Nat → Operand → Option Nat
 | 0, _ => none
 | n + 1, x => match x with
   | .tmp d => match ops.find? (fun o => o.dst == some d) with
     | some o => (match o.op with
       | .fieldAddr _ y _ => rootId tm ops n y
       | .nilCheck y => rootId tm ops n y
       | .move y => rootId tm ops n y
       | _ => none)
     | none => (match evalO tm x with
       | some (.ptr id _) => some id
       | _ => none)
   | _ => none
def sliced (tm : List Tm) (ops : List Oper) : Option Nat :=
 if ops.any fun o => match o.op with
   | .call c => (match c.callee with
     | .builtin .copy => true
     | _ => false)
   | _ => false then none else
 ops.findSome? fun o => match o.op with
   | .slice _ x _ _ _ => rootId tm ops 3 x
   | _ => none
def St.frzFor (st : St) (ops : Array Oper) : Option St := (sliced st.tm ops.toList).bind st.frz
def forceN {α : Type} (n : Nat) (k : Nat → α) : α := match n with
 | 0 => k 0
 | m + 1 => k (m + 1)
def forceT {α : Type} : Tm → (Tm → α) → α
 | .i2 o a b, k => forceT a fun a => forceT b fun b => k (.i2 o a b)
 | .b2 o a b, k => forceT a fun a => forceT b fun b => k (.b2 o a b)
 | .veq a b, k => forceT a fun a => forceT b fun b => k (.veq a b)
 | .cons a b, k => forceT a fun a => forceT b fun b => k (.cons a b)
 | .wrap w a, k => forceT a fun a => k (.wrap w a)
 | .int w a, k => forceT a fun a => k (.int w a)
 | .bool a, k => forceT a fun a => k (.bool a)
 | .not a, k => forceT a fun a => k (.not a)
 | .err a, k => forceT a fun a => k (.err a)
 | .agg a, k => forceT a fun a => k (.agg a)
 | .tup a, k => forceT a fun a => k (.tup a)
 | .blen a, k => forceT a fun a => k (.blen a)
 | .ofI a, k => forceT a fun a => k (.ofI a)
 | .ofB a, k => forceT a fun a => k (.ofB a)
 | .iface n a, k => forceT a fun a => k (.iface n a)
 | .iapp n a, k => forceT a fun a => k (.iapp n a)
 | .bapp n a, k => forceT a fun a => k (.bapp n a)
 | .vapp n a, k => forceT a fun a => k (.vapp n a)
 | .sapp n a, k => forceT a fun a => k (.sapp n a)
 | .clo n a, k => forceT a fun a => k (.clo n a)
 | .vop o a, k => forceT a fun a => k (.vop o a)
 | .hs (.id n e) K a, k => forceN n fun n => forceT a fun a => k (.hs (.id n e) K a)
 | .hs .no K a, k => forceT a fun a => k (.hs .no K a)
 | .hs (.new e) K a, k => forceT a fun a => k (.hs (.new e) K a)
 | .ep K a b j, k => forceT a fun a => forceT b fun b => forceN j fun j => k (.ep K a b j)
 | .ptr i j, k => forceN i fun i => forceN j fun j => k (.ptr i j)
 | .asl i o n c, k => forceN i fun i => forceN o fun o => forceN n fun n => forceN c fun c => k (.asl i o n c)
 | t, k => k t
theorem forceN_eq {α : Type} (n : Nat) (k : Nat → α) : forceN n k = k n := by cases n <;> rfl
theorem forceT_eq {α : Type} (t : Tm) (k : Tm → α) : forceT t k = k t := by
 induction t generalizing k with
 | hs l K a ih => cases l <;> simp only [forceT, forceN_eq, ih]
 | _ => simp only [forceT, forceN_eq, *]
def forceL {α : Type} : List Tm → (List Tm → α) → α
 | [], k => k []
 | a :: l, k => forceT a fun a => forceL l fun l => k (a :: l)
theorem forceL_eq {α : Type} (l : List Tm) (k : List Tm → α) : forceL l k = k l := by
 induction l generalizing k with
 | nil => rfl
 | cons a l ih => simp only [forceL, forceT_eq, ih]
def forceH {α : Type} : List (List Tm) → (List (List Tm) → α) → α
 | [], k => k []
 | a :: l, k => forceL a fun a => forceH l fun l => k (a :: l)
theorem forceH_eq {α : Type} (l : List (List Tm)) (k : List (List Tm) → α) : forceH l k = k l := by
 induction l generalizing k with
 | nil => rfl
 | cons a l ih => simp only [forceH, forceL_eq, ih]
def forceP {α : Type} : List (Tm × Bool) → (List (Tm × Bool) → α) → α
 | [], k => k []
 | (a, true) :: l, k => forceT a fun a => forceP l fun l => k ((a, true) :: l)
 | (a, false) :: l, k => forceT a fun a => forceP l fun l => k ((a, false) :: l)
theorem forceP_eq {α : Type} (l : List (Tm × Bool)) (k : List (Tm × Bool) → α) : forceP l k = k l := by
 induction l generalizing k with
 | nil => rfl
 | cons a l ih => obtain ⟨a, b⟩ := a; cases b <;> simp only [forceP, forceT_eq, ih]
def forceNs {α : Type} : List Nat → (List Nat → α) → α
 | [], k => k []
 | a :: l, k => forceN a fun a => forceNs l fun l => k (a :: l)
theorem forceNs_eq {α : Type} (l : List Nat) (k : List Nat → α) : forceNs l k = k l := by
 induction l generalizing k with
 | nil => rfl
 | cons a l ih => simp only [forceNs, forceN_eq, ih]
def forceSt {α : Type} (s : St) (k : St → α) : α :=
 forceL s.tm fun tm => forceH s.hp fun hp => forceP s.pc fun pc => forceNs s.lv fun lv => forceN s.n.i fun i => forceN s.n.b fun b => forceN s.n.v fun v => forceN s.n.s fun s => k ⟨tm, hp, pc, ⟨i, b, v, s⟩, lv⟩
theorem forceSt_eq {α : Type} (s : St) (k : St → α) : forceSt s k = k s := by
 simp only [forceSt, forceL_eq, forceH_eq, forceP_eq, forceNs_eq, forceN_eq]
def forceE {α : Type} : Option Nat → (Option Nat → α) → α
 | none, k => k none
 | some n, k => forceN n fun n => k (some n)
theorem forceE_eq {α : Type} (n : Option Nat) (k : Option Nat → α) : forceE n k = k n := by cases n <;> simp only [forceE, forceN_eq]
def forceO {α : Type} : Out → (Out → α) → α
 | .val v, k => forceT v fun v => k (.val v)
 | .alloc c e, k => forceL c fun c => k (.alloc c e)
 | .store i o c, k => forceN i fun i => forceN o fun o => forceL c fun c => k (.store i o c)
 | .mk v e, k => forceT v fun v => forceE e fun e => k (.mk v e)
 | .call f a v e, k => forceL a fun a => forceT v fun v => forceE e fun e => k (.call f a v e)
 | .mcall f a v i c, k => forceL a fun a => forceT v fun v => forceN i fun i => forceL c fun c => k (.mcall f a v i c)
 | .acall f a c, k => forceL a fun a => forceL c fun c => k (.acall f a c)
theorem forceO_eq {α : Type} (o : Out) (k : Out → α) : forceO o k = k o := by
 cases o <;> simp only [forceO, forceN_eq, forceT_eq, forceL_eq, forceE_eq]
def forceA {α : Type} : List (Option (Tm × Out)) → (List (Option (Tm × Out)) → α) → α
 | [], k => k []
 | none :: l, k => forceA l fun l => k (none :: l)
 | some (c, o) :: l, k => forceT c fun c => forceO o fun o => forceA l fun l => k (some (c, o) :: l)
theorem forceA_eq {α : Type} (l : List (Option (Tm × Out))) (k : List (Option (Tm × Out)) → α) : forceA l k = k l := by
 induction l generalizing k with
 | nil => rfl
 | cons a l ih => obtain _ | ⟨c, o⟩ := a <;> simp only [forceA, forceT_eq, forceO_eq, ih]
def run (P : Program) (et : TypeId) (Γ : Ctx) (anns : List Ann) (sh : Sh) (rs : List ResultVar) : Nat → St → List It → Option Tree
 | 0, _, _ => none
 | n + 1, st, [] => retT P sh st rs
 | n + 1, st, .code c :: k =>
   match c with
   | .skip => run P et Γ anns sh rs n st k
   | .seq a b => run P et Γ anns sh rs n st (.code a :: .code b :: k)
   | .cond c x y => match evalO st.tm c with
     | some (.bool t) => match decT st.pc t with
       | some true => run P et Γ anns sh rs n st (.code x :: k)
       | some false => run P et Γ anns sh rs n st (.code y :: k)
       | none => branch t (run P et Γ anns sh rs n (st.learn t true) (.code x :: k)) (run P et Γ anns sh rs n (st.learn t false) (.code y :: k))
     | _ => none
   | .block id b => run P et Γ anns sh rs n st (.code b :: .blk id :: k)
   | .exit id => match popTo id k with
     | some k' => run P et Γ anns sh rs n st k'
     | none => none
   | .ret => retT P sh st rs
   | .region id ops false => match st.frzFor ops with
     | some st' => run P et Γ anns sh rs n st' (.code (.region id ops false) :: k)
     | none => run P et Γ anns sh rs n st (.ops ops ops.toList :: k)
   | .region id ops true => match st.frzFor ops with
     | some st' => run P et Γ anns sh rs n st' (.code (.region id ops true) :: k)
     | none => run P et Γ anns sh rs n st (.dops ops ops.toList st [] :: k)
   | .loop b => match findAnn anns (blkId k) with
     | some an =>
       (let h := headOf an st b
        let σ := solve h st
        if headOk h && fits h σ st && closed (subst σ h.inv) then (run P et Γ anns sh rs n h.st (.code b :: .back h :: k)).map fun x => .loop an.new (subst σ h.inv) h.inv x else none)
     | none => run P et Γ anns sh rs n st (.code b :: .again b :: k)
   | .scope b => run P et Γ anns sh rs n st (.code b :: .scp b :: k)
   | .label _ => run P et Γ anns sh rs n st k
   | .goto l => match goTo l k with
     | some (.back h) =>
       (let σ := solve h st
        if fits h σ st && closed (subst σ h.inv) && closed (subst σ h.mes) then some (.back (subst σ h.inv) (subst σ h.mes) h.mes) else none)
     | some (.at_ rest body k') => match findAnn anns (some (1000000 + l)) with
       | some an =>
         (let h := headOf an st rest
          let σ := solve h st
          if headOk h && fits h σ st && closed (subst σ h.inv) then (run P et Γ anns sh rs n h.st (.code rest :: .gbk l h :: .scp body :: k')).map fun x => .loop an.new (subst σ h.inv) h.inv x else none)
       | none => run P et Γ anns sh rs n st (.code rest :: .scp body :: k')
     | none => none
   | _ => none
 | n + 1, st, .scp _ :: k => run P et Γ anns sh rs n st k
 | n + 1, st, .gbk _ _ :: k => run P et Γ anns sh rs n st k
 | n + 1, st, .again b :: k => run P et Γ anns sh rs n st (.code b :: .again b :: k)
 | n + 1, st, .blk _ :: k => run P et Γ anns sh rs n st k
 | n + 1, st, .back h :: k =>
   (let σ := solve h st
    if fits h σ st && closed (subst σ h.inv) && closed (subst σ h.mes) then some (.back (subst σ h.inv) (subst σ h.mes) h.mes) else none)
 | n + 1, st, .ops all [] :: k => run P et Γ anns sh rs n st k
 | n + 1, st, .ops all (o :: l) :: k =>
   match wantedS st all o with
   | .no => run P et Γ anns sh rs n (st.put o.dst (.cst .undef)) (.ops all l :: k)
   | .ask c => branch c (run P et Γ anns sh rs n (st.learn c true) (.ops all (o :: l) :: k)) (run P et Γ anns sh rs n (st.learn c false) (.ops all (o :: l) :: k))
   | .yes => match evalOp P et Γ st.pc st.tm st.hp o.op with
     | .ok c out => if st.outOk out then needT c (run P et Γ anns sh rs n (st.done o.dst out) (.ops all l :: k)) else none
     | .ask c => branch c (run P et Γ anns sh rs n (st.learn c true) (.ops all (o :: l) :: k)) (run P et Γ anns sh rs n (st.learn c false) (.ops all (o :: l) :: k))
     | .bad => none
   | .bad => none
 | n + 1, st, .dops all [] s0 acc :: k => forceSt s0 fun s0 => forceSt st fun st => forceA acc fun acc => if drawOk P et Γ all s0 st acc then run P et Γ anns sh rs n st k else none
 | n + 1, st, .dops all (o :: l) s0 acc :: k =>
   match wantedS st all o with
   | .no => run P et Γ anns sh rs n (st.put o.dst (.cst .undef)) (.dops all l s0 (acc ++ [none]) :: k)
   | .ask c => branch c (run P et Γ anns sh rs n (st.learn c true) (.dops all (o :: l) s0 acc :: k)) (run P et Γ anns sh rs n (st.learn c false) (.dops all (o :: l) s0 acc :: k))
   | .yes => match evalOp P et Γ st.pc st.tm st.hp o.op with
     | .ok c out => if st.outOk out then needT c (run P et Γ anns sh rs n (st.done o.dst out) (.dops all l s0 (acc ++ [some (c, out)]) :: k)) else none
     | .ask c => branch c (run P et Γ anns sh rs n (st.learn c true) (.dops all (o :: l) s0 acc :: k)) (run P et Γ anns sh rs n (st.learn c false) (.dops all (o :: l) s0 acc :: k))
     | .bad => none
   | .bad => none
/-! Part 11: what is known of the world. -/

structure Base where
 W : World
 ok0 : Nat → Nat → Prop
 okI : Nat → Nat → Prop
 ex : Option Nat
 G : Glob
structure Base.Ok (B : Base) : Prop where
 new : ∀ b off, B.W.heap.size ≤ b → B.ok0 b off
 exo : ∀ b, some b = B.ex → ∀ off, B.ok0 b off
 sub : ∀ b off, B.ok0 b off → B.okI b off ∨ some b = B.ex
 gl : GlobOk B.G B.okI B.W
def okOf (ok0 : Nat → Nat → Prop) (own : Nat → Prop) (β : Nat → Nat) (o : Nat → Option Top) (b off : Nat) : Prop :=
 ok0 b off ∧ (∀ i, own i → β i ≠ b) ∧ ∀ n T, o n = some T → topBlk T.u = some b → off < lenOfV T.u * T.sz
structure Wok (B : Base) (own lab : Nat → Prop) (β : Nat → Nat) (o : Nat → Option Top) (w : World) : Prop where
 inj : ∀ i j, own i → own j → β i = β j → i = j
 lt : ∀ i, own i → B.W.heap.size ≤ β i ∧ β i < w.heap.size
 fr : B.W.grownBy w B.ex
 keep : ∀ b off, b < B.W.heap.size → B.okI b off → okOf B.ok0 own β o b off ∧ w.cell? ⟨b, off, none⟩ = B.W.cell? ⟨b, off, none⟩
 top : ∀ n T, o n = some T → lab n ∧ TopOk w T ∧ ∀ b, topBlk T.u = some b → (B.W.heap.size ≤ b ∨ some b = B.ex) ∧ (∀ i, own i → β i ≠ b) ∧ ∀ n' T', o n' = some T' → topBlk T'.u = some b → n' = n
section
variable {B : Base} {own lab : Nat → Prop} {β : Nat → Nat} {o : Nat → Option Top} {w : World}
theorem Wok.hok (k : Wok B own lab β o w) (hB : B.Ok) : ∀ b off, w.heap.size ≤ b → okOf B.ok0 own β o b off := fun b off h => by
 refine ⟨hB.new b off (Nat.le_trans k.fr.size h), fun i hi he => ?_, fun n T hT hb => ?_⟩
 · have := (k.lt i hi).2; omega
 · have := (k.top n T hT).2.1.lt hb; omega
theorem Wok.tops (k : Wok B own lab β o w) (ρ : Env) : TopsOk ⟨ρ, β, o, okOf B.ok0 own β o, w⟩ := fun n T hT => ⟨(k.top n T hT).2.1, fun b hb off ho => ho.2.2 n T hT hb⟩
theorem Wok.glob (k : Wok B own lab β o w) (hB : B.Ok) : GlobOk B.G (okOf B.ok0 own β o) w := fun x hx => by
 obtain ⟨h1, h2, h3⟩ := hB.gl x hx
 obtain ⟨k1, k2⟩ := k.keep x.1 x.2.1 h2 h1
 exact ⟨k1, Nat.lt_of_lt_of_le h2 k.fr.size, k2.trans h3⟩
theorem grown_trans {a b c : World} {r s : Option Nat} (h : a.grownBy b r) (k : b.grownBy c s) (hs : ∀ x, s = some x → a.heap.size ≤ x ∨ some x = r) : a.grownBy c r :=
 ⟨k.os.trans h.os, k.tape.trans h.tape, k.output.trans h.output, Nat.le_trans h.size k.size, fun i hi hne => (k.block i (Nat.lt_of_lt_of_le hi h.size) (fun e => by
   rcases hs i e.symm with h' | h'
   · omega
   · exact hne h')).trans (h.block i hi hne)⟩
theorem Wok.done (k : Wok B own lab β o w) (hB : B.Ok) {eat : Option Nat} (he : ∀ n, eat = some n → ∃ T, o n = some T) {w' : World} {o' : Nat → Option Top} {ok' : Nat → Nat → Prop} (d : Done (okOf B.ok0 own β o) (exOf o eat) w w' o' ok') {m : Nat} (hm : ¬ lab m) {lab' : Nat → Prop} (hl : ∀ n, lab n → lab' n) (hlm : lab' m) :
   Wok B own lab' β (fun n => if n = m then o' 0 else if some n = eat then none else o n) w' ∧
   Kept (okOf B.ok0 own β o) (okOf B.ok0 own β (fun n => if n = m then o' 0 else if some n = eat then none else o n)) w w' ∧
   Kept ok' (okOf B.ok0 own β (fun n => if n = m then o' 0 else if some n = eat then none else o n)) w' w' ∧
   (∀ i, own i → w'.heap[β i]? = w.heap[β i]?) := by
 obtain ⟨o2, ho2⟩ : ∃ o2 : Nat → Option Top, o2 = fun n => if n = m then o' 0 else if some n = eat then none else o n := ⟨_, rfl⟩
 rw [← ho2]
 have homn : ∀ T, o m ≠ some T := fun T hT => hm (k.top m T hT).1
 have hexb : ∀ b, exOf o eat = some b → ∃ n T, eat = some n ∧ o n = some T ∧ topBlk T.u = some b := fun b hb => by
   cases eat with
   | none => cases hb
   | some n =>
     obtain ⟨T, hT⟩ := he n rfl
     simp only [exOf, hT, Option.bind_some] at hb
     exact ⟨n, T, rfl, hT, hb⟩
 have hold : ∀ n T, o2 n = some T → (n = m ∧ o' 0 = some T) ∨ (n ≠ m ∧ some n ≠ eat ∧ o n = some T) := fun n T hT => by
   rw [ho2] at hT
   dsimp only at hT
   split at hT
   · rename_i h; exact .inl ⟨h, hT⟩
   · rename_i h
     split at hT
     · cases hT
     · rename_i h2; exact .inr ⟨h, h2, hT⟩
 have hkeep : Kept (okOf B.ok0 own β o) (okOf B.ok0 own β o2) w w' := ⟨d.fr.size, fun b off hb ho => by
   obtain ⟨k1, k2⟩ := d.keep.cell b off hb ho
   refine ⟨⟨ho.1, ho.2.1, fun n T hT hbT => ?_⟩, k2⟩
   rcases hold n T hT with ⟨_, h⟩ | ⟨_, _, h⟩
   · exact ((d.top 0 T h).2.2 b hbT).2 off k1
   · exact ho.2.2 n T h hbT⟩
 have hown : ∀ i, own i → w'.heap[β i]? = w.heap[β i]? := fun i hi => d.fr.block (β i) (k.lt i hi).2 (fun e => by
   obtain ⟨n, T, _, hT, hb⟩ := hexb _ e.symm
   exact ((k.top n T hT).2.2 _ hb).2.1 i hi rfl)
 have hsame : ∀ n T b, o n = some T → some n ≠ eat → topBlk T.u = some b → w'.heap[b]? = w.heap[b]? := fun n T b hT hne hb => d.fr.block b ((k.top n T hT).2.1.lt hb) (fun e => by
   obtain ⟨n', T', he', hT', hb'⟩ := hexb _ e.symm
   have := ((k.top n T hT).2.2 b hb).2.2 n' T' hT' hb'
   subst this
   exact hne he'.symm)
 refine ⟨⟨k.inj, fun i hi => ⟨(k.lt i hi).1, Nat.lt_of_lt_of_le (k.lt i hi).2 d.fr.size⟩, grown_trans k.fr d.fr fun x hx => ?_, fun b off hb ho => ?_, fun n T hT => ?_⟩, hkeep, ⟨Nat.le_refl _, fun b off hb ho => ⟨?_, rfl⟩⟩, hown⟩
 · obtain ⟨n, T, _, hT, hb⟩ := hexb x hx
   exact ((k.top n T hT).2.2 x hb).1
 · obtain ⟨h1, h2⟩ := k.keep b off hb ho
   obtain ⟨h3, h4⟩ := hkeep.cell b off (Nat.lt_of_lt_of_le hb k.fr.size) h1
   exact ⟨h3, h4.trans h2⟩
 · rcases hold n T hT with ⟨rfl, h⟩ | ⟨hne, hne2, h⟩
   · obtain ⟨_, t1, t2⟩ := d.top 0 T h
     refine ⟨hlm, t1, fun b hb => ?_⟩
     obtain ⟨t3, _⟩ := t2 b hb
     refine ⟨?_, fun i hi => ?_, fun n' T' hT' hb' => ?_⟩
     · rcases t3 with t3 | t3
       · exact .inl (Nat.le_trans k.fr.size t3)
       · obtain ⟨n0, T0, _, hT0, hb0⟩ := hexb b t3.symm
         exact ((k.top n0 T0 hT0).2.2 b hb0).1
     · rcases t3 with t3 | t3
       · have := (k.lt i hi).2; omega
       · obtain ⟨n0, T0, _, hT0, hb0⟩ := hexb b t3.symm
         exact ((k.top n0 T0 hT0).2.2 b hb0).2.1 i hi
     · rcases hold n' T' hT' with ⟨h', _⟩ | ⟨_, hne', h'⟩
       · exact h'
       · rcases t3 with t3 | t3
         · have := (k.top n' T' h').2.1.lt hb'; omega
         · obtain ⟨n0, T0, he0, hT0, hb0⟩ := hexb b t3.symm
           have := ((k.top n' T' h').2.2 b hb').2.2 n0 T0 hT0 hb0
           subst this
           exact absurd he0.symm hne'
   · obtain ⟨t0, t1, t2⟩ := k.top n T h
     refine ⟨hl n t0, t1.same fun b hb => hsame n T b h hne2 hb, fun b hb => ?_⟩
     obtain ⟨t3, t4, t5⟩ := t2 b hb
     refine ⟨t3, t4, fun n' T' hT' hb' => ?_⟩
     rcases hold n' T' hT' with ⟨rfl, h'⟩ | ⟨_, _, h'⟩
     · obtain ⟨_, _, u2⟩ := d.top 0 T' h'
       rcases (u2 b hb').1 with u3 | u3
       · have := t1.lt hb; omega
       · obtain ⟨n0, T0, he0, hT0, hb0⟩ := hexb b u3.symm
         have := t5 n0 T0 hT0 hb0
         subst this
         exact absurd he0.symm hne2
     · exact t5 n' T' h' hb'
 · rcases d.sub b off ho with h | h
   · refine ⟨h.1, h.2.1, fun n T hT hbT => ?_⟩
     rcases hold n T hT with ⟨_, h'⟩ | ⟨_, _, h'⟩
     · exact ((d.top 0 T h').2.2 b hbT).2 off ho
     · exact h.2.2 n T h' hbT
   · obtain ⟨n0, T0, he0, hT0, hb0⟩ := hexb b h.symm
     obtain ⟨q1, q2, q3⟩ := (k.top n0 T0 hT0).2.2 b hb0
     refine ⟨?_, q2, fun n T hT hbT => ?_⟩
     · rcases q1 with q1 | q1
       · exact hB.new b off q1
       · exact hB.exo b q1 off
     · rcases hold n T hT with ⟨_, h'⟩ | ⟨_, hne, h'⟩
       · exact ((d.top 0 T h').2.2 b hbT).2 off ho
       · have := q3 n T h' hbT
         subst this
         exact absurd he0.symm hne
theorem Wok.alloc (k : Wok B own lab β o w) {m : Nat} (hm : ¬ own m) {own' : Nat → Prop} (ho : ∀ i, own' i → i ≠ m → own i) (ho2 : ∀ i, own i → own' i) (ob : Obj) :
   Wok B own' lab (fun i => if i = m then w.heap.size else β i) o (w.alloc ob) ∧
   Kept (okOf B.ok0 own β o) (okOf B.ok0 own' (fun i => if i = m then w.heap.size else β i) o) w (w.alloc ob) ∧ (∀ i, own i → β i = if i = m then w.heap.size else β i) := by
 have hag : ∀ i, own i → β i = if i = m then w.heap.size else β i := fun i hi => by
   rw [if_neg]; rintro rfl; exact hm hi
 have hb : ∀ k, k < w.heap.size → (w.alloc ob).heap[k]? = w.heap[k]? := fun k hk => Below.heap_alloc w ob k hk
 have hkeep : Kept (okOf B.ok0 own β o) (okOf B.ok0 own' (fun i => if i = m then w.heap.size else β i) o) w (w.alloc ob) := ⟨by simp, fun b off hbl h => ⟨⟨h.1, fun i hi => by
   show (if i = m then w.heap.size else β i) ≠ b
   split
   · omega
   · rename_i hne; exact h.2.1 i (ho i hi hne), h.2.2⟩, World.cell?_of_block (hb b hbl)⟩⟩
 refine ⟨⟨fun i j hi hj he => ?_, fun i hi => ?_, grown_trans k.fr ⟨rfl, rfl, rfl, by simp, fun k hk _ => hb k hk⟩ (s := none) (fun x hx => by cases hx), fun b off hbl h => ?_, fun n T hT => ?_⟩, hkeep, hag⟩
 · by_cases h1 : i = m <;> by_cases h2 : j = m
   · rw [h1, h2]
   · rw [if_pos h1, if_neg h2] at he
     have := (k.lt j (ho j hj h2)).2; omega
   · rw [if_neg h1, if_pos h2] at he
     have := (k.lt i (ho i hi h1)).2; omega
   · rw [if_neg h1, if_neg h2] at he
     exact k.inj i j (ho i hi h1) (ho j hj h2) he
 · split
   · exact ⟨k.fr.size, by simp⟩
   · rename_i hne
     have := k.lt i (ho i hi hne)
     exact ⟨this.1, by simp; omega⟩
 · obtain ⟨h1, h2⟩ := k.keep b off hbl h
   obtain ⟨h3, h4⟩ := hkeep.cell b off (Nat.lt_of_lt_of_le hbl k.fr.size) h1
   exact ⟨h3, h4.trans h2⟩
 · obtain ⟨t0, t1, t2⟩ := k.top n T hT
   refine ⟨t0, t1.same fun b hbT => hb b (t1.lt hbT), fun b hbT => ?_⟩
   obtain ⟨t3, t4, t5⟩ := t2 b hbT
   refine ⟨t3, fun i hi => ?_, t5⟩
   show (if i = m then w.heap.size else β i) ≠ b
   split
   · have := t1.lt hbT; omega
   · rename_i hne; exact t4 i (ho i hi hne)
theorem heap_setCells (b : Nat) : ∀ (vs : List Value) (o : Nat) (w : World) (k : Nat), k ≠ b → (w.setCells b o vs).heap[k]? = w.heap[k]?
 | [], _, _, _, _ => rfl
 | v :: r, o, w, k, h => by rw [World.setCells, heap_setCells b r _ _ k h]; exact Below.heap_setCell w _ _ k h
theorem size_setCells (b : Nat) : ∀ (vs : List Value) (o : Nat) (w : World), (w.setCells b o vs).heap.size = w.heap.size
 | [], _, _ => rfl
 | v :: r, o, w => by rw [World.setCells, size_setCells b r]; simp [World.setCell]
theorem grown_setCells (b : Nat) (vs : List Value) (o : Nat) (w : World) : w.grownBy (w.setCells b o vs) (some b) := by
 have : ∀ (vs : List Value) (o : Nat) (w : World), (w.setCells b o vs).os = w.os ∧ (w.setCells b o vs).tape = w.tape ∧ (w.setCells b o vs).output = w.output := by
   intro vs
   induction vs with
   | nil => intro o w; exact ⟨rfl, rfl, rfl⟩
   | cons v r ih => intro o w; obtain ⟨h1, h2, h3⟩ := ih (o + 1) (w.setCell ⟨b, o, none⟩ v); exact ⟨h1, h2, h3⟩
 obtain ⟨h1, h2, h3⟩ := this vs o w
 exact ⟨h1, h2, h3, by rw [size_setCells]; exact Nat.le_refl _, fun k _ hk => heap_setCells b vs o w k (fun e => hk (by rw [e]))⟩
theorem Wok.store (k : Wok B own lab β o w) {id : Nat} (hid : own id) (off : Nat) (vs : List Value) :
   Wok B own lab β o (w.setCells (β id) off vs) ∧ Kept (okOf B.ok0 own β o) (okOf B.ok0 own β o) w (w.setCells (β id) off vs) := by
 have hkeep : Kept (okOf B.ok0 own β o) (okOf B.ok0 own β o) w (w.setCells (β id) off vs) := ⟨by rw [size_setCells]; exact Nat.le_refl _, fun b f hb h => ⟨h, World.cell?_of_block (heap_setCells _ vs off w b (fun e => h.2.1 id hid e.symm))⟩⟩
 refine ⟨⟨k.inj, fun i hi => by rw [size_setCells]; exact k.lt i hi, grown_trans k.fr (grown_setCells (β id) vs off w) (fun x hx => ?_), fun b f hb h => ?_, fun n T hT => ?_⟩, hkeep⟩
 · obtain rfl := Option.some.inj hx
   exact .inl (k.lt id hid).1
 · obtain ⟨h1, h2⟩ := k.keep b f hb h
   obtain ⟨h3, h4⟩ := hkeep.cell b f (Nat.lt_of_lt_of_le hb k.fr.size) h1
   exact ⟨h3, h4.trans h2⟩
 · obtain ⟨t0, t1, t2⟩ := k.top n T hT
   exact ⟨t0, t1.same fun b hb => heap_setCells _ vs off w b (fun e => (t2 b hb).2.1 id hid e.symm), t2⟩
end
theorem rel_new {ρ : Env} {β β2 : Nat → Nat} {o o2 : Nat → Option Top} {ok' ok2 : Nat → Nat → Prop} {w' : World} {t : Tm} {v : Value} (hc : closed t = true) (hk : Kept ok' ok2 w' w') (h : Rel ⟨ρ, β, o, ok', w'⟩ t v) : Rel ⟨ρ, β2, o2, ok2, w'⟩ t v :=
 h.mono (X' := ⟨ρ, β2, o2, ok2, w'⟩) (p := fun _ => false) { ρ := rfl, β := fun i hi => (by cases hi), o := fun i hi => (by cases hi), k := hk } hc
section
variable {B : Base} {own lab : Nat → Prop} {β : Nat → Nat} {o : Nat → Option Top} {w : World}
theorem Wok.wrote (k : Wok B own lab β o w) {id : Nat} (hid : own id) {w' : World} {ok' : Nat → Nat → Prop} (hg : w.grownBy w' (some (β id))) (hk : Kept (okOf B.ok0 own β o) ok' w w') (hs : ∀ b off, ok' b off → okOf B.ok0 own β o b off) :
   Wok B own lab β o w' ∧ Kept (okOf B.ok0 own β o) (okOf B.ok0 own β o) w w' ∧ Kept ok' (okOf B.ok0 own β o) w' w' := by
 have hkeep : Kept (okOf B.ok0 own β o) (okOf B.ok0 own β o) w w' := ⟨hk.size, fun b f hb h => ⟨h, (hk.cell b f hb h).2⟩⟩
 refine ⟨⟨k.inj, fun i hi => ⟨(k.lt i hi).1, Nat.lt_of_lt_of_le (k.lt i hi).2 hg.size⟩, grown_trans k.fr hg (fun x hx => ?_), fun b f hb h => ?_, fun n T hT => ?_⟩, hkeep, ⟨Nat.le_refl _, fun b off _ h => ⟨hs b off h, rfl⟩⟩⟩
 · obtain rfl := Option.some.inj hx
   exact .inl (k.lt id hid).1
 · obtain ⟨h1, h2⟩ := k.keep b f hb h
   obtain ⟨h3, h4⟩ := hkeep.cell b f (Nat.lt_of_lt_of_le hb k.fr.size) h1
   exact ⟨h3, h4.trans h2⟩
 · obtain ⟨t0, t1, t2⟩ := k.top n T hT
   exact ⟨t0, t1.same fun b hb => hg.block b (t1.lt hb) (fun e => (t2 b hb).2.1 id hid (Option.some.inj e).symm), t2⟩
theorem Wok.acalled (k : Wok B own lab β o w) (hB : B.Ok) {m b : Nat} (hm : ¬ own m) {own' : Nat → Prop} (ho : ∀ i, own' i → i ≠ m → own i) {w' : World} {ok' : Nat → Nat → Prop} (hg : w.grownBy w' none) (hk : Kept (okOf B.ok0 own β o) ok' w w') (hs : ∀ b off, ok' b off → okOf B.ok0 own β o b off) (hb1 : w.heap.size ≤ b) (hb2 : b < w'.heap.size) (hbo : ∀ off, ¬ ok' b off) :
   Wok B own' lab (fun i => if i = m then b else β i) o w' ∧ Kept (okOf B.ok0 own β o) (okOf B.ok0 own' (fun i => if i = m then b else β i) o) w w' ∧ Kept ok' (okOf B.ok0 own' (fun i => if i = m then b else β i) o) w' w' ∧ (∀ i, own i → β i = if i = m then b else β i) := by
 have hag : ∀ i, own i → β i = if i = m then b else β i := fun i hi => by
   rw [if_neg]; rintro rfl; exact hm hi
 have hb : ∀ k, k < w.heap.size → w'.heap[k]? = w.heap[k]? := fun k hk => hg.block k hk (fun e => by cases e)
 have hkeep : Kept (okOf B.ok0 own β o) (okOf B.ok0 own' (fun i => if i = m then b else β i) o) w w' := ⟨hg.size, fun c off hbl h => ⟨⟨h.1, fun i hi => by
   show (if i = m then b else β i) ≠ c
   split
   · omega
   · rename_i hne; exact h.2.1 i (ho i hi hne), h.2.2⟩, World.cell?_of_block (hb c hbl)⟩⟩
 refine ⟨⟨fun i j hi hj he => ?_, fun i hi => ?_, grown_trans k.fr hg (fun x hx => by cases hx), fun c off hbl h => ?_, fun n T hT => ?_⟩, hkeep, ⟨Nat.le_refl _, fun c off _ h => ⟨⟨(hs c off h).1, fun i hi => ?_, (hs c off h).2.2⟩, rfl⟩⟩, hag⟩
 · by_cases h1 : i = m <;> by_cases h2 : j = m
   · rw [h1, h2]
   · rw [if_pos h1, if_neg h2] at he
     have := (k.lt j (ho j hj h2)).2; omega
   · rw [if_neg h1, if_pos h2] at he
     have := (k.lt i (ho i hi h1)).2; omega
   · rw [if_neg h1, if_neg h2] at he
     exact k.inj i j (ho i hi h1) (ho j hj h2) he
 · split
   · exact ⟨Nat.le_trans k.fr.size hb1, hb2⟩
   · rename_i hne
     have := k.lt i (ho i hi hne)
     exact ⟨this.1, Nat.lt_of_lt_of_le this.2 hg.size⟩
 · obtain ⟨h1, h2⟩ := k.keep c off hbl h
   obtain ⟨h3, h4⟩ := hkeep.cell c off (Nat.lt_of_lt_of_le hbl k.fr.size) h1
   exact ⟨h3, h4.trans h2⟩
 · obtain ⟨t0, t1, t2⟩ := k.top n T hT
   refine ⟨t0, t1.same fun c hbT => hb c (t1.lt hbT), fun c hbT => ?_⟩
   obtain ⟨t3, t4, t5⟩ := t2 c hbT
   refine ⟨t3, fun i hi => ?_, t5⟩
   show (if i = m then b else β i) ≠ c
   split
   · have := t1.lt hbT; omega
   · rename_i hne; exact t4 i (ho i hi hne)
 · show (if i = m then b else β i) ≠ c
   split
   · rintro rfl; exact hbo off h
   · rename_i hne; exact (hs c off h).2.1 i (ho i hi hne)
end
theorem relab_move {ρ : Env} {β : Nat → Nat} {o' o2 : Nat → Option Top} {ok' ok2 : Nat → Nat → Prop} {w' : World} {m : Nat} (hk : Kept ok' ok2 w' w') (ho : o2 m = o' 0) : ∀ v, closed v = true →
   (∀ x, Rel ⟨ρ, β, o', ok', w'⟩ (relab 0 v) x → Rel ⟨ρ, β, o2, ok2, w'⟩ (relab m v) x) ∧ (∀ xs, RelL ⟨ρ, β, o', ok', w'⟩ (relab 0 v) xs → RelL ⟨ρ, β, o2, ok2, w'⟩ (relab m v) xs) := by
 intro v
 induction v with
 | hs lab K t _ =>
   intro hc
   cases lab with
   | no => exact ⟨fun x h => ⟨(deep_mono hk _).1 _ _ h.1, fun _ _ h => by cases h⟩, fun xs h => by simpa [relab, RelL] using h⟩
   | new e =>
     refine ⟨fun x h => ⟨(deep_mono hk _).1 _ _ h.1, fun n e' hl T hT => ?_⟩, fun xs h => by simpa [relab, RelL] using h⟩
     obtain ⟨rfl, rfl⟩ := Lab.id.inj hl
     exact h.2 0 e rfl T (ho.symm.trans hT)
   | id n e => simp [closed, idsIn] at hc
 | ep K t i j _ _ =>
   intro _
   refine ⟨fun x h => ?_, fun xs h => by simpa [relab, RelL] using h⟩
   obtain ⟨b, off, n, cap, h1, h2, h3, h4⟩ := h
   exact ⟨b, off, n, cap, (deep_mono hk _).1 _ _ h1, h2, h3, h4⟩
 | agg l ih =>
   intro hc
   have := (ih hc).2
   refine ⟨fun x h => ?_, fun xs h => by simpa [relab, RelL] using h⟩
   obtain ⟨vs, h1, h2⟩ := h
   exact ⟨vs, h1, this vs h2⟩
 | tup l ih =>
   intro hc
   have := (ih hc).2
   refine ⟨fun x h => ?_, fun xs h => by simpa [relab, RelL] using h⟩
   obtain ⟨vs, h1, h2⟩ := h
   exact ⟨vs, h1, this vs h2⟩
 | clo f l ih =>
   intro hc
   have := (ih hc).2
   refine ⟨fun x h => ?_, fun xs h => by simpa [relab, RelL] using h⟩
   obtain ⟨vs, h1, h2⟩ := h
   exact ⟨vs, h1, this vs h2⟩
 | cons a b iha ihb =>
   intro hc
   simp only [closed, idsIn, Bool.and_eq_true] at hc
   refine ⟨fun x h => by simp only [relab, Rel, denV] at h ⊢; exact h, fun xs h => ?_⟩
   cases xs with
   | nil => exact h.elim
   | cons x r => exact ⟨(iha hc.1).1 x h.1, (ihb hc.2).2 r h.2⟩
 | _ => intro _; exact ⟨fun x h => h, fun xs h => by simpa [relab, RelL] using h⟩
theorem BlkOk.go {X X' : Cx} {W : World} {id : Nat} {cs : List Tm} {p : Nat → Bool} (h : BlkOk X W id cs) (g : Goes p X X') (hp : ∀ t ∈ cs, idsIn p t = true) (hβ : X'.β id = X.β id) (hb : cs ≠ [] → X'.w.heap[X.β id]? = X.w.heap[X.β id]?) : BlkOk X' W id cs := by
 intro off c hc
 obtain ⟨h1, h2, ⟨v, h3, h4⟩, h5⟩ := h off c hc
 have hne : cs ≠ [] := by rintro rfl; simp at hc
 have hbl := hb hne
 rw [hβ]
 exact ⟨h1, Nat.lt_of_lt_of_le h2 g.k.size, ⟨v, by rw [World.cell?_of_block (a := ⟨X.β id, off, none⟩) hbl]; exact h3, h4.mono g (hp c (List.mem_of_getElem? hc))⟩, by rw [World.frozen?_of_block (a := ⟨X.β id, off, none⟩) hbl]; exact h5⟩
/-! Part 12: a state and the program's. -/

def ownOf (hp : List (List Tm)) (i : Nat) : Prop := ∃ ci, hp[i]? = some ci ∧ ci ≠ []
def labOf (hp : List (List Tm)) (n : Nat) : Prop := hp[n]? = some []
abbrev cxOf (B : Base) (ρ : Env) (β : Nat → Nat) (o : Nat → Option Top) (hp : List (List Tm)) (w : World) : Cx := ⟨ρ, β, o, okOf B.ok0 (ownOf hp) β o, w⟩
structure Match (B : Base) (ρ : Env) (β : Nat → Nat) (o : Nat → Option Top) (st : St) (a : Act) (w : World) : Prop where
 dfr : a.defers = []
 len : st.tm.length = a.tmps.size
 tm : TmOk (cxOf B ρ β o st.hp w) st.tm a
 tmi : ∀ t ∈ st.tm, st.idsOk t = true
 hp : HpOk (cxOf B ρ β o st.hp w) B.W st.hp
 hpi : ∀ cs ∈ st.hp, ∀ t ∈ cs, st.idsOk t = true
 wk : Wok B (ownOf st.hp) (labOf st.hp) β o w
 pc : PcOk ρ b0 st.pc
 pcc : ∀ x ∈ st.pc, closed x.1 = true
 n : ρ.has st.n
 live : ∀ n ∈ st.lv, ∃ T, o n = some T
section
variable {B : Base} {ρ : Env} {β : Nat → Nat} {o : Nat → Option Top} {st : St} {a : Act} {w : World}
theorem Match.pcb (m : Match B ρ β o st a w) : PcOk ρ β st.pc :=
 fun x hx => by rw [(closed_den (m.pcc x hx) β b0).2.1]; exact m.pc x hx
theorem tmOk_put {X : Cx} {tm : List Tm} {a : Act} (ht : TmOk X tm a) (hl : tm.length = a.tmps.size) (d : Nat) {v : Tm} {x : Value} (hr : Rel X v x) : TmOk X (tm.set d v) (a.put (some d) x) := by
 intro i
 have h0 := ht i
 simp only [Act.put, List.getD_eq_getElem?_getD, Array.getD_eq_getD_getElem?, List.getElem?_set, Array.getElem?_setIfInBounds] at h0 ⊢
 by_cases hd : d = i
 · subst hd
   simp only [if_true]
   by_cases hlt : d < tm.length
   · rw [if_pos hlt, if_pos (by omega)]
     simpa using hr
   · rw [if_neg hlt, if_neg (by omega)]
     exact trivial
 · rw [if_neg hd, if_neg hd]
   exact h0
theorem TmOk.go {X X' : Cx} {tm : List Tm} {a : Act} {p : Nat → Bool} (h : TmOk X tm a) (g : Goes p X X') (hp : ∀ t ∈ tm, idsIn p t = true) : TmOk X' tm a := fun i => by
 by_cases hlt : i < tm.length
 · have hm : tm.getD i .junk ∈ tm := by simp [List.getD_eq_getElem?_getD, List.getElem?_eq_getElem hlt]
   exact (h i).mono g (hp _ hm)
 · have : tm.getD i .junk = .junk := by simp [List.getD_eq_getElem?_getD, List.getElem?_eq_none (Nat.le_of_not_lt hlt)]
   rw [this]
   exact trivial
theorem Match.put (m : Match B ρ β o st a w) (d : Option Tmp) {v : Tm} {x : Value} (hi : st.idsOk v = true) (hr : Rel (cxOf B ρ β o st.hp w) v x) : Match B ρ β o (st.put d v) (a.put d x) w := by
 cases d with
 | none => exact m
 | some d =>
   have hl : (a.put (some d) x).tmps.size = a.tmps.size := by simp [Act.put]
   exact
     { m with
       len := by rw [hl, ← m.len]; simp [St.put]
       tm := tmOk_put m.tm m.len d hr
       tmi := fun t ht => by
         show st.idsOk t = true
         rcases List.mem_or_eq_of_mem_set ht with h | h
         · exact m.tmi t h
         · rw [h]; exact hi
       hpi := fun cs hc t ht => by show st.idsOk t = true; exact m.hpi cs hc t ht }
theorem Match.learn (m : Match B ρ β o st a w) {t : Tm} {b : Bool} (hc : closed t = true) (hb : denB ρ b0 t = b) : Match B ρ β o (st.learn t b) a w :=
 { m with
   tmi := fun t ht => by show st.idsOk t = true; exact m.tmi t ht
   hpi := fun cs hc t ht => by show st.idsOk t = true; exact m.hpi cs hc t ht
   pc := fun x hx => by
     simp only [St.learn, List.mem_append, List.mem_singleton] at hx
     rcases hx with hx | rfl
     · exact m.pc x hx
     · exact bare_den ρ b0 t b hb
   pcc := fun x hx => by
     simp only [St.learn, List.mem_append, List.mem_singleton] at hx
     rcases hx with hx | rfl
     · exact m.pcc x hx
     · exact bare_closed t b hc }
theorem idsIn_mono {p q : Nat → Bool} (h : ∀ i, p i = true → q i = true) : ∀ t, idsIn p t = true → idsIn q t = true := by
 intro t
 induction t with
 | ptr id off => exact h id
 | asl id off n cap => exact h id
 | hs lab K a ih =>
   intro hp
   cases lab with
   | id n e => simp only [idsIn, Bool.and_eq_true] at hp ⊢; exact ⟨h n hp.1, ih hp.2⟩
   | _ => exact ih hp
 | ep K a b j iha ihb => intro hp; simp only [idsIn, Bool.and_eq_true] at hp ⊢; exact ⟨iha hp.1, ihb hp.2⟩
 | i2 o a b iha ihb => intro hp; simp only [idsIn, Bool.and_eq_true] at hp ⊢; exact ⟨iha hp.1, ihb hp.2⟩
 | b2 o a b iha ihb => intro hp; simp only [idsIn, Bool.and_eq_true] at hp ⊢; exact ⟨iha hp.1, ihb hp.2⟩
 | veq a b iha ihb => intro hp; simp only [idsIn, Bool.and_eq_true] at hp ⊢; exact ⟨iha hp.1, ihb hp.2⟩
 | cons a b iha ihb => intro hp; simp only [idsIn, Bool.and_eq_true] at hp ⊢; exact ⟨iha hp.1, ihb hp.2⟩
 | wrap k a ih => exact ih
 | ofI a ih => exact ih
 | ofB a ih => exact ih
 | vop o a ih => exact ih
 | blen a ih => exact ih
 | iapp f a ih => exact ih
 | not a ih => exact ih
 | bapp f a ih => exact ih
 | int k a ih => exact ih
 | bool a ih => exact ih
 | agg a ih => exact ih
 | tup a ih => exact ih
 | clo f a ih => exact ih
 | err a ih => exact ih
 | iface t a ih => exact ih
 | vapp f a ih => exact ih
 | sapp f a ih => exact ih
 | _ => intro _; rfl
theorem idsIn_closed {p : Nat → Bool} {t : Tm} (h : closed t = true) : idsIn p t = true := idsIn_mono (fun i hi => by cases hi) t h
theorem relab_ids {p : Nat → Bool} {m : Nat} (hm : p m = true) : ∀ v, closed v = true → idsIn p (relab m v) = true := by
 intro v
 induction v with
 | hs lab K t _ =>
   intro hc
   cases lab with
   | no => exact idsIn_closed hc
   | new e => simp only [relab, idsIn, Bool.and_eq_true]; exact ⟨hm, idsIn_closed (by simpa [closed, idsIn] using hc)⟩
   | id n e => simp [closed, idsIn] at hc
 | agg l ih => intro hc; exact ih hc
 | tup l ih => intro hc; exact ih hc
 | clo f l ih => intro hc; exact ih hc
 | cons a b iha ihb =>
   intro hc
   simp only [closed, idsIn, Bool.and_eq_true] at hc
   simp only [relab, idsIn, Bool.and_eq_true]
   exact ⟨iha hc.1, ihb hc.2⟩
 | _ => intro hc; exact idsIn_closed hc
theorem getElem?_lt {α : Type} {l : List α} {i : Nat} {x : α} (h : l[i]? = some x) : i < l.length := by
 rcases Nat.lt_or_ge i l.length with h' | h'
 · exact h'
 · rw [List.getElem?_eq_none h'] at h; cases h
theorem ownOf_app {hp : List (List Tm)} {cs : List Tm} {i : Nat} : ownOf (hp ++ [cs]) i ↔ ownOf hp i ∨ (i = hp.length ∧ cs ≠ []) := by
 constructor
 · rintro ⟨ci, h1, h2⟩
   rcases Nat.lt_or_ge i hp.length with h | h
   · rw [List.getElem?_append_left h] at h1
     exact .inl ⟨ci, h1, h2⟩
   · have hlt := getElem?_lt h1
     simp at hlt
     have : i = hp.length := by omega
     subst this
     simp at h1
     subst h1
     exact .inr ⟨rfl, h2⟩
 · rintro (⟨ci, h1, h2⟩ | ⟨rfl, h⟩)
   · exact ⟨ci, by rw [List.getElem?_append_left (getElem?_lt h1)]; exact h1, h2⟩
   · exact ⟨cs, by simp, h⟩
theorem own_nil (hp : List (List Tm)) : ownOf (hp ++ [[]]) = ownOf hp := by
 funext i
 apply propext
 rw [ownOf_app]
 simp
theorem Match.made (m : Match B ρ β o st a w) (hB : B.Ok) (d : Option Tmp) {v : Tm} {eat : Option Nat} (hv : closed v = true) (he : eatOk st.lv eat = true) {w' : World} {o' : Nat → Option Top} {ok' : Nat → Nat → Prop} {x : Value}
   (hd : Done (okOf B.ok0 (ownOf st.hp) β o) (exOf o eat) w w' o' ok') (hr : Rel ⟨ρ, β, o', ok', w'⟩ (relab 0 v) x) (hn : hasNew v = true → (o' 0).isSome = true) :
   ∃ o2, Match B ρ β o2 { st.put d (relab st.hp.length v) with hp := st.hp ++ [[]], lv := lvDone st.lv st.hp.length v eat } (a.put d x) w' := by
 have hlive : ∀ n, eat = some n → ∃ T, o n = some T := fun n hn => by
   subst hn
   exact m.live n (by simpa [eatOk] using he)
 have hml : ¬ labOf st.hp st.hp.length := fun h => by have := getElem?_lt h; omega
 obtain ⟨k1, k2, k3, k4⟩ := m.wk.done hB hlive hd (m := st.hp.length) hml (lab' := labOf (st.hp ++ [[]])) (fun n hn => by unfold labOf at hn ⊢; rw [List.getElem?_append_left (getElem?_lt hn)]; exact hn) (by simp [labOf])
 obtain ⟨o2, ho2⟩ : ∃ o2 : Nat → Option Top, o2 = fun n => if n = st.hp.length then o' 0 else if some n = eat then none else o n := ⟨_, rfl⟩
 rw [← ho2] at k1 k2 k3
 have hox : ∀ n, n < st.hp.length → ∀ T, o2 n = some T → o n = some T := fun n hn T hT => by
   rw [ho2] at hT
   dsimp only at hT
   rw [if_neg (by omega)] at hT
   split at hT
   · cases hT
   · exact hT
 have g : Goes (fun i => decide (i < st.hp.length)) (cxOf B ρ β o st.hp w) (cxOf B ρ β o2 (st.hp ++ [[]]) w') := ⟨rfl, fun _ _ => rfl, fun i hi T hT => hox i (by simpa using hi) T hT, by simp only [own_nil]; exact k2⟩
 have hids : ∀ t, st.idsOk t = true → idsIn (fun i => decide (i < (st.hp ++ [[]]).length)) t = true := fun t ht => idsIn_mono (fun i hi => by simp at hi ⊢; omega) t ht
 have hrel : Rel (cxOf B ρ β o2 (st.hp ++ [[]]) w') (relab st.hp.length v) x := by
   have := (relab_move (ρ := ρ) (β := β) (o' := o') (o2 := o2) k3 (m := st.hp.length) (by rw [ho2]; simp) v hv).1 x hr
   show Rel ⟨ρ, β, o2, okOf B.ok0 (ownOf (st.hp ++ [[]])) β o2, w'⟩ _ _
   rw [own_nil]
   exact this
 have htm := m.tm.go g m.tmi
 refine ⟨o2,
   { dfr := by cases d <;> exact m.dfr
     len := by cases d with
       | none => exact m.len
       | some d => simp [St.put, Act.put, m.len]
     tm := by cases d with
       | none => exact htm
       | some d => exact tmOk_put htm m.len d hrel
     tmi := fun t ht => by
       show idsIn (fun i => decide (i < (st.hp ++ [[]]).length)) t = true
       cases d with
       | none => exact hids t (m.tmi t ht)
       | some d =>
         rcases List.mem_or_eq_of_mem_set ht with h | h
         · exact hids t (m.tmi t h)
         · rw [h]; exact relab_ids (by simp) v hv
     hp := fun id cs hc => by
       have hc' : (st.hp ++ [[]])[id]? = some cs := hc
       rcases Nat.lt_or_ge id st.hp.length with hid | hid
       · rw [List.getElem?_append_left hid] at hc'
         exact (m.hp id cs hc').go g (fun t ht => m.hpi cs (List.mem_of_getElem? hc') t ht) rfl (fun hne => k4 id ⟨cs, hc', hne⟩)
       · rw [List.getElem?_append_right hid] at hc'
         have h0 : cs = [] := by
           have hlt := getElem?_lt hc'
           simp at hlt
           have h0 : id - st.hp.length = 0 := by omega
           rw [h0] at hc'
           simpa using hc'.symm
         subst h0
         intro off c hco
         simp at hco
     hpi := fun cs hc t ht => by
       have hc' : cs ∈ st.hp ++ [[]] := hc
       rw [List.mem_append, List.mem_singleton] at hc'
       rcases hc' with h | rfl
       · exact hids t (m.hpi cs h t ht)
       · cases ht
     wk := by
       show Wok B (ownOf (st.hp ++ [[]])) (labOf (st.hp ++ [[]])) β o2 w'
       rw [own_nil]; exact k1
     pc := by cases d <;> exact m.pc
     pcc := by cases d <;> exact m.pcc
     n := by cases d <;> exact m.n
     live := fun n hn' => ?_ }⟩
 simp only [lvDone, List.mem_append, List.mem_filter, bne_iff_ne, ne_eq] at hn'
 rcases hn' with hn' | ⟨h1, h2⟩
 · split at hn'
   · rename_i hh
     simp only [List.mem_singleton] at hn'
     subst hn'
     obtain ⟨T, hT⟩ := Option.isSome_iff_exists.1 (hn hh)
     exact ⟨T, by rw [ho2]; simp [hT]⟩
   · cases hn'
 · obtain ⟨T, hT⟩ := m.live n h1
   have hlt := getElem?_lt (show st.hp[n]? = some [] from (m.wk.top n T hT).1)
   exact ⟨T, by rw [ho2]; dsimp only; rw [if_neg (by omega), if_neg h2]; exact hT⟩
theorem Match.alloc (m : Match B ρ β o st a w) (d : Option Tmp) {cells : List Tm} {e : TypeId} {xs : List Value} (hi : cells.all st.idsOk = true) (hr : RelT (cxOf B ρ β o st.hp w) cells xs) :
   Match B ρ (fun i => if i = st.hp.length then w.heap.size else β i) o (st.done d (.alloc cells e)) (a.put d (.pointer (some ⟨w.heap.size, 0, none⟩))) (w.alloc (.cells xs.toArray e)) := by
 have hml : ¬ ownOf st.hp st.hp.length := fun ⟨ci, h, _⟩ => by have := getElem?_lt h; omega
 obtain ⟨k1, k2, k3⟩ := m.wk.alloc (m := st.hp.length) hml (own' := ownOf (st.hp ++ [cells])) (fun i h hne => (ownOf_app.1 h).resolve_right (fun h' => hne h'.1)) (fun i h => ownOf_app.2 (.inl h)) (.cells xs.toArray e)
 have hag : ∀ i, i < st.hp.length → β i = if i = st.hp.length then w.heap.size else β i := fun i hi => by rw [if_neg (by omega)]
 have g : Goes (fun i => decide (i < st.hp.length)) (cxOf B ρ β o st.hp w) (cxOf B ρ (fun i => if i = st.hp.length then w.heap.size else β i) o (st.hp ++ [cells]) (w.alloc (.cells xs.toArray e))) := ⟨rfl, fun i hi => hag i (by simpa using hi), fun _ _ _ h => h, k2⟩
 have hids : ∀ t, st.idsOk t = true → idsIn (fun i => decide (i < (st.hp ++ [cells]).length)) t = true := fun t ht => idsIn_mono (fun i hi => by simp at hi ⊢; omega) t ht
 have htm := m.tm.go g m.tmi
 have hwk : Wok B (ownOf (st.hp ++ [cells])) (labOf (st.hp ++ [cells])) (fun i => if i = st.hp.length then w.heap.size else β i) o (w.alloc (.cells xs.toArray e)) :=
   ⟨k1.inj, k1.lt, k1.fr, k1.keep, fun n T hT => by
     obtain ⟨h1, h2⟩ := k1.top n T hT
     refine ⟨?_, h2⟩
     unfold labOf at h1 ⊢
     rw [List.getElem?_append_left (getElem?_lt h1)]; exact h1⟩
 exact
   { dfr := by cases d <;> exact m.dfr
     len := by cases d with
       | none => exact m.len
       | some d => simp [St.done, St.put, Act.put, m.len]
     tm := by cases d with
       | none => exact htm
       | some d => exact tmOk_put htm m.len d (by simp [Rel, denV])
     tmi := fun t ht => by
       show idsIn (fun i => decide (i < (st.hp ++ [cells]).length)) t = true
       cases d with
       | none => exact hids t (m.tmi t ht)
       | some d =>
         rcases List.mem_or_eq_of_mem_set ht with h | h
         · exact hids t (m.tmi t h)
         · rw [h]; simp [idsIn]
     hp := fun id cs hc => by
       have hc' : (st.hp ++ [cells])[id]? = some cs := hc
       rcases Nat.lt_or_ge id st.hp.length with hid | hid
       · rw [List.getElem?_append_left hid] at hc'
         refine (m.hp id cs hc').go g (fun t ht => m.hpi cs (List.mem_of_getElem? hc') t ht) (hag id hid).symm (fun hne => ?_)
         exact Below.heap_alloc w _ _ (m.wk.lt id ⟨cs, hc', hne⟩).2
       · rw [List.getElem?_append_right hid] at hc'
         have hlt := getElem?_lt hc'
         simp at hlt
         have hid' : id = st.hp.length := by omega
         subst hid'
         simp at hc'
         subst hc'
         intro off c hco
         obtain ⟨x, hx, hrx⟩ := hr.get off c hco
         show B.W.heap.size ≤ (if st.hp.length = st.hp.length then w.heap.size else β st.hp.length) ∧ _
         simp only [if_true]
         refine ⟨m.wk.fr.size, by simp, ⟨x, ?_, hrx.mono g (List.all_eq_true.1 hi c (List.mem_of_getElem? hco))⟩, by simp⟩
         rw [World.cell?_alloc_new]
         simp [hx]
     hpi := fun cs hc t ht => by
       have hc' : cs ∈ st.hp ++ [cells] := hc
       rw [List.mem_append, List.mem_singleton] at hc'
       rcases hc' with h | rfl
       · exact hids t (m.hpi cs h t ht)
       · exact hids t (List.all_eq_true.1 hi t ht)
     wk := hwk
     pc := by cases d <;> exact m.pc
     pcc := by cases d <;> exact m.pcc
     n := by cases d <;> exact m.n
     live := by cases d <;> exact m.live }
theorem putAll_get {α : Type} : ∀ (l cells : List α) (off k : Nat), (putAll cells off l)[k]? = if off ≤ k ∧ k < off + l.length ∧ k < cells.length then l[k - off]? else cells[k]?
 | [], cells, off, k => by simp [putAll]; intro h1 h2; omega
 | c :: r, cells, off, k => by
   rw [putAll, putAll_get r]
   simp only [List.length_set, List.length_cons, List.getElem?_set]
   by_cases h : off = k
   · subst h
     rw [if_neg (show ¬ (off + 1 ≤ off ∧ off < off + 1 + r.length ∧ off < cells.length) by omega)]
     by_cases h3 : off < cells.length
     · rw [if_pos (show off ≤ off ∧ off < off + (r.length + 1) ∧ off < cells.length by omega)]
       simp [h3]
     · rw [if_neg (show ¬ (off ≤ off ∧ off < off + (r.length + 1) ∧ off < cells.length) by omega)]
       simp [h3]
   · by_cases h2 : off ≤ k ∧ k < off + (r.length + 1) ∧ k < cells.length
     · rw [if_pos (by omega), if_pos h2]
       have : k - off = (k - (off + 1)) + 1 := by omega
       rw [this]
       simp
     · rw [if_neg (by omega), if_neg h2, if_neg h]
theorem putAll_nil {cs l : List Tm} {off : Nat} : putAll cs off l = [] ↔ cs = [] := by
 rw [← List.length_eq_zero_iff, ← List.length_eq_zero_iff, putAll_length]
theorem own_modify (hp : List (List Tm)) (id off : Nat) (cells : List Tm) : ownOf (hp.modify id fun cs => putAll cs off cells) = ownOf hp ∧ labOf (hp.modify id fun cs => putAll cs off cells) = labOf hp := by
 have key : ∀ i, (hp.modify id fun cs => putAll cs off cells)[i]? = (hp[i]?).map fun cs => if id = i then putAll cs off cells else cs := fun i => by
   rw [List.getElem?_modify]
   cases hp[i]? <;> by_cases h : id = i <;> simp [h]
 constructor
 · funext i
   apply propext
   unfold ownOf
   rw [key]
   cases hp[i]? with
   | none => simp
   | some cs =>
     simp only [Option.map_some, Option.some.injEq]
     by_cases h : id = i <;> simp [h, putAll_nil]
 · funext i
   apply propext
   unfold labOf
   rw [key]
   cases hp[i]? with
   | none => simp
   | some cs =>
     simp only [Option.map_some, Option.some.injEq]
     by_cases h : id = i <;> simp [h, putAll_nil]
theorem BlkOk.put {X : Cx} {W : World} {id off : Nat} {cs cells : List Tm} {xs : List Value} (h : BlkOk X W id cs) (hr : RelT X cells xs) (hle : off + cells.length ≤ cs.length) (hk : Kept X.ok X.ok X.w (X.w.setCells (X.β id) off xs)) : BlkOk { X with w := X.w.setCells (X.β id) off xs } W id (putAll cs off cells) := by
 have g : Goes (fun _ => true) X { X with w := X.w.setCells (X.β id) off xs } := ⟨rfl, fun _ _ => rfl, fun _ _ _ h => h, hk⟩
 have hall : ∀ t, idsIn (fun _ => true) t = true := by
   intro t
   induction t with
   | hs lab K t ih => cases lab <;> simp [idsIn, ih]
   | _ => simp_all [idsIn]
 have hlen := hr.length
 intro k c hk'
 show W.heap.size ≤ X.β id ∧ X.β id < (X.w.setCells (X.β id) off xs).heap.size ∧ (∃ v, (X.w.setCells (X.β id) off xs).cell? ⟨X.β id, k, none⟩ = some v ∧ _) ∧ (X.w.setCells (X.β id) off xs).frozen? ⟨X.β id, k, none⟩ = false
 rw [size_setCells, World.frozen?_setCells]
 rw [putAll_get] at hk'
 by_cases hin : off ≤ k ∧ k < off + cells.length ∧ k < cs.length
 · rw [if_pos hin] at hk'
   obtain ⟨h1, h2, _, h5⟩ := h k _ (List.getElem?_eq_getElem hin.2.2)
   obtain ⟨x, hx, hrx⟩ := hr.get _ c hk'
   refine ⟨h1, h2, ⟨x, ?_, hrx.mono g (hall c)⟩, h5⟩
   have := World.cell?_setCells_in (X.β id) xs off X.w (fun i hi => by
     have hi' : off + i < cs.length := by omega
     obtain ⟨_, _, ⟨v, hv, _⟩, _⟩ := h (off + i) _ (List.getElem?_eq_getElem hi')
     rw [hv]; rfl) (k - off) (by omega)
   rw [show off + (k - off) = k by omega] at this
   rw [this, ← hx]
   exact (List.getElem?_eq_getElem (by omega)).symm
 · rw [if_neg hin] at hk'
   obtain ⟨h1, h2, ⟨v, h3, h4⟩, h5⟩ := h k c hk'
   refine ⟨h1, h2, ⟨v, ?_, h4.mono g (hall c)⟩, h5⟩
   rw [World.cell?_setCells_out (X.β id) xs off X.w ⟨X.β id, k, none⟩ (fun _ _ => ?_)]
   · exact h3
   · have := getElem?_lt hk'
     dsimp only
     omega
theorem putAll_all {cs cells : List Tm} (h : cells.length = cs.length) : putAll cs 0 cells = cells := by
 apply List.ext_getElem?
 intro k
 rw [putAll_get]
 by_cases hk : k < cs.length
 · rw [if_pos ⟨Nat.zero_le _, by omega, hk⟩, Nat.sub_zero]
 · rw [if_neg (by omega), List.getElem?_eq_none (by omega), List.getElem?_eq_none (by omega)]
theorem BlkOk.written {X : Cx} {W : World} {id b : Nat} {cells : List Tm} {vs : List Value} {ρ : Env} {β : Nat → Nat} {o : Nat → Option Top} {ok' : Nat → Nat → Prop} (hρ : X.ρ = ρ) (hb : X.β id = b) (h1 : W.heap.size ≤ b) (h2 : b < X.w.heap.size) (hcl : cells.all closed = true) (hk : Kept ok' X.ok X.w X.w) (hr : RelT ⟨ρ, β, o, ok', X.w⟩ cells vs)
   (hc : ∀ (i : Nat) v, vs[i]? = some v → X.w.cell? ⟨b, i, none⟩ = some v ∧ X.w.frozen? ⟨b, i, none⟩ = false) : BlkOk X W id cells := by
 intro off c hco
 obtain ⟨v, hv, hrv⟩ := hr.get off c hco
 subst hb hρ
 exact ⟨h1, h2, ⟨v, (hc off v hv).1, rel_new (List.all_eq_true.1 hcl c (List.mem_of_getElem? hco)) hk hrv⟩, (hc off v hv).2⟩
theorem Match.wrote (m : Match B ρ β o st a w) (d : Option Tmp) {f : FuncId} {args : List Tm} {v : Tm} {id : Nat} {cells : List Tm} (hi : st.outOk (.mcall f args v id cells) = true) {x : Value} {w' : World} {ok' : Nat → Nat → Prop} {vs : List Value}
   (hg : w.grownBy w' (some (β id))) (hk : Kept (okOf B.ok0 (ownOf st.hp) β o) ok' w w') (hs : ∀ b off, ok' b off → okOf B.ok0 (ownOf st.hp) β o b off) (hr : Rel ⟨ρ, β, fun _ => none, ok', w'⟩ v x) (hrs : RelT ⟨ρ, β, fun _ => none, ok', w'⟩ cells vs)
   (hcell : ∀ (i : Nat) v, vs[i]? = some v → w'.cell? ⟨β id, i, none⟩ = some v ∧ w'.frozen? ⟨β id, i, none⟩ = false) :
   Match B ρ β o (st.done d (.mcall f args v id cells)) (a.put d x) w' := by
 simp only [St.outOk, Bool.and_eq_true] at hi
 obtain ⟨⟨hv, hcl⟩, hi1⟩ := hi
 cases hc : st.hp[id]? with
 | none => rw [hc] at hi1; cases hi1
 | some cs =>
   rw [hc] at hi1
   simp only [Bool.and_eq_true, decide_eq_true_eq, Bool.not_eq_true', List.isEmpty_eq_false_iff] at hi1
   obtain ⟨hlen, hne⟩ := hi1
   have hid := getElem?_lt hc
   have hown : ownOf st.hp id := ⟨cs, hc, hne⟩
   obtain ⟨e1, e2⟩ := own_modify st.hp id 0 cells
   obtain ⟨k1, k2, k3⟩ := m.wk.wrote hown hg hk hs
   have g : Goes (fun i => decide (i < st.hp.length)) (cxOf B ρ β o st.hp w) (cxOf B ρ β o (st.hp.modify id fun cs => putAll cs 0 cells) w') := ⟨rfl, fun _ _ => rfl, fun _ _ _ h => h, by simp only [e1]; exact k2⟩
   have hids : ∀ t, (st.done d (.mcall f args v id cells)).idsOk t = st.idsOk t := fun t => by unfold St.idsOk; simp [St.done]
   have htm := m.tm.go g m.tmi
   have hrel : Rel (cxOf B ρ β o (st.hp.modify id fun cs => putAll cs 0 cells) w') v x := rel_new hv (by simp only [e1]; exact k3) hr
   exact
     { dfr := by cases d <;> exact m.dfr
       len := by cases d with
         | none => exact m.len
         | some d => simp [St.done, St.put, Act.put, m.len]
       tm := by cases d with
         | none => exact htm
         | some d => exact tmOk_put htm m.len d hrel
       tmi := fun t ht => by
         rw [hids]
         cases d with
         | none => exact m.tmi t ht
         | some d =>
           rcases List.mem_or_eq_of_mem_set ht with h | h
           · exact m.tmi t h
           · rw [h]; exact idsIn_closed hv
       hp := fun j cj hj => by
         have hj' : (st.hp.modify id fun cs => putAll cs 0 cells)[j]? = some cj := hj
         rw [List.getElem?_modify] at hj'
         by_cases hij : id = j
         · subst hij
           rw [hc] at hj'
           simp only [if_true, Option.map_eq_map, Option.map_some] at hj'
           obtain rfl := Option.some.inj hj'
           rw [putAll_all hlen]
           exact BlkOk.written (X := cxOf B ρ β o (st.hp.modify id fun cs => putAll cs 0 cells) w') rfl rfl (m.wk.lt id hown).1 (k1.lt id hown).2 hcl (by simp only [e1]; exact k3) hrs hcell
         · simp only [hij, if_false, Option.map_eq_map, Option.map_id'] at hj'
           have hj'' : st.hp[j]? = some cj := by simpa using hj'
           exact (m.hp j cj hj'').go g (fun t ht => m.hpi cj (List.mem_of_getElem? hj'') t ht) rfl (fun hne' => hg.block (β j) (m.wk.lt j ⟨cj, hj'', hne'⟩).2 (fun e => hij (m.wk.inj id j hown ⟨cj, hj'', hne'⟩ (Option.some.inj e).symm)))
       hpi := fun cj hj t ht => by
         rw [hids]
         obtain ⟨j, hj'⟩ := List.getElem?_of_mem hj
         have hj' : (st.hp.modify id fun cs => putAll cs 0 cells)[j]? = some cj := hj'
         rw [List.getElem?_modify] at hj'
         by_cases hij : id = j
         · subst hij
           rw [hc] at hj'
           simp only [if_true, Option.map_eq_map, Option.map_some] at hj'
           obtain rfl := Option.some.inj hj'
           rw [putAll_all hlen] at ht
           exact idsIn_closed (List.all_eq_true.1 hcl t ht)
         · simp only [hij, if_false, Option.map_eq_map, Option.map_id'] at hj'
           exact m.hpi cj (List.mem_of_getElem? (by simpa using hj')) t ht
       wk := by
         show Wok B (ownOf (st.hp.modify id fun cs => putAll cs 0 cells)) (labOf (st.hp.modify id fun cs => putAll cs 0 cells)) β o _
         rw [e1, e2]; exact k1
       pc := by cases d <;> exact m.pc
       pcc := by cases d <;> exact m.pcc
       n := by cases d <;> exact m.n
       live := by cases d <;> exact m.live }
theorem Match.acalled (m : Match B ρ β o st a w) (hB : B.Ok) (d : Option Tmp) {f : FuncId} {args : List Tm} {cells : List Tm} (hi : st.outOk (.acall f args cells) = true) {b : Nat} {w' : World} {ok' : Nat → Nat → Prop} {vs : List Value}
   (hg : w.grownBy w' none) (hk : Kept (okOf B.ok0 (ownOf st.hp) β o) ok' w w') (hs : ∀ b off, ok' b off → okOf B.ok0 (ownOf st.hp) β o b off) (hb1 : w.heap.size ≤ b) (hb2 : b < w'.heap.size) (hbo : ∀ off, ¬ ok' b off) (hrs : RelT ⟨ρ, β, fun _ => none, ok', w'⟩ cells vs)
   (hcell : ∀ (i : Nat) v, vs[i]? = some v → w'.cell? ⟨b, i, none⟩ = some v ∧ w'.frozen? ⟨b, i, none⟩ = false) :
   Match B ρ (fun i => if i = st.hp.length then b else β i) o (st.done d (.acall f args cells)) (a.put d (.pointer (some ⟨b, 0, none⟩))) w' := by
 simp only [St.outOk, Bool.and_eq_true, Bool.not_eq_true', List.isEmpty_eq_false_iff] at hi
 obtain ⟨hcl, hne⟩ := hi
 have hml : ¬ ownOf st.hp st.hp.length := fun ⟨ci, h, _⟩ => by have := getElem?_lt h; omega
 obtain ⟨k1, k2, k3, k4⟩ := m.wk.acalled hB (m := st.hp.length) (b := b) hml (own' := ownOf (st.hp ++ [cells])) (fun i h hne => (ownOf_app.1 h).resolve_right (fun h' => hne h'.1)) hg hk hs hb1 hb2 hbo
 have hag : ∀ i, i < st.hp.length → β i = if i = st.hp.length then b else β i := fun i hi => by rw [if_neg (by omega)]
 have g : Goes (fun i => decide (i < st.hp.length)) (cxOf B ρ β o st.hp w) (cxOf B ρ (fun i => if i = st.hp.length then b else β i) o (st.hp ++ [cells]) w') := ⟨rfl, fun i hi => hag i (by simpa using hi), fun _ _ _ h => h, k2⟩
 have hids : ∀ t, st.idsOk t = true → idsIn (fun i => decide (i < (st.hp ++ [cells]).length)) t = true := fun t ht => idsIn_mono (fun i hi => by simp at hi ⊢; omega) t ht
 have htm := m.tm.go g m.tmi
 have hwk : Wok B (ownOf (st.hp ++ [cells])) (labOf (st.hp ++ [cells])) (fun i => if i = st.hp.length then b else β i) o w' :=
   ⟨k1.inj, k1.lt, k1.fr, k1.keep, fun n T hT => by
     obtain ⟨h1, h2⟩ := k1.top n T hT
     refine ⟨?_, h2⟩
     unfold labOf at h1 ⊢
     rw [List.getElem?_append_left (getElem?_lt h1)]; exact h1⟩
 exact
   { dfr := by cases d <;> exact m.dfr
     len := by cases d with
       | none => exact m.len
       | some d => simp [St.done, St.put, Act.put, m.len]
     tm := by cases d with
       | none => exact htm
       | some d => exact tmOk_put htm m.len d (by simp [Rel, denV])
     tmi := fun t ht => by
       show idsIn (fun i => decide (i < (st.hp ++ [cells]).length)) t = true
       cases d with
       | none => exact hids t (m.tmi t ht)
       | some d =>
         rcases List.mem_or_eq_of_mem_set ht with h | h
         · exact hids t (m.tmi t h)
         · rw [h]; simp [idsIn]
     hp := fun id cs hc => by
       have hc' : (st.hp ++ [cells])[id]? = some cs := hc
       rcases Nat.lt_or_ge id st.hp.length with hid | hid
       · rw [List.getElem?_append_left hid] at hc'
         refine (m.hp id cs hc').go g (fun t ht => m.hpi cs (List.mem_of_getElem? hc') t ht) (hag id hid).symm (fun hne => ?_)
         exact hg.block _ (m.wk.lt id ⟨cs, hc', hne⟩).2 (fun e => by cases e)
       · rw [List.getElem?_append_right hid] at hc'
         have hlt := getElem?_lt hc'
         simp at hlt
         have hid' : id = st.hp.length := by omega
         subst hid'
         simp at hc'
         subst hc'
         exact BlkOk.written (X := cxOf B ρ (fun i => if i = st.hp.length then b else β i) o (st.hp ++ [cells]) w') (b := b) rfl (by show (if st.hp.length = st.hp.length then b else β st.hp.length) = b; rw [if_pos rfl]) (Nat.le_trans m.wk.fr.size hb1) hb2 hcl k3 hrs hcell
     hpi := fun cs hc t ht => by
       have hc' : cs ∈ st.hp ++ [cells] := hc
       rw [List.mem_append, List.mem_singleton] at hc'
       rcases hc' with h | rfl
       · exact hids t (m.hpi cs h t ht)
       · exact idsIn_closed (List.all_eq_true.1 hcl t ht)
     wk := hwk
     pc := by cases d <;> exact m.pc
     pcc := by cases d <;> exact m.pcc
     n := by cases d <;> exact m.n
     live := by cases d <;> exact m.live }
theorem Match.store (m : Match B ρ β o st a w) (d : Option Tmp) {id off : Nat} {cells : List Tm} {xs : List Value} (hi : st.outOk (.store id off cells) = true) (hr : RelT (cxOf B ρ β o st.hp w) cells xs) (y : Value) :
   Match B ρ β o (st.done d (.store id off cells)) (a.put d y) (w.setCells (β id) off xs) := by
 simp only [St.outOk, Bool.and_eq_true] at hi
 obtain ⟨hi1, hi2⟩ := hi
 cases hc : st.hp[id]? with
 | none => rw [hc] at hi1; cases hi1
 | some cs =>
   rw [hc] at hi1
   have hlen : off + cells.length ≤ cs.length := by simpa using hi1
   have hid := getElem?_lt hc
   have m0 := m.put d (v := .junk) (x := y) rfl trivial
   obtain ⟨e1, e2⟩ := own_modify st.hp id off cells
   have hids : ∀ t, (st.done d (.store id off cells)).idsOk t = st.idsOk t := fun t => by unfold St.idsOk; simp [St.done]
   have hids0 : ∀ t, (st.put d .junk).idsOk t = st.idsOk t := fun t => by cases d <;> rfl
   have hwk : Wok B (ownOf st.hp) (labOf st.hp) β o (w.setCells (β id) off xs) ∧ Kept (okOf B.ok0 (ownOf st.hp) β o) (okOf B.ok0 (ownOf st.hp) β o) w (w.setCells (β id) off xs) := by
     by_cases hne : cs = []
     · subst hne
       have hc0 : cells = [] := List.eq_nil_of_length_eq_zero (by rw [List.length_nil] at hlen; omega)
       subst hc0
       have hx0 : xs = [] := List.eq_nil_of_length_eq_zero hr.length.symm
       subst hx0
       exact ⟨m.wk, Kept.refl _ _⟩
     · exact m.wk.store ⟨cs, hc, hne⟩ off xs
   have g : Goes (fun i => decide (i < st.hp.length)) (cxOf B ρ β o st.hp w) (cxOf B ρ β o (st.hp.modify id fun cs => putAll cs off cells) (w.setCells (β id) off xs)) := ⟨rfl, fun _ _ => rfl, fun _ _ _ h => h, by simp only [e1]; exact hwk.2⟩
   exact
     { dfr := m0.dfr
       len := m0.len
       tm := m0.tm.go (by have := g; cases d <;> exact this) (fun t ht => by have := m0.tmi t ht; rw [hids0] at this; exact this)
       tmi := fun t ht => by rw [hids]; rw [← hids0]; exact m0.tmi t ht
       hp := fun j cj hj => by
         have hj' : (st.hp.modify id fun cs => putAll cs off cells)[j]? = some cj := hj
         rw [List.getElem?_modify] at hj'
         have hb0 : ∀ cs', st.hp[j]? = some cs' → id ≠ j → BlkOk (cxOf B ρ β o (st.hp.modify id fun cs => putAll cs off cells) (w.setCells (β id) off xs)) B.W j cs' := fun cs' hcs' hne => by
           refine (m.hp j cs' hcs').go g (fun t ht => m.hpi cs' (List.mem_of_getElem? hcs') t ht) rfl (fun hne' => ?_)
           by_cases hcn : cs = []
           · subst hcn
             have hc0 : cells = [] := List.eq_nil_of_length_eq_zero (by rw [List.length_nil] at hlen; omega)
             subst hc0
             have hx0 : xs = [] := List.eq_nil_of_length_eq_zero hr.length.symm
             subst hx0
             rfl
           · exact heap_setCells _ xs off w _ (fun e => hne (m.wk.inj id j ⟨cs, hc, hcn⟩ ⟨cs', hcs', hne'⟩ e.symm))
         by_cases hij : id = j
         · subst hij
           rw [hc] at hj'
           simp only [if_true, Option.map_eq_map, Option.map_some] at hj'
           obtain rfl := Option.some.inj hj'
           have := (m.hp id cs hc).put hr hlen hwk.2
           show BlkOk (cxOf B ρ β o (st.hp.modify id fun cs => putAll cs off cells) (w.setCells (β id) off xs)) B.W id (putAll cs off cells)
           simp only [cxOf, e1]
           exact this
         · simp only [hij, if_false, Option.map_eq_map, Option.map_id'] at hj'
           exact hb0 cj (by simpa using hj') hij
       hpi := fun cj hj t ht => by
         rw [hids]
         obtain ⟨j, hj'⟩ := List.getElem?_of_mem hj
         have hj' : (st.hp.modify id fun cs => putAll cs off cells)[j]? = some cj := hj'
         rw [List.getElem?_modify] at hj'
         by_cases hij : id = j
         · subst hij
           rw [hc] at hj'
           simp only [if_true, Option.map_eq_map, Option.map_some] at hj'
           obtain rfl := Option.some.inj hj'
           obtain ⟨k, hk⟩ := List.getElem?_of_mem ht
           rw [putAll_get] at hk
           split at hk
           · exact List.all_eq_true.1 hi2 t (List.mem_of_getElem? hk)
           · exact m.hpi cs (List.mem_of_getElem? hc) t (List.mem_of_getElem? hk)
         · simp only [hij, if_false, Option.map_eq_map, Option.map_id'] at hj'
           exact m.hpi cj (List.mem_of_getElem? (by simpa using hj')) t ht
       wk := by
         show Wok B (ownOf (st.hp.modify id fun cs => putAll cs off cells)) (labOf (st.hp.modify id fun cs => putAll cs off cells)) β o _
         rw [e1, e2]; exact hwk.1
       pc := m0.pc
       pcc := m0.pcc
       n := m0.n
       live := m0.live }
end
theorem ofL_closed : ∀ l : List Tm, l.all closed = true → idsIn (fun _ => false) (ofL l) = true
 | [], _ => rfl
 | x :: r, h => by
   simp only [List.all_cons, Bool.and_eq_true] at h
   simp only [ofL, idsIn, Bool.and_eq_true]
   exact ⟨h.1, ofL_closed r h.2⟩
theorem Match.frz {B : Base} {ρ : Env} {β : Nat → Nat} {o : Nat → Option Top} {st st' : St} {a : Act} {w : World} (hB : B.Ok) (m : Match B ρ β o st a w) {id : Nat} (h : st.frz id = some st') : Match B ρ β o st' a w := by
 unfold St.frz at h
 split at h
 · rename_i cs hcs
   split at h
   · rename_i K hK
     split at h
     · rename_i l hl
       split at h
       · rename_i hc
         obtain ⟨hw0, hwd, hcl⟩ := hc
         obtain rfl := Option.some.inj h
         obtain ⟨c, hce⟩ : ∃ c, c = Tm.tup (ofL l) := ⟨_, rfl⟩
         rw [← hce]
         obtain ⟨hp', hpe⟩ : ∃ hp', hp' = (st.hp.map fun cs => cs.map (frzT id K c)).set id [] := ⟨_, rfl⟩
         rw [← hpe]
         have hid := getElem?_lt hcs
         have hlen : hp'.length = st.hp.length := by rw [hpe]; simp
         have hne : cs ≠ [] := by rintro rfl; simp at hwd; omega
         have hown : ownOf st.hp id := ⟨cs, hcs, hne⟩
         have hget : ∀ j, hp'[j]? = if j = id then some [] else (st.hp[j]?).map fun cs => cs.map (frzT id K c) := fun j => by
           rw [hpe, List.getElem?_set]
           by_cases hj : id = j
           · subst hj; simp [hid]
           · rw [if_neg hj, if_neg (fun e => hj e.symm), List.getElem?_map]
         have hsub : ∀ i, ownOf hp' i → ownOf st.hp i ∧ i ≠ id := fun i hi => by
           obtain ⟨ci, h1, h2⟩ := hi
           rw [hget] at h1
           by_cases hi : i = id
           · rw [if_pos hi] at h1; obtain rfl := Option.some.inj h1; exact absurd rfl h2
           · rw [if_neg hi] at h1
             obtain ⟨c0, h3, rfl⟩ := Option.map_eq_some_iff.1 h1
             exact ⟨⟨c0, h3, fun e => h2 (by rw [e]; rfl)⟩, hi⟩
         have hlab : ∀ n, labOf st.hp n → labOf hp' n := fun n hn => by
           unfold labOf at hn ⊢
           rw [hget]
           by_cases hi : n = id
           · rw [if_pos hi]
           · rw [if_neg hi, hn]; rfl
         have hok : ∀ b off, okOf B.ok0 (ownOf st.hp) β o b off → okOf B.ok0 (ownOf hp') β o b off := fun b off h => ⟨h.1, fun i hi => h.2.1 i (hsub i hi).1, h.2.2⟩
         have hokid : ∀ off, okOf B.ok0 (ownOf hp') β o (β id) off := fun off => ⟨hB.new _ _ (m.wk.lt id hown).1, fun i hi he => (hsub i hi).2 (m.wk.inj i id (hsub i hi).1 hown he), fun n T hT hb => absurd rfl (((m.wk.top n T hT).2.2 _ hb).2.1 id hown)⟩
         have hk : Kept (okOf B.ok0 (ownOf st.hp) β o) (okOf B.ok0 (ownOf hp') β o) w w := ⟨Nat.le_refl _, fun b off _ h => ⟨hok b off h, rfl⟩⟩
         have g : Goes (fun i => i != id) (cxOf B ρ β o st.hp w) (cxOf B ρ β o hp' w) := ⟨rfl, fun _ _ => rfl, fun _ _ _ h => h, hk⟩
         have hb := m.hp id cs hcs
         obtain ⟨vs, hvs⟩ : ∃ vs : List Value, vs = (List.range cs.length).map fun k => (w.cell? ⟨β id, k, none⟩).getD Go.undef := ⟨_, rfl⟩
         have hvg : ∀ (k : Nat) v, vs[k]? = some v → k < cs.length ∧ w.cell? ⟨β id, k, none⟩ = some v := fun k v hk => by
           rw [hvs, List.getElem?_map] at hk
           rcases Nat.lt_or_ge k cs.length with hlt | hge
           · rw [List.getElem?_range hlt] at hk
             obtain ⟨_, _, ⟨u, h1, _⟩, _⟩ := hb k _ (List.getElem?_eq_getElem hlt)
             have h1' : w.cell? ⟨β id, k, none⟩ = some u := h1
             simp only [Option.map_some, h1', Option.getD_some] at hk
             exact ⟨hlt, by rw [h1', ← hk]⟩
           · rw [List.getElem?_eq_none (by simpa using hge)] at hk; cases hk
         have hvl : vs.length = cs.length := by rw [hvs]; simp
         have hrt : RelT (cxOf B ρ β o st.hp w) cs vs := RelT.of hvl.symm fun k t v hk hv => by
           obtain ⟨_, _, ⟨u, h1, h2⟩, _⟩ := hb k t hk
           have h1' : w.cell? ⟨β id, k, none⟩ = some u := h1
           rw [(hvg k v hv).2] at h1'
           obtain rfl := Option.some.inj h1'
           exact h2
         obtain ⟨k1, k2⟩ := asAll_rel hl hrt
         have hdeep : deepC (okOf B.ok0 (ownOf hp') β o) w (.sl K) (.slice (some ⟨β id, 0, none⟩) 1 1) (denV ρ β c) := by
           rw [hce]
           simp only [denV, denL_ofL]
           refine deep_of_cells (xs := vs) (by rw [List.length_map, k1, hwd, Nat.one_mul]) (Nat.le_refl _) (by omega) (fun e => by cases e) ⟨by rw [List.length_map, k1, hvl], fun k x hx q hq => (deep_mono hk q).1 _ _ (k2 k x hx q (by rw [Nat.zero_add]; exact hq))⟩ hw0 fun k x hx => ?_
           exact ⟨β id, 0, rfl, (m.wk.lt id hown).2, hokid _, by rw [Nat.zero_add]; exact (hvg k x hx).2⟩
         have hccl : closed c = true := by
           rw [hce]
           exact ofL_closed l hcl
         have hrel : ∀ t v, Rel (cxOf B ρ β o st.hp w) t v → Rel (cxOf B ρ β o hp' w) (frzT id K c t) v := fun t v hr => by
           unfold frzT
           split
           · rename_i i off
             split
             · rename_i hi
               subst hi
               have hv : v = .pointer (some ⟨β i, off, none⟩) := hr
               exact ⟨β i, 0, 1, 1, hdeep, Int.le_refl _, by show (0 : Int) < _; omega, by rw [hv]; simp [denI]⟩
             · exact hr
           · split
             · rename_i hi; exact hr.mono g hi
             · exact trivial
         have hids : ∀ t, st.idsOk t = true → idsIn (fun i => decide (i < hp'.length)) (frzT id K c t) = true := fun t ht => by
           rw [hlen]
           unfold frzT
           split
           · split
             · simp only [idsIn, Bool.and_eq_true]; exact ⟨idsIn_closed hccl, trivial⟩
             · exact ht
           · split
             · exact ht
             · rfl
         exact
           { dfr := m.dfr
             len := by show (st.tm.map _).length = _; rw [List.length_map]; exact m.len
             tm := fun i => by
               show Rel _ ((st.tm.map (frzT id K c)).getD i .junk) _
               rw [List.getD_eq_getElem?_getD, List.getElem?_map]
               cases hti : st.tm[i]? with
               | none => exact trivial
               | some t =>
                 have := m.tm i
                 rw [List.getD_eq_getElem?_getD, hti] at this
                 exact hrel t _ this
             tmi := fun t ht => by
               obtain ⟨t0, h0, rfl⟩ := List.mem_map.1 (show t ∈ st.tm.map (frzT id K c) from ht)
               exact hids t0 (m.tmi t0 h0)
             hp := fun j cj hj => by
               have hj' : hp'[j]? = some cj := hj
               rw [hget] at hj'
               by_cases hji : j = id
               · rw [if_pos hji] at hj'
                 obtain rfl := Option.some.inj hj'
                 intro off c hco
                 simp at hco
               · rw [if_neg hji] at hj'
                 obtain ⟨c0, h3, rfl⟩ := Option.map_eq_some_iff.1 hj'
                 intro off x hx
                 rw [List.getElem?_map] at hx
                 obtain ⟨x0, hx0, rfl⟩ := Option.map_eq_some_iff.1 hx
                 obtain ⟨q1, q2, ⟨v, q3, q4⟩, q5⟩ := m.hp j c0 h3 off x0 hx0
                 exact ⟨q1, q2, ⟨v, q3, hrel x0 v q4⟩, q5⟩
             hpi := fun cj hj t ht => by
               obtain ⟨j, hj'⟩ := List.getElem?_of_mem (show cj ∈ hp' from hj)
               rw [hget] at hj'
               by_cases hji : j = id
               · rw [if_pos hji] at hj'
                 obtain rfl := Option.some.inj hj'
                 cases ht
               · rw [if_neg hji] at hj'
                 obtain ⟨c0, h3, rfl⟩ := Option.map_eq_some_iff.1 hj'
                 obtain ⟨t0, h0, rfl⟩ := List.mem_map.1 ht
                 exact hids t0 (m.hpi c0 (List.mem_of_getElem? h3) t0 h0)
             wk := ⟨fun i j hi hj => m.wk.inj i j (hsub i hi).1 (hsub j hj).1, fun i hi => m.wk.lt i (hsub i hi).1, m.wk.fr, fun b off hb ho => ⟨hok b off (m.wk.keep b off hb ho).1, (m.wk.keep b off hb ho).2⟩, fun n T hT => ⟨hlab n (m.wk.top n T hT).1, (m.wk.top n T hT).2.1, fun b hb => ⟨((m.wk.top n T hT).2.2 b hb).1, fun i hi => ((m.wk.top n T hT).2.2 b hb).2.1 i (hsub i hi).1, ((m.wk.top n T hT).2.2 b hb).2.2⟩⟩⟩
             pc := m.pc
             pcc := m.pcc
             n := m.n
             live := m.live }
       · cases h
     · cases h
   · cases h
 · cases h
theorem Match.frzFor {B : Base} {ρ : Env} {β : Nat → Nat} {o : Nat → Option Top} {st st' : St} {a : Act} {w : World} (hB : B.Ok) (m : Match B ρ β o st a w) {ops : Array Oper} (h : st.frzFor ops = some st') : Match B ρ β o st' a w := by
 obtain ⟨id, _, h2⟩ := Option.bind_eq_some_iff.1 h
 exact m.frz hB h2
/-! Part 13: what is left to do; loops' heads. -/

inductive SIt where
 | code (c : Code) | blk (id : Nat) | ops (all : Array Oper) (l : List Oper) | back (J : Act → World → Prop) | again (c : Code) | scp (c : Code) | gbk (l : Nat) (J : Act → World → Prop)
def wpIn (P : Program) (c : Code) (Q : Exit → Act → World → Prop) (a : Act) (w : World) : Prop := ∀ (b : Frame) (k : List Item) (cs : List Frame), ∃ e a' w', Q e a' w' ∧ Arrives P (lone (b.at a (.inLoop c :: k)) cs w) b k cs e a' w'
theorem wp_round {P : Program} {c : Code} {Q : Exit → Act → World → Prop} {a : Act} {w : World} (h : c.wp P (Exit.then (wpIn P c Q) Q) a w) (b : Frame) (k : List Item) (cs : List Frame) : ∃ e a' w', Q e a' w' ∧ Arrives P (lone (b.at a (.code c :: .inLoop c :: k)) cs w) b k cs e a' w' := by
 obtain ⟨e, a₁, w₁, hq, harr⟩ := h b (.inLoop c :: k) cs
 cases e with
 | normal =>
   obtain ⟨e₂, a₂, w₂, hq₂, harr₂⟩ := hq b k cs
   exact ⟨e₂, a₂, w₂, hq₂, .of_steps harr harr₂⟩
 | exit id => exact ⟨_, a₁, w₁, hq, .pass (x := .inLoop c) rfl (fun _ _ => .inl (by simp)) harr⟩
 | goto l => exact ⟨_, a₁, w₁, hq, .pass (x := .inLoop c) rfl (fun _ _ => .inl (by simp)) harr⟩
 | ret => exact ⟨_, a₁, w₁, hq, .pass (x := .inLoop c) rfl (fun _ _ => .inl (by simp)) harr⟩
 | panic ch => exact ⟨_, a₁, w₁, hq, .pass (x := .inLoop c) rfl (fun _ _ => .inl (by simp)) harr⟩
 | outgrown => exact ⟨_, a₁, w₁, hq, .pass (x := .inLoop c) rfl (fun _ _ => .inl (by simp)) harr⟩
theorem wp_in {P : Program} {c : Code} {Q : Exit → Act → World → Prop} {a : Act} {w : World} (h : c.wp P (Exit.then (wpIn P c Q) Q) a w) : wpIn P c Q a w := fun b k cs => by
 obtain ⟨e, a', w', hq, harr⟩ := wp_round h b k cs
 exact ⟨e, a', w', hq, .of_steps (.one step_inLoop) harr⟩
theorem wp_unroll {P : Program} {c : Code} {Q : Exit → Act → World → Prop} {a : Act} {w : World} (h : c.wp P (Exit.then (wpIn P c Q) Q) a w) : (Code.loop c).wp P Q a w := fun b k cs => by
 obtain ⟨e, a', w', hq, harr⟩ := wp_round h b k cs
 exact ⟨e, a', w', hq, .of_steps (.one step_loop) harr⟩
def wpAt (P : Program) (c rest : Code) (Q : Exit → Act → World → Prop) (a : Act) (w : World) : Prop := ∀ (b : Frame) (k : List Item) (cs : List Frame), ∃ e a' w', Q e a' w' ∧ Arrives P (lone (b.at a (.code rest :: .inScope c :: k)) cs w) b k cs e a' w'
def wpSc (P : Program) (c : Code) (Q : Exit → Act → World → Prop) : Exit → Act → World → Prop
 | .goto l, a, w => match findLabel c l with
   | some rest => wpAt P c rest Q a w
   | none => Q (.goto l) a w
 | e, a, w => Q e a w
def gbkX (l : Nat) (J : Act → World → Prop) (R : Exit → Act → World → Prop) : Exit → Act → World → Prop
 | .goto l', a, w => if l' = l then J a w else R (.goto l') a w
 | e, a, w => R e a w
theorem sc_ends {P : Program} {c : Code} {Q : Exit → Act → World → Prop} {m : Machine} {b : Frame} {k : List Item} {cs : List Frame} {e : Exit} {a₁ : Act} {w₁ : World} (hq : wpSc P c Q e a₁ w₁) (harr : Arrives P m b (.inScope c :: k) cs e a₁ w₁) : ∃ e a' w', Q e a' w' ∧ Arrives P m b k cs e a' w' := by
 cases e with
 | normal => exact ⟨.normal, a₁, w₁, hq, Steps.trans harr (.one step_inScope)⟩
 | exit id => exact ⟨.exit id, a₁, w₁, hq, fun k' hk => harr k' (by simp [exitTo, hk])⟩
 | goto l =>
   unfold wpSc at hq
   simp only at hq
   split at hq
   · rename_i rest hf
     obtain ⟨e₂, a₂, w₂, hq₂, harr₂⟩ := hq b k cs
     exact ⟨e₂, a₂, w₂, hq₂, .of_steps (harr _ (by simp [gotoIn, hf])) harr₂⟩
   · rename_i hf
     exact ⟨.goto l, a₁, w₁, hq, fun k' hk => harr k' (by simp [gotoIn, hf, hk])⟩
 | ret => exact ⟨_, a₁, w₁, hq, harr⟩
 | panic ch => exact ⟨_, a₁, w₁, hq, harr⟩
 | outgrown => exact ⟨_, a₁, w₁, hq, harr⟩
theorem wp_at {P : Program} {c rest : Code} {Q : Exit → Act → World → Prop} {a : Act} {w : World} (h : rest.wp P (wpSc P c Q) a w) : wpAt P c rest Q a w := fun b k cs => by
 obtain ⟨e, a₁, w₁, hq, harr⟩ := h b (.inScope c :: k) cs
 exact sc_ends hq harr
theorem wp_sc {P : Program} {c : Code} {Q : Exit → Act → World → Prop} {a : Act} {w : World} (h : c.wp P (wpSc P c Q) a w) : (Code.scope c).wp P Q a w := fun b k cs => by
 obtain ⟨e, a₁, w₁, hq, harr⟩ := h b (.inScope c :: k) cs
 obtain ⟨e₂, a₂, w₂, hq₂, harr₂⟩ := sc_ends hq harr
 exact ⟨e₂, a₂, w₂, hq₂, .of_steps (.one step_scope) harr₂⟩
theorem wp_at_ghost {P : Program} {c rest : Code} {Q : Exit → Act → World → Prop} {l : Nat} (hf : findLabel c l = some rest) (I : Nat → Act → World → Prop)
   (round : ∀ n a w, I n a w → rest.wp P (gbkX l (fun a' w' => ∃ m, m < n ∧ I m a' w') (wpSc P c Q)) a w) : ∀ n a w, I n a w → wpAt P c rest Q a w := by
 intro n
 induction n using Nat.strongRecOn with
 | _ n ih =>
   intro a w hI b k cs
   obtain ⟨e, a₁, w₁, hq, harr⟩ := round n a w hI b (.inScope c :: k) cs
   cases e with
   | goto l' =>
     unfold gbkX at hq
     simp only at hq
     split at hq
     · rename_i hl
       subst hl
       obtain ⟨m, hm, hI'⟩ := hq
       obtain ⟨e₂, a₂, w₂, hq₂, harr₂⟩ := ih m hm a₁ w₁ hI' b k cs
       exact ⟨e₂, a₂, w₂, hq₂, .of_steps (harr _ (by simp [gotoIn, hf])) harr₂⟩
     · exact sc_ends hq harr
   | normal => exact sc_ends (e := .normal) hq harr
   | exit id => exact sc_ends (e := .exit id) hq harr
   | ret => exact sc_ends (e := .ret) hq harr
   | panic ch => exact sc_ends (e := .panic ch) hq harr
   | outgrown => exact sc_ends (e := .outgrown) hq harr
def kwp (P : Program) (Q : Exit → Act → World → Prop) : List SIt → Exit → Act → World → Prop
 | [] => Q
 | .code c :: k => Exit.then (fun a w => c.wp P (kwp P Q k) a w) (kwp P Q k)
 | .blk id :: k => Exit.inBlock id (kwp P Q k)
 | .ops all l :: k => Exit.then (fun a w => wpList P all (kwp P Q k) l a w) (kwp P Q k)
 | .back J :: k => Exit.then J (kwp P Q k)
 | .again c :: k => Exit.then (wpIn P c (kwp P Q k)) (kwp P Q k)
 | .scp c :: k => wpSc P c (kwp P Q k)
 | .gbk l J :: k => gbkX l J (kwp P Q k)
theorem kwp_ret {P : Program} {Q : Exit → Act → World → Prop} {a : Act} {w : World} (h : Q .ret a w) : ∀ k, kwp P Q k .ret a w
 | [] => h
 | .code _ :: k => kwp_ret h k
 | .blk _ :: k => kwp_ret h k
 | .ops _ _ :: k => kwp_ret h k
 | .back _ :: k => kwp_ret h k
 | .again _ :: k => kwp_ret h k
 | .scp _ :: k => kwp_ret h k
 | .gbk _ _ :: k => kwp_ret h k
def Env.ext (ρ0 ρ : Env) : Prop := ∃ li lb lv ls, ρ = ρ0.more li lb lv ls
theorem Env.ext.more {ρ0 ρ : Env} (h : ρ0.ext ρ) (li : List Int) (lb : List Bool) (lv : List Value) (ls : List ByteArray) : ρ0.ext (ρ.more li lb lv ls) := by
 obtain ⟨a, b, c, d, rfl⟩ := h
 exact ⟨a ++ li, b ++ lb, c ++ lv, d ++ ls, by simp [Env.more]⟩
inductive Corr (B : Base) : Env → List It → List SIt → Prop
 | nil {ρ} : Corr B ρ [] []
 | code {ρ c k s} : Corr B ρ k s → Corr B ρ (.code c :: k) (.code c :: s)
 | blk {ρ id k s} : Corr B ρ k s → Corr B ρ (.blk id :: k) (.blk id :: s)
 | ops {ρ all l k s} : Corr B ρ k s → Corr B ρ (.ops all l :: k) (.ops all l :: s)
 | again {ρ c k s} : Corr B ρ k s → Corr B ρ (.again c :: k) (.again c :: s)
 | back {ρ ρ0 ρ1 h J k s new n0} : Corr B ρ k s → ρ0.ext ρ → ρ0.has h.n → h.st.n = h.n.add new → headOk h = true → PcOk ρ0 b0 h.st.pc → ρ1.has h.st.n → ρ1.ext ρ → n0 = (denI ρ1 b0 h.mes).toNat →
     (∀ li lb lv ls β o a w, li.length = new.i → lb.length = new.b → lv.length = new.v → ls.length = new.s → holds (ρ0.more li lb lv ls) h.inv → (denI (ρ0.more li lb lv ls) b0 h.mes).toNat < n0 → Match B (ρ0.more li lb lv ls) β o h.st a w → J a w) →
     Corr B ρ (.back h :: k) (.back J :: s)
 | scp {ρ c k s} : Corr B ρ k s → Corr B ρ (.scp c :: k) (.scp c :: s)
 | gbk {ρ ρ0 ρ1 h J k s new n0 l} : Corr B ρ k s → ρ0.ext ρ → ρ0.has h.n → h.st.n = h.n.add new → headOk h = true → PcOk ρ0 b0 h.st.pc → ρ1.has h.st.n → ρ1.ext ρ → n0 = (denI ρ1 b0 h.mes).toNat →
     (∀ li lb lv ls β o a w, li.length = new.i → lb.length = new.b → lv.length = new.v → ls.length = new.s → holds (ρ0.more li lb lv ls) h.inv → (denI (ρ0.more li lb lv ls) b0 h.mes).toNat < n0 → Match B (ρ0.more li lb lv ls) β o h.st a w → J a w) →
     Corr B ρ (.gbk l h :: k) (.gbk l J :: s)
theorem popTo_kwp {P : Program} {Q : Exit → Act → World → Prop} {B : Base} {ρ : Env} {id : Nat} : ∀ {k : List It} {s : List SIt} {k' : List It}, Corr B ρ k s → popTo id k = some k' → ∃ s', Corr B ρ k' s' ∧ ∀ a w, kwp P Q s' .normal a w → kwp P Q s (.exit id) a w
 | _, _, _, .nil, h => by cases h
 | _, _, _, .code c, h => by
   obtain ⟨s', h1, h2⟩ := popTo_kwp (P := P) (Q := Q) c h
   exact ⟨s', h1, h2⟩
 | _, _, _, .ops c, h => by
   obtain ⟨s', h1, h2⟩ := popTo_kwp (P := P) (Q := Q) c h
   exact ⟨s', h1, h2⟩
 | _, _, _, .again c, h => by
   obtain ⟨s', h1, h2⟩ := popTo_kwp (P := P) (Q := Q) c h
   exact ⟨s', h1, h2⟩
 | _, _, _, .back c _ _ _ _ _ _ _ _ _, h => by
   obtain ⟨s', h1, h2⟩ := popTo_kwp (P := P) (Q := Q) c h
   exact ⟨s', h1, h2⟩
 | _, _, _, .scp c, h => by
   obtain ⟨s', h1, h2⟩ := popTo_kwp (P := P) (Q := Q) c h
   exact ⟨s', h1, h2⟩
 | _, _, _, .gbk c _ _ _ _ _ _ _ _ _, h => by
   obtain ⟨s', h1, h2⟩ := popTo_kwp (P := P) (Q := Q) c h
   exact ⟨s', h1, h2⟩
 | _, _, _, .blk (id := j) (s := s) c, h => by
   unfold popTo at h
   split at h
   · rename_i hij
     obtain rfl := Option.some.inj h
     exact ⟨s, c, fun a w hk => by show (if id = j then _ else _); rw [if_pos hij]; exact hk⟩
   · rename_i hij
     obtain ⟨s', h1, h2⟩ := popTo_kwp (P := P) (Q := Q) c h
     exact ⟨s', h1, fun a w hk => by show (if id = j then _ else _); rw [if_neg hij]; exact h2 a w hk⟩
theorem goTo_kwp {P : Program} {Q : Exit → Act → World → Prop} {B : Base} {ρ : Env} {l : Nat} : ∀ {k : List It} {s : List SIt} {g : Goes2}, Corr B ρ k s → goTo l k = some g →
   match g with
   | .at_ rest body k' => findLabel body l = some rest ∧ ∃ s', Corr B ρ k' s' ∧ ∀ a w, wpAt P body rest (kwp P Q s') a w → kwp P Q s (.goto l) a w
   | .back h => ∃ (J : Act → World → Prop), Corr B ρ (.back h :: []) (.back J :: []) ∧ ∀ a w, J a w → kwp P Q s (.goto l) a w
 | _, _, _, .nil, h => by cases h
 | _, _, g, .code (k := k) (s := s) c, h => by
   have h' : goTo l k = some g := h
   have := goTo_kwp (P := P) (Q := Q) c h'
   cases g with
   | back hd => exact this
   | at_ rest bd k' => exact this
 | _, _, g, .ops (k := k) (s := s) c, h => by
   have h' : goTo l k = some g := h
   have := goTo_kwp (P := P) (Q := Q) c h'
   cases g with
   | back hd => exact this
   | at_ rest bd k' => exact this
 | _, _, g, .again (k := k) (s := s) c, h => by
   have h' : goTo l k = some g := h
   have := goTo_kwp (P := P) (Q := Q) c h'
   cases g with
   | back hd => exact this
   | at_ rest bd k' => exact this
 | _, _, g, .back (k := k) (s := s) c _ _ _ _ _ _ _ _ _, h => by
   have h' : goTo l k = some g := h
   have := goTo_kwp (P := P) (Q := Q) c h'
   cases g with
   | back hd => exact this
   | at_ rest bd k' => exact this
 | _, _, g, .blk (k := k) (s := s) c, h => by
   have h' : goTo l k = some g := h
   have := goTo_kwp (P := P) (Q := Q) c h'
   cases g with
   | back hd => exact this
   | at_ rest bd k' => exact this
 | _, _, g, .scp (c := body) (s := s) c, h => by
   unfold goTo at h
   split at h
   · rename_i rest hf
     obtain rfl := Option.some.inj h
     refine ⟨hf, s, c, fun a w hk => ?_⟩
     show wpSc P body (kwp P Q s) (.goto l) a w
     unfold wpSc
     simp only [hf]
     exact hk
   · rename_i hf
     have e : ∀ a w, wpSc P body (kwp P Q s) (.goto l) a w = kwp P Q s (.goto l) a w := fun a w => by
       unfold wpSc
       simp only [hf]
     have := goTo_kwp (P := P) (Q := Q) c h
     cases g with
     | back hd =>
       obtain ⟨J, h1, h2⟩ := this
       exact ⟨J, h1, fun a w hj => by show wpSc P body (kwp P Q s) (.goto l) a w; rw [e]; exact h2 a w hj⟩
     | at_ rest bd k' =>
       obtain ⟨h0, s', h1, h2⟩ := this
       exact ⟨h0, s', h1, fun a w hj => by show wpSc P body (kwp P Q s) (.goto l) a w; rw [e]; exact h2 a w hj⟩
 | _, _, g, .gbk (l := l') (J := J) (s := s) c h1 h2 h3 h4 h5 h6 h7 h8 h9, h => by
   unfold goTo at h
   split at h
   · rename_i hl
     obtain rfl := Option.some.inj h
     exact ⟨J, .back .nil h1 h2 h3 h4 h5 h6 h7 h8 h9, fun a w hj => by show gbkX l' J (kwp P Q s) (.goto l) a w; unfold gbkX; simp only; rw [if_pos hl.symm]; exact hj⟩
   · rename_i hl
     have e : ∀ a w, gbkX l' J (kwp P Q s) (.goto l) a w = kwp P Q s (.goto l) a w := fun a w => by
       unfold gbkX
       simp only
       rw [if_neg (fun h => hl h.symm)]
     have := goTo_kwp (P := P) (Q := Q) c h
     cases g with
     | back hd =>
       obtain ⟨J', h1, h2⟩ := this
       exact ⟨J', h1, fun a w hj => by show gbkX l' J (kwp P Q s) (.goto l) a w; rw [e]; exact h2 a w hj⟩
     | at_ rest bd k' =>
       obtain ⟨h0, s', h1, h2⟩ := this
       exact ⟨h0, s', h1, fun a w hj => by show gbkX l' J (kwp P Q s) (.goto l) a w; rw [e]; exact h2 a w hj⟩
theorem getD_app {α : Type} {l m : List α} {i : Nat} (h : i < l.length) (d : α) : (l ++ m).getD i d = l.getD i d := by
 simp [List.getD_eq_getElem?_getD, List.getElem?_append_left h]
theorem scope_den {n : Cnt} {ρ0 ρ : Env} (hn : ρ0.has n) (he : ρ0.ext ρ) (β : Nat → Nat) : ∀ t, inScope n t = true → denI ρ β t = denI ρ0 β t ∧ denB ρ β t = denB ρ0 β t ∧ denV ρ β t = denV ρ0 β t ∧ denL ρ β t = denL ρ0 β t := by
 obtain ⟨li, lb, lv, ls, rfl⟩ := he
 obtain ⟨n1, n2, n3, n4⟩ := hn
 intro t
 induction t with
 | var i => intro h; simp only [inScope, decide_eq_true_eq] at h; exact ⟨getD_app (by omega) _, rfl, rfl, rfl⟩
 | bvar i => intro h; simp only [inScope, decide_eq_true_eq] at h; exact ⟨rfl, getD_app (by omega) _, rfl, rfl⟩
 | opq i => intro h; simp only [inScope, decide_eq_true_eq] at h; exact ⟨rfl, rfl, getD_app (by omega) _, rfl⟩
 | str i => intro h; simp only [inScope, decide_eq_true_eq] at h; refine ⟨rfl, rfl, ?_, rfl⟩; simp only [denV]; exact congrArg _ (getD_app (by omega) _)
 | i2 o a b iha ihb => intro h; simp only [inScope, Bool.and_eq_true] at h; obtain ⟨a1, a2, a3, a4⟩ := iha h.1; obtain ⟨b1, b2, b3, b4⟩ := ihb h.2; simp [denI, denB, denV, denL, a1, b1]
 | b2 o a b iha ihb => intro h; simp only [inScope, Bool.and_eq_true] at h; obtain ⟨a1, a2, a3, a4⟩ := iha h.1; obtain ⟨b1, b2, b3, b4⟩ := ihb h.2; simp [denI, denB, denV, denL, a1, b1, a2, b2]
 | veq a b iha ihb => intro h; simp only [inScope, Bool.and_eq_true] at h; obtain ⟨a1, a2, a3, a4⟩ := iha h.1; obtain ⟨b1, b2, b3, b4⟩ := ihb h.2; simp [denI, denB, denV, denL, a3, b3]
 | cons a b iha ihb => intro h; simp only [inScope, Bool.and_eq_true] at h; obtain ⟨a1, a2, a3, a4⟩ := iha h.1; obtain ⟨b1, b2, b3, b4⟩ := ihb h.2; simp [denI, denB, denV, denL, a3, b4]
 | ep K a b j iha ihb => intro h; simp [denI, denB, denV, denL]
 | wrap k a ih => intro h; obtain ⟨a1, a2, a3, a4⟩ := ih h; simp [denI, denB, denV, denL, a1]
 | blen a ih => intro h; obtain ⟨a1, a2, a3, a4⟩ := ih h; simp [denI, denB, denV, denL, a3]
 | ofI a ih => intro h; obtain ⟨a1, a2, a3, a4⟩ := ih h; simp [denI, denB, denV, denL, a3]
 | ofB a ih => intro h; obtain ⟨a1, a2, a3, a4⟩ := ih h; simp [denI, denB, denV, denL, a3]
 | vop o a ih => intro h; obtain ⟨a1, a2, a3, a4⟩ := ih h; simp [denI, denB, denV, denL, a4]
 | hs lab K a ih => intro h; obtain ⟨a1, a2, a3, a4⟩ := ih h; simp [denI, denB, denV, denL, a3]
 | iapp f a ih => intro h; obtain ⟨a1, a2, a3, a4⟩ := ih h; simp [denI, denB, denV, denL, a4]; rfl
 | not a ih => intro h; obtain ⟨a1, a2, a3, a4⟩ := ih h; simp [denI, denB, denV, denL, a2]
 | bapp f a ih => intro h; obtain ⟨a1, a2, a3, a4⟩ := ih h; simp [denI, denB, denV, denL, a4]; rfl
 | int k a ih => intro h; obtain ⟨a1, a2, a3, a4⟩ := ih h; simp [denI, denB, denV, denL, a1]
 | bool a ih => intro h; obtain ⟨a1, a2, a3, a4⟩ := ih h; simp [denI, denB, denV, denL, a2]
 | agg a ih => intro h; obtain ⟨a1, a2, a3, a4⟩ := ih h; simp [denI, denB, denV, denL, a4]
 | tup a ih => intro h; obtain ⟨a1, a2, a3, a4⟩ := ih h; simp [denI, denB, denV, denL, a4]
 | err a ih => intro h; obtain ⟨a1, a2, a3, a4⟩ := ih h; simp [denI, denB, denV, denL, a1]; rfl
 | iface t a ih => intro h; obtain ⟨a1, a2, a3, a4⟩ := ih h; simp [denI, denB, denV, denL, a3]
 | vapp f a ih => intro h; obtain ⟨a1, a2, a3, a4⟩ := ih h; simp [denI, denB, denV, denL, a4]; rfl
 | sapp f a ih => intro h; obtain ⟨a1, a2, a3, a4⟩ := ih h; simp [denI, denB, denV, denL, a4]; rfl
 | clo f a ih => intro h; obtain ⟨a1, a2, a3, a4⟩ := ih h; simp [denI, denB, denV, denL, a4]
 | _ => intro _; simp [denI, denB, denV, denL]
theorem range_map {α : Type} (F : Tm → α) (l0 : List α) (V B : Nat → Tm) (m k : Nat) (hl : l0.length = m) (h : ∀ j (hj : j < m), F (V j) = l0[j]) :
   ((List.range (m + k)).map fun j => if j < m then V j else B j).map F = l0 ++ ((List.range k).map fun j => F (B (m + j))) := by
 rw [List.range_add, List.map_append, List.map_append]
 congr 1
 · apply List.ext_getElem
   · simp [hl]
   · intro i h1 h2
     have hi : i < m := by omega
     simp [hi, h i hi]
 · simp only [List.map_map]
   apply List.map_congr_left
   intro j _
   simp only [Function.comp]
   rw [if_neg (by omega)]
theorem sub_closed {ρ : Env} {σ : Sub} (h1 : (σ.i.all fun t => closed t) = true) (h2 : (σ.b.all fun t => closed t) = true) (h3 : (σ.v.all fun t => closed t) = true) (h4 : (σ.s.all fun t => closed t) = true) (β β' : Nat → Nat) : ρ.sub β σ = ρ.sub β' σ := by
 unfold Env.sub
 congr 1
 · exact List.map_congr_left fun t ht => (closed_den (List.all_eq_true.1 h1 t ht) β β').1
 · exact List.map_congr_left fun t ht => (closed_den (List.all_eq_true.1 h2 t ht) β β').2.1
 · exact List.map_congr_left fun t ht => (closed_den (List.all_eq_true.1 h3 t ht) β β').2.2.1
 · exact List.map_congr_left fun t ht => by rw [(closed_den (List.all_eq_true.1 h4 t ht) β β').2.2.1]
theorem fitsL_get {σ : Sub} {lm : Nat → Option LSrc} : ∀ {ps ts : List Tm}, fitsL σ lm ps ts = true → ps.length = ts.length ∧ ∀ (i : Nat) p t, ps[i]? = some p → ts[i]? = some t → fitT σ lm p t = true
 | [], [], _ => ⟨rfl, fun i p t h => by simp at h⟩
 | [], _ :: _, h => by cases h
 | _ :: _, [], h => by cases h
 | p :: ps, t :: ts, h => by
   simp only [fitsL, Bool.and_eq_true] at h
   obtain ⟨h1, h2⟩ := fitsL_get h.2
   refine ⟨by simp [h1], fun i q u hq hu => ?_⟩
   cases i with
   | zero => simp at hq hu; subst hq hu; exact h.1
   | succ i => exact h2 i q u (by simpa using hq) (by simpa using hu)
theorem fitsH_get {σ : Sub} {lm : Nat → Option LSrc} : ∀ {ps ts : List (List Tm)}, fitsH σ lm ps ts = true → ∀ (i : Nat) p, ps[i]? = some p → p = [] ∨ ∃ t, ts[i]? = some t ∧ fitsL σ lm p t = true
 | [], ts, _ => fun i p h => by simp at h
 | [] :: ps, [], h => fun i p hp => by
   cases i with
   | zero => simp at hp; exact .inl hp
   | succ i =>
     rw [List.getElem?_cons_succ] at hp
     rcases fitsH_get (ps := ps) (ts := []) h i p hp with h' | ⟨t, ht, _⟩
     · exact .inl h'
     · simp at ht
 | [] :: ps, t :: ts, h => fun i p hp => by
   cases i with
   | zero => simp at hp; exact .inl hp
   | succ i =>
     rw [List.getElem?_cons_succ] at hp ⊢
     exact fitsH_get (ps := ps) (ts := ts) h i p hp
 | (c :: p) :: ps, [], h => by cases h
 | (c :: p) :: ps, t :: ts, h => by
   simp only [fitsH, Bool.and_eq_true] at h
   intro i q hq
   cases i with
   | zero => simp at hq; subst hq; exact .inr ⟨t, rfl, h.1⟩
   | succ i => simpa using fitsH_get h.2 i q (by simpa using hq)
theorem env_eq {ρ ρ0 : Env} {σ : Sub} {li : List Int} {lb : List Bool} {lv : List Value} {ls : List ByteArray} (h1 : σ.i.map (denI ρ b0) = ρ0.iv ++ li) (h2 : σ.b.map (denB ρ b0) = ρ0.bv ++ lb) (h3 : σ.v.map (denV ρ b0) = ρ0.vv ++ lv) (h4 : (σ.s.map fun t => strOf (denV ρ b0 t)) = ρ0.sv ++ ls)
   (h5 : ρ.fi = ρ0.fi) (h6 : ρ.fb = ρ0.fb) (h7 : ρ.fv = ρ0.fv) (h8 : ρ.et = ρ0.et) : ρ.sub b0 σ = ρ0.more li lb lv ls := by
 unfold Env.sub Env.more
 rw [h1, h2, h3, h4, h5, h6, h7, h8]
def headO (lm : Nat → Option LSrc) (lv : List Nat) (o : Nat → Option Top) (n : Nat) : Option Top :=
 if n ∈ lv then (match lm n with
   | some (.lab n') => o n'
   | some (.nilS e sz) => some ⟨.slice none 0 0, e, sz⟩
   | none => none) else none
theorem nodup_map {f : Nat → Option Nat} : ∀ {l : List Nat}, (l.filterMap f).Nodup → ∀ x ∈ l, ∀ y ∈ l, ∀ z, f x = some z → f y = some z → l.Nodup → x = y
 | [], _ => fun x hx => by cases hx
 | a :: r, h => fun x hx y hy z h1 h2 hn => by
   have hr : (r.filterMap f).Nodup := by
     rw [List.filterMap_cons] at h
     split at h
     · exact h
     · exact (List.nodup_cons.1 h).2
   have hna : ∀ y ∈ r, f a = some z → f y = some z → False := fun y hy e1 e2 => by
     rw [List.filterMap_cons, e1] at h
     exact (List.nodup_cons.1 h).1 (List.mem_filterMap.2 ⟨y, hy, e2⟩)
   rcases List.mem_cons.1 hx with rfl | hx' <;> rcases List.mem_cons.1 hy with rfl | hy'
   · rfl
   · exact (hna y hy' h1 h2).elim
   · exact (hna x hx' h2 h1).elim
   · exact nodup_map hr x hx' y hy' z h1 h2 (List.nodup_cons.1 hn).2
theorem fitT_rel {ρ ρ' : Env} {β : Nat → Nat} {o : Nat → Option Top} {ok ok' : Nat → Nat → Prop} {w : World} {σ : Sub} {lm : Nat → Option LSrc} {lv : List Nat} (hden : ∀ t, denV ρ β (subst σ t) = denV ρ' β t ∧ denL ρ β (subst σ t) = denL ρ' β t) (hk : Kept ok ok' w w) : ∀ p t, fitT σ lm p t = true →
   (∀ v, Rel ⟨ρ, β, o, ok, w⟩ t v → Rel ⟨ρ', β, headO lm lv o, ok', w⟩ p v) ∧ (p ≠ .junk → ∀ vs, RelL ⟨ρ, β, o, ok, w⟩ t vs → RelL ⟨ρ', β, headO lm lv o, ok', w⟩ p vs) := by
 have leaf : ∀ p t, flat p = true → flat t = true → t = subst σ p → (∀ v, Rel ⟨ρ, β, o, ok, w⟩ t v → Rel ⟨ρ', β, headO lm lv o, ok', w⟩ p v) ∧ (p ≠ .junk → ∀ vs, RelL ⟨ρ, β, o, ok, w⟩ t vs → RelL ⟨ρ', β, headO lm lv o, ok', w⟩ p vs) := fun p t h1 h2 h3 => by
   refine ⟨fun v h => ?_, fun _ vs h => ?_⟩
   · rw [(flat_rel _ _ h2).1] at h
     rw [(flat_rel _ _ h1).1, h]
     show denV ρ β t = denV ρ' β p
     rw [h3, (hden p).1]
   · rw [(flat_rel _ _ h2).2] at h
     rw [(flat_rel _ _ h1).2, h]
     show denL ρ β t = denL ρ' β p
     rw [h3, (hden p).2]
 have last : ∀ p t, (flat p && flat t && t == subst σ p) = true → (∀ v, Rel ⟨ρ, β, o, ok, w⟩ t v → Rel ⟨ρ', β, headO lm lv o, ok', w⟩ p v) ∧ (p ≠ .junk → ∀ vs, RelL ⟨ρ, β, o, ok, w⟩ t vs → RelL ⟨ρ', β, headO lm lv o, ok', w⟩ p vs) := fun p t h => by
   simp only [Bool.and_eq_true, beq_iff_eq] at h
   exact leaf p t h.1.1 h.1.2 h.2
 have hL : ∀ n, headO lm lv o n = none ∨ (n ∈ lv) := fun n => by
   unfold headO
   split
   · rename_i h; exact .inr h
   · exact .inl rfl
 intro p
 induction p with
 | junk => intro t _; exact ⟨fun _ _ => trivial, fun h => absurd rfl h⟩
 | hs lab K q _ =>
   intro t h
   cases t with
   | hs lab' K' t' =>
     simp only [fitT, Bool.and_eq_true, decide_eq_true_eq, beq_iff_eq] at h
     obtain ⟨⟨rfl, rfl⟩, hl⟩ := h
     refine ⟨fun v hv => ⟨?_, fun n e hle T hT => ?_⟩, fun _ vs hv => by simpa [RelL] using hv⟩
     · have := (deep_mono hk _).1 _ _ hv.1
       show deepC ok' w (.sl K) v (denV ρ' β q)
       rw [← (hden q).1]
       exact this
     · subst hle
       cases lab' with
       | id n' e' =>
         simp only [labFits, Bool.and_eq_true, decide_eq_true_eq] at hl
         obtain ⟨rfl, hl⟩ := hl
         refine hv.2 n' e rfl T ?_
         have hT' : headO lm lv o n = some T := hT
         unfold headO at hT'
         split at hT'
         · rw [hl] at hT'; exact hT'
         · cases hT'
       | _ => simp [labFits] at hl
   | cst c =>
     cases c with
     | nilS =>
       simp only [fitT, Bool.and_eq_true, beq_iff_eq] at h
       obtain ⟨h1, hl⟩ := h
       refine ⟨fun v hv => ?_, fun _ vs hv => by simpa [RelL] using hv⟩
       simp only [Rel, denV, Cst.den] at hv
       subst hv
       refine ⟨?_, fun n e hle T hT => ?_⟩
       · show deepC ok' w (.sl K) _ (denV ρ' β q)
         rw [← (hden q).1, h1]
         exact deep_nil _ _ _
       · subst hle
         simp only [labNil, decide_eq_true_eq] at hl
         have hT' : headO lm lv o n = some T := hT
         unfold headO at hT'
         split at hT'
         · rw [hl] at hT'; exact (Option.some.inj hT').symm
         · cases hT'
     | _ => exact last _ _ h
   | _ => exact last _ _ h
 | agg l ih =>
   intro t h
   cases t with
   | agg m =>
     simp only [fitT, Bool.and_eq_true, bne_iff_ne, ne_eq] at h
     have := (ih m h.2).2 h.1
     exact ⟨fun v ⟨vs, h1, h2⟩ => ⟨vs, h1, this vs h2⟩, fun _ vs hv => by simpa [RelL] using hv⟩
   | _ => exact last _ _ h
 | tup l ih =>
   intro t h
   cases t with
   | tup m =>
     simp only [fitT, Bool.and_eq_true, bne_iff_ne, ne_eq] at h
     have := (ih m h.2).2 h.1
     exact ⟨fun v ⟨vs, h1, h2⟩ => ⟨vs, h1, this vs h2⟩, fun _ vs hv => by simpa [RelL] using hv⟩
   | _ => exact last _ _ h
 | clo f l ih =>
   intro t h
   cases t with
   | clo f' m =>
     simp only [fitT, Bool.and_eq_true, bne_iff_ne, ne_eq, beq_iff_eq] at h
     obtain ⟨⟨h1, rfl⟩, h3⟩ := h
     have := (ih m h3).2 h1
     exact ⟨fun v ⟨vs, h1, h2⟩ => ⟨vs, h1, this vs h2⟩, fun _ vs hv => by simpa [RelL] using hv⟩
   | _ => exact last _ _ h
 | ep K q i j _ _ =>
   intro t h
   cases i with
   | lit i =>
     cases t with
     | ep K' t' i' j' =>
       cases i' with
       | lit i' =>
         simp only [fitT, Bool.and_eq_true, decide_eq_true_eq, beq_iff_eq] at h
         obtain ⟨⟨rfl, rfl, rfl⟩, rfl⟩ := h
         refine ⟨fun v hv => ?_, fun _ vs hv => by simpa [RelL] using hv⟩
         obtain ⟨b, off, n, cap, h1, h2, h3, h4⟩ := hv
         refine ⟨b, off, n, cap, ?_, h2, h3, h4⟩
         have := (deep_mono hk _).1 _ _ h1
         show deepC ok' w (.sl K) _ (denV ρ' β q)
         rw [← (hden q).1]
         exact this
       | _ => exact last _ _ h
     | _ => exact last _ _ h
   | _ => exact last _ _ h
 | cons a b iha ihb =>
   intro t h
   cases t with
   | cons c d =>
     simp only [fitT, Bool.and_eq_true, bne_iff_ne, ne_eq] at h
     have h1 := (iha c h.1.2).1
     have h2 := (ihb d h.2).2 h.1.1
     refine ⟨fun v hv => by simp only [Rel, denV] at hv ⊢; exact hv, fun _ vs hv => ?_⟩
     cases vs with
     | nil => exact hv.elim
     | cons v r => exact ⟨h1 v hv.1, h2 r hv.2⟩
   | _ => exact last _ _ h
 | _ => intro t h; exact last _ _ h
theorem fits_match {B : Base} {w : World} {ρ0 ρ : Env} {β : Nat → Nat} {o : Nat → Option Top} {st : St} {a : Act} {h : Head} {new : Cnt} (m : Match B ρ β o st a w) (he : ρ0.ext ρ) (hn : ρ0.has h.n) (hnew : h.st.n = h.n.add new) (hok : headOk h = true) (hpc : PcOk ρ0 b0 h.st.pc) (hf : fits h (solve h st) st = true) :
   ∃ li lb lv ls o2, li.length = new.i ∧ lb.length = new.b ∧ lv.length = new.v ∧ ls.length = new.s ∧ ρ.sub b0 (solve h st) = ρ0.more li lb lv ls ∧ Match B (ρ0.more li lb lv ls) β o2 h.st a w := by
 obtain ⟨n1, n2, n3, n4⟩ := hn
 have hext := he
 obtain ⟨ei, eb, ev, es, rfl⟩ := he
 unfold fits at hf
 simp only [Bool.and_eq_true] at hf
 obtain ⟨⟨⟨⟨⟨⟨⟨f1, f2⟩, f3⟩, f4⟩, f5⟩, f6⟩, f7⟩, f8⟩ := hf
 have hsub : ∃ li lb lv ls, li.length = new.i ∧ lb.length = new.b ∧ lv.length = new.v ∧ ls.length = new.s ∧ (ρ0.more ei eb ev es).sub b0 (solve h st) = ρ0.more li lb lv ls := by
   have hI := range_map (denI (ρ0.more ei eb ev es) b0) ρ0.iv (fun j => .var j) (fun j => bindI (pairsOf h st) j) h.n.i new.i n1 (fun j hj => by
           show (ρ0.iv ++ ei).getD j 0 = _
           rw [getD_app (by omega)]
           simp [List.getD_eq_getElem?_getD, List.getElem?_eq_getElem (show j < ρ0.iv.length by omega)])
   have hB := range_map (denB (ρ0.more ei eb ev es) b0) ρ0.bv (fun j => .bvar j) (fun j => bindB (pairsOf h st) j) h.n.b new.b n2 (fun j hj => by
           show (ρ0.bv ++ eb).getD j false = _
           rw [getD_app (by omega)]
           simp [List.getD_eq_getElem?_getD, List.getElem?_eq_getElem (show j < ρ0.bv.length by omega)])
   have hV := range_map (denV (ρ0.more ei eb ev es) b0) ρ0.vv (fun j => .opq j) (fun j => bindV (pairsOf h st) j) h.n.v new.v n3 (fun j hj => by
           show (ρ0.vv ++ ev).getD j Go.undef = _
           rw [getD_app (by omega)]
           simp [List.getD_eq_getElem?_getD, List.getElem?_eq_getElem (show j < ρ0.vv.length by omega)])
   have hS := range_map (fun t => strOf (denV (ρ0.more ei eb ev es) b0 t)) ρ0.sv (fun j => .str j) (fun j => bindS (pairsOf h st) j) h.n.s new.s n4 (fun j hj => by
           show strOf (.string ((ρ0.sv ++ es).getD j ByteArray.empty)) = _
           rw [getD_app (by omega)]
           simp [strOf, List.getD_eq_getElem?_getD, List.getElem?_eq_getElem (show j < ρ0.sv.length by omega)])
   have hn' : h.st.n.i = h.n.i + new.i ∧ h.st.n.b = h.n.b + new.b ∧ h.st.n.v = h.n.v + new.v ∧ h.st.n.s = h.n.s + new.s := by rw [hnew]; exact ⟨rfl, rfl, rfl, rfl⟩
   refine ⟨_, _, _, _, ?_, ?_, ?_, ?_, env_eq (σ := solve h st) (by unfold solve; simp only [hn'.1]; exact hI) (by unfold solve; simp only [hn'.2.1]; exact hB) (by unfold solve; simp only [hn'.2.2.1]; exact hV) (by unfold solve; simp only [hn'.2.2.2]; exact hS) rfl rfl rfl rfl⟩
   all_goals simp
 generalize hσ : solve h st = σ at *
 generalize hlm : lmOf h st = lm at *
 obtain ⟨li, lb, lv, ls, l1, l2, l3, l4, hs⟩ := hsub
 have hden : ∀ t, denV (ρ0.more ei eb ev es) β (subst σ t) = denV (ρ0.more li lb lv ls) β t ∧ denL (ρ0.more ei eb ev es) β (subst σ t) = denL (ρ0.more li lb lv ls) β t := fun t => by
   obtain ⟨_, _, h3, h4⟩ := subst_den (ρ0.more ei eb ev es) β σ f1 t
   rw [h3, h4, sub_closed f2 f3 f4 f5 β b0, hs]
   exact ⟨rfl, rfl⟩
 unfold headOk at hok
 simp only [Bool.and_eq_true] at hok
 obtain ⟨⟨⟨⟨⟨⟨⟨k1, k2⟩, k3⟩, k4⟩, k5⟩, k6⟩, k7⟩, k8⟩ := hok
 obtain ⟨t1, t2⟩ := fitsL_get f6
 have g2 := fitsH_get f7
 unfold lvFits at f8
 simp only [Bool.and_eq_true, decide_eq_true_eq] at f8
 obtain ⟨⟨v1, v2⟩, v3⟩ := f8
 have hown : ∀ i, ownOf h.st.hp i → ownOf st.hp i := fun i ⟨ci, hc, hne⟩ => by
   rcases g2 i ci hc with h' | ⟨t, ht, hl⟩
   · exact absurd h' hne
   · refine ⟨t, ht, ?_⟩
     rintro rfl
     have := (fitsL_get hl).1
     exact hne (List.eq_nil_of_length_eq_zero this)
 have hO : ∀ n T, headO lm h.st.lv o n = some T → n ∈ h.st.lv ∧ ((∃ n', lm n = some (.lab n') ∧ o n' = some T) ∨ ∃ e sz, lm n = some (.nilS e sz) ∧ T = ⟨.slice none 0 0, e, sz⟩) := fun n T hT => by
   unfold headO at hT
   split at hT
   · rename_i hm
     refine ⟨hm, ?_⟩
     split at hT
     · rename_i n' hl; exact .inl ⟨n', hl, hT⟩
     · rename_i e sz hl; exact .inr ⟨e, sz, hl, (Option.some.inj hT).symm⟩
     · cases hT
   · cases hT
 have hokh : ∀ b off, okOf B.ok0 (ownOf st.hp) β o b off → okOf B.ok0 (ownOf h.st.hp) β (headO lm h.st.lv o) b off := fun b off ho => ⟨ho.1, fun i hi => ho.2.1 i (hown i hi), fun n T hT hb => by
   rcases (hO n T hT).2 with ⟨n', _, h'⟩ | ⟨e, sz, _, rfl⟩
   · exact ho.2.2 n' T h' hb
   · simp [topBlk] at hb⟩
 have hk : Kept (okOf B.ok0 (ownOf st.hp) β o) (okOf B.ok0 (ownOf h.st.hp) β (headO lm h.st.lv o)) w w := ⟨Nat.le_refl _, fun b off _ ho => ⟨hokh b off ho, rfl⟩⟩
 have hrel := fitT_rel (o := o) (lm := lm) (lv := h.st.lv) hden hk
 refine ⟨li, lb, lv, ls, headO lm h.st.lv o, l1, l2, l3, l4, hs, ?_⟩
 exact
   { dfr := m.dfr
     len := by rw [t1]; exact m.len
     tm := fun i => by
       rcases Nat.lt_or_ge i h.st.tm.length with hi | hi
       · have e1 := List.getElem?_eq_getElem hi
         have e2 := List.getElem?_eq_getElem (show i < st.tm.length by omega)
         have hm := m.tm i
         simp only [List.getD_eq_getElem?_getD, e1, e2, Option.getD_some] at hm ⊢
         exact (hrel _ _ (t2 i _ _ e1 e2)).1 _ hm
       · have : h.st.tm.getD i .junk = .junk := by simp [List.getD_eq_getElem?_getD, List.getElem?_eq_none hi]
         rw [this]
         exact trivial
     tmi := fun t ht => by
       have := List.all_eq_true.1 k2 t ht
       rw [Bool.and_eq_true] at this
       exact this.2
     hp := fun id cs hc off c ho => by
       rcases g2 id cs hc with rfl | ⟨ts, ht, hl⟩
       · simp at ho
       · obtain ⟨q1, q2⟩ := fitsL_get hl
         have hoff : off < ts.length := by rw [← q1]; exact getElem?_lt ho
         obtain ⟨h1, h2, ⟨v, h3, h4⟩, h5⟩ := m.hp id ts ht off _ (List.getElem?_eq_getElem hoff)
         exact ⟨h1, h2, ⟨v, h3, (hrel _ _ (q2 off _ _ ho (List.getElem?_eq_getElem hoff))).1 _ h4⟩, h5⟩
     hpi := fun cs hc t ht => by
       have := List.all_eq_true.1 (List.all_eq_true.1 k3 cs hc) t ht
       rw [Bool.and_eq_true] at this
       exact this.2
     wk := ⟨fun i j hi hj => m.wk.inj i j (hown i hi) (hown j hj), fun i hi => m.wk.lt i (hown i hi), m.wk.fr, fun b off hb ho => by
       obtain ⟨h1, h2⟩ := m.wk.keep b off hb ho
       exact ⟨hokh b off h1, h2⟩, fun n T hT => by
       obtain ⟨hm, hsrc⟩ := hO n T hT
       refine ⟨(by unfold labOf; simpa using List.all_eq_true.1 k8 n hm), ?_⟩
       rcases hsrc with ⟨n', hl, h'⟩ | ⟨e, sz, hl, rfl⟩
       · obtain ⟨_, q2, q3⟩ := m.wk.top n' T h'
         refine ⟨q2, fun b hb => ?_⟩
         obtain ⟨q4, q5, q6⟩ := q3 b hb
         refine ⟨q4, fun i hi => q5 i (hown i hi), fun n2 T2 hT2 hb2 => ?_⟩
         obtain ⟨hm2, hsrc2⟩ := hO n2 T2 hT2
         rcases hsrc2 with ⟨n2', hl2, h2'⟩ | ⟨e, sz, _, rfl⟩
         · have := q6 n2' T2 h2' hb2
           subst this
           exact nodup_map v2 n2 hm2 n hm n2' (by rw [hl2]) (by rw [hl]) v3
         · simp [topBlk] at hb2
       · exact ⟨⟨none, 0, 0, rfl, Nat.le_refl _, by simp [maxLen], fun _ => rfl, .inl rfl⟩, fun b hb => by simp [topBlk] at hb⟩⟩
     pc := fun x hx => by
       have := List.all_eq_true.1 k1 x hx
       rw [Bool.and_eq_true] at this
       rw [(scope_den ⟨n1, n2, n3, n4⟩ ⟨li, lb, lv, ls, rfl⟩ b0 x.1 this.1).2.1]
       exact hpc x hx
     pcc := fun x hx => by
       have := List.all_eq_true.1 k1 x hx
       rw [Bool.and_eq_true] at this
       exact this.2
     n := by
       refine ⟨?_, ?_, ?_, ?_⟩ <;> simp [Env.more, hnew, Cnt.add] <;> omega
     live := fun n hn => by
       have := List.all_eq_true.1 v1 n hn
       unfold headO
       rw [if_pos hn]
       split at this
       · rename_i n' hl
         first | rw [hl] | skip
         exact m.live n' (by simpa using this)
       · rename_i e sz hl
         first | rw [hl] | skip
         exact ⟨_, rfl⟩
       · cases this }
theorem wp_loop_ghost {P : Program} {Q : Exit → Act → World → Prop} {c : Code} {a : Act} {w : World} (I : Nat → Act → World → Prop) {n0 : Nat} (h0 : I n0 a w)
   (round : ∀ n a w, I n a w → c.wp P (Exit.then (fun a' w' => ∃ m, m < n ∧ I m a' w') Q) a w) : (Code.loop c).wp P Q a w := by
 intro b k cs
 have key : ∀ n a w, I n a w → ∃ e a' w', Q e a' w' ∧ Arrives P (lone (b.at a (.code c :: .inLoop c :: k)) cs w) b k cs e a' w' := by
   intro n
   induction n using Nat.strongRecOn with
   | _ n ih =>
     intro a w hI
     obtain ⟨e, a₁, w₁, hq, harr⟩ := round n a w hI b (.inLoop c :: k) cs
     cases e with
     | normal =>
       obtain ⟨m, hm, hI₁⟩ := hq
       obtain ⟨e₂, a₂, w₂, hq₂, harr₂⟩ := ih m hm a₁ w₁ hI₁
       exact ⟨e₂, a₂, w₂, hq₂, .of_steps (Steps.trans harr (.one step_inLoop)) harr₂⟩
     | exit id => exact ⟨_, a₁, w₁, hq, .pass (x := .inLoop c) rfl (fun _ _ => .inl (by simp)) harr⟩
     | goto l => exact ⟨_, a₁, w₁, hq, .pass (x := .inLoop c) rfl (fun _ _ => .inl (by simp)) harr⟩
     | ret => exact ⟨_, a₁, w₁, hq, .pass (x := .inLoop c) rfl (fun _ _ => .inl (by simp)) harr⟩
     | panic ch => exact ⟨_, a₁, w₁, hq, .pass (x := .inLoop c) rfl (fun _ _ => .inl (by simp)) harr⟩
     | outgrown => exact ⟨_, a₁, w₁, hq, .pass (x := .inLoop c) rfl (fun _ _ => .inl (by simp)) harr⟩
 obtain ⟨e, a', w', hq, harr⟩ := key n0 a w h0
 exact ⟨e, a', w', hq, .of_steps (.one step_loop) harr⟩
/-! Part 14: results; an operation in its turn. -/

def isSh : Sh → Tm → Bool
 | .v, t => flat t && closed t
 | .s K, .hs .no K' t => decide (K = K') && closed t
 | .o e K, .hs (.new e') K' t => decide (e = e') && decide (K = K') && closed t
 | .agg l, .agg m => isSh l m
 | .tup l, .tup m => isSh l m
 | .nil, .nil => true
 | .cons a b, .cons c d => isSh a c && isSh b d
 | _, _ => false
theorem asSh_rel {X : Cx} {β' : Nat → Nat} : ∀ (sh : Sh) (t v : Tm) (n : Option Nat), asSh sh t = some (v, n) → isSh sh v = true ∧ ∀ o' : Nat → Option Top, (∀ m, n = some m → o' 0 = X.o m) →
   (∀ x, Rel X t x → Rel ⟨X.ρ, β', o', X.ok, X.w⟩ (relab 0 v) x) ∧ (∀ xs, RelL X t xs → RelL ⟨X.ρ, β', o', X.ok, X.w⟩ (relab 0 v) xs) := by
 intro sh
 induction sh with
 | v =>
   intro t v n h
   unfold asSh at h
   split at h
   · rename_i hf
     rw [Bool.and_eq_true] at hf
     obtain ⟨rfl, rfl⟩ := Prod.mk.inj (Option.some.inj h)
     refine ⟨by simp [isSh, hf.1, hf.2], fun o' _ => ⟨fun x hx => ?_, fun xs hx => ?_⟩⟩
     · rw [relab_flat 0 _ hf.1]
       rw [(flat_rel _ _ hf.1).1] at hx ⊢
       rw [hx]
       exact (closed_den hf.2 _ _).2.2.1
     · rw [relab_flat 0 _ hf.1]
       rw [(flat_rel _ _ hf.1).2] at hx ⊢
       rw [hx]
       exact (closed_den hf.2 _ _).2.2.2
   · cases h
 | s K =>
   intro t v n h
   cases t <;> (try simp only [asSh] at h) <;> first | (cases h; done) | skip
   · rename_i lab K' t
     split at h
     · rename_i hk
       obtain ⟨rfl, hc⟩ := hk
       obtain ⟨rfl, rfl⟩ := Prod.mk.inj (Option.some.inj h)
       refine ⟨by simp [isSh, hc], fun o' _ => ⟨fun x hx => ⟨?_, fun _ _ h => by cases h⟩, fun xs hx => by simpa [relab, RelL] using hx⟩⟩
       show deepC X.ok X.w (.sl K) x (denV X.ρ β' t)
       rw [(closed_den hc β' X.β).2.2.1]
       exact hx.1
     · cases h
   · rename_i c
     cases c <;> (try simp only [asSh] at h) <;> first | (cases h; done) | skip
     obtain ⟨rfl, rfl⟩ := Prod.mk.inj (Option.some.inj h)
     refine ⟨by simp [isSh, closed, idsIn], fun o' _ => ⟨fun x hx => ?_, fun xs hx => by simpa [relab, RelL] using hx⟩⟩
     simp only [Rel, denV, Cst.den] at hx
     subst hx
     exact ⟨deep_nil _ _ _, fun _ _ h => by cases h⟩
 | o e K =>
   intro t v n h
   cases t <;> (try simp only [asSh] at h) <;> first | (cases h; done) | skip
   rename_i lab K' t
   cases lab <;> (try simp only [asSh] at h) <;> first | (cases h; done) | skip
   rename_i m e'
   split at h
   · rename_i hk
     obtain ⟨rfl, rfl, hc⟩ := hk
     obtain ⟨rfl, rfl⟩ := Prod.mk.inj (Option.some.inj h)
     refine ⟨by simp [isSh, hc], fun o' ho => ⟨fun x hx => ⟨?_, fun k e' hl T hT => ?_⟩, fun xs hx => by simpa [relab, RelL] using hx⟩⟩
     · show deepC X.ok X.w (.sl K) x (denV X.ρ β' t)
       rw [(closed_den hc β' X.β).2.2.1]
       exact hx.1
     · obtain ⟨rfl, rfl⟩ := Lab.id.inj hl
       exact hx.2 m e rfl T ((ho m rfl).symm.trans hT)
   · cases h
 | agg l ih =>
   intro t v n h
   cases t <;> (try simp only [asSh] at h) <;> first | (cases h; done) | skip
   rename_i m
   split at h
   · rename_i t' n' ht
     obtain ⟨rfl, rfl⟩ := Prod.mk.inj (Option.some.inj h)
     obtain ⟨h1, h2⟩ := ih m t' _ ht
     refine ⟨h1, fun o' ho => ⟨fun x hx => ?_, fun xs hx => by simpa [relab, RelL] using hx⟩⟩
     obtain ⟨vs, g1, g2⟩ := hx
     exact ⟨vs, g1, (h2 o' ho).2 vs g2⟩
   · cases h
 | tup l ih =>
   intro t v n h
   cases t <;> (try simp only [asSh] at h) <;> first | (cases h; done) | skip
   rename_i m
   split at h
   · rename_i t' n' ht
     obtain ⟨rfl, rfl⟩ := Prod.mk.inj (Option.some.inj h)
     obtain ⟨h1, h2⟩ := ih m t' _ ht
     refine ⟨h1, fun o' ho => ⟨fun x hx => ?_, fun xs hx => by simpa [relab, RelL] using hx⟩⟩
     obtain ⟨vs, g1, g2⟩ := hx
     exact ⟨vs, g1, (h2 o' ho).2 vs g2⟩
   · cases h
 | nil =>
   intro t v n h
   cases t <;> (try simp only [asSh] at h) <;> first | (cases h; done) | skip
   obtain ⟨rfl, rfl⟩ := Prod.mk.inj (Option.some.inj h)
   exact ⟨rfl, fun o' _ => ⟨fun x hx => by simpa [relab, Rel, denV] using hx, fun xs hx => by simpa [relab, RelL] using hx⟩⟩
 | cons a b iha ihb =>
   intro t v n h
   cases t <;> (try simp only [asSh] at h) <;> first | (cases h; done) | skip
   rename_i c d
   split at h
   · rename_i x m y k h1 h2
     obtain ⟨p1, p2⟩ := iha c x m h1
     obtain ⟨q1, q2⟩ := ihb d y k h2
     have key : ∀ n', (∀ j, m = some j → n' = some j) → (∀ j, k = some j → n' = some j) → v = .cons x y → n = n' → isSh (.cons a b) v = true ∧ ∀ o' : Nat → Option Top, (∀ m, n = some m → o' 0 = X.o m) →
         (∀ x, Rel X (.cons c d) x → Rel ⟨X.ρ, β', o', X.ok, X.w⟩ (relab 0 v) x) ∧ (∀ xs, RelL X (.cons c d) xs → RelL ⟨X.ρ, β', o', X.ok, X.w⟩ (relab 0 v) xs) := by
       rintro n' hm hk rfl rfl
       refine ⟨by simp [isSh, p1, q1], fun o' ho => ⟨fun z hz => by simp only [relab, Rel, denV] at hz ⊢; exact hz, fun xs hz => ?_⟩⟩
       cases xs with
       | nil => exact hz.elim
       | cons z r => exact ⟨(p2 o' fun j hj => ho j (hm j hj)).1 z hz.1, (q2 o' fun j hj => ho j (hk j hj)).2 r hz.2⟩
     split at h
     · cases h
     · obtain ⟨h3, h4⟩ := Prod.mk.inj (Option.some.inj h)
       exact key _ (fun j hj => hj) (fun j hj => by cases hj) h3.symm h4.symm
     · obtain ⟨h3, h4⟩ := Prod.mk.inj (Option.some.inj h)
       exact key _ (fun j hj => by cases hj) (fun j hj => hj) h3.symm h4.symm
   · cases h
theorem sh_rel {ρ ρ' : Env} {β : Nat → Nat} {o : Nat → Option Top} {ok : Nat → Nat → Prop} {w : World} {n : Nat} : ∀ (sh : Sh) (v r : Tm), isSh sh v = true → isSh sh r = true →
   (denV ρ b0 v = denV ρ' b0 r → ∀ x, Rel ⟨ρ, b0, o, ok, w⟩ (relab n v) x → Rel ⟨ρ', β, o, ok, w⟩ (relab n r) x) ∧ (denL ρ b0 v = denL ρ' b0 r → ∀ xs, RelL ⟨ρ, b0, o, ok, w⟩ (relab n v) xs → RelL ⟨ρ', β, o, ok, w⟩ (relab n r) xs) ∧ hasNew v = hasNew r := by
 have hnf : ∀ t, flat t = true → hasNew t = false := by
   intro t
   induction t with
   | hs _ _ _ _ => intro h; cases h
   | agg l ih => intro h; exact ih h
   | tup l ih => intro h; exact ih h
   | clo _ _ _ => intro h; cases h
   | cons a b iha ihb => intro h; simp only [flat, Bool.and_eq_true] at h; simp [hasNew, iha h.1, ihb h.2]
   | _ => intro _; rfl
 intro sh
 induction sh with
 | v =>
   intro v r hv hr
   simp only [isSh, Bool.and_eq_true] at hv hr
   refine ⟨fun he x hx => ?_, fun he xs hx => ?_, by rw [hnf _ hv.1, hnf _ hr.1]⟩
   · rw [relab_flat n _ hv.1, (flat_rel _ _ hv.1).1] at hx
     rw [relab_flat n _ hr.1, (flat_rel _ _ hr.1).1, hx]
     exact he.trans (closed_den hr.2 _ _).2.2.1
   · rw [relab_flat n _ hv.1, (flat_rel _ _ hv.1).2] at hx
     rw [relab_flat n _ hr.1, (flat_rel _ _ hr.1).2, hx]
     exact he.trans (closed_den hr.2 _ _).2.2.2
 | s K =>
   intro v r hv hr
   cases v <;> first | (simp [isSh] at hv; done) | skip
   rename_i lab K1 t
   cases r <;> first | (simp [isSh] at hr; done) | skip
   rename_i lab' K2 t'
   cases lab <;> first | (simp [isSh] at hv; done) | skip
   cases lab' <;> first | (simp [isSh] at hr; done) | skip
   simp only [isSh, Bool.and_eq_true, decide_eq_true_eq] at hv hr
   obtain ⟨rfl, hc1⟩ := hv
   obtain ⟨rfl, hc2⟩ := hr
   refine ⟨fun he x hx => ⟨?_, fun _ _ h => by cases h⟩, fun _ xs hx => by simpa [relab, RelL] using hx, rfl⟩
   show deepC ok w (.sl K) x (denV ρ' β t')
   rw [(closed_den hc2 β b0).2.2.1]
   have he' : denV ρ b0 t = denV ρ' b0 t' := he
   rw [← he']
   exact hx.1
 | o e K =>
   intro v r hv hr
   cases v <;> first | (simp [isSh] at hv; done) | skip
   rename_i lab K1 t
   cases r <;> first | (simp [isSh] at hr; done) | skip
   rename_i lab' K2 t'
   cases lab <;> first | (simp [isSh] at hv; done) | skip
   cases lab' <;> first | (simp [isSh] at hr; done) | skip
   simp only [isSh, Bool.and_eq_true, decide_eq_true_eq] at hv hr
   obtain ⟨⟨rfl, rfl⟩, hc1⟩ := hv
   obtain ⟨⟨rfl, rfl⟩, hc2⟩ := hr
   refine ⟨fun he x hx => ⟨?_, hx.2⟩, fun _ xs hx => by simpa [relab, RelL] using hx, rfl⟩
   show deepC ok w (.sl K) x (denV ρ' β t')
   rw [(closed_den hc2 β b0).2.2.1]
   have he' : denV ρ b0 t = denV ρ' b0 t' := he
   rw [← he']
   exact hx.1
 | agg l ih =>
   intro v r hv hr
   cases v <;> first | (simp [isSh] at hv; done) | skip
   rename_i m
   cases r <;> first | (simp [isSh] at hr; done) | skip
   rename_i m'
   obtain ⟨_, h2, h3⟩ := ih m m' hv hr
   refine ⟨fun he x hx => ?_, fun _ xs hx => by simpa [relab, RelL] using hx, h3⟩
   obtain ⟨vs, g1, g2⟩ := hx
   simp only [denV, Value.agg.injEq] at he
   exact ⟨vs, g1, h2 (by simpa using congrArg Array.toList he) vs g2⟩
 | tup l ih =>
   intro v r hv hr
   cases v <;> first | (simp [isSh] at hv; done) | skip
   rename_i m
   cases r <;> first | (simp [isSh] at hr; done) | skip
   rename_i m'
   obtain ⟨_, h2, h3⟩ := ih m m' hv hr
   refine ⟨fun he x hx => ?_, fun _ xs hx => by simpa [relab, RelL] using hx, h3⟩
   obtain ⟨vs, g1, g2⟩ := hx
   simp only [denV, Value.tuple.injEq] at he
   exact ⟨vs, g1, h2 (by simpa using congrArg Array.toList he) vs g2⟩
 | nil =>
   intro v r hv hr
   cases v <;> first | (simp [isSh] at hv; done) | skip
   cases r <;> first | (simp [isSh] at hr; done) | skip
   exact ⟨fun _ x hx => hx, fun _ xs hx => hx, rfl⟩
 | cons a b iha ihb =>
   intro v r hv hr
   cases v <;> first | (simp [isSh] at hv; done) | skip
   rename_i c d
   cases r <;> first | (simp [isSh] at hr; done) | skip
   rename_i c' d'
   simp only [isSh, Bool.and_eq_true] at hv hr
   obtain ⟨a1, _, a3⟩ := iha c c' hv.1 hr.1
   obtain ⟨_, b2, b3⟩ := ihb d d' hv.2 hr.2
   refine ⟨fun _ x hx => by simp only [relab, Rel, denV] at hx ⊢; exact hx, fun he xs hx => ?_, by simp [hasNew, a3, b3]⟩
   simp only [denL, List.cons.injEq] at he
   cases xs with
   | nil => exact hx.elim
   | cons x r => exact ⟨a1 he.1 x hx.1, b2 he.2 r hx.2⟩
def RetQ (B : Base) (sh : Sh) (K : Value → Prop) : Ending → World → Prop :=
 fun e w' => ∃ (r : Tm) (ρ : Env) (x : Value) (o' : Nat → Option Top) (ok' : Nat → Nat → Prop), e = .returned x ∧ isSh sh r = true ∧ K (denV ρ b0 r) ∧ Done B.okI B.ex B.W w' o' ok' ∧ Rel ⟨ρ, b0, o', ok', w'⟩ (relab 0 r) x ∧ (hasNew r = true → (o' 0).isSome = true)
def resM (a : Act) : ResultVar → Sem Value
 | .tmp t => pure (a.tmps.getD t Go.undef)
 | .cell x t => do loadVar t (← asAddr (a.tmps.getD x Go.undef))
section
variable {P : Program} {B : Base} {ρ : Env} {β : Nat → Nat} {o : Nat → Option Top} {st : St} {a : Act} {w : World}
theorem resT_sound (m : Match B ρ β o st a w) {r : ResultVar} {v : Tm} (h : resT P st r = some v) : ∃ x, (resM a r).run P w = .ok x w ∧ Rel (cxOf B ρ β o st.hp w) v x := by
 cases r with
 | tmp t =>
   obtain ⟨h1, h2, _⟩ := getT_some (show getT st.tm t = some v from h)
   have := m.tm t
   rw [h1] at this
   exact ⟨_, rfl, this⟩
 | cell x t =>
   unfold resT at h
   dsimp only at h
   split at h
   · rename_i id off hx
     obtain ⟨h1, h2, _⟩ := getT_some hx
     have := m.tm x
     rw [h1] at this
     have he : a.tmps.getD x Go.undef = .pointer (some ⟨β id, off, none⟩) := this
     obtain ⟨y, g1, g2⟩ := evalLoad_sound (P := P) m.hp h
     refine ⟨y, ?_, g2⟩
     simp only [resM, he]
     exact g1
   · cases h
theorem resAll_sound (m : Match B ρ β o st a w) : ∀ {rs : List ResultVar} {l : List Tm}, resAll P st rs = some l → ∃ xs, (rs.mapM (resM a)).run P w = .ok xs w ∧ RelT (cxOf B ρ β o st.hp w) l xs
 | [], l, h => by obtain rfl := Option.some.inj h; exact ⟨[], rfl, trivial⟩
 | r :: rs, l, h => by
   unfold resAll at h
   split at h
   · rename_i x ls h1 h2
     obtain rfl := Option.some.inj h
     obtain ⟨y, g1, g2⟩ := resT_sound m h1
     obtain ⟨ys, k1, k2⟩ := resAll_sound m h2
     refine ⟨y :: ys, ?_, g2, k2⟩
     rw [List.mapM_cons, Sem.run_bind, g1]
     simp only [Result.andThen]
     rw [Sem.run_bind, k1]
     rfl
   · cases h
theorem retT_sound (hB : B.Ok) {fn : Func} {sh : Sh} {K : Value → Prop} {t : Tree} (m : Match B ρ β o st a w) (h : retT P sh st fn.results.toList = some t) (ht : t.holds K ρ) : bodyPost P fn (RetQ B sh K) .ret a w := by
 unfold retT at h
 split at h
 · rename_i l hl
   obtain ⟨xs, h1, h2⟩ := resAll_sound m hl
   have hrun : (results fn a.tmps).run P w = .ok (if h : xs.toArray.size = 1 then xs.toArray[0] else .tuple xs.toArray) w := by
     unfold results
     have : (fn.results.mapM (resM a)).run P w = .ok xs.toArray w := by
       rw [Array.mapM_eq_mapM_toList, Sem.run_map, h1]
       rfl
     show ((fn.results.mapM (resM a)) >>= fun vs => pure (if h : vs.size = 1 then vs[0] else .tuple vs)).run P w = _
     rw [Sem.run_bind, this]
     rfl
   have hx : ∃ x, (results fn a.tmps).run P w = .ok x w ∧ Rel (cxOf B ρ β o st.hp w) (oneOf l) x := by
     match l, xs, h2, hrun with
     | [], [], _, hrun => exact ⟨_, hrun, [], rfl, rfl⟩
     | [v], [x], h2, hrun => exact ⟨x, hrun, h2.1⟩
     | v :: v' :: r, x :: x' :: rx, h2, hrun =>
       refine ⟨.tuple (x :: x' :: rx).toArray, ?_, ⟨_, rfl, by rw [relL_toL, toL_ofL]; exact h2⟩⟩
       rw [hrun, dif_neg (by simp)]
   obtain ⟨x, hx1, hx2⟩ := hx
   split at h
   · rename_i v n hv
     split at h
     · rename_i hn
       obtain rfl := Option.some.inj h
       obtain ⟨s1, s2⟩ := asSh_rel (X := cxOf B ρ β o st.hp w) (β' := b0) sh _ v n hv
       obtain ⟨o', ho'⟩ : ∃ o' : Nat → Option Top, o' = fun k => if k = 0 then n.bind o else none := ⟨_, rfl⟩
       have hr := (s2 o' (fun j hj => by rw [ho', hj]; rfl)).1 x hx2
       refine ⟨m.dfr, x, hx1, v, ρ, x, o', okOf B.ok0 (ownOf st.hp) β o, rfl, s1, ht, ⟨m.wk.fr, ⟨m.wk.fr.size, fun b off hb ho => m.wk.keep b off hb ho⟩, fun b off h => hB.sub b off h.1, fun k T hT => ?_⟩, hr, fun hnew => ?_⟩
       · rw [ho'] at hT
         dsimp only at hT
         split at hT
         · rename_i hk
           obtain ⟨j, hj, hT⟩ := Option.bind_eq_some_iff.1 hT
           obtain ⟨_, t1, t2⟩ := m.wk.top j T hT
           exact ⟨hk, t1, fun b hb => ⟨(t2 b hb).1, fun off ho => ho.2.2 j T hT hb⟩⟩
         · cases hT
       · have hnn : ∃ j, n = some j := by
           cases n with
           | some j => exact ⟨j, rfl⟩
           | none =>
             exfalso
             have key : ∀ (sh : Sh) (t v : Tm), asSh sh t = some (v, none) → hasNew v = false := by
               have hnf : ∀ t, flat t = true → hasNew t = false := by
                 intro t
                 induction t with
                 | hs _ _ _ _ => intro h; cases h
                 | agg l ih => intro h; exact ih h
                 | tup l ih => intro h; exact ih h
                 | clo _ _ _ => intro h; cases h
                 | cons a b iha ihb => intro h; simp only [flat, Bool.and_eq_true] at h; simp [hasNew, iha h.1, ihb h.2]
                 | _ => intro _; rfl
               intro sh
               induction sh with
               | v =>
                 intro t v h
                 unfold asSh at h
                 split at h
                 · rename_i hf
                   rw [Bool.and_eq_true] at hf
                   obtain ⟨rfl, _⟩ := Prod.mk.inj (Option.some.inj h)
                   exact hnf _ hf.1
                 · cases h
               | agg l ih =>
                 intro t v h
                 cases t <;> (try simp only [asSh] at h) <;> first | (cases h; done) | skip
                 split at h
                 · rename_i t' n' ht
                   obtain ⟨rfl, rfl⟩ := Prod.mk.inj (Option.some.inj h)
                   show hasNew t' = false
                   exact ih _ _ ht
                 · cases h
               | tup l ih =>
                 intro t v h
                 cases t <;> (try simp only [asSh] at h) <;> first | (cases h; done) | skip
                 split at h
                 · rename_i t' n' ht
                   obtain ⟨rfl, rfl⟩ := Prod.mk.inj (Option.some.inj h)
                   show hasNew t' = false
                   exact ih _ _ ht
                 · cases h
               | cons a b iha ihb =>
                 intro t v h
                 cases t <;> (try simp only [asSh] at h) <;> first | (cases h; done) | skip
                 split at h
                 · rename_i x m y k h1 h2
                   split at h
                   · cases h
                   · obtain ⟨_, h'⟩ := Prod.mk.inj (Option.some.inj h); cases h'
                   · obtain ⟨rfl, rfl⟩ := Prod.mk.inj (Option.some.inj h)
                     simp [hasNew, iha _ _ h1, ihb _ _ h2]
                 · cases h
               | nil =>
                 intro t v h
                 cases t <;> (try simp only [asSh] at h) <;> first | (cases h; done) | skip
                 obtain ⟨rfl, _⟩ := Prod.mk.inj (Option.some.inj h); rfl
               | s K =>
                 intro t v h
                 cases t <;> (try simp only [asSh] at h) <;> first | (cases h; done) | skip
                 · split at h
                   · obtain ⟨rfl, _⟩ := Prod.mk.inj (Option.some.inj h); rfl
                   · cases h
                 · rename_i c
                   cases c <;> (try simp only [asSh] at h) <;> first | (cases h; done) | skip
                   obtain ⟨rfl, _⟩ := Prod.mk.inj (Option.some.inj h); rfl
               | o e K =>
                 intro t v h
                 cases t <;> (try simp only [asSh] at h) <;> first | (cases h; done) | skip
                 rename_i lab _ _
                 cases lab <;> (try simp only [asSh] at h) <;> first | (cases h; done) | skip
                 split at h
                 · obtain ⟨_, h'⟩ := Prod.mk.inj (Option.some.inj h); cases h'
                 · cases h
             rw [key sh _ v hv] at hnew
             cases hnew
         obtain ⟨j, rfl⟩ := hnn
         obtain ⟨T, hT⟩ := m.live j (by simpa [eatOk] using hn)
         rw [ho']
         simp [hT]
     · cases h
   · cases h
 · cases h
theorem wanted_of' {X : Cx} {st : St} {a : Act} (mt : TmOk X st.tm a) (ml : st.tm.length = a.tmps.size) (mp : PcOk X.ρ X.β st.pc) {all : Array Oper} {o : Oper} :
   (wantedS st all o = .yes → Region.wanted o (yielded all a.tmps) = true) ∧ (wantedS st all o = .no → Region.wanted o (yielded all a.tmps) = false) := by
 unfold wantedS Region.wanted
 cases hg : o.guard with
 | none => simp
 | some jb =>
   obtain ⟨j, b⟩ := jb
   dsimp only
   cases hd : (all[j]?).bind (·.dst) with
   | none => simp
   | some d =>
     simp only [Option.bind_some]
     cases ht : getT st.tm d with
     | none => simp
     | some t =>
       have hlt : d < a.tmps.size := by
         obtain ⟨_, _, h3⟩ := getT_some ht
         rw [← ml]
         exact getElem?_lt h3
       have hrel : Rel X t (a.tmps.getD d Go.undef) := by
         obtain ⟨h1, h2, h3⟩ := getT_some ht
         have hr := mt d
         rwa [h1] at hr
       have hval : a.tmps[d]? = some (a.tmps.getD d Go.undef) := by
         rw [Array.getElem?_eq_getElem hlt]
         simp [Array.getD_eq_getD_getElem?, Array.getElem?_eq_getElem hlt]
       cases t
       case bool c =>
         have hv : a.tmps.getD d Go.undef = .bool (denB X.ρ X.β c) := hrel
         have hy : yielded all a.tmps j = some (denB X.ρ X.β c) := by
           unfold yielded
           rw [hd]
           simp only [Option.bind_some, hval, hv]
         rw [hy]
         dsimp only
         cases hdec : decT st.pc c with
         | none => simp
         | some x =>
           have := decT_den mp hdec
           rw [this]
           dsimp only
           by_cases hxb : x = b
           · subst hxb; simp
           · rw [if_neg hxb]; simp [hxb]
       case cst c =>
         have hv : a.tmps.getD d Go.undef = c.den := hrel
         have hy : yielded all a.tmps j = none := by
           unfold yielded
           rw [hd]
           simp only [Option.bind_some, hval, hv]
           cases c <;> rfl
         rw [hy]
         exact ⟨fun h => (by cases h), fun _ => rfl⟩
       all_goals simp
theorem wanted_of (m : Match B ρ β o st a w) {all : Array Oper} {op : Oper} :
   (wantedS st all op = .yes → Region.wanted op (yielded all a.tmps) = true) ∧ (wantedS st all op = .no → Region.wanted op (yielded all a.tmps) = false) := wanted_of' m.tm m.len m.pcb
theorem branch_spec {K : Value → Prop} {ρ : Env} {t : Tm} {x y : Option Tree} {r : Tree} (h : branch t x y = some r) (hr : r.holds K ρ) :
   closed t = true ∧ ((denB ρ b0 t = true ∧ ∃ a, x = some a ∧ a.holds K ρ) ∨ (denB ρ b0 t = false ∧ ∃ a, y = some a ∧ a.holds K ρ)) := by
 unfold branch at h
 split at h
 · rename_i hc
   refine ⟨hc, ?_⟩
   split at h
   · rename_i p q
     obtain rfl := Option.some.inj h
     obtain ⟨h1, h2⟩ := hr
     rw [holds_iff] at h1 h2
     cases hb : denB ρ b0 t
     · exact .inr ⟨rfl, q, rfl, h2 (by rw [hb]; decide)⟩
     · exact .inl ⟨rfl, p, rfl, h1 hb⟩
   · cases h
 · cases h
theorem needT_spec {K : Value → Prop} {ρ : Env} {t : Tm} {x : Option Tree} {r : Tree} (h : needT t x = some r) (hr : r.holds K ρ) (β : Nat → Nat) : denB ρ β t = true ∧ ∃ a, x = some a ∧ a.holds K ρ := by
 unfold needT at h
 split at h
 · exact ⟨rfl, r, h, hr⟩
 · split at h
   · rename_i hc
     cases x with
     | none => cases h
     | some a =>
       obtain rfl := Option.some.inj h
       obtain ⟨h1, h2⟩ := hr
       refine ⟨?_, a, rfl, h2 h1⟩
       rw [(closed_den hc β b0).2.1]
       exact (holds_iff ρ t).1 h1
   · cases h
theorem op_step {Γ : Ctx} (m : Match B ρ β o st a w) (hB : B.Ok) (hGB : B.G = Γ.G) (hg : Γ.Ok P ρ) {op : Oper} {c : Tm} {out : Out} (he : evalOp P ρ.et Γ st.pc st.tm st.hp op.op = .ok c out) (hc : denB ρ β c = true) (hok : st.outOk out = true)
   {Q : Exit → Act → World → Prop} {next : Act → World → Prop} (hn : ∀ β' o' a' w', Match B ρ β' o' (st.done op.dst out) a' w' → next a' w') : op.wp P a w next Q := by
 have hlive : ∀ n, eatOf out = some n → ∃ T, o n = some T := fun n hn => by
   cases out <;> simp only [eatOf] at hn <;> first | (cases hn; done) | skip
   all_goals
     subst hn
     simp only [St.outOk, Bool.and_eq_true, eatOk] at hok
     exact m.live n (by simpa using hok.2)
 have ho := evalOp_sound (X := cxOf B ρ β o st.hp w) m.tm m.hp m.pcb (m.wk.hok hB) (m.wk.tops ρ) hlive hc he
 unfold Oper.wp
 cases out with
 | val v =>
   obtain ⟨x, h1, h2⟩ := ho
   rw [show (execOp a.eval op).run P w = _ from h1]
   exact hn β o _ _ (m.put op.dst hok h2)
 | alloc cells e =>
   obtain ⟨xs, h1, h2⟩ := ho
   rw [show (execOp a.eval op).run P w = _ from h1]
   exact hn _ o _ _ (m.alloc op.dst hok h2)
 | store id off cells =>
   obtain ⟨xs, nx, h1, h2, h3⟩ := ho
   rw [show (execOp a.eval op).run P w = _ from h1]
   rcases h3 with rfl | ⟨y, rfl⟩
   · exact hn β o _ _ (m.store op.dst hok h2 Go.undef)
   · exact hn β o _ _ (m.store op.dst hok h2 y)
 | mk v eat =>
   obtain ⟨x, w', o', ok', h1, h2, h3, h4⟩ := ho
   rw [show (execOp a.eval op).run P w = _ from h1]
   simp only [St.outOk, Bool.and_eq_true] at hok
   obtain ⟨o2, m2⟩ := m.made hB op.dst hok.1 hok.2 h2 h3 h4
   exact hn β o2 _ _ m2
 | call f args v eat =>
   obtain ⟨xs, h1, h2⟩ := ho
   rw [show (execOp a.eval op).run P w = _ from h1]
   show Calls P f xs.toArray w _
   simp only [St.outOk, Bool.and_eq_true] at hok
   refine (evalOp_call (X := cxOf B ρ β o st.hp w) hg (m.wk.hok hB) (by rw [← hGB]; exact m.wk.glob hB) (m.wk.tops ρ) hlive h2 hc he).mono ?_
   rintro e w' ⟨x, o', ok', rfl, h3, h4, h5⟩
   obtain ⟨o2, m2⟩ := m.made hB op.dst hok.1 hok.2 h3 h4 h5
   exact hn β o2 _ _ m2
 | mcall f args v id cells =>
   obtain ⟨xs, h1, h2⟩ := ho
   rw [show (execOp a.eval op).run P w = _ from h1]
   show Calls P f xs.toArray w _
   have hne : cells ≠ [] := by
     rintro rfl
     simp only [St.outOk, Bool.and_eq_true] at hok
     have := hok.2
     split at this
     · rename_i cs _
       cases cs <;> simp at this
     · cases this
   refine (evalOp_mcall (X := cxOf B ρ β o st.hp w) (W := B.W) hg (m.wk.hok hB) (by rw [← hGB]; exact m.wk.glob hB) m.hp h2 (fun cs hcs hcn => ⟨(m.wk.lt id ⟨cs, hcs, hcn⟩).2, fun off h => h.2.1 id ⟨cs, hcs, hcn⟩ rfl⟩) hne hc he).mono ?_
   rintro e w' ⟨x, ok', vs, rfl, h3, h4, h4', h5, h6, h7⟩
   exact hn β o _ _ (m.wrote op.dst hok h3 h4 h4' h5 h6 h7)
 | acall f args cells =>
   obtain ⟨xs, h1, h2⟩ := ho
   rw [show (execOp a.eval op).run P w = _ from h1]
   show Calls P f xs.toArray w _
   refine (evalOp_acall (X := cxOf B ρ β o st.hp w) hg (m.wk.hok hB) (by rw [← hGB]; exact m.wk.glob hB) h2 hc he).mono ?_
   rintro e w' ⟨b, ok', vs, rfl, h3, h4, h4', h5, h6, h7, h8, h9⟩
   exact hn _ o _ _ (m.acalled hB op.dst hok h3 h4 h4' h5 h6 h7 h8 h9)
theorem Corr.more {B : Base} {ρ : Env} (li : List Int) (lb : List Bool) (lv : List Value) (ls : List ByteArray) : ∀ {k : List It} {s : List SIt}, Corr B ρ k s → Corr B (ρ.more li lb lv ls) k s
 | _, _, .nil => .nil
 | _, _, .code c => .code (Corr.more li lb lv ls c)
 | _, _, .blk c => .blk (Corr.more li lb lv ls c)
 | _, _, .ops c => .ops (Corr.more li lb lv ls c)
 | _, _, .again c => .again (Corr.more li lb lv ls c)
 | _, _, .back c h1 h2 h3 h4 h5 h6 h7 h8 h9 => .back (Corr.more li lb lv ls c) (h1.more _ _ _ _) h2 h3 h4 h5 h6 (h7.more _ _ _ _) h8 h9
 | _, _, .scp c => .scp (Corr.more li lb lv ls c)
 | _, _, .gbk c h1 h2 h3 h4 h5 h6 h7 h8 h9 => .gbk (Corr.more li lb lv ls c) (h1.more _ _ _ _) h2 h3 h4 h5 h6 (h7.more _ _ _ _) h8 h9
theorem Env.ext.refl (ρ : Env) : ρ.ext ρ := ⟨[], [], [], [], by simp [Env.more]⟩
end
