/-
 Symbolic walks by reflection, with slices as what they hold: contracts, what an operation does.
-/
import Derived.Test.YtikfgnmljpjnbaaDoorSyapob
import Derived.Laws.IdiomStrings
namespace Go.Proofs.YtikfgnmljpjnbaaDoor.Sy
open Go Go.RowKit
set_option linter.unusedVariables false
set_option linter.unusedSimpArgs false
set_option linter.unnecessarySimpa false
/-! Part 7: what an operation does. -/

def SK.app : SK → SK → SK
 | .cons a r, b => .cons a (r.app b)
 | _, b => b
def SK.times : Nat → SK → SK
 | 0, _ => .nil
 | n + 1, a => a.app (SK.times n a)
def kindAll (g : TypeId → Option SK) : List Field → Option SK
 | [] => some .nil
 | f :: r => match g f.type, kindAll g r with
   | some a, some b => some (a.app b)
   | _, _ => none
def kindOf (P : Program) : Nat → TypeId → Option SK
 | 0, _ => none
 | d + 1, t => match P.underlying t with
   | some (.int k) => some (.cons (.int k) .nil)
   | some .bool => some (.cons .bool .nil)
   | some .string => some (.cons .str .nil)
   | some (.slice e) => (kindOf P d e).map fun r => .cons (.sl r) .nil
   | some (.struct fs) => kindAll (kindOf P d) fs.toList
   | some (.array n e) => (kindOf P d e).map (SK.times n)
   | _ => none
def asK : SK → Tm → Option Tm
 | .int k, .int k' a => if k = k' then some (.int k a) else none
 | .bool, .bool a => some (.bool a)
 | .str, t => if strT t then some t else none
 | .sl r, .hs lab r' t => if r = r' then some (.hs .no r t) else none
 | .sl r, .cst .nilS => some (.hs .no r (.tup .nil))
 | _, _ => none
theorem deep_nil (ok : Nat → Nat → Prop) (w : World) (r : SK) : deepC ok w (.sl r) (.slice none 0 0) (.tuple #[]) :=
 ⟨none, 0, 0, rfl, rfl, by simp [rows], Nat.le_refl _, Nat.zero_le _, fun _ => rfl, fun i hi => absurd hi (Nat.not_lt_zero i)⟩
theorem asK_rel {X : Cx} {K : SK} {t t' : Tm} {v : Value} (h : asK K t = some t') (hr : Rel X t v) : deepC X.ok X.w K v (denV X.ρ X.β t') := by
 unfold asK at h
 split at h
 · split at h
   · rename_i hk; subst hk; obtain rfl := Option.some.inj h
     simp only [Rel, denV] at hr
     subst hr
     exact ⟨rfl, rfl⟩
   · cases h
 · obtain rfl := Option.some.inj h
   simp only [Rel, denV] at hr
   subst hr
   exact ⟨rfl, rfl⟩
 · split at h
   · rename_i hs
     obtain rfl := Option.some.inj h
     obtain ⟨s, he⟩ := strT_den (ρ := X.ρ) (β := X.β) hs
     have hf : flat t = true := by unfold strT at hs; split at hs <;> first | rfl | cases hs
     have := hr.eq hf
     rw [he] at this ⊢
     subst this
     exact ⟨rfl, rfl⟩
   · cases h
 · split at h
   · rename_i hk; subst hk; obtain rfl := Option.some.inj h
     exact hr.1
   · cases h
 · obtain rfl := Option.some.inj h
   simp only [Rel, denV, Cst.den] at hr
   subst hr
   exact deep_nil _ _ _
 · cases h
def asAll (K : SK) : Nat → List Tm → Option (List Tm)
 | _, [] => some []
 | m, t :: r => match (K.get (m % K.wd)).bind (fun a => asK a t), asAll K (m + 1) r with
   | some a, some l => some (a :: l)
   | _, _ => none
theorem asAll_rel {X : Cx} {K : SK} : ∀ {ts cs : List Tm} {vs : List Value} {m : Nat}, asAll K m ts = some cs → RelT X ts vs → cs.length = ts.length ∧ ∀ (k : Nat) x, vs[k]? = some x → ∀ a, K.get ((m + k) % K.wd) = some a → deepC X.ok X.w a x ((cs.map (denV X.ρ X.β)).getD k Go.undef)
 | [], cs, [], m, h, _ => by obtain rfl := Option.some.inj h; exact ⟨rfl, fun k x hx => by simp at hx⟩
 | [], cs, _ :: _, m, _, hr => hr.elim
 | _ :: _, cs, [], m, _, hr => hr.elim
 | t :: ts, cs, v :: vs, m, h, hr => by
   unfold asAll at h
   split at h
   · rename_i a l h1 h2
     obtain rfl := Option.some.inj h
     obtain ⟨k1, k2⟩ := asAll_rel h2 hr.2
     obtain ⟨q, hq, hqa⟩ := Option.bind_eq_some_iff.1 h1
     refine ⟨by simp [k1], fun k x hx b hb => ?_⟩
     cases k with
     | zero =>
       simp at hx
       subst hx
       rw [Nat.add_zero, hq] at hb
       obtain rfl := Option.some.inj hb
       simpa using asK_rel hqa hr.1
     | succ k =>
       have := k2 k x (by simpa using hx) b (by rw [show m + 1 + k = m + (k + 1) by omega]; exact hb)
       simpa using this
   · cases h
def hasNew : Tm → Bool
 | .hs (.new _) _ _ => true
 | .agg l => hasNew l
 | .tup l => hasNew l
 | .clo _ l => hasNew l
 | .cons a b => hasNew a || hasNew b
 | _ => false
def relab (n : Nat) : Tm → Tm
 | .hs (.new e) K t => .hs (.id n e) K t
 | .agg l => .agg (relab n l)
 | .tup l => .tup (relab n l)
 | .clo f l => .clo f (relab n l)
 | .cons a b => .cons (relab n a) (relab n b)
 | t => t
inductive Out where
 | val (v : Tm) | alloc (cells : List Tm) (e : TypeId) | store (id off : Nat) (cells : List Tm) | mk (v : Tm) (eat : Option Nat) | call (f : FuncId) (args : List Tm) (v : Tm) (eat : Option Nat) | mcall (f : FuncId) (args : List Tm) (v : Tm) (id : Nat) (cells : List Tm) | acall (f : FuncId) (args : List Tm) (cells : List Tm)
 deriving DecidableEq
inductive Ev where
 | ok (c : Tm) (o : Out) | ask (c : Tm) | bad
 deriving DecidableEq
structure Done (ok : Nat → Nat → Prop) (ex : Option Nat) (w w' : World) (o' : Nat → Option Top) (ok' : Nat → Nat → Prop) : Prop where
 fr : w.grownBy w' ex
 keep : Kept ok ok' w w'
 sub : ∀ b off, ok' b off → ok b off ∨ some b = ex
 top : ∀ n T, o' n = some T → n = 0 ∧ TopOk w' T ∧ ∀ b, topBlk T.u = some b → (w.heap.size ≤ b ∨ some b = ex) ∧ ∀ off, ok' b off → off < lenOfV T.u * T.sz
def exOf (o : Nat → Option Top) : Option Nat → Option Nat
 | some n => (o n).bind fun T => topBlk T.u
 | none => none
def OutSem (P : Program) (X : Cx) (s : Sem Next) : Out → Prop
 | .val v => ∃ x, s.run P X.w = .ok (.value x) X.w ∧ Rel X v x
 | .alloc cells e => ∃ xs : List Value, s.run P X.w = .ok (.value (.pointer (some ⟨X.w.heap.size, 0, none⟩))) (X.w.alloc (.cells xs.toArray e)) ∧ RelT X cells xs
 | .store id off cells => ∃ (xs : List Value) (nx : Next), s.run P X.w = .ok nx (X.w.setCells (X.β id) off xs) ∧ RelT X cells xs ∧ (nx = .skip ∨ ∃ y, nx = .value y)
 | .mk v eat => ∃ x w' o' ok', s.run P X.w = .ok (.value x) w' ∧ Done X.ok (exOf X.o eat) X.w w' o' ok' ∧ Rel ⟨X.ρ, X.β, o', ok', w'⟩ (relab 0 v) x ∧ (hasNew v = true → (o' 0).isSome = true)
 | .call f args _ _ => ∃ xs : List Value, s.run P X.w = .ok (.enter f xs.toArray) X.w ∧ RelT X args xs
 | .mcall f args _ _ _ => ∃ xs : List Value, s.run P X.w = .ok (.enter f xs.toArray) X.w ∧ RelT X args xs
 | .acall f args _ => ∃ xs : List Value, s.run P X.w = .ok (.enter f xs.toArray) X.w ∧ RelT X args xs
abbrev OutOk (P : Program) (X : Cx) (a : Act) (o : Oper) (out : Out) : Prop := OutSem P X (execOp a.eval o) out
def ofO : Option Tm → Ev
 | some v => .ok (.tt true) (.val v)
 | none => .bad
def ofP : Option (Tm × Tm) → Ev
 | some (c, v) => .ok c (.val v)
 | none => .bad
abbrev Glob := List (Nat × Nat × Value)
def GlobOk (G : Glob) (ok : Nat → Nat → Prop) (w : World) : Prop := ∀ x ∈ G, ok x.1 x.2.1 ∧ x.1 < w.heap.size ∧ w.cell? ⟨x.1, x.2.1, none⟩ = some x.2.2
def evalLoad (P : Program) (hp : List (List Tm)) (t : TypeId) (id off : Nat) : Option Tm :=
 match hp[id]?, P.underlying t, P.info? t with
 | some cs, some d, some i =>
   if isAggD d then
     (let l := (cs.drop off).take i.size
      if l.length = i.size ∧ l.all (fun c => c != .junk) then some (.agg (ofL l)) else none)
   else match cs[off]? with
     | some .junk => none
     | x => x
 | _, _, _ => none
def evalStore (P : Program) (hp : List (List Tm)) (t : TypeId) (id off : Nat) (v : Tm) : Ev :=
 match hp[id]?, P.info? t with
 | some cs, some i => if known v = true ∧ (cellsT v).all storable = true ∧ (cellsT v).length = i.size ∧ off + i.size ≤ cs.length then .ok (.tt true) (.store id off (cellsT v)) else .bad
 | _, _ => .bad
def evalAlloc (P : Program) (e : TypeId) : Ev :=
 match P.info? e with
 | some i => match i.zero with
   | some v => match ofVal v with
     | some t => if known t then .ok (.tt true) (.alloc (cellsT t) e) else .bad
     | none => .bad
   | none => .bad
 | none => .bad
def evalParts (tm : List Tm) : List (Nat × Operand) → Option (List (Nat × Tm))
 | [] => some []
 | (i, x) :: r => match evalO tm x, evalParts tm r with
   | some t, some l => some ((i, t) :: l)
   | _, _ => none
def placesOf (P : Program) : List Field → Option (List (Nat × Nat))
 | [] => some []
 | f :: r => match P.info? f.type, placesOf P r with
   | some i, some l => some ((f.offset, i.size) :: l)
   | _, _ => none
def zeroT (P : Program) (t : TypeId) : Option Tm :=
 match P.info? t with
 | some i => match i.zero with
   | some v => ofVal v
   | none => none
 | none => none
def evalBuild (P : Program) (tm : List Tm) (t : TypeId) (parts : List (Nat × Operand)) : Option Tm :=
 match zeroT P t, evalParts tm parts with
 | some z, some ps =>
   if known z then
     match P.underlying t with
     | some (.struct fs) => match placesOf P fs.toList with
       | some pl => (fillT (fun i => pl[i]?) (cellsT z) ps).map fun l => .agg (ofL l)
       | none => none
     | some (.array _ e) => match P.info? e with
       | some i => (fillT (fun n => some (n * i.size, i.size)) (cellsT z) ps).map fun l => .agg (ofL l)
       | none => none
     | _ => none
   else none
 | _, _ => none
def evalBuildSlice (P : Program) (tm : List Tm) (t : TypeId) (len : Nat) (parts : List (Nat × Operand)) : Ev :=
 match P.underlying t with
 | some (.slice e) => match P.info? e, zeroT P e, evalParts tm parts, kindOf P P.depth e with
   | some i, some z, some ps, some K =>
     if known z = true ∧ 0 < i.size ∧ (cellsT z).length = i.size ∧ K.wd = i.size ∧ len * i.size ≤ 2 ^ 24 then
       match fillT (fun n => some (n * i.size, i.size)) ((List.range (len * i.size)).map fun k => (cellsT z).getD (k % (cellsT z).length) .junk) ps with
       | some l => match asAll K 0 l with
         | some cs => .ok (.tt true) (.mk (.hs (.new e) K (.tup (ofL cs))) none)
         | none => .bad
       | none => .bad
     else .bad
   | _, _, _, _ => .bad
 | _ => .bad
def evalArgs (tm : List Tm) : List Operand → Option (List Tm)
 | [] => some []
 | x :: r => match evalO tm x, evalArgs tm r with
   | some t, some l => some (t :: l)
   | _, _ => none
def callable (P : Program) (f : FuncId) : Bool :=
 match P.funcs[f]? with
 | some fn => !(fn.name == "runtime.NumGoroutine") && fn.body.isSome
 | none => false
def isSliceT (P : Program) (ts : List TypeId) : Bool :=
 match ts with
 | t :: _ => match P.underlying t with
   | some (.slice _) => true
   | _ => false
 | _ => false
def isStrT (P : Program) (ts : List TypeId) : Bool :=
 match ts with
 | t :: _ => match P.underlying t with
   | some .string => true
   | _ => false
 | _ => false
def mkCat (a b : Tm) : Tm :=
 match a, b with
 | .tup .nil, b => b
 | a, .tup .nil => a
 | .tup l, .tup m => .tup (ofL (toL l ++ toL m))
 | a, b => .vop .cat (.cons a (.cons b .nil))
theorem mkCat_den (ρ : Env) (β : Nat → Nat) (a b : Tm) (ha : denV ρ β a = .tuple (rows (denV ρ β a)).toArray) (hb : denV ρ β b = .tuple (rows (denV ρ β b)).toArray) : denV ρ β (mkCat a b) = .tuple (rows (denV ρ β a) ++ rows (denV ρ β b)).toArray := by
 unfold mkCat
 split
 · rw [hb]; simp [denV, denL, rows]
 · rw [ha]; simp [denV, denL, rows]
 · simp [denV, denL_ofL, denL_toL, rows, toL_ofL]
 · simp [denV, denL, VOp.den]
def appArg (P : Program) (e : TypeId) : Tm → Option (SK × Tm × Option Nat)
 | .hs (.id n e') K c => if e = e' then some (K, c, some n) else none
 | .cst .nilS => (kindOf P P.depth e).map fun K => (K, .tup .nil, none)
 | _ => none
def evalAppend (P : Program) (ts : List TypeId) (x y : Tm) : Ev :=
 match ts with
 | [t, t'] => if t = t' then match P.underlying t with
   | some (.slice e) => match P.info? e, zeroT P e, appArg P e x, y with
     | some i, some z, some (K, c, eat), .hs _ K' d =>
       if K = K' ∧ K.wd = i.size ∧ 0 < i.size ∧ 0 < i.bytes ∧ known z = true ∧ (cellsT z).length = i.size then
         .ok (mkCmp .le (mkI2 .add (mkLen K.wd c) (mkLen K.wd d)) (.lit (140737488355328 / i.bytes : Nat))) (.mk (.hs (.new e) K (mkCat c d)) eat)
       else .bad
     | _, _, _, _ => .bad
   | _ => .bad
   else .bad
 | _ => .bad
def evalBuiltin (P : Program) (b : Builtin) (ts : List TypeId) (args : List Tm) : Ev :=
 match b, args with
 | .len, [.hs _ K t] => if isSliceT P ts && decide (0 < K.wd) then .ok (.tt true) (.val (.int .i64 (mkLen K.wd t))) else .bad
 | .len, [.cst .nilS] => if isSliceT P ts then .ok (.tt true) (.val (.int .i64 (.lit 0))) else .bad
 | .len, [.cst (.strc l)] => if isStrT P ts then .ok (.tt true) (.val (.int .i64 (.lit l.length))) else .bad
 | .len, [s] => if isStrT P ts && strT s then .ok (.tt true) (.val (.int .i64 (.blen s))) else .bad
 | .max, [.int k a, .int k' c] => .ok (.tt true) (.val (.int k (mkI2 .max a c)))
 | .min, [.int k a, .int k' c] => .ok (.tt true) (.val (.int k (mkI2 .min a c)))
 | .append, [x, y] => evalAppend P ts x y
 | .real, [x] => if flat x then .ok (.ofB (.vop .isC (.cons x .nil))) (.val (.vop .cre (.cons x .nil))) else .bad
 | .complex, [x, y] => if flat x && flat y then .ok (.ofB (.vop .okL (.cons x (.cons y .nil)))) (.val (.vop .cpx (.cons x (.cons y .nil)))) else .bad
 | .imag, [x] => if flat x then .ok (.ofB (.vop .isC (.cons x .nil))) (.val (.vop .cim (.cons x .nil))) else .bad
 | _, _ => .bad
def litO (tm : List Tm) : Option Operand → Option (Option Tm)
 | none => some none
 | some x => match evalO tm x with
   | some (.int _ a) => some (some a)
   | _ => none
def oneKind (K a0 : SK) (off n : Nat) : Bool := (List.range n).all fun k => K.get (off + k) == some a0
def mkSub (c : Tm) (off : Nat) (l h : Tm) : Tm :=
 match c, l, h with
 | .tup t, .lit a, .lit b => .tup (ofL (((toL t).take (off + b.toNat)).drop (off + a.toNat)))
 | c, l, h => .vop (.sub 1) (.cons c (.cons (.int .i64 (mkI2 .add (.lit off) l)) (.cons (.int .i64 (mkI2 .add (.lit off) h)) .nil)))
theorem mkSub_den (ρ : Env) (β : Nat → Nat) (c : Tm) (off : Nat) (l h : Tm) (hl : 0 ≤ denI ρ β l) (hh : 0 ≤ denI ρ β h) : denV ρ β (mkSub c off l h) = .tuple (((rows (denV ρ β c)).take (off + (denI ρ β h).toNat)).drop (off + (denI ρ β l).toNat)).toArray := by
 unfold mkSub
 split
 · simp [denV, denL_ofL, denL_toL, toL_ofL, rows, denI, List.map_take, List.map_drop]
 · simp only [denV, denL, VOp.den, den_mkI2, I2.den, denI, intOf, Nat.mul_one]
   rw [show ((off : Int) + denI ρ β h).toNat = off + (denI ρ β h).toNat by omega, show ((off : Int) + denI ρ β l).toNat = off + (denI ρ β l).toNat by omega]
def subT (wd : Nat) (c l h : Tm) : Tm :=
 match c, l, h with
 | .tup t, .lit a, .lit b => if wd = 1 ∧ 0 ≤ a ∧ 0 ≤ b ∧ 40 ≤ (toL t).length then .tup (ofL (((toL t).take b.toNat).drop a.toNat)) else .vop (.sub wd) (.cons (.tup t) (.cons (.int .i64 (.lit a)) (.cons (.int .i64 (.lit b)) .nil)))
 | c, l, h => .vop (.sub wd) (.cons c (.cons (.int .i64 l) (.cons (.int .i64 h) .nil)))
theorem subT_den (ρ : Env) (β : Nat → Nat) (wd : Nat) (c l h : Tm) : denV ρ β (subT wd c l h) = denV ρ β (.vop (.sub wd) (.cons c (.cons (.int .i64 l) (.cons (.int .i64 h) .nil)))) := by
 unfold subT
 split
 · split
   · rename_i hh
     obtain ⟨rfl, h0, h1, _⟩ := hh
     simp [denV, denL, VOp.den, intOf, denL_ofL, denL_toL, toL_ofL, rows, denI, List.map_take, List.map_drop]
   · rfl
 · rfl
def intK (k : IntKind) : Tm → Bool
 | .int k' _ => k' == k
 | _ => false
def cpCont (n : Nat) (c : Tm) (old : List Tm) : Tm :=
 match c with
 | .tup l => .tup (ofL (toL l ++ old.drop (toL l).length))
 | c => .vop .cat (.cons c (.cons (.vop (.sub 1) (.cons (.tup (ofL old)) (.cons (.int .i64 (mkLen 1 c)) (.cons (.int .i64 (.lit (n : Int))) .nil)))) .nil))
def cpCells (k : IntKind) (n : Nat) (c : Tm) (old : List Tm) : List Tm := (List.range n).map fun (j : Nat) => cellS 1 (cpCont n c old) (.lit (j : Int)) 0 (.int k)
def evalCopy (P : Program) (hp : List (List Tm)) (ts : List TypeId) (args : List Tm) : Ev :=
 match args, ts with
 | [.asl id off n _, .hs _ (.cons (.int k) .nil) c], [t, _] => match P.underlying t with
   | some (.slice e) => match P.info? e, hp[id]? with
     | some i, some cs => if i.size = 1 ∧ ((cs.drop off).take n).length = n ∧ ((cs.drop off).take n).all (intK k) = true then .ok (.tt true) (.store id off (cpCells k n c ((cs.drop off).take n))) else .bad
     | _, _ => .bad
   | _ => .bad
 | _, _ => .bad
def evalBu (P : Program) (hp : List (List Tm)) (b : Builtin) (ts : List TypeId) (args : List Tm) : Ev :=
 match b with
 | .copy => evalCopy P hp ts args
 | b => evalBuiltin P b ts args
def evalSlice (P : Program) (t : TypeId) (x : Tm) (l h m : Option Tm) : Ev :=
 match P.underlying t, x, m with
 | some .string, s, none => if strT s then
     .ok (mkAnd (mkCmp .le (.lit 0) (l.getD (.lit 0))) (mkAnd (mkCmp .le (l.getD (.lit 0)) (h.getD (.blen s))) (mkCmp .le (h.getD (.blen s)) (.blen s))))
       (.val (.vop .ssub (.cons s (.cons (.int .i64 (l.getD (.lit 0))) (.cons (.int .i64 (h.getD (.blen s))) .nil))))) else .bad
 | some (.slice e), .hs _ K c, none => match P.info? e with
   | some i => if K.wd = i.size ∧ 0 < i.size then
     .ok (mkAnd (mkCmp .le (.lit 0) (l.getD (.lit 0))) (mkAnd (mkCmp .le (l.getD (.lit 0)) (h.getD (mkLen K.wd c))) (mkCmp .le (h.getD (mkLen K.wd c)) (mkLen K.wd c))))
       (.val (.hs .no K (subT K.wd c (l.getD (.lit 0)) (h.getD (mkLen K.wd c))))) else .bad
   | none => .bad
 | some (.slice e), .hs _ K c, some (.lit 0) => match P.info? e, l, h with
   | some _, none, some (.lit 0) => .ok (.tt true) (.mk (.hs (.new e) K (.tup .nil)) none)
   | some _, some (.lit 0), some (.lit 0) => .ok (.tt true) (.mk (.hs (.new e) K (.tup .nil)) none)
   | _, _, _ => .bad
 | some (.array n e), .ptr id off, none => match P.info? e, l.getD (.lit 0), h.getD (.lit (n : Int)) with
   | some i, .lit a, .lit b => if i.size = 1 ∧ 0 ≤ a ∧ a ≤ b ∧ b ≤ (n : Int) then .ok (.tt true) (.val (.asl id (if n = a.toNat then off else off + a.toNat) (b.toNat - a.toNat) (n - a.toNat))) else .bad
   | _, _, _ => .bad
 | some (.array n e), .ep K c (.lit 0) off, none => match P.info? e, K.get off with
   | some i, some a0 => if i.size = 1 ∧ oneKind K a0 off n = true ∧ n ≤ 140737488355328 ∧ off + n ≤ K.wd then
       .ok (mkAnd (mkCmp .le (.lit 0) (l.getD (.lit 0))) (mkAnd (mkCmp .le (l.getD (.lit 0)) (h.getD (.lit (n : Int)))) (mkCmp .le (h.getD (.lit (n : Int))) (.lit (n : Int)))))
         (.val (.hs .no (.cons a0 .nil) (mkSub c off (l.getD (.lit 0)) (h.getD (.lit (n : Int)))))) else .bad
   | _, _ => .bad
 | _, _, _ => .bad
def s2bT : Tm → Tm
 | .cst (.strc l) => .tup (ofL (l.map fun n => .int .u8 (.lit ((n % 256 : Nat) : Int))))
 | s => .vop .s2b (.cons s .nil)
theorem s2bT_den (ρ : Env) (β : Nat → Nat) (z : Tm) : denV ρ β (s2bT z) = .tuple ((strOf (denV ρ β z)).data.toList.map byteV).toArray := by
 unfold s2bT
 split
 · rename_i l
   simp only [denV, denL_ofL, Cst.den, strOf, List.map_map]
   congr 2
 · rfl
def evalConvX (P : Program) (src dst : TypeId) (x : Tm) : Ev :=
 match P.underlying src, P.underlying dst, x with
 | some (.slice e), some .string, .hs _ (.cons (.int .u8) .nil) c => match P.underlying e with
   | some (.int .u8) => .ok (.tt true) (.val (.vop .b2s (.cons c .nil)))
   | _ => .bad
 | some .string, some (.slice e), s => match P.underlying e with
   | some (.int .u8) => if strT s then .ok (mkCmp .le (.blen s) (.lit 140737488355328)) (.mk (.hs (.new e) (.cons (.int .u8) .nil) (s2bT s)) none) else .bad
   | _ => .bad
 | some (.int _), some (.float .f64), .int k a => .ok (.tt true) (.val (.vop .i2f (.cons (.int k a) .nil)))
 | some (.float _), some (.int .i64), x => if flat x then .ok (.ofB (.vop .isF (.cons x .nil))) (.val (.int .i64 (.ofI (.vop .f2i (.cons x .nil))))) else .bad
 | _, _, _ => ofO (evalConv P src dst x)
/-! Part 8: what is done is as told. -/

def BlkOk (X : Cx) (W : World) (id : Nat) (cs : List Tm) : Prop :=
 ∀ off c, cs[off]? = some c → W.heap.size ≤ X.β id ∧ X.β id < X.w.heap.size ∧ (∃ v, X.w.cell? ⟨X.β id, off, none⟩ = some v ∧ Rel X c v) ∧ X.w.frozen? ⟨X.β id, off, none⟩ = false
def HpOk (X : Cx) (W : World) (hp : List (List Tm)) : Prop := ∀ id cs, hp[id]? = some cs → BlkOk X W id cs
def TopsOk (X : Cx) : Prop := ∀ n T, X.o n = some T → TopOk X.w T ∧ ∀ b, topBlk T.u = some b → ∀ off, X.ok b off → off < lenOfV T.u * T.sz
theorem RelT.agg {X : Cx} {l : List Tm} {vs : List Value} (h : RelT X l vs) : Rel X (.agg (ofL l)) (.agg vs.toArray) := ⟨vs, rfl, by rw [relL_toL, toL_ofL]; exact h⟩
theorem evalLoad_sound {P : Program} {X : Cx} {W : World} {hp : List (List Tm)} {t : TypeId} {id off : Nat} {v : Tm} (hh : HpOk X W hp) (h : evalLoad P hp t id off = some v) :
   ∃ x, (Instr.loadAt t (.pointer (some ⟨X.β id, off, none⟩))).run P X.w = .ok x X.w ∧ Rel X v x := by
 unfold evalLoad at h
 split at h
 · rename_i cs d i hc hd hi
   have hb := hh id cs hc
   show ∃ x, (loadVar t ⟨X.β id, off, none⟩).run P X.w = .ok x X.w ∧ _
   unfold loadVar
   split at h
   · rename_i ha
     dsimp only at h
     split at h
     · rename_i hl
       obtain rfl := Option.some.inj h
       have hget : ∀ (k : Nat) c, ((cs.drop off).take i.size)[k]? = some c → cs[off + k]? = some c := fun k c hk => by
         rw [List.getElem?_take] at hk
         split at hk
         · simpa using hk
         · cases hk
       have hex : ∀ n, n ≤ ((cs.drop off).take i.size).length → ∃ vs : List Value, vs.length = n ∧ ∀ (k : Nat) v, vs[k]? = some v → X.w.cell? ⟨X.β id, off + k, none⟩ = some v ∧ ∀ c, ((cs.drop off).take i.size)[k]? = some c → Rel X c v := by
         intro n
         induction n with
         | zero => intro _; exact ⟨[], rfl, fun k v hk => by simp at hk⟩
         | succ n ih =>
           intro hn
           obtain ⟨vs, h1, h2⟩ := ih (by omega)
           have hc0 := List.getElem?_eq_getElem (show n < ((cs.drop off).take i.size).length by omega)
           obtain ⟨_, _, ⟨u, hu, hr⟩, _⟩ := hb (off + n) _ (hget n _ hc0)
           refine ⟨vs ++ [u], by simp [h1], fun k v hk => ?_⟩
           rcases Nat.lt_or_ge k n with hkn | hkn
           · rw [List.getElem?_append_left (by omega)] at hk
             exact h2 k v hk
           · rw [List.getElem?_append_right (by omega)] at hk
             have hk0 : k = n := by
               rcases Nat.eq_zero_or_pos (k - vs.length) with h | h
               · omega
               · rw [List.getElem?_eq_none (by simp; omega)] at hk; cases hk
             subst hk0
             rw [h1, Nat.sub_self] at hk
             simp only [List.getElem?_cons_zero, Option.some.injEq] at hk
             subst hk
             exact ⟨hu, fun c hc => by rw [hc0] at hc; obtain rfl := Option.some.inj hc; exact hr⟩
       obtain ⟨vs, h1, h2⟩ := hex _ (Nat.le_refl _)
       refine ⟨.agg vs.toArray, ?_, RelT.agg (RelT.of h1.symm fun k c v hc hv => (h2 k v hv).2 c hc)⟩
       rw [Sem.run_bind, r_isAgg hd]
       simp only [Result.andThen, ha, if_true, Sem.run_bind, r_sizeOf hi, loadCells]
       have := r_loadCells (P := P) (w := X.w) (b := X.β id) (off := off) vs 0 #[] (fun j u hj => by rw [Nat.zero_add]; exact (h2 j u hj).1)
       rw [h1, hl.1] at this
       rw [this]
       simp
     · cases h
   · rename_i ha
     have hf : isAggD d = false := by simpa using ha
     split at h
     · cases h
     · obtain ⟨_, _, ⟨u, hu, hr⟩, _⟩ := hb off v h
       refine ⟨u, ?_, hr⟩
       rw [Sem.run_bind, r_isAgg hd]
       simp only [Result.andThen, hf, Bool.false_eq_true, if_false]
       rw [r_load hu]
 · cases h
theorem evalStore_sound {P : Program} {X : Cx} {W : World} {hp : List (List Tm)} {t : TypeId} {id off : Nat} {v c : Tm} {o : Out} {u : Value} (hh : HpOk X W hp) (hr : Rel X v u) (h : evalStore P hp t id off v = .ok c o) :
   o = .store id off (cellsT v) ∧ ∃ xs, (Instr.storeAt t (.pointer (some ⟨X.β id, off, none⟩)) u).run P X.w = .ok () (X.w.setCells (X.β id) off xs) ∧ RelT X (cellsT v) xs := by
 unfold evalStore at h
 split at h
 · rename_i cs i hc hi
   split at h
   · rename_i hl
     obtain ⟨hk, hs, hn, ho⟩ := hl
     obtain ⟨_, rfl⟩ := (Ev.ok.injEq _ _ _ _ ▸ h : _ ∧ _)
     obtain ⟨xs, hxc, hxr⟩ := cells_rel hk hr
     refine ⟨rfl, xs, ?_, hxr⟩
     have hlen := hxr.length
     have hb := hh id cs hc
     show (storeVar t ⟨X.β id, off, none⟩ u).run P X.w = _
     unfold storeVar
     rw [Sem.run_bind, r_sizeOf hi]
     simp only [Result.andThen, hxc]
     have hsz : xs.toArray.size = i.size := by simp; omega
     simp only [hsz, ne_eq, not_true_eq_false, if_false]
     have hcell : ∀ j, j < xs.length → ∃ x, cs[off + 0 + j]? = some x := by
       intro j hj
       have : off + 0 + j < cs.length := by omega
       exact ⟨_, List.getElem?_eq_getElem this⟩
     exact run_storeCells_cells (P := P) (X.β id) off xs 0 X.w (fun j hj => by
         obtain ⟨x, hx⟩ := hcell j hj
         obtain ⟨_, _, ⟨y, hy, _⟩, _⟩ := hb _ x hx
         rw [hy]; rfl) (fun j hj => by
         obtain ⟨x, hx⟩ := hcell j hj
         exact (hb _ x hx).2.2.2) (fun x hx => by
         obtain ⟨k, hk'⟩ := List.getElem?_of_mem hx
         have hkl : k < (cellsT v).length := by
           rw [hlen]
           rcases Nat.lt_or_ge k xs.length with h | h
           · exact h
           · rw [List.getElem?_eq_none h] at hk'; cases hk'
         obtain ⟨y, hy1, hy2⟩ := hxr.get k _ (List.getElem?_eq_getElem hkl)
         rw [hk'] at hy1
         obtain rfl := Option.some.inj hy1
         exact storable_one (List.all_eq_true.1 hs _ (List.getElem_mem hkl)) hy2)
   · cases h
 · cases h
theorem parts_rel {X : Cx} {tm : List Tm} {a : Act} (ht : TmOk X tm a) : ∀ {l : List (Nat × Operand)} {ps : List (Nat × Tm)}, evalParts tm l = some ps → RelP X ps (l.map fun (i, x) => (i, a.eval x))
 | [], ps, h => by obtain rfl := Option.some.inj h; exact trivial
 | (i, x) :: r, ps, h => by
   unfold evalParts at h
   split at h
   · rename_i t l h1 h2
     obtain rfl := Option.some.inj h
     exact ⟨rfl, evalO_rel ht h1, parts_rel ht h2⟩
   · cases h
theorem args_rel {X : Cx} {tm : List Tm} {a : Act} (ht : TmOk X tm a) : ∀ {l : List Operand} {ps : List Tm}, evalArgs tm l = some ps → RelT X ps (l.map a.eval)
 | [], ps, h => by obtain rfl := Option.some.inj h; exact trivial
 | x :: r, ps, h => by
   unfold evalArgs at h
   split at h
   · rename_i t l h1 h2
     obtain rfl := Option.some.inj h
     exact ⟨evalO_rel ht h1, args_rel ht h2⟩
   · cases h
theorem zero_den {P : Program} {ρ : Env} {β : Nat → Nat} {t : TypeId} {z : Tm} (h : zeroT P t = some z) (w : World) : (zeroValue t).run P w = .ok (denV ρ β z) w ∧ flat z = true ∧ ∃ i, P.info? t = some i ∧ i.zero = some (denV ρ β z) := by
 unfold zeroT at h
 split at h
 · rename_i i hi
   split at h
   · rename_i v hv
     refine ⟨?_, ofVal_flat h, i, hi, by rw [ofVal_den h]; exact hv⟩
     unfold zeroValue
     rw [Sem.run_bind, r_typeInfo hi]
     simp only [Result.andThen, hv, ofVal_den h]
     rfl
   · cases h
 · cases h
theorem places_run {P : Program} {w : World} : ∀ {l : List Field} {pl : List (Nat × Nat)}, placesOf P l = some pl → (l.mapM fun f => (do pure (f.offset, ← Go.sizeOf f.type) : Sem (Nat × Nat))).run P w = .ok pl w
 | [], pl, h => by obtain rfl := Option.some.inj h; rfl
 | f :: r, pl, h => by
   unfold placesOf at h
   split at h
   · rename_i i l hi hl
     obtain rfl := Option.some.inj h
     rw [List.mapM_cons]
     simp only [Sem.run_bind, r_sizeOf hi, Result.andThen, Sem.run_pure]
     rw [places_run hl]
   · cases h
theorem evalBuild_sound {P : Program} {X : Cx} {w : World} {tm : List Tm} {a : Act} {t : TypeId} {parts : Array (Nat × Operand)} {v : Tm} (ht : TmOk X tm a) (h : evalBuild P tm t parts.toList = some v) :
   ∃ y, (Instr.build t (parts.map fun (i, x) => (i, a.eval x))).run P w = .ok y w ∧ Rel X v y := by
 unfold evalBuild at h
 split at h
 · rename_i z ps hz hp
   split at h
   · rename_i hk
     have hpr := parts_rel ht hp
     rw [← Array.toList_map] at hpr
     obtain ⟨hz1, hz2, _⟩ := zero_den (ρ := X.ρ) (β := X.β) hz w
     obtain ⟨zs, hzc, hzr⟩ := cells_rel hk (Rel.of (X := X) hz2)
     unfold Instr.build
     rw [Sem.run_bind, hz1]
     simp only [Result.andThen, Sem.run_bind, hzc]
     split at h
     · rename_i fs hd
       rw [r_underlying hd]
       simp only [Result.andThen]
       split at h
       · rename_i pl hpl
         cases hf : fillT (fun i => pl[i]?) (cellsT z) ps with
         | none => rw [hf] at h; cases h
         | some res =>
           rw [hf] at h
           obtain rfl := Option.some.inj h
           have hm : (fs.mapM fun f => (do pure (f.offset, ← Go.sizeOf f.type) : Sem (Nat × Nat))).run P w = .ok pl.toArray w := by
             have hpr := places_run (w := w) hpl
             rw [Array.mapM_eq_mapM_toList, Sem.run_map, hpr]
             rfl
           obtain ⟨ys, h3, h4⟩ := fillT_sound ps _ _ _ zs hf hpr hzr
           refine ⟨.agg ys.toArray, ?_, h4.agg⟩
           rw [Sem.run_bind, hm]
           simp only [Result.andThen, List.getElem?_toArray, h3]
           rfl
       · cases h
     · rename_i n e hd
       rw [r_underlying hd]
       simp only [Result.andThen]
       split at h
       · rename_i i hi
         cases hf : fillT (fun n => some (n * i.size, i.size)) (cellsT z) ps with
         | none => rw [hf] at h; cases h
         | some res =>
           rw [hf] at h
           obtain rfl := Option.some.inj h
           obtain ⟨ys, h3, h4⟩ := fillT_sound ps _ _ _ zs hf hpr hzr
           refine ⟨.agg ys.toArray, ?_, h4.agg⟩
           rw [Sem.run_bind, r_sizeOf hi]
           simp only [Result.andThen, h3]
           rfl
       · cases h
     · cases h
   · cases h
 · cases h
theorem done_row {X : Cx} (hok : ∀ b off, X.w.heap.size ≤ b → X.ok b off) {K : SK} {e : TypeId} {cs : List Tm} {ys : List Value} {len : Nat} {arr : Array Value} {w' : World} (hw' : w' = X.w.alloc (.cells arr e) ∨ w' = X.w.drew.alloc (.cells arr e)) (hcs : cs.length = len * K.wd) (hw : 0 < K.wd) {cap : Nat} (hcap : len ≤ cap) (hlen47 : len ≤ 140737488355328) (hm : cap ≤ maxLen) (hsz : arr.size = cap * K.wd)
   (hys : ys.length = cs.length) (hya : ∀ (k : Nat) x, ys[k]? = some x → arr[k]? = some x) (hr : ∀ (k : Nat) x, ys[k]? = some x → ∀ a, K.get (k % K.wd) = some a → deepC X.ok X.w a x ((cs.map (denV X.ρ X.β)).getD k Go.undef)) :
   ∃ o' ok', Done X.ok none X.w w' o' ok' ∧ Rel ⟨X.ρ, X.β, o', ok', w'⟩ (.hs (.id 0 e) K (.tup (ofL cs))) (.slice (some ⟨X.w.heap.size, 0, none⟩) len cap) ∧ (o' 0).isSome = true := by
 have hh : w'.heap[X.w.heap.size]? = some (.cells arr e (0, 0)) := by
   rcases hw' with rfl | rfl
   · exact heap_alloc_new X.w _
   · exact heap_alloc_new X.w.drew _
 have hold : ∀ k, k < X.w.heap.size → w'.heap[k]? = X.w.heap[k]? := by
   rcases hw' with rfl | rfl
   · exact fun k hk => Below.heap_alloc X.w _ k hk
   · exact fun k hk => Below.heap_alloc X.w.drew _ k hk
 have hgr : X.w.grownBy w' none := by
   rcases hw' with rfl | rfl
   · exact ⟨rfl, rfl, rfl, by simp, fun k hk _ => hold k hk⟩
   · exact ⟨rfl, rfl, rfl, by simp, fun k hk _ => hold k hk⟩
 let T : Top := ⟨.slice (some ⟨X.w.heap.size, 0, none⟩) len cap, e, K.wd⟩
 let ok' : Nat → Nat → Prop := fun b off => X.ok b off ∧ (b = X.w.heap.size → off < len * K.wd)
 have hk : Kept X.ok ok' X.w w' := ⟨hgr.size, fun b off hb ho => ⟨⟨ho, fun e => by omega⟩, World.cell?_of_block (hold b hb)⟩⟩
 refine ⟨fun n => if n = 0 then some T else none, ok', ⟨hgr, hk, fun b off h => .inl h.1, fun n T' hT => ?_⟩, ⟨?_, fun n e' hl T' hT => ?_⟩, rfl⟩
 · split at hT
   · rename_i h0
     obtain rfl := Option.some.inj hT
     refine ⟨h0, ⟨_, _, _, rfl, hcap, hm, by simp, .inr ⟨_, _, _, rfl, hh, hsz, .inl rfl⟩⟩, fun b hb => ?_⟩
     have hbe : b = X.w.heap.size := by
       simp only [T, topBlk] at hb
       split at hb
       · cases hb
       · exact (Option.some.inj hb).symm
     exact ⟨.inl (by omega), fun off ho => ho.2 hbe⟩
   · cases hT
 · simp only [denV, denL_ofL]
   refine deep_of_cells (xs := ys) (by simp [hcs]) hcap hlen47 (by simp) ⟨by simp [hys], fun k x hx a ha => ?_⟩ hw fun k x hx => ⟨X.w.heap.size, 0, rfl, (Array.getElem?_eq_some_iff.1 hh).1, ⟨hok _ _ (Nat.le_refl _), fun _ => ?_⟩, ?_⟩
   · exact (deep_mono hk a).1 _ _ (hr k x hx a ha)
   · have : k < ys.length := by
       rcases Nat.lt_or_ge k ys.length with h | h
       · exact h
       · rw [List.getElem?_eq_none h] at hx; cases hx
     omega
   · rw [cell_row hh, Nat.zero_add]; exact hya k x hx
 · obtain ⟨rfl, rfl⟩ := Lab.id.inj hl
   simp only [if_true] at hT
   exact (Option.some.inj hT).symm
theorem evalBuildSlice_sound {P : Program} {X : Cx} {tm : List Tm} {a : Act} {t : TypeId} {len : Nat} {parts : Array (Nat × Operand)} {c : Tm} {out : Out} (hok : ∀ b off, X.w.heap.size ≤ b → X.ok b off) (ht : TmOk X tm a) (h : evalBuildSlice P tm t len parts.toList = .ok c out) :
   OutSem P X (do pure (.value (← Instr.buildSlice t len (parts.map fun (i, x) => (i, a.eval x))))) out := by
 unfold evalBuildSlice at h
 split at h
 · rename_i e hd
   split at h
   · rename_i i z ps K hi hz hp hK
     split at h
     · rename_i hk
       obtain ⟨hk, h0, hzl, hwd, h24⟩ := hk
       split at h
       · rename_i res hf
         split at h
         · rename_i cs hcs
           obtain ⟨_, rfl⟩ := (Ev.ok.injEq _ _ _ _ ▸ h : _ ∧ _)
           have hpr := parts_rel ht hp
           rw [← Array.toList_map] at hpr
           obtain ⟨hz1, hz2, _⟩ := zero_den (ρ := X.ρ) (β := X.β) hz X.w
           obtain ⟨zs, hzc, hzr⟩ := cells_rel hk (Rel.of (X := X) hz2)
           have hzs : zs.length = i.size := by rw [← hzr.length]; exact hzl
           have hfl : RelT X ((List.range (len * i.size)).map fun k => (cellsT z).getD (k % (cellsT z).length) .junk) ((List.range (len * i.size)).map fun k => zs.getD (k % zs.length) Go.undef) := by
             refine RelT.of (by simp) fun k t v h1 h2 => ?_
             rw [List.getElem?_map] at h1 h2
             cases hr : (List.range (len * i.size))[k]? with
             | none => rw [hr] at h1; cases h1
             | some m =>
               rw [hr] at h1 h2
               obtain rfl := Option.some.inj h1
               obtain rfl := Option.some.inj h2
               have hlt : m % (cellsT z).length < (cellsT z).length := Nat.mod_lt _ (by omega)
               obtain ⟨v, g1, g2⟩ := hzr.get _ _ (List.getElem?_eq_getElem hlt)
               rw [← hzr.length]
               simp only [List.getD_eq_getElem?_getD, List.getElem?_eq_getElem hlt, g1, Option.getD_some]
               exact g2
           obtain ⟨ys, h3, h4⟩ := fillT_sound ps _ _ _ _ hf hpr hfl
           obtain ⟨k1, k2⟩ := asAll_rel hcs h4
           have hlen : ∀ (ps : List (Nat × Tm)) (cells res : List Tm), fillT (fun n => some (n * i.size, i.size)) cells ps = some res → res.length = cells.length := by
             intro ps
             induction ps with
             | nil => intro cells res h; obtain rfl := Option.some.inj h; rfl
             | cons p r ih =>
               intro cells res h
               unfold fillT at h
               split at h
               · cases h
               · split at h
                 · rw [ih _ _ h, putAll_length]
                 · cases h
           have hrl : res.length = len * i.size := by rw [hlen _ _ _ hf]; simp
           have hyl : ys.length = len * K.wd := by rw [← h4.length, hrl, hwd]
           obtain ⟨o', ok', d1, d2, d3⟩ := done_row hok (K := K) (e := e) (cs := cs) (ys := ys) (len := len) (arr := ys.toArray) (.inl rfl) (by rw [k1, hrl, hwd]) (by omega) (cap := len) (Nat.le_refl _) (by
               have : len ≤ len * i.size := Nat.le_mul_of_pos_right _ h0
               omega) (by
               have : len ≤ len * i.size := Nat.le_mul_of_pos_right _ h0
               simp only [maxLen]; omega) (by simp [hyl]) (by rw [k1, ← h4.length]) (fun k x hx => by simpa using hx) (fun k x hx q hq => k2 k x hx q (by rw [Nat.zero_add]; exact hq))
           refine ⟨_, _, o', ok', ?_, d1, d2, fun _ => d3⟩
           have hrun : (Instr.buildSlice t len (parts.map fun (i, x) => (i, a.eval x))).run P X.w = .ok (.slice (some ⟨X.w.heap.size, 0, none⟩) len len) (X.w.alloc (.cells ys.toArray e)) := by
             unfold Instr.buildSlice
             rw [Sem.run_bind, r_underlying hd]
             simp only [Result.andThen]
             rw [Sem.run_bind, r_sizeOf hi]
             simp only [Result.andThen]
             rw [if_neg (by omega)]
             by_cases hl0 : len * i.size = 0
             · have hlz : len = 0 := by
                 rcases Nat.mul_eq_zero.1 hl0 with h | h
                 · exact h
                 · omega
               subst hlz
               rw [if_pos hl0]
               have hr0 : (List.range (0 * i.size)) = [] := by simp
               rw [hr0] at h3
               simp only [Sem.run_bind, Sem.run_pure, Result.andThen]
               simp only [List.map_nil] at h3
               have hra : ((Array.range (0 * i.size)).map fun k => (#[] : Array Value)[k % (#[] : Array Value).size]!) = ([] : List Value).toArray := by
                 apply Array.eq_empty_of_size_eq_zero; simp
               rw [hra, h3]
               rfl
             · rw [if_neg hl0]
               simp only [Sem.run_bind, hz1, Result.andThen, Sem.run_pure, hzc]
               have hc : ((Array.range (len * i.size)).map fun k => (zs.toArray)[k % zs.toArray.size]!) = ((List.range (len * i.size)).map fun k => zs.getD (k % zs.length) Go.undef).toArray := by
                 apply Array.ext
                 · simp
                 · intro k g1 g2
                   have hm : k % zs.length < zs.length := Nat.mod_lt _ (by omega)
                   simp [List.getD_eq_getElem?_getD, List.getElem?_eq_getElem hm, getElem!_def, hm]
               rw [hc, h3]
               rfl
           rw [Sem.run_bind, hrun]
           rfl
         · cases h
       · cases h
     · cases h
   · cases h
 · cases h
theorem slice_len {P : Program} {w : World} {ts : Array TypeId} {ty : TypeId} {cs : Array Bool} {o : Option Addr} {n c : Nat} (h : isSliceT P ts.toList = true) : (builtin .len ts ty cs #[.slice o n c]).run P w = .ok (.value (.int .i64 n)) w := by
 unfold isSliceT at h
 split at h
 · rename_i t r hts
   split at h
   · rename_i e hu
     have h0 : ts[0]? = some t := by
       have : ts.toList[0]? = some t := by rw [hts]; rfl
       simpa using this
     simp only [builtin, Builtin.len_, h0]
     simp only [Sem.run_bind, r_underlying hu, Result.andThen, List.getElem?_toArray, List.getElem?_cons_zero]
     rfl
   · cases h
 · cases h
theorem str_len {P : Program} {w : World} {ts : Array TypeId} {ty : TypeId} {cs : Array Bool} {s : ByteArray} (h : isStrT P ts.toList = true) : (builtin .len ts ty cs #[.string s]).run P w = .ok (.value (.int .i64 s.size)) w := by
 unfold isStrT at h
 split at h
 · rename_i t r hts
   split at h
   · rename_i hu
     have h0 : ts[0]? = some t := by
       have : ts.toList[0]? = some t := by rw [hts]; rfl
       simpa using this
     simp only [builtin, Builtin.len_, h0]
     simp only [Sem.run_bind, r_underlying hu, Result.andThen, List.getElem?_toArray, List.getElem?_cons_zero]
     rfl
   · cases h
 · cases h
theorem strT_flat {t : Tm} (h : strT t = true) : flat t = true := by unfold strT at h; split at h <;> first | rfl | cases h
theorem appArg_rel {P : Program} {X : Cx} {e : TypeId} {x : Tm} {u : Value} {K : SK} {c : Tm} {eat : Option Nat} (hr : Rel X x u) (htop : TopsOk X) (hlive : ∀ n, eat = some n → ∃ T, X.o n = some T) (h : appArg P e x = some (K, c, eat)) :
   deepC X.ok X.w (.sl K) u (X.v c) ∧ TopOk X.w ⟨u, e, K.wd⟩ ∧ topBlk u = exOf X.o eat ∧ (∀ b, topBlk u = some b → ∀ off, X.ok b off → off < lenOfV u * K.wd) := by
 unfold appArg at h
 split at h
 · rename_i n e' K' c'
   split at h
   · rename_i he
     subst he
     obtain ⟨rfl, h2⟩ := Prod.mk.inj (Option.some.inj h)
     obtain ⟨rfl, rfl⟩ := Prod.mk.inj h2
     obtain ⟨T, hT⟩ := hlive n rfl
     have hTe := hr.2 n e rfl T hT
     obtain ⟨t1, t2⟩ := htop n T hT
     subst hTe
     exact ⟨hr.1, t1, by simp [exOf, hT], t2⟩
   · cases h
 · cases hK : kindOf P P.depth e with
   | none => rw [hK] at h; cases h
   | some K' =>
     rw [hK] at h
     obtain ⟨rfl, h2⟩ := Prod.mk.inj (Option.some.inj h)
     obtain ⟨rfl, rfl⟩ := Prod.mk.inj h2
     simp only [Rel, denV, Cst.den] at hr
     subst hr
     exact ⟨deep_nil _ _ _, ⟨none, 0, 0, rfl, Nat.le_refl _, by simp [maxLen], fun _ => rfl, .inl rfl⟩, rfl, fun b hb => by simp [topBlk] at hb⟩
 · cases h
theorem deep_tuple {ok : Nat → Nat → Prop} {w : World} {K : SK} {v c : Value} (h : deepC ok w (.sl K) v c) : c = .tuple (rows c).toArray := by
 obtain ⟨_, _, _, _, h, _⟩ := h
 exact h
theorem evalAppend_sound {P : Program} {X : Cx} {ts : Array TypeId} {ty : TypeId} {cs : Array Bool} {x y c : Tm} {u v : Value} {out : Out} (hok : ∀ b off, X.w.heap.size ≤ b → X.ok b off) (htop : TopsOk X)
   (hlive : ∀ v n, out = .mk v (some n) → ∃ T, X.o n = some T) (hx : Rel X x u) (hy : Rel X y v) (h : evalAppend P ts.toList x y = .ok c out) (hc : denB X.ρ X.β c = true) : OutSem P X (builtin .append ts ty cs #[u, v]) out := by
 unfold evalAppend at h
 split at h
 · rename_i t t' hts
   split at h
   · rename_i htt
     subst htt
     split at h
     · rename_i e hd
       split at h
       · rename_i i z K cc eat lab K' d hi hz ha
         split at h
         · rename_i hk
           obtain ⟨rfl, hwd, h0, hby, hkz, hzl⟩ := hk
           obtain ⟨rfl, rfl⟩ := (Ev.ok.injEq _ _ _ _ ▸ h : _ ∧ _)
           obtain ⟨ds, tO, tB, tX⟩ := appArg_rel hx htop (fun n hn => hlive _ n (by rw [hn])) ha
           have dd := hy.1
           have hcat := mkCat_den X.ρ X.β cc d (deep_tuple ds) (deep_tuple dd)
           obtain ⟨p, n, cap, hu⟩ : ∃ p n cap, u = .slice p n cap := by obtain ⟨p, n, cap, hu, _⟩ := ds; exact ⟨p, n, cap, hu⟩
           subst hu
           obtain ⟨q, m, cap2, hv⟩ : ∃ p n cap, v = .slice p n cap := by obtain ⟨p, n, cap, hu, _⟩ := dd; exact ⟨p, n, cap, hu⟩
           subst hv
           obtain ⟨c1, c2, c3, c4, xs, c5, c6⟩ := deep_cells ds
           obtain ⟨e1, e2, e3, e4, ys, e5, e6⟩ := deep_cells dd
           obtain ⟨_, _, i', hi', hz'⟩ := zero_den (ρ := X.ρ) (β := X.β) hz X.w
           rw [hi] at hi'
           obtain rfl := Option.some.inj hi'
           have hz2 := (zero_den (ρ := X.ρ) (β := X.β) hz X.w).2.1
           obtain ⟨zs, hzc, hzr⟩ := cells_rel hkz (Rel.of (X := X) hz2)
           rw [den_mkCmp _ _ _ _ _ rfl, den_mkI2, mkLen_den, mkLen_den] at hc
           have hle := of_decide_eq_true (p := I2.add.den _ _ ≤ denI X.ρ X.β (.lit _)) hc
           simp only [I2.den, denI, c2, e2, Nat.mul_div_cancel _ (show 0 < K.wd by omega)] at hle
           have hle' : n + m ≤ 140737488355328 / i.bytes := by omega
           have hb1 : (n + m) * i.bytes ≤ 140737488355328 := Nat.le_trans (Nat.mul_le_mul_right _ hle') (Nat.div_mul_le_self _ _)
           have hb2 : n + m ≤ 140737488355328 := Nat.le_trans hle' (Nat.div_le_self _ _)
           rw [hwd] at tO
           obtain ⟨p', cap', w', r1, r2, r3, r4, r5, r6⟩ := app_run (P := P) X.w t ty e i (denV X.ρ X.β z) hd hi hz' (by rw [hzc]; simp [← hzr.length, hzl]) h0 tO xs (by rw [c5.1, c2, hwd]) (fun k x hk => by obtain ⟨b, off, k1, _, _, k2⟩ := c6 k x hk; exact ⟨b, off, k1, k2⟩)
             ys (by rw [e5.1, e2, hwd]) (fun k x hk => by obtain ⟨b, off, k1, _, _, k2⟩ := e6 k x hk; exact ⟨b, off, k1, k2⟩) (fun hq => by have := e4 hq; omega) (e5.one (by omega)) (by simp only [maxLen]; omega) hb1
           let T : Top := ⟨.slice p' (n + m) cap', e, K.wd⟩
           let ok' : Nat → Nat → Prop := fun b off => (X.ok b off ∨ some b = topBlk (.slice p n cap)) ∧ ∀ g, topBlk T.u = some g → b = g → off < (n + m) * K.wd
           have hnd : n * K.wd ≤ (n + m) * K.wd := Nat.mul_le_mul_right _ (Nat.le_add_right _ _)
           have hkeep : Kept X.ok ok' X.w w' := ⟨r3.size, fun b off hb ho => ⟨⟨.inl ho, fun g hg hbg => by
             rcases r5 g hg with h | h
             · have := tX g h off (by rw [← hbg]; exact ho)
               simp only [lenOfV] at this
               omega
             · omega⟩, r4 b off hb fun g hg hbg => by
               have := tX g hg off (by rw [← hbg]; exact ho)
               rw [← hwd]
               exact this⟩⟩
           refine ⟨.slice p' (n + m) cap', w', fun k => if k = 0 then some T else none, ok', ?_, ⟨?_, hkeep, fun b off h => ?_, fun k T' hT => ?_⟩, ⟨?_, fun k e' hl T' hT => ?_⟩, fun _ => rfl⟩
           · have h0' : ts = #[t, t] := by rw [← Array.toList_inj, hts]
             subst h0'
             show (do pure (.value (← Builtin.append_ #[t, t] ty #[.slice p n cap, .slice q m cap2])) : Sem Next).run P X.w = _
             rw [Sem.run_bind, r1]
             rfl
           · rw [← tB]; exact r3
           · rcases h.1 with h | h
             · exact .inl h
             · exact .inr (by rw [← tB]; exact h)
           · split at hT
             · rename_i hk0
               obtain rfl := Option.some.inj hT
               refine ⟨hk0, by rw [← hwd] at r2; exact r2, fun b hb => ⟨?_, fun off ho => ho.2 b hb rfl⟩⟩
               rcases r5 b hb with h | h
               · exact .inr (by rw [← tB]; exact h.symm)
               · exact .inl h
             · cases hT
           · show deepC ok' w' (.sl K) _ (denV X.ρ X.β (mkCat cc d))
             rw [hcat]
             refine deep_of_cells (xs := xs ++ ys) (by simp [c2, e2, Nat.add_mul]) ?_ hb2 ?_ ((c5.app e5 c2).mono hkeep) (by omega) fun k x hk => ?_
             · obtain ⟨_, _, _, h, h', _⟩ := r2
               injection h with _ h1 h2
               subst h1 h2
               exact h'
             · obtain ⟨_, _, _, h, _, _, h', _⟩ := r2
               injection h with h0 h1 h2
               subst h0 h1 h2
               exact h'
             · obtain ⟨b, off, k1, k2, k3, k4, rfl⟩ := r6 k x hk
               refine ⟨b, 0, k1, k2, ⟨?_, fun g hg hbg => ?_⟩, k3⟩
               · rcases r5 b k4 with h | h
                 · exact .inr h.symm
                 · exact .inl (hok _ _ h)
               · have : k < (xs ++ ys).length := by
                   rcases Nat.lt_or_ge k (xs ++ ys).length with h | h
                   · exact h
                   · rw [List.getElem?_eq_none h] at hk; cases hk
                 rw [List.length_append, c5.1, e5.1, c2, e2, ← Nat.add_mul] at this
                 omega
           · obtain ⟨rfl, rfl⟩ := Lab.id.inj hl
             simp only [if_true] at hT
             exact (Option.some.inj hT).symm
         · cases h
       · cases h
     · cases h
   · cases h
 · cases h
theorem out_val {P : Program} {X : Cx} {s : Sem Value} {v : Tm} {x : Value} (h : s.run P X.w = .ok x X.w) (hr : Rel X v x) : OutSem P X (do pure (Next.value (← s))) (.val v) :=
 ⟨x, by rw [Sem.run_bind, h]; rfl, hr⟩
theorem ofO_ok {x : Option Tm} {c : Tm} {o : Out} (h : ofO x = .ok c o) : ∃ v, x = some v ∧ o = .val v := by
 unfold ofO at h
 split at h
 · obtain ⟨_, rfl⟩ := (Ev.ok.injEq _ _ _ _ ▸ h : _ ∧ _)
   exact ⟨_, rfl, rfl⟩
 · cases h
theorem ofP_ok {x : Option (Tm × Tm)} {c : Tm} {o : Out} (h : ofP x = .ok c o) : ∃ v, x = some (c, v) ∧ o = .val v := by
 unfold ofP at h
 split at h
 · obtain ⟨rfl, rfl⟩ := (Ev.ok.injEq _ _ _ _ ▸ h : _ ∧ _)
   exact ⟨_, rfl, rfl⟩
 · cases h
theorem ev_ok {c d : Tm} {o p : Out} (h : Ev.ok c o = Ev.ok d p) : c = d ∧ o = p := (Ev.ok.injEq _ _ _ _ ▸ h : _ ∧ _)
theorem evalBuiltin_sound {P : Program} {X : Cx} {b : Builtin} {ts : Array TypeId} {ty : TypeId} {cs : Array Bool} {args : List Tm} {xs : List Value} {c : Tm} {out : Out} (hok : ∀ b off, X.w.heap.size ≤ b → X.ok b off) (htop : TopsOk X)
   (hlive : ∀ v n, out = .mk v (some n) → ∃ T, X.o n = some T) (hr : RelT X args xs) (h : evalBuiltin P b ts.toList args = .ok c out) (hc : denB X.ρ X.β c = true) : OutSem P X (builtin b ts ty cs xs.toArray) out := by
 unfold evalBuiltin at h
 split at h
 · rename_i lab K t
   split at h
   · rename_i hs
     simp only [Bool.and_eq_true, decide_eq_true_eq] at hs
     obtain ⟨rfl, rfl⟩ := ev_ok h
     match xs, hr with
     | [v], hr =>
       obtain ⟨p, n, cap, rfl, _⟩ := id hr.1.1
       refine ⟨_, slice_len hs.1, ?_⟩
       simp only [Rel, denV]
       rw [mkLen_den, deep_len hr.1.1 hs.2]
   · cases h
 · split at h
   · rename_i hs
     obtain ⟨rfl, rfl⟩ := ev_ok h
     match xs, hr with
     | [v], hr =>
       obtain ⟨hv, _⟩ := hr
       simp only [Rel, denV, Cst.den] at hv
       subst hv
       exact ⟨_, slice_len hs, rfl⟩
   · cases h
 · rename_i l
   split at h
   · rename_i hs
     obtain ⟨rfl, rfl⟩ := ev_ok h
     match xs, hr with
     | [v], hr =>
       obtain ⟨hv, _⟩ := hr
       simp only [Rel, denV, Cst.den] at hv
       subst hv
       refine ⟨_, str_len hs, ?_⟩
       simp [Rel, denV, denI, ByteArray.size]
   · cases h
 · rename_i s _ _ _
   split at h
   · rename_i hs
     simp only [Bool.and_eq_true] at hs
     obtain ⟨rfl, rfl⟩ := ev_ok h
     match xs, hr with
     | [v], hr =>
       have hv := hr.1.eq (strT_flat hs.2)
       obtain ⟨q, hq⟩ := strT_den (ρ := X.ρ) (β := X.β) hs.2
       rw [hq] at hv
       subst hv
       refine ⟨_, str_len hs.1, ?_⟩
       simp [Rel, denV, denI, hq, strOf]
   · cases h
 · obtain ⟨rfl, rfl⟩ := ev_ok h
   match xs, hr with
   | [u, v], hr =>
     obtain ⟨hu, hv, _⟩ := hr
     simp only [Rel, denV] at hu hv
     subst hu hv
     refine ⟨_, ?_, Rel.of rfl⟩
     simp only [builtin, Builtin.max_, denV, den_mkI2, I2.den, List.foldlM_cons, List.foldlM_nil, Builtin.max2]
     rfl
 · obtain ⟨rfl, rfl⟩ := ev_ok h
   match xs, hr with
   | [u, v], hr =>
     obtain ⟨hu, hv, _⟩ := hr
     simp only [Rel, denV] at hu hv
     subst hu hv
     refine ⟨_, ?_, Rel.of rfl⟩
     simp only [builtin, Builtin.min_, denV, den_mkI2, I2.den, List.foldlM_cons, List.foldlM_nil, Builtin.min2]
     rfl
 · match xs, hr with
   | [u, v], hr => exact evalAppend_sound hok htop hlive hr.1 hr.2.1 h hc
 · split at h
   · rename_i hf
     obtain ⟨rfl, rfl⟩ := ev_ok h
     match xs, hr with
     | [v], hr =>
       have hv := hr.1.eq hf
       have hc' : isCV v = true := by rw [hv]; exact hc
       cases v with
       | complex k a b =>
         refine ⟨.float k a, rfl, ?_⟩
         simp only [Rel, denV, VOp.den, denL]
         rw [← hv]
         rfl
       | _ => cases hc'
   · cases h
 · split at h
   · rename_i hf
     rw [Bool.and_eq_true] at hf
     obtain ⟨rfl, rfl⟩ := ev_ok h
     match xs, hr with
     | [u, v], hr =>
       have hu := hr.1.eq hf.1
       have hv := hr.2.1.eq hf.2
       obtain ⟨r, hr2⟩ := Option.isSome_iff_exists.1 (show (feqV (denV X.ρ X.β _) (denV X.ρ X.β _)).isSome = true from hc)
       rw [← hu, ← hv] at hr2
       obtain ⟨p, q, rfl, rfl, rfl⟩ := feqV_some hr2
       refine ⟨.complex .f64 p q, rfl, ?_⟩
       simp only [Rel, denV, VOp.den, denL]
       rw [← hu, ← hv]
       rfl
   · cases h
 · split at h
   · rename_i hf
     obtain ⟨rfl, rfl⟩ := ev_ok h
     match xs, hr with
     | [v], hr =>
       have hv := hr.1.eq hf
       have hc' : isCV v = true := by rw [hv]; exact hc
       cases v with
       | complex k a b =>
         refine ⟨.float k b, rfl, ?_⟩
         simp only [Rel, denV, VOp.den, denL]
         rw [← hv]
         rfl
       | _ => cases hc'
   · cases h
 · cases h
theorem setCell_same' {w : World} {a : Addr} {v : Value} (ha : a.spot = none) (h : w.cell? a = some v) : w.setCell a v = w := by
 obtain ⟨b, off, sp⟩ := a
 simp only at ha
 subst ha
 obtain ⟨F, hF⟩ : ∃ F : Obj → Obj, F = fun
     | .cells c elem frozen => .cells (c.setIfInBounds off v) elem frozen
     | o => o := ⟨_, rfl⟩
 have key : w.setCell ⟨b, off, none⟩ v = { w with heap := w.heap.modify b F } := by rw [hF]; rfl
 have hh : w.heap.modify b F = w.heap := by
   apply Array.ext_getElem?
   intro k
   rw [Array.getElem?_modify]
   by_cases hk : b = k
   · subst hk
     rw [if_pos rfl]
     cases hb : w.heap[b]? with
     | none => rfl
     | some o =>
       rw [Option.map_some]
       congr 1
       rw [hF]
       unfold World.cell? at h
       simp only [hb] at h
       cases o with
       | cells c e f =>
         simp at h
         show Obj.cells (c.setIfInBounds off v) e f = _
         congr 1
         apply Array.ext_getElem?
         intro j
         rw [Array.getElem?_setIfInBounds]
         by_cases hj : off = j
         · subst hj
           rw [if_pos rfl, h]
           have := (Array.getElem?_eq_some_iff.1 h).1
           simp [this]
         · rw [if_neg hj]
       | _ => rfl
   · rw [if_neg hk]
 rw [key, hh]
theorem setCells_same {b : Nat} : ∀ (vs : List Value) (o : Nat) (w : World), (∀ j v, vs[j]? = some v → w.cell? ⟨b, o + j, none⟩ = some v) → w.setCells b o vs = w
 | [], _, _, _ => rfl
 | v :: r, o, w, h => by
   rw [World.setCells, setCell_same' rfl (by simpa using h 0 v rfl)]
   exact setCells_same r (o + 1) w fun j u hj => by have := h (j + 1) u (by simpa using hj); rwa [show o + (j + 1) = o + 1 + j by omega] at this
theorem setCells_app {b : Nat} : ∀ (us vs : List Value) (o : Nat) (w : World), w.setCells b o (us ++ vs) = (w.setCells b o us).setCells b (o + us.length) vs
 | [], vs, o, w => by simp [World.setCells]
 | u :: r, vs, o, w => by
   rw [List.cons_append, World.setCells, World.setCells, setCells_app r vs]
   rw [List.length_cons, show o + (r.length + 1) = o + 1 + r.length by omega]
theorem cpCont_rows (ρ : Env) (β : Nat → Nat) (n : Nat) (c : Tm) (old : List Tm) (ho : old.length = n) : rows (denV ρ β (cpCont n c old)) = rows (denV ρ β c) ++ (old.map (denV ρ β)).drop (rows (denV ρ β c)).length := by
 unfold cpCont
 split
 · simp [denV, denL_ofL, denL_toL, toL_ofL, rows, List.map_drop]
 · simp only [denV, denL, VOp.den, rows, denL_ofL, intOf, mkLen_den, Nat.mul_one, Nat.div_one, denI, Int.toNat_natCast]
   rw [List.take_of_length_le (by simp [ho])]
theorem intK_den {k : IntKind} {t : Tm} (h : intK k t = true) : flat t = true ∧ ∀ (ρ : Env) (β : Nat → Nat), denV ρ β t = .int k (intOf (denV ρ β t)) := by
 unfold intK at h
 split at h
 · simp only [beq_iff_eq] at h
   subst h
   exact ⟨rfl, fun _ _ => rfl⟩
 · cases h
theorem evalCopy_sound {P : Program} {X : Cx} {W : World} {hp : List (List Tm)} {ts : Array TypeId} {ty : TypeId} {cs : Array Bool} {args : List Tm} {xs : List Value} {c : Tm} {out : Out} (hh : HpOk X W hp) (hr : RelT X args xs) (h : evalCopy P hp ts.toList args = .ok c out) : OutSem P X (builtin .copy ts ty cs xs.toArray) out := by
 unfold evalCopy at h
 split at h
 · rename_i id off n cap lab k cc t t' hts
   split at h
   · rename_i e hd
     split at h
     · rename_i i cells hi hcs
       split at h
       · rename_i hk
         obtain ⟨hs1, hlen, hall⟩ := hk
         obtain ⟨_, rfl⟩ := ev_ok h
         match xs, hr with
         | [u, v], hr =>
           obtain ⟨hu, hv, _⟩ := hr
           have hu' : u = .slice (some ⟨X.β id, off, none⟩) n cap := hu
           subst hu'
           have hdv := hv.1
           obtain ⟨q, m, cap2, hvs⟩ : ∃ p n cap, v = .slice p n cap := by obtain ⟨p, n, cap, hu, _⟩ := hdv; exact ⟨p, n, cap, hu⟩
           subst hvs
           obtain ⟨e1, e2, e3, e4, ys, e5, e6⟩ := deep_cells hdv
           simp only [SK.wd, Nat.zero_add, Nat.mul_one] at e2
           have hyl : ys.length = m := by rw [e5.1, e2]
           have hyr : ys = rows (denV X.ρ X.β cc) := by
             apply List.ext_getElem (by rw [e5.1])
             intro k1 h1 h2
             have := e5.2 k1 _ (List.getElem?_eq_getElem h1) (.int k) (by simp [SK.wd, SK.get, Nat.mod_one])
             rw [this.1, List.getD_eq_getElem?_getD, List.getElem?_eq_getElem h2]
             rfl
           have hyk : ∀ (k1 : Nat) x, ys[k1]? = some x → x = .int k (intOf x) := fun k1 x hx => by
             have := e5.2 k1 _ hx (.int k) (by simp [SK.wd, SK.get, Nat.mod_one])
             rw [this.1]; exact this.2
           have hb := hh id cells hcs
           let old := (cells.drop off).take n
           have hog : ∀ (j : Nat) x, old[j]? = some x → cells[off + j]? = some x ∧ j < n := fun j x hj => by
             rw [List.getElem?_take] at hj
             split at hj
             · exact ⟨by simpa using hj, by assumption⟩
             · cases hj
           let ov := old.map (denV X.ρ X.β)
           have hovl : ov.length = n := by simp only [ov, List.length_map]; exact hlen
           have hcell : ∀ (j : Nat) v, ov[j]? = some v → X.w.cell? ⟨X.β id, off + j, none⟩ = some v ∧ v = .int k (intOf v) ∧ X.w.frozen? ⟨X.β id, off + j, none⟩ = false := fun j v hj => by
             simp only [ov, List.getElem?_map] at hj
             cases ho : old[j]? with
             | none => rw [ho] at hj; cases hj
             | some x =>
               rw [ho] at hj
               obtain rfl := Option.some.inj hj
               obtain ⟨g1, _⟩ := hog j x ho
               obtain ⟨_, _, ⟨v, h1, h2⟩, h3⟩ := hb (off + j) x g1
               obtain ⟨f1, f2⟩ := intK_den (List.all_eq_true.1 hall x (List.mem_of_getElem? ho))
               rw [h2.eq f1] at h1
               exact ⟨h1, f2 _ _, h3⟩
           let D := rows (denV X.ρ X.β cc)
           have hDl : D.length = m := e2
           let S := D ++ ov.drop m
           have hSl : n ≤ S.length := by simp only [S, List.length_append, List.length_drop, hDl, hovl]; omega
           have hSr : rows (denV X.ρ X.β (cpCont n cc old)) = S := by rw [cpCont_rows _ _ _ _ _ hlen]; simp only [S, D, ov]; rw [e2]
           have hrel : RelT X (cpCells k n cc old) (S.take n) := by
             refine RelT.of (by simp only [cpCells, List.length_map, List.length_range, List.length_take]; omega) fun j t v hj hv => ?_
             simp only [cpCells, List.getElem?_map] at hj
             rw [List.getElem?_take] at hv
             split at hv
             · rename_i hjn
               rw [List.getElem?_range hjn] at hj
               obtain rfl := Option.some.inj hj
               refine cellS_rel ?_
               show deepC X.ok X.w (.int k) v ((rows (denV X.ρ X.β (cpCont n cc old))).getD ((denI X.ρ X.β (.lit (j : Int))).toNat * 1 + 0) Go.undef)
               rw [hSr]
               simp only [denI, Int.toNat_natCast, Nat.mul_one, Nat.add_zero]
               rw [List.getD_eq_getElem?_getD, hv]
               refine ⟨rfl, ?_⟩
               simp only [S] at hv
               rcases Nat.lt_or_ge j D.length with hjd | hjd
               · rw [List.getElem?_append_left hjd] at hv
                 exact hyk j v (by rw [hyr]; exact hv)
               · rw [List.getElem?_append_right hjd, List.getElem?_drop] at hv
                 exact (hcell _ v hv).2.1
             · cases hv
           have hworld : X.w.setCells (X.β id) off (S.take n) = X.w.setCells (X.β id) off (D.take (Nat.min m n)) := by
             rcases Nat.le_total n m with hnm | hnm
             · have : Nat.min m n = n := Nat.min_eq_right hnm
               rw [this]
               simp only [S]
               rw [List.take_append_of_le_length (by omega)]
             · have h1 : Nat.min m n = m := Nat.min_eq_left hnm
               rw [h1, List.take_of_length_le (show D.length ≤ m by omega), List.take_of_length_le (show S.length ≤ n by simp only [S, List.length_append, List.length_drop, hDl, hovl]; omega)]
               simp only [S]
               rw [setCells_app, setCells_same]
               intro j v hj
               rw [List.getElem?_drop] at hj
               have := (hcell _ v hj).1
               rw [World.cell?_setCells_out _ _ _ _ _ (fun _ _ => .inr (by simp only; omega)), hDl, show off + m + j = off + (m + j) by omega]
               exact this
           refine ⟨S.take n, .value (goInt (Nat.min m n)), ?_, hrel, .inr ⟨_, rfl⟩⟩
           rw [hworld]
           have hts' : ts = #[t, t'] := by rw [← Array.toList_inj, hts]
           subst hts'
           have hmn : (D.take (Nat.min m n)).length = Nat.min m n := by rw [List.length_take, hDl]; exact Nat.min_eq_left (Nat.min_le_left _ _)
           show (do pure (Next.value (← Builtin.copy_ #[t, t'] ty #[.slice (some ⟨X.β id, off, none⟩) n cap, .slice q m cap2])) : Sem Next).run P X.w = _
           rw [Sem.run_bind]
           have hs1' : (P.info? e).map (·.size) = some 1 := by rw [hi]; simp [hs1]
           cases q with
           | none =>
             have hm0 : m = 0 := by have := e4 rfl; omega
             subst hm0
             have hz : Nat.min 0 n = 0 := Nat.zero_min n
             rw [run_copy_none X.w t t' ty e _ _ n cap 0 cap2 hd hs1' hz]
             rw [hz, List.take_zero]
             rfl
           | some a =>
             have := run_copy_cells (P := P) X.w t t' ty e (X.β id) off n cap a m cap2 (D.take (Nat.min m n)) hd hs1' hmn (fun j v hj => by
               rw [List.getElem?_take] at hj
               split at hj
               · obtain ⟨b2, o2, k1, _, _, k2⟩ := e6 j v (by rw [hyr]; exact hj)
                 obtain rfl := Option.some.inj k1
                 rw [addr_add]
                 exact k2
               · cases hj) (fun j hj => by
               have hjn : j < ov.length := by rw [hmn] at hj; have : Nat.min m n ≤ n := Nat.min_le_right m n; omega
               rw [(hcell j _ (List.getElem?_eq_getElem hjn)).1]; rfl) (fun j hj => by
               have hjn : j < ov.length := by rw [hmn] at hj; have : Nat.min m n ≤ n := Nat.min_le_right m n; omega
               exact (hcell j _ (List.getElem?_eq_getElem hjn)).2.2) (fun v hv => by
               obtain ⟨j, hj⟩ := List.getElem?_of_mem (List.mem_of_mem_take hv)
               rw [hyk j v (by rw [hyr]; exact hj)]
               rfl)
             rw [this, hmn]
             rfl
       · cases h
     · cases h
   · cases h
 · cases h
theorem evalBu_sound {P : Program} {X : Cx} {W : World} {hp : List (List Tm)} (hh : HpOk X W hp) {b : Builtin} {ts : Array TypeId} {ty : TypeId} {cs : Array Bool} {args : List Tm} {xs : List Value} {c : Tm} {out : Out} (hok : ∀ b off, X.w.heap.size ≤ b → X.ok b off) (htop : TopsOk X)
   (hlive : ∀ v n, out = .mk v (some n) → ∃ T, X.o n = some T) (hr : RelT X args xs) (h : evalBu P hp b ts.toList args = .ok c out) (hc : denB X.ρ X.β c = true) : OutSem P X (builtin b ts ty cs xs.toArray) out := by
 unfold evalBu at h
 split at h
 · exact evalCopy_sound hh hr h
 · exact evalBuiltin_sound hok htop hlive hr h hc
def OptI (X : Cx) : Option Tm → Option Value → Prop
 | none, none => True
 | some a, some v => ∃ k, v = .int k (denI X.ρ X.β a)
 | _, _ => False
theorem litO_rel {X : Cx} {tm : List Tm} {a : Act} (ht : TmOk X tm a) {x : Option Operand} {l : Option Tm} (h : litO tm x = some l) : OptI X l (x.map a.eval) := by
 cases x with
 | none => obtain rfl := Option.some.inj h; exact trivial
 | some x =>
   simp only [litO] at h
   split at h
   · rename_i k q hq
     obtain rfl := Option.some.inj h
     exact ⟨k, evalO_rel ht hq⟩
   · cases h
theorem bound_run {P : Program} {w : World} {k : IntKind} {i : Int} {y : Nat} {cd : BoundsCode} (h0 : 0 ≤ i) (h1 : i ≤ y) : (Instr.sliceBound (.int k i) y cd).run P w = .ok i.toNat w := by
 unfold Instr.sliceBound
 simp only [asIntOf, Sem.run_bind, Sem.run_pure, Result.andThen]
 rw [if_pos ⟨h0, h1⟩]
 rfl
theorem bounds_run {P : Program} {w : World} {X : Cx} {s : Bool} {n cap : Nat} {l h : Option Tm} {lo hi : Option Value} (hl : OptI X l lo) (hh : OptI X h hi) {d : Tm} (hd : denI X.ρ X.β d = n) (hn : n ≤ cap) (h1 : 0 ≤ denI X.ρ X.β (l.getD (.lit 0))) (h2 : denI X.ρ X.β (l.getD (.lit 0)) ≤ denI X.ρ X.β (h.getD d)) (h3 : denI X.ρ X.β (h.getD d) ≤ n) :
   (Instr.sliceBounds s n cap lo hi none).run P w = .ok ((denI X.ρ X.β (l.getD (.lit 0))).toNat, (denI X.ρ X.β (h.getD d)).toNat, cap) w := by
 match l, lo, hl, h, hi, hh with
 | none, none, _, none, none, _ =>
   simp only [Option.getD_none, hd, Int.toNat_natCast, denI, Int.toNat_zero]
   rfl
 | none, none, _, some b, some v, ⟨k, hv⟩ =>
   subst hv
   simp only [Option.getD_none, Option.getD_some, denI, Int.toNat_zero] at h1 h2 h3 ⊢
   unfold Instr.sliceBounds
   simp only [Sem.run_bind, Sem.run_pure, Result.andThen]
   rw [bound_run (by omega) (by omega)]
 | some a, some v, ⟨k, hv⟩, none, none, _ =>
   subst hv
   simp only [Option.getD_none, Option.getD_some, hd, Int.toNat_natCast] at h1 h2 h3 ⊢
   unfold Instr.sliceBounds
   simp only [Sem.run_bind, Sem.run_pure, Result.andThen, Option.isSome_none, Bool.false_eq_true, if_false]
   rw [bound_run (by omega) (by omega)]
 | some a, some v, ⟨k, hv⟩, some b, some v', ⟨k', hv'⟩ =>
   subst hv hv'
   simp only [Option.getD_some] at h1 h2 h3 ⊢
   unfold Instr.sliceBounds
   simp only [Sem.run_bind, Sem.run_pure, Result.andThen, Option.isSome_none, Bool.false_eq_true, if_false]
   rw [bound_run (by omega) (by omega)]
   simp only []
   rw [bound_run (by omega) (by omega)]
theorem evalSlice_sound {P : Program} {X : Cx} {t : TypeId} {x c : Tm} {l h m : Option Tm} {u : Value} {lo hi mx : Option Value} {out : Out} (hok : ∀ b off, X.w.heap.size ≤ b → X.ok b off) (hx : Rel X x u) (hl : OptI X l lo) (hh : OptI X h hi) (hm : OptI X m mx) (he : evalSlice P t x l h m = .ok c out) (hc : denB X.ρ X.β c = true) :
   OutSem P X (do pure (.value (← Instr.sliceAt t u lo hi mx))) out := by
 unfold evalSlice at he
 split at he
 · rename_i x _ _ _ hu
   split at he
   · rename_i hs
     obtain ⟨rfl, rfl⟩ := ev_ok he
     have hmx : mx = none := by cases mx <;> first | rfl | exact hm.elim
     subst hmx
     have hv := hx.eq (strT_flat hs)
     obtain ⟨q, hq⟩ := strT_den (ρ := X.ρ) (β := X.β) hs
     rw [hq] at hv
     subst hv
     rw [den_mkAnd, den_mkAnd, den_mkCmp _ _ _ _ _ rfl, den_mkCmp _ _ _ _ _ rfl, den_mkCmp _ _ _ _ _ rfl, Bool.and_eq_true, Bool.and_eq_true] at hc
     have g1 := of_decide_eq_true (p := denI X.ρ X.β (.lit 0) ≤ _) hc.1
     have g2 := of_decide_eq_true (p := denI X.ρ X.β (l.getD (.lit 0)) ≤ _) hc.2.1
     have g3 := of_decide_eq_true (p := _ ≤ denI X.ρ X.β (.blen x)) hc.2.2
     have hb : denI X.ρ X.β (.blen x) = q.size := by simp [denI, hq, strOf]
     rw [hb] at g3
     have hrun := bounds_run (P := P) (w := X.w) (s := false) hl hh hb (Nat.le_refl _) g1 g2 g3
     refine out_val (x := .string (q.extract (denI X.ρ X.β (l.getD (.lit 0))).toNat (denI X.ρ X.β (h.getD (.blen x))).toNat)) ?_ ?_
     · unfold Instr.sliceAt
       rw [Sem.run_bind, r_underlying hu]
       simp only [Result.andThen]
       unfold Instr.slice
       rw [Sem.run_bind, r_underlying hu]
       simp only [Result.andThen, Option.isSome_none, Bool.false_eq_true, if_false]
       show Sem.run P (Instr.sliceBounds false q.size q.size lo hi none >>= _) X.w = _
       rw [Sem.run_bind, hrun]
       rfl
     · simp [Rel, denV, denL, VOp.den, hq, strOf, intOf]
   · cases he
 · rename_i e lab K cc hu
   split at he
   · rename_i i hi'
     split at he
     · rename_i hk
       obtain ⟨hwd, h0⟩ := hk
       obtain ⟨rfl, rfl⟩ := ev_ok he
       have hmx : mx = none := by cases mx <;> first | rfl | exact hm.elim
       subst hmx
       have hd := hx.1
       obtain ⟨p, n, cap, hv⟩ : ∃ p n cap, u = .slice p n cap := by obtain ⟨p, n, cap, hv, _⟩ := hd; exact ⟨p, n, cap, hv⟩
       subst hv
       obtain ⟨c1, c2, c3, c4, xs, c5, c6⟩ := deep_cells hd
       have hw : 0 < K.wd := by omega
       have hlen : denI X.ρ X.β (mkLen K.wd cc) = n := by rw [mkLen_den, deep_len hd hw]
       rw [den_mkAnd, den_mkAnd, den_mkCmp _ _ _ _ _ rfl, den_mkCmp _ _ _ _ _ rfl, den_mkCmp _ _ _ _ _ rfl, Bool.and_eq_true, Bool.and_eq_true] at hc
       have g1 := of_decide_eq_true (p := denI X.ρ X.β (.lit 0) ≤ _) hc.1
       have g2 := of_decide_eq_true (p := denI X.ρ X.β (l.getD (.lit 0)) ≤ _) hc.2.1
       have g3 := of_decide_eq_true (p := _ ≤ denI X.ρ X.β (mkLen K.wd cc)) hc.2.2
       rw [hlen] at g3
       have hrun := bounds_run (P := P) (w := X.w) (s := true) hl hh hlen c3.1 g1 g2 g3
       simp only [denI] at g1
       generalize hL : (denI X.ρ X.β (l.getD (.lit 0))).toNat = L at *
       generalize hH : (denI X.ρ X.β (h.getD (mkLen K.wd cc))).toNat = H at *
       have hLH : L ≤ H := by omega
       have hHn : H ≤ n := by omega
       refine out_val (x := .slice (if cap = L then p else p.map (·.add (L * i.size))) (H - L) (cap - L)) ?_ ⟨?_, fun _ _ h => by cases h⟩
       · unfold Instr.sliceAt
         rw [Sem.run_bind, r_underlying hu]
         simp only [Result.andThen]
         unfold Instr.slice
         rw [Sem.run_bind, r_underlying hu]
         simp only [Result.andThen]
         show Sem.run P (Instr.sliceBounds true n cap lo hi none >>= _) X.w = _
         rw [Sem.run_bind, hrun]
         simp only [Result.andThen, Sem.run_bind, r_sizeOf hi']
         rfl
       · have hcd : denV X.ρ X.β (.vop (.sub K.wd) (.cons cc (.cons (.int .i64 (l.getD (.lit 0))) (.cons (.int .i64 (h.getD (mkLen K.wd cc))) .nil)))) = .tuple (((rows (denV X.ρ X.β cc)).take (H * K.wd)).drop (L * K.wd)).toArray := by
           simp [denV, denL, VOp.den, intOf, hL, hH]
         rw [subT_den, hcd]
         have hLw : L * K.wd ≤ H * K.wd := Nat.mul_le_mul_right _ hLH
         have hHw : H * K.wd ≤ n * K.wd := Nat.mul_le_mul_right _ hHn
         have hget : ∀ (k : Nat) x, (((xs.take (H * K.wd)).drop (L * K.wd)))[k]? = some x → xs[L * K.wd + k]? = some x ∧ L * K.wd + k < H * K.wd := by
           intro k x hk
           rw [List.getElem?_drop, List.getElem?_take] at hk
           split at hk
           · exact ⟨hk, by assumption⟩
           · cases hk
         refine deep_of_cells (xs := (xs.take (H * K.wd)).drop (L * K.wd)) ?_ (by omega) (by omega) ?_ ⟨?_, fun k x hx a ha => ?_⟩ hw fun k x hx => ?_
         · rw [List.length_drop, List.length_take, c2, Nat.min_eq_left hHw, ← Nat.sub_mul]
         · intro hp
           split at hp
           · subst hp; have := c4 rfl; omega
           · cases p with
             | none => have := c4 rfl; omega
             | some a => cases hp
         · simp [c5.1]
         · obtain ⟨k1, k2⟩ := hget k x hx
           have := c5.2 _ _ k1 a (by rw [Nat.mul_comm, Nat.mul_add_mod]; exact ha)
           have e : (((rows (denV X.ρ X.β cc)).take (H * K.wd)).drop (L * K.wd)).getD k Go.undef = (rows (denV X.ρ X.β cc)).getD (L * K.wd + k) Go.undef := by
             simp only [List.getD_eq_getElem?_getD]
             rw [List.getElem?_drop, List.getElem?_take, if_pos k2]
           rw [e]
           exact this
         · obtain ⟨k1, k2⟩ := hget k x hx
           obtain ⟨b, off, q1, q2, q3, q4⟩ := c6 _ _ k1
           subst q1
           have hcL : cap ≠ L := by
             rintro rfl
             have : H = cap := by omega
             subst this
             omega
           rw [if_neg hcL]
           refine ⟨b, off + L * i.size, by simp [addr_add], q2, ?_, ?_⟩
           · rw [← hwd, Nat.add_assoc]; exact q3
           · rw [← hwd, Nat.add_assoc]; exact q4
     · cases he
   · cases he
 · rename_i e lab K cc hu
   have key : ∀ i0, P.info? e = some i0 → (lo = none ∨ ∃ k, lo = some (.int k 0)) → (∃ k, hi = some (.int k 0)) → OutSem P X (do pure (.value (← Instr.sliceAt t u lo hi mx))) (.mk (.hs (.new e) K (.tup .nil)) none) := by
     intro i0 hi0 hlo hhi
     obtain ⟨kh, rfl⟩ := hhi
     have hd := hx.1
     obtain ⟨p, n, cap, hv⟩ : ∃ p n cap, u = .slice p n cap := by obtain ⟨p, n, cap, hv, _⟩ := hd; exact ⟨p, n, cap, hv⟩
     subst hv
     have hmx : ∃ k, mx = some (.int k 0) := by
       cases mx with
       | none => exact hm.elim
       | some v => obtain ⟨k, hk⟩ := hm; exact ⟨k, by rw [hk]; rfl⟩
     obtain ⟨km, rfl⟩ := hmx
     refine ⟨.slice p 0 0, X.w, fun k => if k = 0 then some ⟨.slice p 0 0, e, K.wd⟩ else none, X.ok, ?_, ⟨⟨rfl, rfl, rfl, Nat.le_refl _, fun _ _ _ => rfl⟩, Kept.refl _ _, fun _ _ h => .inl h, fun k T hT => ?_⟩, ⟨⟨p, 0, 0, rfl, rfl, by simp [rows, denV, denL], Nat.le_refl _, Nat.zero_le _, fun _ => rfl, fun i hi => absurd hi (Nat.not_lt_zero i)⟩, fun k e' hl T hT => ?_⟩, fun _ => rfl⟩
     · unfold Instr.sliceAt
       rw [Sem.run_bind, Sem.run_bind, r_underlying hu]
       simp only [Result.andThen]
       unfold Instr.slice
       rw [Sem.run_bind, r_underlying hu]
       simp only [Result.andThen]
       have hb : (Instr.sliceBounds true n cap lo (some (.int kh 0)) (some (.int km 0))).run P X.w = .ok (0, 0, 0) X.w := by
         unfold Instr.sliceBounds
         simp only [Sem.run_bind, Option.isSome_some, if_true]
         rw [bound_run (Int.le_refl 0) (by omega)]
         simp only [Result.andThen]
         rw [bound_run (Int.le_refl 0) (by omega)]
         simp only [Result.andThen]
         rcases hlo with rfl | ⟨k, rfl⟩
         · rfl
         · show Sem.run P (Instr.sliceBound (.int k 0) (Int.toNat 0) .slice3C >>= _) X.w = _
           rw [Sem.run_bind, bound_run (Int.le_refl 0) (by omega)]
           rfl
       show Result.andThen (Sem.run P (Instr.sliceBounds true n cap lo (some (.int kh 0)) (some (.int km 0)) >>= _) X.w) _ = _
       rw [Sem.run_bind, hb]
       simp only [Result.andThen, Sem.run_bind, r_sizeOf hi0]
       rfl
     · split at hT
       · rename_i h0
         obtain rfl := Option.some.inj hT
         exact ⟨h0, ⟨p, 0, 0, rfl, Nat.le_refl _, by simp [maxLen], fun _ => rfl, .inl rfl⟩, fun b hb => by cases p <;> simp [topBlk] at hb⟩
       · cases hT
     · obtain ⟨rfl, rfl⟩ := Lab.id.inj hl
       simp only [if_true] at hT
       exact (Option.some.inj hT).symm
   split at he
   · rename_i i0 hi0
     obtain ⟨rfl, rfl⟩ := ev_ok he
     refine key _ hi0 (.inl ?_) ?_
     · cases lo <;> first | rfl | exact hl.elim
     · cases hi with
       | none => exact hh.elim
       | some v => obtain ⟨k, hk⟩ := hh; exact ⟨k, by rw [hk]; rfl⟩
   · rename_i i0 hi0
     obtain ⟨rfl, rfl⟩ := ev_ok he
     refine key _ hi0 (.inr ?_) ?_
     · cases lo with
       | none => exact hl.elim
       | some v => obtain ⟨k, hk⟩ := hl; exact ⟨k, by rw [hk]; rfl⟩
     · cases hi with
       | none => exact hh.elim
       | some v => obtain ⟨k, hk⟩ := hh; exact ⟨k, by rw [hk]; rfl⟩
   · cases he
 · rename_i n e id off hu
   split at he
   · rename_i i a b hi' hla hhb
     split at he
     · rename_i hk
       obtain ⟨hs1, h0, hab, hbn⟩ := hk
       obtain ⟨rfl, rfl⟩ := ev_ok he
       have hmx : mx = none := by cases mx <;> first | rfl | exact hm.elim
       subst hmx
       have hv : u = .pointer (some ⟨X.β id, off, none⟩) := hx
       subst hv
       have ea : denI X.ρ X.β (l.getD (.lit 0)) = a := by rw [hla]; rfl
       have eb : denI X.ρ X.β (h.getD (.lit (n : Int))) = b := by rw [hhb]; rfl
       have hrun := bounds_run (P := P) (w := X.w) (s := false) (n := n) (cap := n) hl hh (d := .lit (n : Int)) rfl (Nat.le_refl _) (by rw [ea]; exact h0) (by rw [ea, eb]; exact hab) (by rw [eb]; exact hbn)
       rw [ea, eb] at hrun
       refine out_val (x := .slice (some (if n = a.toNat then ⟨X.β id, off, none⟩ else (⟨X.β id, off, none⟩ : Addr).add (a.toNat * i.size))) (b.toNat - a.toNat) (n - a.toNat)) ?_ ?_
       · unfold Instr.sliceAt
         rw [Sem.run_bind, r_underlying hu]
         simp only [Result.andThen]
         show Sem.run P (Instr.sliceBounds false n n lo hi none >>= _) X.w = _
         rw [Sem.run_bind, hrun]
         simp only [Result.andThen, Sem.run_bind, r_sizeOf hi']
         rfl
       · simp only [Rel, denV, hs1, Nat.mul_one, addr_add]
         split <;> rfl
     · cases he
   · cases he
 · rename_i n e K cc off hu
   split at he
   · rename_i i a0 hi' hget0
     split at he
     · rename_i hk
       obtain ⟨hs1, hone, hn47, hoff⟩ := hk
       obtain ⟨rfl, rfl⟩ := ev_ok he
       have hmx : mx = none := by cases mx <;> first | rfl | exact hm.elim
       subst hmx
       obtain ⟨bb, off0, n1, cap1, hd, g0, g0', hu2⟩ := hx
       subst hu2
       obtain ⟨c1, c2, c3, c4, xs, c5, c6⟩ := deep_cells hd
       rw [den_mkAnd, den_mkAnd, den_mkCmp _ _ _ _ _ rfl, den_mkCmp _ _ _ _ _ rfl, den_mkCmp _ _ _ _ _ rfl, Bool.and_eq_true, Bool.and_eq_true] at hc
       have g1 := of_decide_eq_true (p := denI X.ρ X.β (.lit 0) ≤ _) hc.1
       have g2 := of_decide_eq_true (p := denI X.ρ X.β (l.getD (.lit 0)) ≤ _) hc.2.1
       have g3 := of_decide_eq_true (p := _ ≤ denI X.ρ X.β (.lit (n : Int))) hc.2.2
       have hlen : denI X.ρ X.β (.lit (n : Int)) = n := rfl
       rw [hlen] at g3
       have hrun := bounds_run (P := P) (w := X.w) (s := false) (n := n) (cap := n) hl hh hlen (Nat.le_refl _) g1 g2 g3
       simp only [denI] at g1
       have hms := mkSub_den X.ρ X.β cc off (l.getD (.lit 0)) (h.getD (.lit (n : Int))) g1 (by omega)
       generalize hL : (denI X.ρ X.β (l.getD (.lit 0))).toNat = L at *
       generalize hH : (denI X.ρ X.β (h.getD (.lit (n : Int)))).toNat = H at *
       have hLH : L ≤ H := by omega
       have hHn : H ≤ n := by omega
       have hn1 : 0 < n1 := by simp only [denI] at g0'; omega
       have hwn : K.wd ≤ n1 * K.wd := Nat.le_mul_of_pos_left _ hn1
       have hkk : ∀ k, k < n → K.get (off + k) = some a0 := fun k hk => by
         have := List.all_eq_true.1 hone k (List.mem_range.2 hk)
         simpa using this
       have hget : ∀ (k : Nat) x, ((xs.take (off + H)).drop (off + L))[k]? = some x → xs[off + L + k]? = some x ∧ off + L + k < off + H := by
         intro k x hk
         rw [List.getElem?_drop, List.getElem?_take] at hk
         split at hk
         · exact ⟨hk, by assumption⟩
         · cases hk
       refine out_val (x := .slice (some (if n = L then ⟨bb, off0 + (denI X.ρ X.β (.lit 0)).toNat * K.wd + off, none⟩ else (⟨bb, off0 + (denI X.ρ X.β (.lit 0)).toNat * K.wd + off, none⟩ : Addr).add (L * i.size))) (H - L) (n - L)) ?_ ⟨?_, fun _ _ h => by cases h⟩
       · unfold Instr.sliceAt
         rw [Sem.run_bind, r_underlying hu]
         simp only [Result.andThen]
         show Sem.run P (Instr.sliceBounds false n n lo hi none >>= _) X.w = _
         rw [Sem.run_bind, hrun]
         simp only [Result.andThen, Sem.run_bind, r_sizeOf hi']
         rfl
       · rw [hms]
         refine deep_of_cells (xs := (xs.take (off + H)).drop (off + L)) ?_ (by omega) (by omega) ?_ ⟨?_, fun k x hx a ha => ?_⟩ (by simp [SK.wd]) fun k x hx => ?_
         · rw [List.length_drop, List.length_take, c2]
           simp only [SK.wd]
           omega
         · intro hp; cases hp
         · simp [c5.1]
         · obtain ⟨k1, k2⟩ := hget k x hx
           simp only [SK.wd, Nat.zero_add, Nat.mod_one, SK.get, Option.some.injEq] at ha
           subst ha
           have := c5.2 _ _ k1 a0 (by rw [Nat.mod_eq_of_lt (by omega), Nat.add_assoc]; exact hkk _ (by omega))
           have e : (((rows (denV X.ρ X.β cc)).take (off + H)).drop (off + L)).getD k Go.undef = (rows (denV X.ρ X.β cc)).getD (off + L + k) Go.undef := by
             simp only [List.getD_eq_getElem?_getD]
             rw [List.getElem?_drop, List.getElem?_take, if_pos k2]
           rw [e]
           exact this
         · obtain ⟨k1, k2⟩ := hget k x hx
           obtain ⟨b, o1, q1, q2, q3, q4⟩ := c6 _ _ k1
           injection q1 with q1
           injection q1 with q1 q1'
           subst q1 q1'
           rw [if_neg (by omega)]
           refine ⟨bb, off0 + off + L, by simp [addr_add, hs1, denI], q2, ?_, ?_⟩
           · rw [show off0 + off + L + k = off0 + (off + L + k) by omega]; exact q3
           · rw [show off0 + off + L + k = off0 + (off + L + k) by omega]; exact q4
     · cases he
   · cases he
 · cases he
theorem push_bytes : ∀ (l : List Int) (r : ByteArray), l.foldl (fun r n => r.push (UInt8.ofNat n.toNat)) r = ⟨r.data ++ (l.map fun n => UInt8.ofNat n.toNat).toArray⟩
 | [], r => by simp
 | b :: l, r => by
   simp only [List.map_cons, List.foldl_cons]
   rw [push_bytes l]
   simp [ByteArray.push]
theorem evalConvX_sound {P : Program} {X : Cx} {src dst : TypeId} {x c : Tm} {u : Value} {out : Out} (hok : ∀ b off, X.w.heap.size ≤ b → X.ok b off) (hx : Rel X x u) (he : evalConvX P src dst x = .ok c out) (hc : denB X.ρ X.β c = true) :
   OutSem P X (do pure (.value (← convert src dst u))) out := by
 unfold evalConvX at he
 split at he
 · rename_i e lab cc hs hd
   split at he
   · rename_i hu8
     obtain ⟨rfl, rfl⟩ := ev_ok he
     obtain ⟨hdp, _⟩ := hx
     obtain ⟨p, n, cap, hv⟩ : ∃ p n cap, u = .slice p n cap := by obtain ⟨p, n, cap, hv, _⟩ := hdp; exact ⟨p, n, cap, hv⟩
     subst hv
     obtain ⟨c1, c2, c3, c4, xs, c5, c6⟩ := deep_cells hdp
     simp only [SK.wd, Nat.zero_add, Nat.mul_one] at c2
     have hxl : xs.length = n := by rw [c5.1, c2]
     have hcell : ∀ (k : Nat) x, xs[k]? = some x → x = (rows (denV X.ρ X.β cc)).getD k Go.undef ∧ x = .int .u8 (intOf x) := fun k x hk => by
       have := c5.2 k x hk (.int .u8) (by simp [SK.wd, SK.get, Nat.mod_one])
       obtain ⟨rfl, h2⟩ := this
       exact ⟨rfl, h2⟩
     have hrows : xs = rows (denV X.ρ X.β cc) := by
       apply List.ext_getElem (by rw [c5.1])
       intro k h1 h2
       obtain ⟨g1, _⟩ := hcell k _ (List.getElem?_eq_getElem h1)
       rw [g1, List.getD_eq_getElem?_getD, List.getElem?_eq_getElem h2]
       rfl
     have hints : xs = (xs.map intOf).map (Value.int .u8) := by
       apply List.ext_getElem (by simp)
       intro k h1 h2
       obtain ⟨_, g2⟩ := hcell k _ (List.getElem?_eq_getElem h1)
       rw [List.getElem_map, List.getElem_map]
       exact g2
     refine out_val (x := .string ⟨(xs.map byteOf).toArray⟩) ?_ ?_
     · rw [run_convert_bytes_string X.w src dst e p n cap hs hu8 hd]
       rcases p with _ | a
       · obtain rfl := c4 rfl
         have hn : n = 0 := by omega
         subst hn
         have : xs = [] := List.eq_nil_of_length_eq_zero hxl
         subst this
         simp [Conv.bytesToString]
         rfl
       · have hl := run_loadCells_list (P := P) X.w a xs (fun j v hj => by
           obtain ⟨b, off, k1, _, _, k2⟩ := c6 j v hj
           obtain rfl := Option.some.inj k1
           rw [addr_add]
           exact k2)
         rw [hxl] at hl
         rw [hints] at hl
         rw [run_bytesToString X.w a n cap _ hl, push_bytes]
         rw [List.map_map]
         have he0 : ByteArray.empty.data = #[] := rfl
         rw [he0, Array.empty_append]
         rfl
     · simp only [Rel, denV, denL, VOp.den, ← hrows]
   · cases he
 · rename_i z _ _ _ e hs hd
   split at he
   · rename_i hu8
     split at he
     · rename_i hst
       obtain ⟨rfl, rfl⟩ := ev_ok he
       have hv := hx.eq (strT_flat hst)
       obtain ⟨q, hq⟩ := strT_den (ρ := X.ρ) (β := X.β) hst
       rw [hq] at hv
       subst hv
       have hrun := Lib.run_convert_string_bytes (P := P) X.w src dst e q hs hd hu8
       let T : Top := ⟨.slice (some ⟨X.w.heap.size, 0, none⟩) q.size (grownCap X.w q.size 0 e), e, 1⟩
       let ok' : Nat → Nat → Prop := fun b off => X.ok b off ∧ (b = X.w.heap.size → off < q.size)
       have hkeep : Kept X.ok ok' X.w (Lib.bytesWorld X.w e q) := ⟨by rw [Lib.bytesWorld_size]; omega, fun b off hb ho => ⟨⟨ho, fun e => by omega⟩, Lib.bytesWorld_old X.w e q ⟨b, off, none⟩ hb⟩⟩
       have hq47 : q.size ≤ 140737488355328 := by
         rw [den_mkCmp _ _ _ _ _ rfl] at hc
         have := of_decide_eq_true (p := denI X.ρ X.β (.blen z) ≤ denI X.ρ X.β (.lit 140737488355328)) hc
         simp only [denI, hq, strOf] at this
         omega
       have hcsz : (Lib.bytesCells X.w e q).size = grownCap X.w q.size 0 e * 1 := by
         have := grownCap_ge X.w q.size 0 e
         have hds : q.data.size = q.size := rfl
         simp only [Lib.bytesCells, Array.size_append, Array.size_map, Array.size_replicate]
         omega
       have hat := Lib.bytesWorld_at_new X.w e q
       refine ⟨.slice (some ⟨X.w.heap.size, 0, none⟩) q.size (grownCap X.w q.size 0 e), Lib.bytesWorld X.w e q, fun n => if n = 0 then some T else none, ok', ?_, ⟨⟨rfl, rfl, rfl, by rw [Lib.bytesWorld_size]; omega, fun k hk _ => Lib.bytesWorld_at_old X.w e q k hk⟩, hkeep, fun b off h => .inl h.1, fun k T' hT => ?_⟩, ⟨?_, fun n e' hl T' hT => ?_⟩, fun _ => rfl⟩
       · rw [Sem.run_bind, hrun]; rfl
       · split at hT
         · rename_i h0
           obtain rfl := Option.some.inj hT
           refine ⟨h0, ⟨_, _, _, rfl, grownCap_ge _ _ _ _, grownCap_le_maxLen _ _ _ _ (by simp only [maxLen]; omega), by simp, .inr ⟨_, _, _, rfl, hat, hcsz, .inr (Nat.le_refl _)⟩⟩, fun b hb => ?_⟩
           have hbe : b = X.w.heap.size := by
             simp only [T, topBlk] at hb
             split at hb
             · cases hb
             · exact (Option.some.inj hb).symm
           exact ⟨.inl (by omega), fun off ho => by have := ho.2 hbe; simp only [T, lenOfV]; omega⟩
         · cases hT
       · have hcd : denV X.ρ X.β (s2bT z) = .tuple (q.data.toList.map byteV).toArray := by
           rw [s2bT_den, hq]; rfl
         show deepC ok' (Lib.bytesWorld X.w e q) (.sl (.cons (.int .u8) .nil)) _ (denV X.ρ X.β (s2bT z))
         rw [hcd]
         refine deep_of_cells (xs := q.data.toList.map byteV) (by show _ = q.size * (0 + 1); rw [List.length_map, Array.length_toList, Nat.zero_add, Nat.mul_one]; rfl) (grownCap_ge _ _ _ _) hq47 (by simp) ⟨rfl, fun k x hx a ha => ?_⟩ (by simp [SK.wd]) fun k x hx => ⟨X.w.heap.size, 0, rfl, by rw [Lib.bytesWorld_size]; omega, ⟨hok _ _ (Nat.le_refl _), fun _ => ?_⟩, ?_⟩
         · simp only [SK.wd, Nat.zero_add, Nat.mod_one, SK.get, Option.some.injEq] at ha
           subst ha
           rw [List.getD_eq_getElem?_getD, hx]
           obtain ⟨y, _, hy⟩ := List.mem_map.1 (List.mem_of_getElem? hx)
           subst hy
           exact ⟨rfl, rfl⟩
         · rcases Nat.lt_or_ge k q.size with h | h
           · omega
           · rw [List.getElem?_eq_none (by simp only [List.length_map, Array.length_toList]; exact h)] at hx; cases hx
         · have hk : k < q.size := by
             rcases Nat.lt_or_ge k q.size with h | h
             · exact h
             · rw [List.getElem?_eq_none (by simp only [List.length_map, Array.length_toList]; exact h)] at hx; cases hx
           rw [Nat.zero_add, Lib.bytesWorld_cell X.w e q k hk]
           rw [List.getElem?_map] at hx
           cases hy : q.data.toList[k]? with
           | none => rw [hy] at hx; cases hx
           | some y =>
             rw [hy] at hx
             obtain rfl := Option.some.inj hx
             simp [List.getD_eq_getElem?_getD, hy, byteV]
       · obtain ⟨rfl, rfl⟩ := Lab.id.inj hl
         simp only [if_true] at hT
         exact (Option.some.inj hT).symm
     · cases he
   · cases he
 · rename_i k1 k2 n hs hd
   obtain ⟨rfl, rfl⟩ := ev_ok he
   have hv := hx.eq rfl
   simp only [denV] at hv
   subst hv
   refine out_val (run_convert_int_float X.w src dst k2 .f64 _ (by rw [hs]; rfl) hd) ?_
   simp only [Rel, denV, VOp.den, denL]
   rfl
 · rename_i x fk hs hd
   split at he
   · rename_i hf
     obtain ⟨rfl, rfl⟩ := ev_ok he
     have hv := hx.eq hf
     have hc' : isFV u = true := by rw [hv]; exact hc
     cases u with
     | float k b =>
       obtain ⟨n, hn⟩ := Option.isSome_iff_exists.1 (show (floatToIntVal k b .i64).isSome = true from hc')
       refine out_val (run_convert_float_int X.w src dst k .i64 b n (by rw [hs]; rfl) hd hn) ?_
       simp only [Rel, denV, denI, VOp.den, denL]
       rw [← hv]
       simp [f2iV, hn, intOf]
     | _ => cases hc'
   · cases he
 · rename_i x _ _ _ _ _ _ _
   obtain ⟨v, hv, rfl⟩ := ofO_ok he
   have hf : flat x = true ∧ flat v = true := by
     unfold evalConv at hv
     split at hv
     · split at hv
       · obtain rfl := Option.some.inj hv; exact ⟨rfl, rfl⟩
       · cases hv
     · split at hv
       · rename_i hs; obtain rfl := Option.some.inj hv; exact ⟨strT_flat hs, strT_flat hs⟩
       · cases hv
     · cases hv
   rw [hx.eq hf.1]
   exact out_val (evalConv_sound hv) (Rel.of hf.2)
/-! Part 9: contracts. -/

structure Sub where
 i : List Tm
 b : List Tm
 v : List Tm
 s : List Tm
def subst (σ : Sub) : Tm → Tm
 | .lit n => .lit n
 | .var i => σ.i.getD i (.lit 0)
 | .i2 o a b => mkI2 o (subst σ a) (subst σ b)
 | .wrap k a => mkWrap k (subst σ a)
 | .iapp f l => .iapp f (subst σ l)
 | .ofI a => .ofI (subst σ a)
 | .tt b => .tt b
 | .bvar i => σ.b.getD i (.tt false)
 | .ofB a => .ofB (subst σ a)
 | .veq a b => .veq (subst σ a) (subst σ b)
 | .b2 o a b => .b2 o (subst σ a) (subst σ b)
 | .not a => .not (subst σ a)
 | .bapp f l => .bapp f (subst σ l)
 | .int k a => .int k (subst σ a)
 | .bool a => .bool (subst σ a)
 | .opq i => σ.v.getD i (.cst .undef)
 | .str i => σ.s.getD i (.cst (.strc []))
 | .vop o l => .vop o (subst σ l)
 | .hs lab K t => .hs lab K (subst σ t)
 | .ep K t i j => .ep K (subst σ t) (subst σ i) j
 | .blen a => .blen (subst σ a)
 | .ptr id off => .ptr id off
 | .asl id off n cap => .asl id off n cap
 | .agg l => .agg (subst σ l)
 | .tup l => .tup (subst σ l)
 | .err a => .err (subst σ a)
 | .iface t v => .iface t (subst σ v)
 | .cst c => .cst c
 | .vapp f l => .vapp f (subst σ l)
 | .sapp f l => .sapp f (subst σ l)
 | .clo f l => .clo f (subst σ l)
 | .junk => .junk
 | .nil => .nil
 | .cons a b => .cons (subst σ a) (subst σ b)
def Env.sub (ρ : Env) (β : Nat → Nat) (σ : Sub) : Env :=
 { ρ with iv := σ.i.map (denI ρ β), bv := σ.b.map (denB ρ β), vv := σ.v.map (denV ρ β), sv := σ.s.map (fun t => strOf (denV ρ β t)) }
def isI : Tm → Bool
 | .lit _ | .var _ | .blen .. | .ofI _ | .i2 .. | .wrap .. | .iapp .. => true
 | _ => false
def isB : Tm → Bool
 | .tt _ | .bvar _ | .ofB _ | .veq .. | .b2 .. | .not _ | .bapp .. => true
 | _ => false
def isV : Tm → Bool
 | .int .. | .bool _ | .opq _ | .str _ | .vop .. | .hs .. | .ptr .. | .agg _ | .tup _ | .err _ | .iface .. | .cst _ | .vapp .. | .sapp .. => true
 | _ => false
def Sub.ok (σ : Sub) : Bool := σ.i.all isI && σ.b.all isB && σ.v.all isV && σ.s.all strT
theorem isI_den {ρ : Env} {β : Nat → Nat} {t : Tm} (h : isI t = true) : denB ρ β t = false ∧ denV ρ β t = Go.undef ∧ denL ρ β t = [] := by
 cases t <;> first | (cases h; done) | exact ⟨rfl, rfl, rfl⟩
theorem isB_den {ρ : Env} {β : Nat → Nat} {t : Tm} (h : isB t = true) : denI ρ β t = 0 ∧ denV ρ β t = Go.undef ∧ denL ρ β t = [] := by
 cases t <;> first | (cases h; done) | exact ⟨rfl, rfl, rfl⟩
theorem isV_den {ρ : Env} {β : Nat → Nat} {t : Tm} (h : isV t = true) : denI ρ β t = 0 ∧ denB ρ β t = false ∧ denL ρ β t = [] := by
 cases t <;> first | (cases h; done) | exact ⟨rfl, rfl, rfl⟩
theorem strT_isV {t : Tm} (h : strT t = true) : isV t = true := by
 unfold strT at h; split at h <;> first | rfl | cases h
theorem getD_all {p : Tm → Bool} {l : List Tm} (h : l.all p = true) {d : Tm} (hd : p d = true) (i : Nat) : p (l.getD i d) = true := by
 rw [List.getD_eq_getElem?_getD]
 cases hx : l[i]? with
 | none => exact hd
 | some x => exact List.all_eq_true.1 h x (List.mem_of_getElem? hx)
theorem mkI2_isI (o : I2) (a b : Tm) : isI (mkI2 o a b) = true := by unfold mkI2; split <;> rfl
theorem mkWrap_isI (k : IntKind) (a : Tm) : isI (mkWrap k a) = true := by unfold mkWrap; split <;> rfl
theorem getD_map {α β : Type} (f : α → β) (l : List α) (i : Nat) (d : α) (e : β) (h : f d = e) : f (l.getD i d) = (l.map f).getD i e := by
 simp only [List.getD_eq_getElem?_getD, List.getElem?_map]
 cases l[i]? <;> simp [h]
theorem subst_den (ρ : Env) (β : Nat → Nat) (σ : Sub) (hs : σ.ok = true) : ∀ t, denI ρ β (subst σ t) = denI (ρ.sub β σ) β t ∧ denB ρ β (subst σ t) = denB (ρ.sub β σ) β t ∧ denV ρ β (subst σ t) = denV (ρ.sub β σ) β t ∧ denL ρ β (subst σ t) = denL (ρ.sub β σ) β t := by
 simp only [Sub.ok, Bool.and_eq_true, and_assoc] at hs
 obtain ⟨h1, h2, h3, h4⟩ := hs
 intro t
 induction t with
 | var i =>
   have := isI_den (ρ := ρ) (β := β) (getD_all h1 (show isI (.lit 0) = true from rfl) i)
   exact ⟨getD_map _ _ _ _ _ rfl, this.1, this.2.1, this.2.2⟩
 | bvar i =>
   have := isB_den (ρ := ρ) (β := β) (getD_all h2 (show isB (.tt false) = true from rfl) i)
   exact ⟨this.1, getD_map _ _ _ _ _ rfl, this.2.1, this.2.2⟩
 | opq i =>
   have := isV_den (ρ := ρ) (β := β) (getD_all h3 (show isV (.cst .undef) = true from rfl) i)
   exact ⟨this.1, this.2.1, getD_map _ _ _ _ _ rfl, this.2.2⟩
 | str i =>
   have hst := getD_all h4 (show strT (.cst (.strc [])) = true from rfl) i
   have := isV_den (ρ := ρ) (β := β) (strT_isV hst)
   obtain ⟨s, hs⟩ := strT_den (ρ := ρ) (β := β) hst
   refine ⟨this.1, this.2.1, ?_, this.2.2⟩
   have hm := getD_map (fun t => strOf (denV ρ β t)) σ.s i (.cst (.strc [])) ByteArray.empty (by simp [denV, Cst.den, strOf]; rfl)
   simp only [subst, denV, Env.sub]
   rw [← hm, hs]
   rfl
 | i2 o a b iha ihb =>
   obtain ⟨a1, _⟩ := iha
   obtain ⟨b1, _⟩ := ihb
   have := isI_den (ρ := ρ) (β := β) (mkI2_isI o (subst σ a) (subst σ b))
   refine ⟨?_, this.1, this.2.1, this.2.2⟩
   simp only [subst, den_mkI2, a1, b1, denI]
 | wrap k a ih =>
   have := isI_den (ρ := ρ) (β := β) (mkWrap_isI k (subst σ a))
   refine ⟨?_, this.1, this.2.1, this.2.2⟩
   simp only [subst, den_mkWrap, ih.1, denI]
 | iapp f l ih => obtain ⟨a1, a2, a3, a4⟩ := ih; simp [subst, denI, denB, denV, denL, a4]; rfl
 | bapp f l ih => obtain ⟨a1, a2, a3, a4⟩ := ih; simp [subst, denI, denB, denV, denL, a4]; rfl
 | vapp f l ih => obtain ⟨a1, a2, a3, a4⟩ := ih; simp [subst, denI, denB, denV, denL, a4]; rfl
 | sapp f l ih => obtain ⟨a1, a2, a3, a4⟩ := ih; simp [subst, denI, denB, denV, denL, a4]; rfl
 | err a ih => obtain ⟨a1, a2, a3, a4⟩ := ih; simp [subst, denI, denB, denV, denL, a1]; rfl
 | veq a b iha ihb => obtain ⟨a1, a2, a3, a4⟩ := iha; obtain ⟨b1, b2, b3, b4⟩ := ihb; simp [subst, denI, denB, denV, denL, a3, b3]
 | b2 o a b iha ihb => obtain ⟨a1, a2, a3, a4⟩ := iha; obtain ⟨b1, b2, b3, b4⟩ := ihb; simp [subst, denI, denB, denV, denL, a1, b1, a2, b2]
 | cons a b iha ihb => obtain ⟨a1, a2, a3, a4⟩ := iha; obtain ⟨b1, b2, b3, b4⟩ := ihb; simp [subst, denI, denB, denV, denL, a3, b4]
 | ep K a b j iha ihb => simp [subst, denI, denB, denV, denL]
 | ofI a ih => obtain ⟨a1, a2, a3, a4⟩ := ih; simp [subst, denI, denB, denV, denL, a3]
 | ofB a ih => obtain ⟨a1, a2, a3, a4⟩ := ih; simp [subst, denI, denB, denV, denL, a3]
 | blen a ih => obtain ⟨a1, a2, a3, a4⟩ := ih; simp [subst, denI, denB, denV, denL, a3]
 | not a ih => obtain ⟨a1, a2, a3, a4⟩ := ih; simp [subst, denI, denB, denV, denL, a2]
 | int k a ih => obtain ⟨a1, a2, a3, a4⟩ := ih; simp [subst, denI, denB, denV, denL, a1]
 | bool a ih => obtain ⟨a1, a2, a3, a4⟩ := ih; simp [subst, denI, denB, denV, denL, a2]
 | vop o l ih => obtain ⟨a1, a2, a3, a4⟩ := ih; simp [subst, denI, denB, denV, denL, a4]
 | hs lab K a ih => obtain ⟨a1, a2, a3, a4⟩ := ih; simp [subst, denI, denB, denV, denL, a3]
 | agg a ih => obtain ⟨a1, a2, a3, a4⟩ := ih; simp [subst, denI, denB, denV, denL, a4]
 | tup a ih => obtain ⟨a1, a2, a3, a4⟩ := ih; simp [subst, denI, denB, denV, denL, a4]
 | clo f a ih => obtain ⟨a1, a2, a3, a4⟩ := ih; simp [subst, denI, denB, denV, denL, a4]
 | iface t a ih => obtain ⟨a1, a2, a3, a4⟩ := ih; simp [subst, denI, denB, denV, denL, a3]
 | _ => simp [subst, denI, denB, denV, denL]
def closed (t : Tm) : Bool := idsIn (fun _ => false) t
theorem closed_den {ρ : Env} {t : Tm} (h : closed t = true) (β β' : Nat → Nat) : denI ρ β t = denI ρ β' t ∧ denB ρ β t = denB ρ β' t ∧ denV ρ β t = denV ρ β' t ∧ denL ρ β t = denL ρ β' t :=
 den_congr (p := fun _ => false) (fun i hi => by cases hi) t h
def b0 : Nat → Nat := fun _ => 0
def holds (ρ : Env) : Tm → Prop
 | .tt b => b = true
 | .not a => ¬ holds ρ a
 | .b2 .lt a b => denI ρ b0 a < denI ρ b0 b
 | .b2 .le a b => denI ρ b0 a ≤ denI ρ b0 b
 | .b2 .eq a b => denI ρ b0 a = denI ρ b0 b
 | .b2 .and a b => holds ρ a ∧ holds ρ b
 | .b2 .or a b => holds ρ a ∨ holds ρ b
 | .b2 .beq a b => (holds ρ a ↔ holds ρ b)
 | t => denB ρ b0 t = true
theorem holds_iff (ρ : Env) : ∀ t, holds ρ t ↔ denB ρ b0 t = true := by
 intro t
 induction t with
 | tt b => simp [holds, denB]
 | not a ih => simp [holds, denB, ih]
 | b2 o a b iha ihb =>
   cases o
   case lt => simp [holds, denB, B2.ofInts, B2.denI]
   case le => simp [holds, denB, B2.ofInts, B2.denI]
   case eq => simp [holds, denB, B2.ofInts, B2.denI]
   case and => simp [holds, denB, B2.ofInts, B2.denB, iha, ihb]
   case or => simp [holds, denB, B2.ofInts, B2.denB, iha, ihb]
   case beq =>
     simp only [holds, denB, B2.ofInts, B2.denB, iha, ihb]
     cases denB ρ b0 a <;> cases denB ρ b0 b <;> simp
 | _ => simp [holds]
structure Cnt where
 i : Nat
 b : Nat
 v : Nat
 s : Nat
 deriving DecidableEq
structure Con where
 f : FuncId
 pat : List Tm
 cnd : Tm
 res : Tm
 n : Cnt
 eat : Option (Nat × TypeId × SK) := none
def Con.ex (c : Con) (xs : List Value) : Option Nat :=
 match c.eat with
 | some (k, _, _) => (xs[k]?).bind topBlk
 | none => none
def After (ρ : Env) (β : Nat → Nat) (res : Tm) (ok : Nat → Nat → Prop) (ex : Option Nat) (w : World) : Ending → World → Prop :=
 fun e w' => ∃ x o' ok', e = .returned x ∧ Done ok ex w w' o' ok' ∧ Rel ⟨ρ, β, o', ok', w'⟩ (relab 0 res) x ∧ (hasNew res = true → (o' 0).isSome = true)
def Con.Good (P : Program) (G : Glob) (ρ : Env) (c : Con) : Prop :=
 ∀ (iv : List Int) (bv : List Bool) (vv : List Value) (sv : List ByteArray) (β : Nat → Nat) (ok : Nat → Nat → Prop) (w : World) (xs : List Value), iv.length = c.n.i → bv.length = c.n.b → vv.length = c.n.v → sv.length = c.n.s → holds { ρ with iv := iv, bv := bv, vv := vv, sv := sv } c.cnd →
   (∀ b off, w.heap.size ≤ b → ok b off) → GlobOk G ok w → RelT ⟨{ ρ with iv := iv, bv := bv, vv := vv, sv := sv }, β, fun _ => none, ok, w⟩ c.pat xs →
   (∀ k e K, c.eat = some (k, e, K) → ∃ u, xs[k]? = some u ∧ TopOk w ⟨u, e, K.wd⟩ ∧ ∀ b, topBlk u = some b → ∀ off, ok b off → off < lenOfV u * K.wd) →
   Calls P c.f xs.toArray w (After { ρ with iv := iv, bv := bv, vv := vv, sv := sv } β c.res ok (c.ex xs) w)
def AfterM (ρ : Env) (β : Nat → Nat) (res : Tm) (post : List Tm) (ok : Nat → Nat → Prop) (b : Nat) (w : World) : Ending → World → Prop :=
 fun e w' => ∃ (x : Value) (ok' : Nat → Nat → Prop) (vs : List Value), e = .returned x ∧ w.grownBy w' (some b) ∧ Kept ok ok' w w' ∧ (∀ p off, ok' p off → ok p off) ∧ Rel ⟨ρ, β, fun _ => none, ok', w'⟩ res x ∧ RelT ⟨ρ, β, fun _ => none, ok', w'⟩ post vs ∧
   ∀ (i : Nat) v, vs[i]? = some v → w'.cell? ⟨b, i, none⟩ = some v ∧ w'.frozen? ⟨b, i, none⟩ = false
def AfterA (ρ : Env) (β : Nat → Nat) (cells : List Tm) (ok : Nat → Nat → Prop) (w : World) : Ending → World → Prop :=
 fun e w' => ∃ (b : Nat) (ok' : Nat → Nat → Prop) (vs : List Value), e = .returned (.pointer (some ⟨b, 0, none⟩)) ∧ w.grownBy w' none ∧ Kept ok ok' w w' ∧ (∀ p off, ok' p off → ok p off) ∧ w.heap.size ≤ b ∧ b < w'.heap.size ∧ (∀ off, ¬ ok' b off) ∧ RelT ⟨ρ, β, fun _ => none, ok', w'⟩ cells vs ∧
   ∀ (i : Nat) v, vs[i]? = some v → w'.cell? ⟨b, i, none⟩ = some v ∧ w'.frozen? ⟨b, i, none⟩ = false
structure MCon where
 f : FuncId
 k : Nat
 pat : List Tm
 cnd : Tm
 res : Tm
 post : List Tm
 n : Cnt
def MCon.Good (P : Program) (G : Glob) (ρ : Env) (c : MCon) : Prop :=
 ∀ (iv : List Int) (bv : List Bool) (vv : List Value) (sv : List ByteArray) (β : Nat → Nat) (ok : Nat → Nat → Prop) (w : World) (xs us : List Value) (b : Nat), iv.length = c.n.i → bv.length = c.n.b → vv.length = c.n.v → sv.length = c.n.s → holds { ρ with iv := iv, bv := bv, vv := vv, sv := sv } c.cnd →
   (∀ b off, w.heap.size ≤ b → ok b off) → GlobOk G ok w → b < w.heap.size → xs[c.k]? = some (.pointer (some ⟨b, 0, none⟩)) → (∀ off, ¬ ok b off) → us.length = c.post.length → (∀ (i : Nat) u, us[i]? = some u → w.cell? ⟨b, i, none⟩ = some u ∧ w.frozen? ⟨b, i, none⟩ = false) →
   RelT ⟨{ ρ with iv := iv, bv := bv, vv := vv, sv := sv }, β, fun _ => none, ok, w⟩ c.pat (xs.eraseIdx c.k ++ us) → Calls P c.f xs.toArray w (AfterM { ρ with iv := iv, bv := bv, vv := vv, sv := sv } β c.res c.post ok b w)
structure ACon where
 f : FuncId
 pat : List Tm
 cnd : Tm
 cells : List Tm
 n : Cnt
def ACon.Good (P : Program) (G : Glob) (ρ : Env) (c : ACon) : Prop :=
 ∀ (iv : List Int) (bv : List Bool) (vv : List Value) (sv : List ByteArray) (β : Nat → Nat) (ok : Nat → Nat → Prop) (w : World) (xs : List Value), iv.length = c.n.i → bv.length = c.n.b → vv.length = c.n.v → sv.length = c.n.s → holds { ρ with iv := iv, bv := bv, vv := vv, sv := sv } c.cnd →
   (∀ b off, w.heap.size ≤ b → ok b off) → GlobOk G ok w → RelT ⟨{ ρ with iv := iv, bv := bv, vv := vv, sv := sv }, β, fun _ => none, ok, w⟩ c.pat xs → Calls P c.f xs.toArray w (AfterA { ρ with iv := iv, bv := bv, vv := vv, sv := sv } β c.cells ok w)
structure Ctx where
 l : List Con
 G : Glob := []
 ro : List TypeId := []
 m : List MCon := []
 a : List ACon := []
structure Ctx.Ok (Γ : Ctx) (P : Program) (ρ : Env) : Prop where
 l : ∀ x ∈ Γ.l, x.Good P Γ.G ρ
 m : ∀ x ∈ Γ.m, x.Good P Γ.G ρ
 a : ∀ x ∈ Γ.a, x.Good P Γ.G ρ
def matchT : Tm → Tm → Sub → Option Sub
 | .var i, a, σ => (match σ.i[i]? with | some b => if a = b then some σ else none | none => some { σ with i := σ.i ++ [a] })
 | .bvar i, a, σ => (match σ.b[i]? with | some b => if a = b then some σ else none | none => some { σ with b := σ.b ++ [a] })
 | .int k p, .int k' a, σ => if k = k' then matchT p a σ else none
 | .bool p, .bool a, σ => matchT p a σ
 | .not p, .not a, σ => matchT p a σ
 | .wrap k p, .wrap k' a, σ => if k = k' then matchT p a σ else none
 | .b2 o p q, .b2 o' a b, σ => if o = o' then (matchT p a σ).bind fun σ => matchT q b σ else none
 | .i2 o p q, .i2 o' a b, σ => if o = o' then (matchT p a σ).bind fun σ => matchT q b σ else none
 | .iapp f l, .iapp f' m, σ => if f = f' then matchT l m σ else none
 | .bapp f l, .bapp f' m, σ => if f = f' then matchT l m σ else none
 | .vapp f l, .vapp f' m, σ => if f = f' then matchT l m σ else none
 | .hs _ K p, .hs _ K' t, σ => if K = K' then matchT p t σ else none
 | .opq _, a, σ => some { σ with v := σ.v ++ [a] }
 | .str _, a, σ => if strT a then some { σ with s := σ.s ++ [a] } else none
 | .err p, .err a, σ => matchT p a σ
 | .agg l, .agg m, σ => matchT l m σ
 | .tup l, .tup m, σ => matchT l m σ
 | .clo f l, .clo f' m, σ => if f = f' then matchT l m σ else none
 | .ep K p (.lit 0) j, .ep K' t (.lit 0) j', σ => if K = K' ∧ j = j' then matchT p t σ else none
 | .cons a b, .cons c d, σ => (matchT a c σ).bind fun σ => matchT b d σ
 | p, a, σ => if p = a then some σ else none
def matchAll : List Tm → List Tm → Sub → Option Sub
 | [], [], σ => some σ
 | p :: ps, a :: as, σ => (matchT p a σ).bind fun σ => matchAll ps as σ
 | _, _, _ => none
def coerceE (et : TypeId) : Tm → Tm
 | .cst .nilI => .err (.lit 0)
 | .iface t (.int .i64 (.lit n)) => if t = et ∧ n ≠ 0 then .err (.lit n) else .iface t (.int .i64 (.lit n))
 | a => a
def coerceS (K : SK) : Tm → Tm
 | .cst .nilS => .hs .no K (.tup .nil)
 | .hs _ K t => .hs .no K t
 | a => a
def coerce (et : TypeId) : Tm → Tm → Tm
 | .err _, a => coerceE et a
 | .hs _ K _, a => coerceS K a
 | .agg l, .agg m => .agg (coerce et l m)
 | .tup l, .tup m => .tup (coerce et l m)
 | .cons a b, .cons c d => .cons (coerce et a c) (coerce et b d)
 | _, a => a
abbrev Cx.bare (X : Cx) : Cx := { X with o := fun _ => none }
theorem rel_bare {X : Cx} : ∀ t, (∀ v, Rel X t v → Rel X.bare t v) ∧ (∀ vs, RelL X t vs → RelL X.bare t vs) := by
 intro t
 refine rel_mono (p := fun _ => true) (X := X) (X' := X.bare) { ρ := rfl, β := fun _ _ => rfl, o := fun _ _ T h => (by cases h), k := Kept.refl _ _ } t (by
   have : ∀ t, idsIn (fun _ => true) t = true := by
     intro t
     induction t with
     | hs lab K t ih => cases lab <;> simp [idsIn, ih]
     | _ => simp_all [idsIn]
   exact this t)
theorem coerce_rel {X : Cx} : ∀ p, (∀ a v, Rel X a v → Rel X.bare (coerce X.ρ.et p a) v) ∧ (∀ a vs, RelL X a vs → RelL X.bare (coerce X.ρ.et p a) vs) := by
 intro p
 have def_ : ∀ a, (∀ v, Rel X a v → Rel X.bare a v) ∧ (∀ vs, RelL X a vs → RelL X.bare a vs) := fun a => rel_bare a
 induction p with
 | err q _ =>
   refine ⟨fun a v h => ?_, fun a vs h => ?_⟩
   · show Rel X.bare (coerceE X.ρ.et a) v
     unfold coerceE
     split
     · simp only [Rel, denV, Cst.den] at h; subst h; simp [Rel, denV, errVal, denI]
     · split
       · rename_i hn
         simp only [Rel, denV, denI] at h; subst h
         simp [Rel, denV, errVal, denI, hn.1, hn.2]
       · exact (def_ _).1 v h
     · exact (def_ _).1 v h
   · show RelL X.bare (coerceE X.ρ.et a) vs
     unfold coerceE
     split
     · simpa [RelL] using h
     · split
       · simpa [RelL] using h
       · exact (def_ _).2 vs h
     · exact (def_ _).2 vs h
 | hs lab K q _ =>
   refine ⟨fun a v h => ?_, fun a vs h => ?_⟩
   · show Rel X.bare (coerceS K a) v
     unfold coerceS
     split
     · simp only [Rel, denV, Cst.den] at h; subst h
       exact ⟨deep_nil _ _ _, fun _ _ h => by cases h⟩
     · exact ⟨h.1, fun _ _ h => by cases h⟩
     · exact (def_ _).1 v h
   · show RelL X.bare (coerceS K a) vs
     unfold coerceS
     split
     · simpa [RelL] using h
     · simpa [RelL] using h
     · exact (def_ _).2 vs h
 | agg l ih =>
   refine ⟨fun a v h => ?_, fun a vs h => ?_⟩
   · cases a with
     | agg m => obtain ⟨vs, h1, h2⟩ := h; exact ⟨vs, h1, ih.2 m vs h2⟩
     | _ => exact (def_ _).1 v h
   · cases a with
     | agg m => simpa [coerce, RelL] using h
     | _ => exact (def_ _).2 vs h
 | tup l ih =>
   refine ⟨fun a v h => ?_, fun a vs h => ?_⟩
   · cases a with
     | tup m => obtain ⟨vs, h1, h2⟩ := h; exact ⟨vs, h1, ih.2 m vs h2⟩
     | _ => exact (def_ _).1 v h
   · cases a with
     | tup m => simpa [coerce, RelL] using h
     | _ => exact (def_ _).2 vs h
 | cons p q ihp ihq =>
   refine ⟨fun a v h => ?_, fun a vs h => ?_⟩
   · cases a with
     | cons c d => simp only [coerce, Rel, denV] at h ⊢; exact h
     | _ => exact (def_ _).1 v h
   · cases a with
     | cons c d =>
       cases vs with
       | nil => exact h.elim
       | cons x r => exact ⟨ihp.1 c x h.1, ihq.2 d r h.2⟩
     | _ => exact (def_ _).2 vs h
 | _ => exact ⟨fun a v h => (def_ _).1 v h, fun a vs h => (def_ _).2 vs h⟩
def coerceAll (et : TypeId) : List Tm → List Tm → List Tm
 | p :: ps, a :: as => coerce et p a :: coerceAll et ps as
 | _, l => l
theorem coerceAll_rel {X : Cx} : ∀ {ps as : List Tm} {vs : List Value}, RelT X as vs → RelT X.bare (coerceAll X.ρ.et ps as) vs
 | [], [], [], h => trivial
 | [], a :: as, v :: vs, h => by
   have : coerceAll X.ρ.et [] (a :: as) = coerceAll X.ρ.et [] [a] ++ coerceAll X.ρ.et [] as := by cases as <;> simp [coerceAll]
   rw [this]
   exact ⟨(rel_bare a).1 v h.1, by simpa using coerceAll_rel (ps := []) h.2⟩
 | _ :: _, [], [], h => trivial
 | p :: ps, a :: as, v :: vs, h => ⟨(coerce_rel p).1 a v h.1, coerceAll_rel h.2⟩
 | [], [], _ :: _, h => h.elim
 | [], _ :: _, [], h => h.elim
 | _ :: _, [], _ :: _, h => h.elim
 | _ :: _, _ :: _, [], h => h.elim
def okPat (σ : Sub) : Tm → Bool
 | .agg l => okPat σ l
 | .tup l => okPat σ l
 | .cons a b => okPat σ a && okPat σ b
 | .nil => true
 | .hs _ _ _ => true
 | .ep _ _ _ _ => true
 | .clo _ l => okPat σ l
 | p => flat p && flat (subst σ p)
theorem relab_flat (n : Nat) : ∀ t, flat t = true → relab n t = t := by
 intro t
 induction t with
 | hs _ _ _ _ => intro h; cases h
 | agg l ih => intro h; simp only [relab]; rw [ih h]
 | tup l ih => intro h; simp only [relab]; rw [ih h]
 | clo _ _ _ => intro h; cases h
 | cons a b iha ihb => intro h; simp only [flat, Bool.and_eq_true] at h; simp only [relab]; rw [iha h.1, ihb h.2]
 | _ => intro _; rfl
theorem subst_rel {ρ : Env} {β : Nat → Nat} {o : Nat → Option Top} {ok : Nat → Nat → Prop} {w : World} {σ : Sub} (hs : σ.ok = true) : ∀ p, okPat σ p = true →
   (∀ v, Rel ⟨ρ, β, o, ok, w⟩ (subst σ p) v ↔ Rel ⟨ρ.sub β σ, β, o, ok, w⟩ p v) ∧ (∀ vs, RelL ⟨ρ, β, o, ok, w⟩ (subst σ p) vs ↔ RelL ⟨ρ.sub β σ, β, o, ok, w⟩ p vs) := by
 have leaf : ∀ p, flat p = true → flat (subst σ p) = true → (∀ v, Rel ⟨ρ, β, o, ok, w⟩ (subst σ p) v ↔ Rel ⟨ρ.sub β σ, β, o, ok, w⟩ p v) ∧ (∀ vs, RelL ⟨ρ, β, o, ok, w⟩ (subst σ p) vs ↔ RelL ⟨ρ.sub β σ, β, o, ok, w⟩ p vs) := fun p h1 h2 => by
   refine ⟨fun v => ?_, fun vs => ?_⟩
   · rw [(flat_rel _ _ h1).1, (flat_rel _ _ h2).1, (subst_den ρ β σ hs p).2.2.1]
   · rw [(flat_rel _ _ h1).2, (flat_rel _ _ h2).2, (subst_den ρ β σ hs p).2.2.2]
 intro p
 induction p with
 | agg l ih =>
   intro h
   have := (ih h).2
   refine ⟨fun v => ?_, fun vs => by simp [subst, RelL]⟩
   simp only [subst, Rel]
   exact exists_congr fun vs => and_congr_right fun _ => this vs
 | tup l ih =>
   intro h
   have := (ih h).2
   refine ⟨fun v => ?_, fun vs => by simp [subst, RelL]⟩
   simp only [subst, Rel]
   exact exists_congr fun vs => and_congr_right fun _ => this vs
 | cons a b iha ihb =>
   intro h
   simp only [okPat, Bool.and_eq_true] at h
   have h1 := (iha h.1).1
   have h2 := (ihb h.2).2
   refine ⟨fun v => by simp [subst, Rel, denV], fun vs => ?_⟩
   cases vs with
   | nil => simp [subst, RelL]
   | cons v r => simp only [subst, RelL]; rw [h1 v, h2 r]
 | nil => intro _; exact ⟨fun v => by simp [subst, Rel, denV], fun vs => by simp [subst, RelL]⟩
 | hs lab K t _ =>
   intro _
   refine ⟨fun v => ?_, fun vs => by simp [subst, RelL]⟩
   simp only [subst, Rel]
   rw [(subst_den ρ β σ hs t).2.2.1]
 | ep K t i j _ _ =>
   intro _
   refine ⟨fun v => ?_, fun vs => by simp [subst, RelL]⟩
   simp only [subst, Rel]
   rw [(subst_den ρ β σ hs t).2.2.1, (subst_den ρ β σ hs i).1]
 | clo f l ih =>
   intro h
   have := (ih h).2
   refine ⟨fun v => ?_, fun vs => by simp [subst, RelL]⟩
   simp only [subst, Rel]
   exact exists_congr fun vs => and_congr_right fun _ => this vs
 | _ => intro h; simp only [okPat, Bool.and_eq_true] at h; exact leaf _ h.1 h.2
theorem relab_subst {σ : Sub} (n : Nat) : ∀ p, okPat σ p = true → relab n (subst σ p) = subst σ (relab n p) ∧ okPat σ (relab n p) = true ∧ hasNew (subst σ p) = hasNew p := by
 have hnf : ∀ t, flat t = true → hasNew t = false := by
   intro t
   induction t with
   | hs _ _ _ _ => intro h; cases h
   | agg l ih => intro h; exact ih h
   | tup l ih => intro h; exact ih h
   | clo _ _ _ => intro h; cases h
   | cons a b iha ihb => intro h; simp only [flat, Bool.and_eq_true] at h; simp [hasNew, iha h.1, ihb h.2]
   | _ => intro _; rfl
 intro p
 induction p with
 | agg l ih => intro h; obtain ⟨h1, h2, h3⟩ := ih h; exact ⟨by simp only [subst, relab]; rw [h1], h2, h3⟩
 | tup l ih => intro h; obtain ⟨h1, h2, h3⟩ := ih h; exact ⟨by simp only [subst, relab]; rw [h1], h2, h3⟩
 | cons a b iha ihb =>
   intro h
   simp only [okPat, Bool.and_eq_true] at h
   obtain ⟨a1, a2, a3⟩ := iha h.1
   obtain ⟨b1, b2, b3⟩ := ihb h.2
   exact ⟨by simp only [subst, relab]; rw [a1, b1], by simp [relab, okPat, a2, b2], by simp [subst, hasNew, a3, b3]⟩
 | hs lab K t _ => intro _; cases lab <;> exact ⟨rfl, rfl, rfl⟩
 | ep K t i j _ _ => intro h; exact ⟨rfl, h, rfl⟩
 | clo f l ih => intro h; obtain ⟨h1, h2, h3⟩ := ih h; exact ⟨by simp only [subst, relab]; rw [h1], h2, h3⟩
 | nil => intro _; exact ⟨rfl, rfl, rfl⟩
 | _ =>
   intro h
   have h' := h
   simp only [okPat, Bool.and_eq_true] at h'
   exact ⟨by rw [relab_flat n _ h'.2]; rfl, h, by rw [hnf _ h'.2]; rfl⟩
def normB : Tm → Tm
 | .b2 .and a b => mkAnd (normB a) (normB b)
 | .b2 .lt a b => mkCmp .lt a b
 | .b2 .le a b => mkCmp .le a b
 | .b2 .eq a b => mkCmp .eq a b
 | .not a => mkNot (normB a)
 | t => t
theorem normB_den (ρ : Env) (β : Nat → Nat) : ∀ t, denB ρ β (normB t) = denB ρ β t := by
 intro t
 induction t with
 | b2 o a b iha ihb =>
   cases o
   case and => simp [normB, den_mkAnd, iha, ihb, denB, B2.ofInts, B2.denB]
   case lt => simp only [normB]; rw [den_mkCmp _ _ _ _ _ rfl]; simp [denB, B2.ofInts]
   case le => simp only [normB]; rw [den_mkCmp _ _ _ _ _ rfl]; simp [denB, B2.ofInts]
   case eq => simp only [normB]; rw [den_mkCmp _ _ _ _ _ rfl]; simp [denB, B2.ofInts]
   all_goals rfl
 | not a ih => simp [normB, den_mkNot, ih, denB]
 | _ => rfl
def eatArg (ea : Option (Nat × TypeId × SK)) (args : List Tm) : Option (Option Nat) :=
 match ea with
 | none => some none
 | some (k, e, K) => match args[k]? with
   | some (.hs (.id n e') K' _) => if e = e' ∧ K = K' then some (some n) else none
   | some (.cst .nilS) => some none
   | _ => none
def tryCon (et : TypeId) (c : Con) (args : List Tm) : Option (Tm × Tm × Option Nat) :=
 let l := coerceAll et c.pat args
 match matchAll c.pat l ⟨[], [], [], []⟩ with
 | some σ => if σ.ok = true ∧ closed c.cnd = true ∧ l = c.pat.map (subst σ) ∧ (c.pat.all fun t => okPat σ t) = true ∧ okPat σ c.res = true ∧ (⟨σ.i.length, σ.b.length, σ.v.length, σ.s.length⟩ : Cnt) = c.n then (match eatArg c.eat args with
   | some eat => some (normB (subst σ c.cnd), subst σ c.res, eat)
   | none => none) else none
 | none => none
def findCon (et : TypeId) (f : FuncId) (args : List Tm) : List Con → Option (Tm × Tm × Option Nat)
 | [] => none
 | c :: r => if c.f = f then (match tryCon et c args with | some x => some x | none => findCon et f args r) else findCon et f args r
theorem findCon_sound {P : Program} {X : Cx} {G : Glob} {f : FuncId} {args : List Tm} {xs : List Value} {c v : Tm} {eat : Option Nat} (hok : ∀ b off, X.w.heap.size ≤ b → X.ok b off) (hG : GlobOk G X.ok X.w) (htop : TopsOk X) (hlive : ∀ n, eat = some n → ∃ T, X.o n = some T) (hr : RelT X args xs) :
   ∀ {Γ : List Con}, (∀ x ∈ Γ, x.Good P G X.ρ) → findCon X.ρ.et f args Γ = some (c, v, eat) → denB X.ρ X.β c = true → Calls P f xs.toArray X.w (After X.ρ X.β v X.ok (exOf X.o eat) X.w)
 | [], _, h, _ => by cases h
 | x :: r, hg, h, hc => by
   unfold findCon at h
   split at h
   · rename_i hf
     split at h
     · rename_i y hy
       obtain rfl := Option.some.inj h
       unfold tryCon at hy
       dsimp only at hy
       split at hy
       · rename_i σ hm
         split at hy
         · rename_i hσ
           obtain ⟨s1, s2, s3, s4, s5, s6⟩ := hσ
           split at hy
           · rename_i eat' heat
             obtain ⟨rfl, h2⟩ := Prod.mk.inj (Option.some.inj hy)
             obtain ⟨rfl, rfl⟩ := Prod.mk.inj h2
             rw [normB_den, (subst_den X.ρ X.β σ s1 _).2.1, (closed_den s2 X.β b0).2.1] at hc
             have hpat : RelT ⟨X.ρ.sub X.β σ, X.β, fun _ => none, X.ok, X.w⟩ x.pat xs := by
               have h1 := coerceAll_rel (ps := x.pat) hr
               rw [s3] at h1
               refine RelT.of (by have := h1.length; simpa using this) fun i t v ht hv => ?_
               obtain ⟨v', g1, g2⟩ := h1.get i (subst σ t) (by rw [List.getElem?_map, ht]; rfl)
               rw [hv] at g1
               obtain rfl := Option.some.inj g1
               exact ((subst_rel s1 t (List.all_eq_true.1 s4 t (List.mem_of_getElem? ht))).1 v).1 g2
             have heats : x.ex xs = exOf X.o eat' ∧ ∀ k e K, x.eat = some (k, e, K) → ∃ u, xs[k]? = some u ∧ TopOk X.w ⟨u, e, K.wd⟩ ∧ ∀ b, topBlk u = some b → ∀ off, X.ok b off → off < lenOfV u * K.wd := by
               unfold eatArg at heat
               unfold Con.ex
               split at heat
               · rename_i he
                 obtain rfl := Option.some.inj heat
                 rw [he]
                 exact ⟨rfl, fun k e K h => by cases h⟩
               · rename_i k e K he
                 rw [he]
                 split at heat
                 · rename_i n e' K' t hak
                   split at heat
                   · rename_i hek
                     obtain ⟨rfl, rfl⟩ := hek
                     obtain rfl := Option.some.inj heat
                     obtain ⟨u, hu, hru⟩ := hr.get k _ hak
                     obtain ⟨T, hT⟩ := hlive n rfl
                     have hTe := hru.2 n e rfl T hT
                     obtain ⟨t1, t2⟩ := htop n T hT
                     subst hTe
                     exact ⟨by simp [hu, exOf, hT], fun k' e' K' h => by
                       obtain ⟨rfl, h'⟩ := Prod.mk.inj (Option.some.inj h)
                       obtain ⟨rfl, rfl⟩ := Prod.mk.inj h'
                       exact ⟨u, hu, t1, t2⟩⟩
                   · cases heat
                 · rename_i hak
                   obtain rfl := Option.some.inj heat
                   obtain ⟨u, hu, hru⟩ := hr.get k _ hak
                   simp only [Rel, denV, Cst.den] at hru
                   subst hru
                   exact ⟨by simp [hu, exOf, topBlk], fun k' e' K' h => by
                     obtain ⟨rfl, h'⟩ := Prod.mk.inj (Option.some.inj h)
                     obtain ⟨rfl, rfl⟩ := Prod.mk.inj h'
                     exact ⟨_, hu, ⟨none, 0, 0, rfl, Nat.le_refl _, by simp [maxLen], fun _ => rfl, .inl rfl⟩, fun b hb => by simp [topBlk] at hb⟩⟩
                 · cases heat
             have := hg x (by simp) (σ.i.map (denI X.ρ X.β)) (σ.b.map (denB X.ρ X.β)) (σ.v.map (denV X.ρ X.β)) (σ.s.map fun t => strOf (denV X.ρ X.β t)) X.β X.ok X.w xs (by rw [← s6]; simp) (by rw [← s6]; simp) (by rw [← s6]; simp) (by rw [← s6]; simp) ((holds_iff _ _).2 hc) hok hG hpat heats.2
             rw [hf, heats.1] at this
             refine this.mono ?_
             rintro e w' ⟨y, o', ok', h1, h2, h3, h4⟩
             obtain ⟨r1, r2, r3⟩ := relab_subst (σ := σ) 0 x.res s5
             refine ⟨y, o', ok', h1, h2, ?_, fun hn => h4 (by rw [← r3]; exact hn)⟩
             rw [r1]
             exact ((subst_rel s1 _ r2).1 y).2 h3
           · cases hy
         · cases hy
       · cases hy
     · exact findCon_sound hok hG htop hlive hr (fun y hy => hg y (by simp [hy])) h hc
   · exact findCon_sound hok hG htop hlive hr (fun y hy => hg y (by simp [hy])) h hc
def tryM (et : TypeId) (hp : List (List Tm)) (c : MCon) (args : List Tm) : Option (Tm × Tm × Nat × List Tm) :=
 match args[c.k]? with
 | some (.ptr id 0) => match hp[id]? with
   | some cs => if cs.length = c.post.length then
       (let l := coerceAll et c.pat (args.eraseIdx c.k ++ cs)
        match matchAll c.pat l ⟨[], [], [], []⟩ with
        | some σ => if σ.ok = true ∧ closed c.cnd = true ∧ l = c.pat.map (subst σ) ∧ (c.pat.all fun t => okPat σ t) = true ∧ okPat σ c.res = true ∧ (c.post.all fun t => okPat σ t) = true ∧ (⟨σ.i.length, σ.b.length, σ.v.length, σ.s.length⟩ : Cnt) = c.n then some (normB (subst σ c.cnd), subst σ c.res, id, c.post.map (subst σ)) else none
        | none => none) else none
   | none => none
 | _ => none
def findM (et : TypeId) (hp : List (List Tm)) (f : FuncId) (args : List Tm) : List MCon → Option (Tm × Tm × Nat × List Tm)
 | [] => none
 | c :: r => if c.f = f then (match tryM et hp c args with | some x => some x | none => findM et hp f args r) else findM et hp f args r
def tryA (et : TypeId) (c : ACon) (args : List Tm) : Option (Tm × List Tm) :=
 let l := coerceAll et c.pat args
 match matchAll c.pat l ⟨[], [], [], []⟩ with
 | some σ => if σ.ok = true ∧ closed c.cnd = true ∧ l = c.pat.map (subst σ) ∧ (c.pat.all fun t => okPat σ t) = true ∧ (c.cells.all fun t => okPat σ t) = true ∧ (⟨σ.i.length, σ.b.length, σ.v.length, σ.s.length⟩ : Cnt) = c.n then some (normB (subst σ c.cnd), c.cells.map (subst σ)) else none
 | none => none
def findA (et : TypeId) (f : FuncId) (args : List Tm) : List ACon → Option (Tm × List Tm)
 | [] => none
 | c :: r => if c.f = f then (match tryA et c args with | some x => some x | none => findA et f args r) else findA et f args r
theorem met_pat {X : Cx} {pat args : List Tm} {xs : List Value} {σ : Sub} (s1 : σ.ok = true) (s3 : coerceAll X.ρ.et pat args = pat.map (subst σ)) (s4 : (pat.all fun t => okPat σ t) = true) (hr : RelT X args xs) : RelT ⟨X.ρ.sub X.β σ, X.β, fun _ => none, X.ok, X.w⟩ pat xs := by
 have h1 := coerceAll_rel (ps := pat) hr
 rw [s3] at h1
 refine RelT.of (by have := h1.length; simpa using this) fun i t v ht hv => ?_
 obtain ⟨v', g1, g2⟩ := h1.get i (subst σ t) (by rw [List.getElem?_map, ht]; rfl)
 rw [hv] at g1
 obtain rfl := Option.some.inj g1
 exact ((subst_rel s1 t (List.all_eq_true.1 s4 t (List.mem_of_getElem? ht))).1 v).1 g2
theorem met_all {ρ : Env} {β : Nat → Nat} {o : Nat → Option Top} {ok : Nat → Nat → Prop} {w : World} {σ : Sub} (s1 : σ.ok = true) {ts : List Tm} (s4 : (ts.all fun t => okPat σ t) = true) {vs : List Value} (h : RelT ⟨ρ.sub β σ, β, o, ok, w⟩ ts vs) : RelT ⟨ρ, β, o, ok, w⟩ (ts.map (subst σ)) vs := by
 refine RelT.of (by rw [List.length_map]; exact h.length) fun i t v ht hv => ?_
 rw [List.getElem?_map] at ht
 cases ht' : ts[i]? with
 | none => rw [ht'] at ht; cases ht
 | some t' =>
   rw [ht'] at ht
   obtain rfl := Option.some.inj ht
   obtain ⟨v', g1, g2⟩ := h.get i t' ht'
   rw [hv] at g1
   obtain rfl := Option.some.inj g1
   exact ((subst_rel s1 t' (List.all_eq_true.1 s4 t' (List.mem_of_getElem? ht'))).1 v).2 g2
theorem findM_sound {P : Program} {X : Cx} {W : World} {G : Glob} {hp : List (List Tm)} {f : FuncId} {args : List Tm} {xs : List Value} {c v : Tm} {id : Nat} {cells : List Tm} (hok : ∀ b off, X.w.heap.size ≤ b → X.ok b off) (hG : GlobOk G X.ok X.w) (hh : HpOk X W hp) (hr : RelT X args xs) (hlt : ∀ cs, hp[id]? = some cs → cs ≠ [] → X.β id < X.w.heap.size ∧ ∀ off, ¬ X.ok (X.β id) off) (hne : cells ≠ []) :
   ∀ {Γ : List MCon}, (∀ x ∈ Γ, x.Good P G X.ρ) → findM X.ρ.et hp f args Γ = some (c, v, id, cells) → denB X.ρ X.β c = true → Calls P f xs.toArray X.w (AfterM X.ρ X.β v cells X.ok (X.β id) X.w)
 | [], _, h, _ => by cases h
 | x :: r, hg, h, hc => by
   unfold findM at h
   split at h
   · rename_i hf
     split at h
     · rename_i y hy
       obtain rfl := Option.some.inj h
       unfold tryM at hy
       split at hy
       · rename_i id' hak
         split at hy
         · rename_i cs hcs
           split at hy
           · rename_i hlen
             dsimp only at hy
             split at hy
             · rename_i σ hm
               split at hy
               · rename_i hσ
                 obtain ⟨s1, s2, s3, s4, s5, s7, s6⟩ := hσ
                 obtain ⟨rfl, hy2⟩ := Prod.mk.inj (Option.some.inj hy)
                 obtain ⟨rfl, hy3⟩ := Prod.mk.inj hy2
                 obtain ⟨rfl, rfl⟩ := Prod.mk.inj hy3
                 rw [normB_den, (subst_den X.ρ X.β σ s1 _).2.1, (closed_den s2 X.β b0).2.1] at hc
                 have hcne : cs ≠ [] := by
                   rintro rfl
                   rw [List.length_nil] at hlen
                   exact hne (by rw [List.eq_nil_of_length_eq_zero hlen.symm]; rfl)
                 obtain ⟨l1, l2⟩ := hlt cs hcs hcne
                 have hb := hh id' cs hcs
                 have hex : ∀ l : List Tm, ∀ m, (∀ i c, l[i]? = some c → ∃ v, X.w.cell? ⟨X.β id', m + i, none⟩ = some v ∧ Rel X c v) → ∃ us : List Value, RelT X l us ∧ ∀ (i : Nat) u, us[i]? = some u → X.w.cell? ⟨X.β id', m + i, none⟩ = some u := by
                   intro l
                   induction l with
                   | nil => intro m _; exact ⟨[], trivial, fun i u h => by simp at h⟩
                   | cons a t ih =>
                     intro m hl
                     obtain ⟨v0, hv0, hr0⟩ := hl 0 a rfl
                     obtain ⟨us, h1, h2⟩ := ih (m + 1) (fun i c hc => by have := hl (i + 1) c (by simpa using hc); rw [show m + 1 + i = m + (i + 1) by omega]; exact this)
                     refine ⟨v0 :: us, ⟨hr0, h1⟩, fun i u hu => ?_⟩
                     cases i with
                     | zero => simp at hu; subst hu; exact hv0
                     | succ i => have := h2 i u (by simpa using hu); rw [show m + (i + 1) = m + 1 + i by omega]; exact this
                 obtain ⟨us, u1, u2⟩ := hex cs 0 (fun i c hc => by obtain ⟨_, _, ⟨v, h3, h4⟩, _⟩ := hb i c hc; exact ⟨v, by rw [Nat.zero_add]; exact h3, h4⟩)
                 obtain ⟨u0, hu0, hru0⟩ := hr.get _ _ hak
                 have hpt : u0 = .pointer (some ⟨X.β id', 0, none⟩) := hru0
                 subst hpt
                 have herase : ∀ (k : Nat) (as : List Tm) (vs : List Value), RelT X as vs → RelT X (as.eraseIdx k) (vs.eraseIdx k) := by
                   intro k as
                   induction as generalizing k with
                   | nil => intro vs h; cases vs with
                     | nil => exact trivial
                     | cons _ _ => exact h.elim
                   | cons a t ih =>
                     intro vs h
                     cases vs with
                     | nil => exact h.elim
                     | cons y vs =>
                       cases k with
                       | zero => exact h.2
                       | succ k => exact ⟨h.1, ih k vs h.2⟩
                 have happ : ∀ {ts us : List Tm} {vs ws : List Value}, RelT X ts vs → RelT X us ws → RelT X (ts ++ us) (vs ++ ws) := by
                   intro ts
                   induction ts with
                   | nil => intro us vs ws h k; cases vs with
                     | nil => exact k
                     | cons _ _ => exact h.elim
                   | cons t ts ih => intro us vs ws h k; cases vs with
                     | nil => exact h.elim
                     | cons y vs => exact ⟨h.1, ih h.2 k⟩
                 have hpat := met_pat s1 s3 s4 (happ (herase x.k args xs hr) u1)
                 have := hg x (by simp) (σ.i.map (denI X.ρ X.β)) (σ.b.map (denB X.ρ X.β)) (σ.v.map (denV X.ρ X.β)) (σ.s.map fun t => strOf (denV X.ρ X.β t)) X.β X.ok X.w xs us (X.β id') (by rw [← s6]; simp) (by rw [← s6]; simp) (by rw [← s6]; simp) (by rw [← s6]; simp) ((holds_iff _ _).2 hc) hok hG l1 hu0 l2 (by rw [← u1.length]; exact hlen) (fun i u hu => by
                   have hci : ∃ c, cs[i]? = some c := by
                     have : i < us.length := by
                       rcases Nat.lt_or_ge i us.length with h | h
                       · exact h
                       · rw [List.getElem?_eq_none h] at hu; cases hu
                     exact ⟨_, List.getElem?_eq_getElem (by rw [u1.length]; exact this)⟩
                   obtain ⟨c, hci⟩ := hci
                   exact ⟨by have := u2 i u hu; rw [Nat.zero_add] at this; exact this, (hb i c hci).2.2.2⟩) hpat
                 rw [hf] at this
                 refine this.mono ?_
                 rintro e w' ⟨y, ok', vs, h1, h2, h3, h3', h4, h5, h6⟩
                 exact ⟨y, ok', vs, h1, h2, h3, h3', ((subst_rel s1 _ s5).1 y).2 h4, met_all s1 s7 h5, h6⟩
               · cases hy
             · cases hy
           · cases hy
         · cases hy
       · cases hy
     · exact findM_sound hok hG hh hr hlt hne (fun y hy => hg y (by simp [hy])) h hc
   · exact findM_sound hok hG hh hr hlt hne (fun y hy => hg y (by simp [hy])) h hc
theorem findA_sound {P : Program} {X : Cx} {G : Glob} {f : FuncId} {args : List Tm} {xs : List Value} {c : Tm} {cells : List Tm} (hok : ∀ b off, X.w.heap.size ≤ b → X.ok b off) (hG : GlobOk G X.ok X.w) (hr : RelT X args xs) :
   ∀ {Γ : List ACon}, (∀ x ∈ Γ, x.Good P G X.ρ) → findA X.ρ.et f args Γ = some (c, cells) → denB X.ρ X.β c = true → Calls P f xs.toArray X.w (AfterA X.ρ X.β cells X.ok X.w)
 | [], _, h, _ => by cases h
 | x :: r, hg, h, hc => by
   unfold findA at h
   split at h
   · rename_i hf
     split at h
     · rename_i y hy
       obtain rfl := Option.some.inj h
       unfold tryA at hy
       dsimp only at hy
       split at hy
       · rename_i σ hm
         split at hy
         · rename_i hσ
           obtain ⟨s1, s2, s3, s4, s5, s6⟩ := hσ
           obtain ⟨rfl, rfl⟩ := Prod.mk.inj (Option.some.inj hy)
           rw [normB_den, (subst_den X.ρ X.β σ s1 _).2.1, (closed_den s2 X.β b0).2.1] at hc
           have := hg x (by simp) (σ.i.map (denI X.ρ X.β)) (σ.b.map (denB X.ρ X.β)) (σ.v.map (denV X.ρ X.β)) (σ.s.map fun t => strOf (denV X.ρ X.β t)) X.β X.ok X.w xs (by rw [← s6]; simp) (by rw [← s6]; simp) (by rw [← s6]; simp) (by rw [← s6]; simp) ((holds_iff _ _).2 hc) hok hG (met_pat s1 s3 s4 hr)
           rw [hf] at this
           refine this.mono ?_
           rintro e w' ⟨b, ok', vs, h1, h2, h3, h3', h4, h5, h6, h7, h8⟩
           exact ⟨b, ok', vs, h1, h2, h3, h3', h4, h5, h6, met_all s1 s5 h7, h8⟩
         · cases hy
       · cases hy
     · exact findA_sound hok hG hr (fun y hy => hg y (by simp [hy])) h hc
   · exact findA_sound hok hG hr (fun y hy => hg y (by simp [hy])) h hc
def callWith (et : TypeId) (Γ : Ctx) (hp : List (List Tm)) (f : FuncId) (args : List Tm) : Option (Tm × Out) :=
 match findCon et f args Γ.l with
 | some (cnd, res, eat) => some (cnd, .call f args res eat)
 | none => match findM et hp f args Γ.m with
   | some (cnd, res, id, cells) => some (cnd, .mcall f args res id cells)
   | none => match findA et f args Γ.a with
     | some (cnd, cells) => some (cnd, .acall f args cells)
     | none => none
theorem callWith_enter {P : Program} {X : Cx} {et : TypeId} {Γ : Ctx} {hp : List (List Tm)} {f : FuncId} {args : List Tm} {c : Tm} {out : Out} {s : Sem Next} {xs : List Value} (h : callWith et Γ hp f args = some (c, out)) (hr : RelT X args xs) (hs : s.run P X.w = .ok (.enter f xs.toArray) X.w) : OutSem P X s out := by
 unfold callWith at h
 repeat' split at h
 all_goals first | (obtain ⟨rfl, rfl⟩ := Prod.mk.inj (Option.some.inj h); exact ⟨xs, hs, hr⟩) | cases h
def evalCall (P : Program) (et : TypeId) (Γ : Ctx) (tm : List Tm) (hp : List (List Tm)) (c : Call) : Ev :=
 match evalArgs tm c.args.toList with
 | none => .bad
 | some args =>
   match c.callee with
   | .value f => match evalO tm f with
     | some (.cst (.fn f)) => if callable P f then (match callWith et Γ hp f args with
       | some (cnd, out) => .ok cnd out
       | none => .bad) else .bad
     | some (.clo f l) => if callable P f then (match callWith et Γ hp f (args ++ toL l) with
       | some (cnd, out) => .ok cnd out
       | none => .bad) else .bad
     | _ => .bad
   | .builtin b => evalBu P hp b c.argTypes.toList args
   | _ => .bad
def evalBoxRo (P : Program) (e : TypeId) (t : Tm) : Ev :=
 match kindOf P P.depth e with
 | some K => if K.wd = (cellsT t).length ∧ 0 < K.wd then (match asAll K 0 (cellsT t) with
   | some cs => .ok (.tt true) (.mk (.ep K (.tup (ofL cs)) (.lit 0) 0) none)
   | none => .bad) else .bad
 | none => .bad
def evalMake (P : Program) (t : TypeId) (c : Tm) : Ev :=
 match P.underlying t with
 | some (.slice e) => match P.info? e, zeroT P e, kindOf P P.depth e with
   | some i, some z, some K => if 0 < i.size ∧ K.wd = i.size ∧ 0 < i.bytes ∧ known z = true ∧ (cellsT z).length = i.size then
       .ok (mkAnd (mkCmp .le (.lit 0) c) (mkCmp .le c (.lit (140737488355328 / i.bytes : Nat)))) (.mk (.hs (.new e) K (.tup .nil)) none) else .bad
   | _, _, _ => .bad
 | _ => .bad
def markT (P : Program) (s d : TypeId) (x : Tm) : Option Ev :=
 if s = d then match P.underlying s, x with
   | some (.slice e), .hs (.id n e') (.cons (.int .u8) .nil) c => match P.underlying e with
     | some (.int .u8) => if e = e' then some (.ok (mkCmp .lt (.lit 0) (mkLen 1 c)) (.mk (.hs (.new e) (.cons (.int .u8) .nil) c) (some n))) else none
     | _ => none
   | _, _ => none
 else none
inductive Ix where | is (c i : Tm) | ask (c : Tm)
def pickIx (pc : List (Tm × Bool)) (k : IntKind) (n : Tm) : Nat → Nat → Ix
 | 0, j => .is (mkCmp .eq n (.lit j)) (.int k (.lit j))
 | m + 1, j => match decT pc (mkCmp .eq n (.lit j)) with
   | some true => .is (.tt true) (.int k (.lit j))
   | some false => pickIx pc k n m (j + 1)
   | none => .ask (mkCmp .eq n (.lit j))
def ixT (P : Program) (pc : List (Tm × Bool)) (t : TypeId) (i : Tm) : Ix :=
 match P.underlying t, i with
 | some (.array _ _), .int _ (.lit _) => .is (.tt true) i
 | some (.array len _), .int k n => if 0 < len ∧ len ≤ 32 then pickIx pc k n (len - 1) 0 else .is (.tt true) i
 | _, _ => .is (.tt true) i
theorem pickIx_rel {X : Cx} {pc : List (Tm × Bool)} {k : IntKind} {n : Tm} (hpc : PcOk X.ρ X.β pc) : ∀ (m j : Nat) {c i : Tm} {q : Value}, pickIx pc k n m j = .is c i → denB X.ρ X.β c = true → Rel X (.int k n) q → Rel X i q
 | 0, j, c, i, q, h, hc, hr => by
   obtain ⟨rfl, rfl⟩ := Ix.is.inj h
   rw [den_mkCmp _ _ _ _ _ rfl] at hc
   have e : denI X.ρ X.β n = denI X.ρ X.β (.lit (j : Int)) := by simpa [B2.denI] using hc
   simp only [Rel, denV] at hr ⊢
   rw [hr, e]
 | m + 1, j, c, i, q, h, hc, hr => by
   unfold pickIx at h
   split at h
   · rename_i hd
     obtain ⟨rfl, rfl⟩ := Ix.is.inj h
     have hc := decT_den hpc hd
     rw [den_mkCmp _ _ _ _ _ rfl] at hc
     have e : denI X.ρ X.β n = denI X.ρ X.β (.lit (j : Int)) := by simpa [B2.denI] using hc
     simp only [Rel, denV] at hr ⊢
     rw [hr, e]
   · exact pickIx_rel hpc m (j + 1) h hc hr
   · cases h
theorem ixT_rel {P : Program} {X : Cx} {pc : List (Tm × Bool)} {t : TypeId} {i c i' : Tm} {q : Value} (hpc : PcOk X.ρ X.β pc) (h : ixT P pc t i = .is c i') (hc : denB X.ρ X.β c = true) (hr : Rel X i q) : Rel X i' q := by
 unfold ixT at h
 split at h
 · obtain ⟨rfl, rfl⟩ := Ix.is.inj h; exact hr
 · split at h
   · exact pickIx_rel hpc _ _ h hc hr
   · obtain ⟨rfl, rfl⟩ := Ix.is.inj h; exact hr
 · obtain ⟨rfl, rfl⟩ := Ix.is.inj h; exact hr
def ofQ (c0 : Tm) : Option (Tm × Tm) → Ev
 | some (c, v) => .ok (mkAnd c0 c) (.val v)
 | none => .bad
def evalOp (P : Program) (et : TypeId) (Γ : Ctx) (pc : List (Tm × Bool)) (tm : List Tm) (hp : List (List Tm)) (op : Op) : Ev :=
 match op with
 | .move x => ofO (evalO tm x)
 | .assign x => ofO (evalO tm x)
 | .pick c a b => match evalO tm c with
   | some (.bool t) => match decT pc t with
     | some true => ofO (evalO tm a)
     | some false => ofO (evalO tm b)
     | none => .ask t
   | _ => .bad
 | .alloc e => evalAlloc P e
 | .box e x => match evalO tm x with
   | some t => if known t then (if Γ.ro.contains e then evalBoxRo P e t else .ok (.tt true) (.alloc (cellsT t) e)) else .bad
   | none => .bad
 | .build t parts => ofO (evalBuild P tm t parts.toList)
 | .buildSlice t len parts => evalBuildSlice P tm t len parts.toList
 | .load t a => match evalO tm a with
   | some (.ptr id off) => ofO (evalLoad P hp t id off)
   | some (.ep K m i off) => ofO (evalLoadX P K t m i off)
   | _ => .bad
 | .store t a x => match evalO tm a, evalO tm x with
   | some (.ptr id off), some v => evalStore P hp t id off v
   | _, _ => .bad
 | .nilCheck x => match evalO tm x with
   | some (.ptr id off) => .ok (.tt true) (.val (.ptr id off))
   | _ => .bad
 | .binOp o t x y _ => match evalO tm x, evalO tm y with
   | some a, some b => if flat a && flat b then (match evalBin P o t x y a b with
     | some (c, v) => if flat v then .ok c (.val v) else .bad
     | none => .bad) else .bad
   | _, _ => .bad
 | .unOp o _ x => match evalO tm x with
   | some a => if flat a then (match evalUn o a with
     | some v => if flat v then .ok (.tt true) (.val v) else .bad
     | none => .bad) else .bad
   | none => .bad
 | .convert s d x => match evalO tm x with
   | some a => (match markT P s d a with
     | some ev => ev
     | none => evalConvX P s d a)
   | none => .bad
 | .makeInterface t x => ofO ((evalO tm x).bind (evalIface P t))
 | .makeFunc fn a b => match fn with
   | .func f => if a.size = 0 ∧ b.size = 0 then .ok (.tt true) (.val (.cst (.fn f))) else if a.size = 0 then (match evalArgs tm b.toList with
     | some l => .ok (.tt true) (.val (.clo f (ofL l)))
     | none => .bad) else .bad
   | _ => .bad
 | .makeSlice t l c => match evalO tm l, evalO tm c with
   | some (.int _ (.lit 0)), some (.int _ c) => evalMake P t c
   | _, _ => .bad
 | .slice t x l h m => match evalO tm x, litO tm l, litO tm h, litO tm m with
   | some x, some l, some h, some m => evalSlice P t x l h m
   | _, _, _, _ => .bad
 | .fieldAddr s x f => ofO ((evalO tm x).bind fun t => evalFieldAddr P s t f)
 | .field s x f => ofO ((evalO tm x).bind fun t => evalField P s t f)
 | .indexAddr t x i => match evalO tm x, evalO tm i with
   | some a, some b => (match ixT P pc t b with
     | .is c0 b' => ofQ c0 (evalIndexAddr P t a b')
     | .ask c => .ask c)
   | _, _ => .bad
 | .index t x i => match evalO tm x, evalO tm i with
   | some a, some b => (match ixT P pc t b with
     | .is c0 b' => ofQ c0 (evalIndex P t a b')
     | .ask c => .ask c)
   | _, _ => .bad
 | .extract x i => ofO ((evalO tm x).bind fun t => evalExtract t i)
 | .call c => evalCall P et Γ tm hp c
 | _ => .bad
theorem ofQ_ok {c0 : Tm} {x : Option (Tm × Tm)} {c : Tm} {o : Out} (h : ofQ c0 x = .ok c o) : ∃ v c1, x = some (c1, v) ∧ c = mkAnd c0 c1 ∧ o = .val v := by
 unfold ofQ at h
 split at h
 · obtain ⟨rfl, rfl⟩ := ev_ok h
   exact ⟨_, _, rfl, rfl, rfl⟩
 · cases h
theorem r_call {P : Program} {f : FuncId} (h : callable P f = true) (args : Array Value) (w : World) : (callFunc f args).run P w = .ok (.enter f args) w := by
 unfold callable at h
 split at h
 · rename_i fn hf
   simp only [Bool.and_eq_true, Bool.not_eq_true', beq_eq_false_iff_ne, ne_eq] at h
   have h1 : (fn.name == "runtime.NumGoroutine") = false := by simpa using h.1
   have h2 : fn.body.isNone = false := by cases hb : fn.body <;> simp [hb] at h ⊢
   unfold callFunc
   rw [Sem.run_bind, r_program]
   simp only [Result.andThen, hf, h1, Bool.false_eq_true, if_false, h2]
   rfl
 · cases h
theorem r_box {P : Program} {w : World} {e : TypeId} {v : Value} : (Instr.box e v).run P w = .ok (.pointer (some ⟨w.heap.size, 0, none⟩)) (w.alloc (.cells v.cells e)) := rfl
def eatOf : Out → Option Nat
 | .mk _ e => e
 | .call _ _ _ e => e
 | _ => none
theorem relT_append {X : Cx} : ∀ {ts us : List Tm} {vs ws : List Value}, RelT X ts vs → RelT X us ws → RelT X (ts ++ us) (vs ++ ws)
 | [], _, [], _, _, k => k
 | [], _, _ :: _, _, h, _ => h.elim
 | _ :: _, _, [], _, h, _ => h.elim
 | _ :: _, _, _ :: _, _, h, k => ⟨h.1, relT_append h.2 k⟩
theorem evalBoxRo_sound {P : Program} {X : Cx} {e : TypeId} {t c : Tm} {v : Value} {s : Sem Next} {out : Out} (hok : ∀ b off, X.w.heap.size ≤ b → X.ok b off) (hs : s.run P X.w = .ok (.value (.pointer (some ⟨X.w.heap.size, 0, none⟩))) (X.w.alloc (.cells v.cells e)))
   (hk : known t = true) (hr : Rel X t v) (h : evalBoxRo P e t = .ok c out) : OutSem P X s out := by
 unfold evalBoxRo at h
 split at h
 · rename_i K hK
   split at h
   · rename_i hw
     split at h
     · rename_i cs hcs
       obtain ⟨_, rfl⟩ := ev_ok h
       obtain ⟨xs, h1, h2⟩ := cells_rel hk hr
       rw [h1] at hs
       obtain ⟨g1, g2⟩ := asAll_rel hcs h2
       obtain ⟨o', ok', d1, d2, d3⟩ := done_row (X := X) hok (K := K) (e := e) (cs := cs) (ys := xs) (len := 1) (arr := xs.toArray) (w' := X.w.alloc (.cells xs.toArray e)) (.inl rfl) (by rw [g1, Nat.one_mul]; exact hw.1.symm) hw.2 (cap := 1) (Nat.le_refl _) (by omega) (by simp [maxLen]) (by simp [hw.1, h2.length]) (by rw [g1]; exact h2.length.symm) (fun k x hx => by simpa using hx) (fun k x hx a ha => g2 k x hx a (by rw [Nat.zero_add]; exact ha))
       refine ⟨_, _, fun _ => none, ok', hs, ⟨d1.fr, d1.keep, d1.sub, fun n T hT => by cases hT⟩, ?_, fun hn => by cases hn⟩
       exact ⟨X.w.heap.size, 0, 1, 1, d2.1, by simp [denI], by simp [denI], by simp [denI]⟩
     · cases h
   · cases h
 · cases h
theorem evalMake_sound {P : Program} {X : Cx} {t : TypeId} {c' c : Tm} {kl kc : IntKind} {s : Sem Next} {out : Out} (hok : ∀ b off, X.w.heap.size ≤ b → X.ok b off) (hs : s = (do pure (Next.value (← Instr.makeSlice t (.int kl 0) (.int kc (denI X.ρ X.β c')))) : Sem Next))
   (h : evalMake P t c' = .ok c out) (hc : denB X.ρ X.β c = true) : OutSem P X s out := by
 unfold evalMake at h
 split at h
 · rename_i e hd
   split at h
   · rename_i i z K hi hz hK
     split at h
     · rename_i hcond
       obtain ⟨h0, hwd, hby, hkz, hzl⟩ := hcond
       obtain ⟨rfl, rfl⟩ := ev_ok h
       rw [den_mkAnd, Bool.and_eq_true, den_mkCmp _ _ _ _ _ rfl, den_mkCmp _ _ _ _ _ rfl] at hc
       have c1 := of_decide_eq_true (p := denI X.ρ X.β (.lit 0) ≤ denI X.ρ X.β c') hc.1
       have c2 := of_decide_eq_true (p := denI X.ρ X.β c' ≤ denI X.ρ X.β (.lit _)) hc.2
       simp only [denI] at c1 c2
       obtain ⟨_, hz2, i', hi', hz'⟩ := zero_den (ρ := X.ρ) (β := X.β) hz X.w
       rw [hi] at hi'
       obtain rfl := Option.some.inj hi'
       obtain ⟨n, hn⟩ := Int.eq_ofNat_of_zero_le c1
       rw [hn] at c2 hs
       have c3 : n ≤ 140737488355328 / i.bytes := by omega
       have hb1 : i.bytes * n ≤ 140737488355328 := by rw [Nat.mul_comm]; exact Nat.le_trans (Nat.mul_le_mul_right _ c3) (Nat.div_mul_le_self _ _)
       have hn47 : n ≤ 140737488355328 := Nat.le_trans c3 (Nat.div_le_self _ _)
       have hb3 : ((i.bytes * n : Nat) : Int) ≤ 281474976710656 := by omega
       rw [Int.natCast_mul] at hb3
       have hrun := run_make (P := P) X.w t e i (denV X.ρ X.β z) hd hi hz' kl kc 0 n (by omega) (by omega) hb3 (by omega)
       simp only [Int.toNat_zero, Int.toNat_natCast] at hrun
       obtain ⟨o', ok', d1, d2, d3⟩ := done_row (X := X) hok (K := K) (e := e) (cs := []) (ys := []) (len := 0) (arr := madeCells (denV X.ρ X.β z).cells (n * i.size)) (w' := X.w.alloc (.cells (madeCells (denV X.ρ X.β z).cells (n * i.size)) e)) (.inl rfl) (by simp) (by omega) (cap := n) (Nat.zero_le _) (by omega) (by simp only [maxLen]; omega) (by rw [size_madeCells, hwd]) rfl (fun k x hx => by simp at hx) (fun k x hx => by simp at hx)
       refine ⟨_, _, o', ok', ?_, d1, d2, fun _ => d3⟩
       rw [hs, Sem.run_bind]
       show Result.andThen (Sem.run P (Instr.makeSlice t (.int kl 0) (.int kc (n : Int))) X.w) _ = _
       rw [hrun]
       rfl
     · cases h
   · cases h
 · cases h
theorem mark_sound {P : Program} {X : Cx} {s d : TypeId} {x c : Tm} {u : Value} {out : Out} {ev : Ev} (htop : TopsOk X) (hlive : ∀ n, eatOf out = some n → ∃ T, X.o n = some T) (hx : Rel X x u) (h : markT P s d x = some ev) (he : ev = .ok c out) (hc : denB X.ρ X.β c = true) :
   OutSem P X (do pure (.value (← convert s d u))) out := by
 unfold markT at h
 split at h
 · rename_i hsd
   subst hsd
   split at h
   · rename_i e n e' cc hs
     split at h
     · rename_i he8
       split at h
       · rename_i hee
         subst hee
         obtain rfl := Option.some.inj h
         obtain ⟨rfl, rfl⟩ := ev_ok he
         obtain ⟨T, hT⟩ := hlive n rfl
         obtain ⟨hd, hl⟩ := hx
         obtain rfl := hl n e rfl T hT
         obtain ⟨htk, htb⟩ := htop n _ hT
         obtain ⟨p, m, cap, hu, g1, g2, g3, g4⟩ := htk
         simp only at hu
         subst hu
         rw [den_mkCmp _ _ _ _ _ rfl, mkLen_den] at hc
         have hlt := of_decide_eq_true (p := denI X.ρ X.β (.lit 0) < (((rows (denV X.ρ X.β cc)).length / 1 : Nat) : Int)) hc
         have hlen := deep_len hd (by decide)
         simp only [SK.wd, Nat.zero_add] at hlen
         simp only [denI] at hlt
         rcases g4 with g4 | ⟨g, cur, fz, rfl, hg, hsz, hfz⟩
         · omega
         · have hsh : X.w.shape? g = some (e, cur.size) := by simp [World.shape?, hg]
           have hrun : (convert s s (.slice (some ⟨g, 0, none⟩) m cap)).run P X.w = .ok (.slice (some ⟨g, 0, none⟩) m cap) (X.w.freeze ⟨g, cur.size, none⟩ 1) := by
             simp [convert, run_underlying hs, run_underlying he8, markStringish, hsh, Result.andThen]
           have hglt : g < X.w.heap.size := (Array.getElem?_eq_some_iff.1 hg).1
           have hat : ∃ fz', (X.w.freeze ⟨g, cur.size, none⟩ 1).heap[g]? = some (.cells cur e fz') ∧ thawed fz' cur.size := by
             obtain ⟨lo, hi⟩ := fz
             refine ⟨if lo == hi then (cur.size, cur.size + 1) else (min lo cur.size, max hi (cur.size + 1)), ?_, ?_⟩
             · have hv : X.w.heap[g] = .cells cur e (lo, hi) := (Array.getElem?_eq_some_iff.1 hg).2
               simp [World.freeze, Array.getElem?_modify, hg]
             · by_cases hlh : lo = hi
               · simp [hlh, thawed]
               · have : (lo == hi) = false := by simp [hlh]
                 rw [this]
                 rcases hfz with hfz | hfz
                 · obtain ⟨rfl, rfl⟩ := Prod.mk.inj hfz; exact absurd rfl hlh
                 · exact .inr (by simp at hfz ⊢; omega)
           obtain ⟨fz', hg', hfz'⟩ := hat
           have hoth : ∀ k, k ≠ g → (X.w.freeze ⟨g, cur.size, none⟩ 1).heap[k]? = X.w.heap[k]? := fun k hk => by
             simp [World.freeze, Array.getElem?_modify, Ne.symm hk]
           have hcell : ∀ b off, (X.w.freeze ⟨g, cur.size, none⟩ 1).cell? ⟨b, off, none⟩ = X.w.cell? ⟨b, off, none⟩ := fun b off => by
             by_cases hb : b = g
             · subst hb; rw [cell_row hg', cell_row hg]
             · exact World.cell?_of_block (hoth b hb)
           have hsize : (X.w.freeze ⟨g, cur.size, none⟩ 1).heap.size = X.w.heap.size := by simp [World.freeze]
           have hcap : cap ≠ 0 := by omega
           have hex : exOf X.o (some n) = some g := by simp [exOf, hT, topBlk, hcap]
           have hk : Kept X.ok X.ok X.w (X.w.freeze ⟨g, cur.size, none⟩ 1) := ⟨by rw [hsize]; exact Nat.le_refl _, fun b off _ ho => ⟨ho, hcell b off⟩⟩
           refine ⟨.slice (some ⟨g, 0, none⟩) m cap, X.w.freeze ⟨g, cur.size, none⟩ 1, fun k => if k = 0 then some ⟨.slice (some ⟨g, 0, none⟩) m cap, e, 1⟩ else none, X.ok, ?_, ⟨⟨rfl, rfl, rfl, by rw [hsize]; exact Nat.le_refl _, fun k hk hne => hoth k (fun hkg => hne (by rw [hex, hkg]))⟩, hk, fun _ _ h => .inl h, fun k T' hT' => ?_⟩, ⟨(deep_mono hk _).1 _ _ hd, fun n' e2 hl2 T' hT' => ?_⟩, fun _ => rfl⟩
           · rw [Sem.run_bind, hrun]; rfl
           · split at hT'
             · rename_i h0
               obtain rfl := Option.some.inj hT'
               refine ⟨h0, ⟨_, _, _, rfl, g1, g2, g3, .inr ⟨g, cur, fz', rfl, hg', hsz, hfz'⟩⟩, fun b hb => ⟨.inr ?_, htb b hb⟩⟩
               rw [hex]
               simp [topBlk, hcap] at hb
               rw [hb]
             · cases hT'
           · obtain ⟨rfl, rfl⟩ := Lab.id.inj hl2
             simp only [if_true] at hT'
             exact (Option.some.inj hT').symm
       · cases h
     · cases h
   · cases h
 · cases h
theorem evalOp_sound {P : Program} {X : Cx} {W : World} {Γ : Ctx} {pc : List (Tm × Bool)} {tm : List Tm} {hp : List (List Tm)} {a : Act} {o : Oper} {c : Tm} {out : Out}
   (ht : TmOk X tm a) (hh : HpOk X W hp) (hpc : PcOk X.ρ X.β pc) (hok : ∀ b off, X.w.heap.size ≤ b → X.ok b off) (htop : TopsOk X) (hlive : ∀ n, eatOf out = some n → ∃ T, X.o n = some T) (hc : denB X.ρ X.β c = true) (h : evalOp P X.ρ.et Γ pc tm hp o.op = .ok c out) : OutOk P X a o out := by
 obtain ⟨dst, op, ty, pos, aft, grd⟩ := o
 dsimp only at h
 unfold evalOp at h
 split at h
 case h_1 x =>
   obtain ⟨v, hv, rfl⟩ := ofO_ok h
   exact ⟨a.eval x, rfl, evalO_rel ht hv⟩
 case h_2 x =>
   obtain ⟨v, hv, rfl⟩ := ofO_ok h
   exact ⟨a.eval x, rfl, evalO_rel ht hv⟩
 case h_3 x y z =>
   split at h
   · rename_i t hx
     have hxe : a.eval x = .bool (denB X.ρ X.β t) := evalO_rel ht hx
     split at h
     · rename_i hd
       obtain ⟨v, hv, rfl⟩ := ofO_ok h
       refine ⟨a.eval y, ?_, evalO_rel ht hv⟩
       show (do pure (.value (if ← asBool (a.eval x) then a.eval y else a.eval z)) : Sem Next).run P X.w = _
       rw [hxe]
       simp only [asBool, decT_den hpc hd]
       rfl
     · rename_i hd
       obtain ⟨v, hv, rfl⟩ := ofO_ok h
       refine ⟨a.eval z, ?_, evalO_rel ht hv⟩
       show (do pure (.value (if ← asBool (a.eval x) then a.eval y else a.eval z)) : Sem Next).run P X.w = _
       rw [hxe]
       simp only [asBool, decT_den hpc hd]
       rfl
     · cases h
   · cases h
 case h_4 e =>
   unfold evalAlloc at h
   split at h
   · rename_i i hi
     split at h
     · rename_i v hv
       split at h
       · rename_i t htv
         split at h
         · rename_i hk
           obtain ⟨_, rfl⟩ := ev_ok h
           obtain ⟨xs, h1, h2⟩ := cells_rel hk (Rel.of (X := X) (ofVal_flat htv))
           refine ⟨xs, ?_, h2⟩
           show (do pure (Next.value (← Instr.alloc e true (.tuple #[]))) : Sem Next).run P X.w = _
           unfold Instr.alloc
           rw [Sem.run_bind, Sem.run_bind]
           have hz : (zeroValue e).run P X.w = .ok v X.w := by
             unfold zeroValue
             rw [Sem.run_bind, r_typeInfo hi]
             simp only [Result.andThen, hv]
             rfl
           rw [hz]
           simp only [Result.andThen]
           rw [← h1, ofVal_den htv]
           rfl
         · cases h
       · cases h
     · cases h
   · cases h
 case h_5 e x =>
   split at h
   · rename_i t hx
     split at h
     · rename_i hk
       split at h
       · exact evalBoxRo_sound hok (by
           show (do pure (Next.value (← Instr.box e (a.eval x))) : Sem Next).run P X.w = _
           rw [Sem.run_bind, r_box]
           rfl) hk (evalO_rel ht hx) h
       obtain ⟨_, rfl⟩ := ev_ok h
       obtain ⟨xs, h1, h2⟩ := cells_rel hk (evalO_rel ht hx)
       refine ⟨xs, ?_, h2⟩
       show (do pure (Next.value (← Instr.box e (a.eval x))) : Sem Next).run P X.w = _
       rw [Sem.run_bind, r_box, h1]
       rfl
     · cases h
   · cases h
 case h_6 t parts =>
   obtain ⟨v, hv, rfl⟩ := ofO_ok h
   obtain ⟨y, h1, h2⟩ := evalBuild_sound (w := X.w) ht hv
   exact out_val h1 h2
 case h_7 t len parts => exact evalBuildSlice_sound hok ht h
 case h_8 t x =>
   split at h
   · rename_i id off hx
     obtain ⟨v, hv, rfl⟩ := ofO_ok h
     have hxe : a.eval x = .pointer (some ⟨X.β id, off, none⟩) := evalO_rel ht hx
     obtain ⟨y, h1, h2⟩ := evalLoad_sound hh hv
     refine out_val ?_ h2
     rw [hxe]
     exact h1
   · rename_i K m i off hx
     obtain ⟨v, hv, rfl⟩ := ofO_ok h
     obtain ⟨y, h1, h2⟩ := evalLoadX_sound hv (evalO_rel ht hx)
     exact out_val h1 h2
   · cases h
 case h_9 t x y =>
   split at h
   · rename_i id off v hx hy
     have hxe : a.eval x = .pointer (some ⟨X.β id, off, none⟩) := evalO_rel ht hx
     obtain ⟨rfl, xs, h1, h2⟩ := evalStore_sound hh (evalO_rel ht hy) h
     refine ⟨xs, .skip, ?_, h2, .inl rfl⟩
     show (do Instr.storeAt t (a.eval x) (a.eval y); pure Next.skip : Sem Next).run P X.w = _
     rw [hxe, Sem.run_bind, h1]
     rfl
   · cases h
 case h_10 x =>
   split at h
   · rename_i id off hx
     obtain ⟨_, rfl⟩ := ev_ok h
     have hxe : a.eval x = .pointer (some ⟨X.β id, off, none⟩) := evalO_rel ht hx
     refine ⟨_, ?_, Rel.of rfl⟩
     simp only [execOp, hxe, denV]
     rfl
   · cases h
 case h_11 op t x y yt =>
   split at h
   · rename_i p q hx hy
     split at h
     · rename_i hf
       simp only [Bool.and_eq_true] at hf
       split at h
       · rename_i c' v hv
         split at h
         · rename_i hfv
           obtain ⟨rfl, rfl⟩ := ev_ok h
           show OutSem P X (do pure (Next.value (← (do eqGuard op t x y (a.eval x) (a.eval y); binOp op t (a.eval x) (a.eval y))))) _
           rw [evalO_den ht hx hf.1, evalO_den ht hy hf.2]
           exact out_val (evalBin_sound hv hc) (Rel.of hfv)
         · cases h
       · cases h
     · cases h
   · cases h
 case h_12 op t x =>
   split at h
   · rename_i p hx
     split at h
     · rename_i hf
       split at h
       · rename_i v hv
         split at h
         · rename_i hfv
           obtain ⟨rfl, rfl⟩ := ev_ok h
           show OutSem P X (do pure (Next.value (← Op.unary op (a.eval x)))) _
           rw [evalO_den ht hx hf]
           exact out_val (evalUn_sound hv) (Rel.of hfv)
         · cases h
       · cases h
     · cases h
   · cases h
 case h_13 s d x =>
   split at h
   · rename_i p hx
     split at h
     · rename_i ev hmk
       exact mark_sound htop hlive (evalO_rel ht hx) hmk h hc
     · exact evalConvX_sound hok (evalO_rel ht hx) h hc
   · cases h
 case h_14 t x =>
   obtain ⟨v, hv, rfl⟩ := ofO_ok h
   obtain ⟨y, hy, hv⟩ := Option.bind_eq_some_iff.1 hv
   obtain ⟨hf, h1, h2⟩ := evalIface_sound (ρ := X.ρ) (β := X.β) (w := X.w) hv
   show OutSem P X (do pure (Next.value (← Instr.makeInterface t (a.eval x)))) _
   rw [evalO_den ht hy hf]
   exact out_val h1 (Rel.of h2)
 case h_15 fn p q =>
   split at h
   · rename_i f
     split at h
     · rename_i hpq
       obtain ⟨_, rfl⟩ := ev_ok h
       have h1 : p = #[] := Array.eq_empty_of_size_eq_zero hpq.1
       have h2 : q = #[] := Array.eq_empty_of_size_eq_zero hpq.2
       subst h1 h2
       refine ⟨_, ?_, Rel.of rfl⟩
       simp only [execOp, Array.map_empty]
       rfl
     · split at h
       · rename_i hp
         split at h
         · rename_i l hl
           obtain ⟨_, rfl⟩ := ev_ok h
           have h1 : p = #[] := Array.eq_empty_of_size_eq_zero hp
           subst h1
           have har := args_rel ht hl
           refine ⟨.func (.func f) #[] (q.toList.map a.eval).toArray, ?_, ⟨_, rfl, by rw [relL_toL, toL_ofL]; exact har⟩⟩
           have hqe : q.map a.eval = (q.toList.map a.eval).toArray := by rw [← Array.toList_inj, Array.toList_map]
           simp only [execOp, Array.map_empty, hqe]
           rfl
         · cases h
       · cases h
   · cases h
 case h_16 t l c =>
   split at h
   · rename_i kl kc c' hl hcc
     have e1 : a.eval l = .int kl 0 := by have := evalO_rel ht hl; simpa [Rel, denV, denI] using this
     have e2 : a.eval c = .int kc (denI X.ρ X.β c') := by have := evalO_rel ht hcc; simpa [Rel, denV] using this
     refine evalMake_sound (kl := kl) (kc := kc) hok ?_ h hc
     show (do pure (Next.value (← Instr.makeSlice t (a.eval l) (a.eval c))) : Sem Next) = _
     rw [e1, e2]
   · cases h
 case h_17 t x l h' m =>
   split at h
   · rename_i x' l' h'' m' hx hl hh' hm
     exact evalSlice_sound hok (evalO_rel ht hx) (litO_rel ht hl) (litO_rel ht hh') (litO_rel ht hm) h hc
   · cases h
 case h_18 s x f =>
   obtain ⟨v, hv, rfl⟩ := ofO_ok h
   obtain ⟨y, hy, hv⟩ := Option.bind_eq_some_iff.1 hv
   obtain ⟨z, h1, h2⟩ := evalFieldAddr_sound (w := X.w) hv (evalO_rel ht hy)
   exact out_val h1 h2
 case h_19 s x f =>
   obtain ⟨v, hv, rfl⟩ := ofO_ok h
   obtain ⟨y, hy, hv⟩ := Option.bind_eq_some_iff.1 hv
   obtain ⟨z, h1, h2⟩ := evalField_sound (w := X.w) hv (evalO_rel ht hy)
   exact out_val h1 h2
 case h_20 t x i =>
   split at h
   · rename_i p q hx hy
     split at h
     · rename_i c0 b' hix
       obtain ⟨v, c1, hv, rfl, rfl⟩ := ofQ_ok h
       rw [den_mkAnd, Bool.and_eq_true] at hc
       obtain ⟨z, h1, h2⟩ := evalIndexAddr_sound (w := X.w) hv (evalO_rel ht hx) (ixT_rel hpc hix hc.1 (evalO_rel ht hy)) hc.2
       exact out_val h1 h2
     · cases h
   · cases h
 case h_21 t x i =>
   split at h
   · rename_i p q hx hy
     split at h
     · rename_i c0 b' hix
       obtain ⟨v, c1, hv, rfl, rfl⟩ := ofQ_ok h
       rw [den_mkAnd, Bool.and_eq_true] at hc
       obtain ⟨z, h1, h2⟩ := evalIndex_sound (w := X.w) hv (evalO_rel ht hx) (ixT_rel hpc hix hc.1 (evalO_rel ht hy)) hc.2
       exact out_val h1 h2
     · cases h
   · cases h
 case h_22 x i =>
   obtain ⟨v, hv, rfl⟩ := ofO_ok h
   obtain ⟨y, hy, hv⟩ := Option.bind_eq_some_iff.1 hv
   obtain ⟨z, h1, h2⟩ := evalExtract_sound (P := P) (w := X.w) hv (evalO_rel ht hy)
   exact out_val h1 h2
 case h_23 cl =>
   obtain ⟨callee, cargs, cts⟩ := cl
   unfold evalCall at h
   dsimp only at h
   split at h
   · cases h
   · rename_i args hargs
     have har := args_rel ht hargs
     have hae : cargs.map a.eval = (cargs.toList.map a.eval).toArray := by rw [← Array.toList_inj, Array.toList_map]
     split at h
     · rename_i f
       split at h
       · rename_i g hg
         split at h
         · rename_i hcall
           split at h
           · rename_i cnd out' hcon
             obtain ⟨rfl, rfl⟩ := ev_ok h
             refine callWith_enter hcon har ?_
             show (do let d ← resolve a.eval ⟨.value f, cargs, cts⟩ ty; invoke d.target d.args : Sem Next).run P X.w = _
             unfold resolve
             have hfe : a.eval f = .func (.func g) #[] #[] := evalO_rel ht hg
             simp only [hae, hfe, Deferred.ofValue]
             show (invoke (.fn (.func g) #[]) (#[] ++ (cargs.toList.map a.eval).toArray)).run P X.w = _
             simp only [invoke, Array.append_empty, Array.empty_append]
             exact r_call hcall _ _
           · cases h
         · cases h
       · rename_i g l hg
         split at h
         · rename_i hcall
           split at h
           · rename_i cnd out' hcon
             obtain ⟨rfl, rfl⟩ := ev_ok h
             obtain ⟨vs, hfe, hvs⟩ := (show Rel X (.clo g l) (a.eval f) from evalO_rel ht hg)
             refine callWith_enter hcon (relT_append har ((relL_toL X l vs).1 hvs)) ?_
             show (do let d ← resolve a.eval ⟨.value f, cargs, cts⟩ ty; invoke d.target d.args : Sem Next).run P X.w = _
             unfold resolve
             simp only [hae, hfe, Deferred.ofValue]
             show (invoke (.fn (.func g) vs.toArray) (#[] ++ (cargs.toList.map a.eval).toArray)).run P X.w = _
             simp only [invoke, Array.empty_append]
             rw [List.append_toArray]
             exact r_call hcall _ _
           · cases h
         · cases h
       · cases h
     · rename_i b
       have hb := evalBu_sound (W := W) hh (ty := ty) (cs := cargs.map fun x => x matches .const _) hok htop (fun v n hv => hlive n (by rw [hv]; rfl)) har h hc
       show OutSem P X (do let d ← resolve a.eval ⟨.builtin b, cargs, cts⟩ ty; invoke d.target d.args) out
       unfold resolve
       simp only [hae]
       exact hb
     · cases h
 case h_24 => cases h
