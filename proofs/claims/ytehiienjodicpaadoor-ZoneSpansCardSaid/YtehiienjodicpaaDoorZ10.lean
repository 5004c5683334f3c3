/-
  Layer 10 by symbolic walks of the second engine.
-/
import Derived.Test.YtehiienjodicpaaDoorSyc
import Derived.Test.YtehiienjodicpaaDoorE01
namespace Go.Proofs.YtehiienjodicpaaDoor
open Go.RowKit Go.Extern.Stop Go.Stop Go.Extern Go.Proofs.YtehiienjodicpaaDoor.Sy
set_option linter.unusedVariables false
set_option linter.unusedSimpArgs false
def letC (c : Int) : Bool := decide (97 ≤ c) && decide (c ≤ 122) || decide (65 ≤ c) && decide (c ≤ 90) || decide (48 ≤ c) && decide (c ≤ 57) || decide (c = 47) || decide (c = 95) || decide (c = 43) || decide (c = 45)
theorem letC_iff (c : Int) : letC c = true ↔ (97 ≤ c ∧ c ≤ 122) ∨ (65 ≤ c ∧ c ≤ 90) ∨ (48 ≤ c ∧ c ≤ 57) ∨ c = 47 ∨ c = 95 ∨ c = 43 ∨ c = 45 := by simp only [letC, Bool.or_eq_true, Bool.and_eq_true, decide_eq_true_eq]; omega
def intsV (v : Value) : List Int := (rows v).map intOf
/-- the place of the first that is no letter, or -1 -/
def ixL : List Int → Int
  | [] => -1
  | c :: l => if letC c then (if ixL l < 0 then -1 else ixL l + 1) else 0
def preL (l : List Int) (n : Nat) : Bool := (l.take n).all letC
theorem preL_zero (l : List Int) : preL l 0 = true := by simp [preL]
theorem preL_succ {l : List Int} {n : Nat} {c : Int} (h : l[n]? = some c) : preL l (n + 1) = (preL l n && letC c) := by
  unfold preL; rw [List.take_add_one, h]; simp
theorem ixL_at {c : Int} : ∀ {l : List Int} {n : Nat}, preL l n = true → l[n]? = some c → letC c = false → ixL l = n
  | [], n, _, h, _ => by simp at h
  | a :: l, 0, _, h, hc => by simp at h; subst h; simp [ixL, hc]
  | a :: l, n + 1, hp, h, hc => by
    simp only [preL, List.take_succ_cons, List.all_cons, Bool.and_eq_true] at hp
    have := ixL_at (l := l) (n := n) hp.2 (by simpa using h) hc
    simp only [ixL, hp.1, if_true, this]
    rw [if_neg (by omega)]; omega
theorem ixL_no : ∀ {l : List Int} {n : Nat}, preL l n = true → l.length ≤ n → ixL l = -1
  | [], _, _, _ => rfl
  | a :: l, 0, _, h => by simp at h
  | a :: l, n + 1, hp, h => by
    simp only [preL, List.take_succ_cons, List.all_cons, Bool.and_eq_true] at hp
    have := ixL_no (l := l) (n := n) hp.2 (by simpa using h)
    simp [ixL, hp.1, this]
theorem intsV_len (v : Value) : (intsV v).length = (rows v).length := by simp [intsV]
theorem intsV_at {v : Value} {n : Nat} (h : n < (rows v).length) : (intsV v)[n]? = some (intOf ((rows v).getD n Go.undef)) := by
  simp [intsV, h]
theorem intsV_s (s : ByteArray) : intsV (.tuple (s.data.toList.map byteV).toArray) = s.data.toList.map fun c => (c.toNat : Int) := by simp [intsV, Sy.rows, byteV, intOf]
/-- a name's letters -/
def nameB (s : ByteArray) : Bool := decide (1 ≤ s.size) && decide (s.size ≤ 12) && decide (ixL (s.data.toList.map fun c => (c.toNat : Int)) < 0)
def atR (l : List Value) (k : Nat) : Int := intOf (l.getD (k * 3) Go.undef)
def offR (l : List Value) (k : Nat) : Int := intOf (l.getD (k * 3 + 1) Go.undef)
def nmR (l : List Value) (k : Nat) : ByteArray := strOf (l.getD (k * 3 + 2) Go.undef)
def leastR (l : List Value) : Nat → Int
  | 0 => -1099511627776
  | n + 1 => atR l n + 1
def offB (n : Int) : Bool := decide (-86399 ≤ n) && decide (n ≤ 86399)
def rulB (l : List Value) (k : Nat) : Bool := decide (leastR l k ≤ atR l k) && decide (atR l k ≤ 1099511627776) && offB (offR l k) && nameB (nmR l k)
def okR (l : List Value) : Nat → Bool
  | 0 => true
  | n + 1 => okR l n && rulB l n
/-- may a zone be? -/
def zoneB (s : ByteArray) (f : Int) (l : List Value) : Bool := nameB s && offB f && decide (l.length / 3 ≤ 32) && okR l (l.length / 3)
def shortR (l : List Value) : Bool := (List.range (l.length / 3)).all fun k => decide ((nmR l k).size ≤ 200)
def chkI (s : ByteArray) (f : Int) (l : List Value) : Int := if zoneB s f l then 0 else 1
theorem chr_at {s : ByteArray} {n : Nat} (h : n < s.size) : (s.data.toList.map fun c => (c.toNat : Int))[n]? = some ((s.data.toList.getD n 0).toNat : Int) := by
  have : n < s.data.toList.length := by simpa using h
  rw [List.getElem?_map, List.getElem?_eq_getElem this, List.getD_eq_getElem?_getD, List.getElem?_eq_getElem this]
  rfl
theorem short_get {l : List Value} {k : Nat} (h : shortR l = true) (hk : k < l.length / 3) : (strOf (l.getD (k * 3 + 2) Go.undef)).size ≤ 200 := by
  have := List.all_eq_true.1 h k (List.mem_range.2 hk)
  simpa [nmR] using this
theorem least_pos {l : List Value} : ∀ {n : Nat}, 0 < n → leastR l n = intOf (l.getD ((n - 1) * 3) Go.undef) + 1
  | n + 1, _ => rfl
theorem rul_iff (l : List Value) (k : Nat) : rulB l k = true ↔ leastR l k ≤ intOf (l.getD (k * 3) Go.undef) ∧ intOf (l.getD (k * 3) Go.undef) ≤ 1099511627776 ∧ -86399 ≤ intOf (l.getD (k * 3 + 1) Go.undef) ∧ intOf (l.getD (k * 3 + 1) Go.undef) ≤ 86399 ∧ nameB (strOf (l.getD (k * 3 + 2) Go.undef)) = true := by
  unfold rulB offB atR offR nmR
  simp only [Bool.and_eq_true, decide_eq_true_eq, and_assoc]
theorem okR_get {l : List Value} {k : Nat} : ∀ {n : Nat}, okR l n = true → k < n → rulB l k = true
  | 0, _, h => by omega
  | n + 1, ho, h => by
    simp only [okR, Bool.and_eq_true] at ho
    rcases Nat.lt_succ_iff_lt_or_eq.1 h with h' | rfl
    · exact okR_get ho.1 h'
    · exact ho.2
theorem least_ge {l : List Value} : ∀ {n : Nat}, okR l n = true → -1099511627776 ≤ leastR l n
  | 0, _ => by simp [leastR]
  | n + 1, ho => by
    simp only [okR, Bool.and_eq_true] at ho
    have h1 := least_ge ho.1
    have h2 := ((rul_iff _ _).1 ho.2).1
    simp only [leastR, atR]
    omega
theorem zone_iff (s : ByteArray) (f : Int) (l : List Value) : zoneB s f l = true ↔ nameB s = true ∧ (-86399 ≤ f ∧ f ≤ 86399) ∧ l.length / 3 ≤ 32 ∧ okR l (l.length / 3) = true := by
  simp only [zoneB, offB, Bool.and_eq_true, decide_eq_true_eq, and_assoc]
theorem chk_no {s : ByteArray} {f : Int} {l : List Value} (h : ¬ zoneB s f l = true) : chkI s f l = 1 := by simp [chkI, h]
theorem chk_yes {s : ByteArray} {f : Int} {l : List Value} (h : zoneB s f l = true) : chkI s f l = 0 := by simp [chkI, h]
theorem errV1 {n : Int} (h : n = 1) : Value.iface 108 (.int .i64 1) = errVal 108 n := by subst h; rfl
theorem errV0 {n : Int} (h : n = 0) : Value.nilIface = errVal 108 n := by subst h; rfl
def zI : Nat → List Value → Int
  | 0, [l] => ixL (intsV l)
  | 1, [l, .int _ n] => leastR (rows l) n.toNat
  | 2, [.string s, .int _ f, l] => chkI s f (rows l)
  | _, _ => 0
def zB : Nat → List Value → Bool
  | 0, [.int _ c] => letC c
  | 1, [l, .int _ n] => okR (rows l) n.toNat
  | 2, [.string s, .int _ f, l] => zoneB s f (rows l)
  | 3, [l] => shortR (rows l)
  | 4, [l, .int _ n] => preL (intsV l) n.toNat
  | 5, [.string s] => nameB s
  | _, _ => false
def zV : Nat → List Value → Value
  | _, _ => Go.undef
abbrev zE (iv : List Int) (bv : List Bool) (vv : List Value) (sv : List ByteArray) : Env := { iv := iv, bv := bv, vv := vv, sv := sv, fi := zI, fb := zB, fv := zV, et := 108 }
theorem zi_ixl (l : Value) : zI 0 [l] = ixL (intsV l) := rfl
theorem zi_lst (l : Value) (k1 : IntKind) (n : Int) : zI 1 [l, .int k1 n] = leastR (rows l) n.toNat := rfl
theorem zi_chk (s : ByteArray) (k1 : IntKind) (f : Int) (l : Value) : zI 2 [.string s, .int k1 f, l] = chkI s f (rows l) := rfl
theorem zb_let (k1 : IntKind) (c : Int) : zB 0 [.int k1 c] = letC c := rfl
theorem zb_rok (l : Value) (k1 : IntKind) (n : Int) : zB 1 [l, .int k1 n] = okR (rows l) n.toNat := rfl
theorem zb_zon (s : ByteArray) (k1 : IntKind) (f : Int) (l : Value) : zB 2 [.string s, .int k1 f, l] = zoneB s f (rows l) := rfl
theorem zb_shr (l : Value) : zB 3 [l] = shortR (rows l) := rfl
theorem zb_pre (l : Value) (k1 : IntKind) (n : Int) : zB 4 [l, .int k1 n] = preL (intsV l) n.toNat := rfl
theorem zb_nm (s : ByteArray) : zB 5 [.string s] = nameB s := rfl
theorem syso (s : ByteArray) : strOf (.string s) = s := rfl
theorem syse (a b : ByteArray) : strEq (.string a) (.string b) = (a == b) := rfl
theorem syio (k : IntKind) (n : Int) : intOf (.int k n) = n := rfl
theorem sybo (b : Bool) : boolOf (.bool b) = b := rfl
theorem typ_len {r : SK} {v : Value} {n : Nat} (h : typ (.sl r) v) (e : r.wd = n) (e0 : 0 < n) : ((rows v).length / n : Nat) ≤ 140737488355328 ∧ (rows v).length = (rows v).length / n * n := by
  obtain ⟨_, m, h1, h2, _⟩ := h
  rw [e] at h2
  rw [h2, Nat.mul_div_cancel _ e0]
  exact ⟨h1, rfl⟩
theorem sym : Tryd.prog.follows .mixedOrders = true := by kernel_rfl
abbrev syG : Glob := [(0, 0, asHandle)]
def zlet_tree : Tree :=
 (.br (.b2 .le (.lit (97)) (.var 0))
 (.br (.b2 .le (.var 0) (.lit (122)))
 (.ret (.bool (.tt true)))
 (.br (.b2 .le (.lit (65)) (.var 0))
 (.br (.b2 .le (.var 0) (.lit (90)))
 (.ret (.bool (.tt true)))
 (.br (.b2 .le (.lit (48)) (.var 0))
 (.br (.b2 .le (.var 0) (.lit (57)))
 (.ret (.bool (.tt true)))
 (.br (.b2 .eq (.var 0) (.lit (47)))
 (.ret (.bool (.tt true)))
 (.br (.b2 .eq (.var 0) (.lit (95)))
 (.ret (.bool (.tt true)))
 (.br (.b2 .eq (.var 0) (.lit (43)))
 (.ret (.bool (.tt true)))
 (.ret (.bool (.b2 .eq (.var 0) (.lit (45)))))))))
 (.br (.b2 .eq (.var 0) (.lit (47)))
 (.ret (.bool (.tt true)))
 (.br (.b2 .eq (.var 0) (.lit (95)))
 (.ret (.bool (.tt true)))
 (.br (.b2 .eq (.var 0) (.lit (43)))
 (.ret (.bool (.tt true)))
 (.ret (.bool (.b2 .eq (.var 0) (.lit (45))))))))))
 (.br (.b2 .le (.lit (48)) (.var 0))
 (.br (.b2 .le (.var 0) (.lit (57)))
 (.ret (.bool (.tt true)))
 (.br (.b2 .eq (.var 0) (.lit (47)))
 (.ret (.bool (.tt true)))
 (.br (.b2 .eq (.var 0) (.lit (95)))
 (.ret (.bool (.tt true)))
 (.br (.b2 .eq (.var 0) (.lit (43)))
 (.ret (.bool (.tt true)))
 (.ret (.bool (.b2 .eq (.var 0) (.lit (45)))))))))
 (.br (.b2 .eq (.var 0) (.lit (47)))
 (.ret (.bool (.tt true)))
 (.br (.b2 .eq (.var 0) (.lit (95)))
 (.ret (.bool (.tt true)))
 (.br (.b2 .eq (.var 0) (.lit (43)))
 (.ret (.bool (.tt true)))
 (.ret (.bool (.b2 .eq (.var 0) (.lit (45)))))))))))
 (.br (.b2 .le (.lit (65)) (.var 0))
 (.br (.b2 .le (.var 0) (.lit (90)))
 (.ret (.bool (.tt true)))
 (.br (.b2 .le (.lit (48)) (.var 0))
 (.br (.b2 .le (.var 0) (.lit (57)))
 (.ret (.bool (.tt true)))
 (.br (.b2 .eq (.var 0) (.lit (47)))
 (.ret (.bool (.tt true)))
 (.br (.b2 .eq (.var 0) (.lit (95)))
 (.ret (.bool (.tt true)))
 (.br (.b2 .eq (.var 0) (.lit (43)))
 (.ret (.bool (.tt true)))
 (.ret (.bool (.b2 .eq (.var 0) (.lit (45)))))))))
 (.br (.b2 .eq (.var 0) (.lit (47)))
 (.ret (.bool (.tt true)))
 (.br (.b2 .eq (.var 0) (.lit (95)))
 (.ret (.bool (.tt true)))
 (.br (.b2 .eq (.var 0) (.lit (43)))
 (.ret (.bool (.tt true)))
 (.ret (.bool (.b2 .eq (.var 0) (.lit (45))))))))))
 (.br (.b2 .le (.lit (48)) (.var 0))
 (.br (.b2 .le (.var 0) (.lit (57)))
 (.ret (.bool (.tt true)))
 (.br (.b2 .eq (.var 0) (.lit (47)))
 (.ret (.bool (.tt true)))
 (.br (.b2 .eq (.var 0) (.lit (95)))
 (.ret (.bool (.tt true)))
 (.br (.b2 .eq (.var 0) (.lit (43)))
 (.ret (.bool (.tt true)))
 (.ret (.bool (.b2 .eq (.var 0) (.lit (45)))))))))
 (.br (.b2 .eq (.var 0) (.lit (47)))
 (.ret (.bool (.tt true)))
 (.br (.b2 .eq (.var 0) (.lit (95)))
 (.ret (.bool (.tt true)))
 (.br (.b2 .eq (.var 0) (.lit (43)))
 (.ret (.bool (.tt true)))
 (.ret (.bool (.b2 .eq (.var 0) (.lit (45)))))))))))
abbrev zc_zlet : Con := ⟨114, [(.int .u8 (.var 0))], (.tt true), (.bool (.bapp 0 (.cons (.int .u8 (.var 0)) .nil))), ⟨1, 0, 0, 0⟩, none⟩
theorem zlet_w : walk Tryd.prog 108 ⟨[], syG⟩ [] .v zc_zlet zc_zlet.n 3000 = some zlet_tree := by kernel_rfl
theorem zlet_h (c : Int) (hc : holds (zE [c] [] [] []) (.tt true)) (hty : patsTyp (zE [c] [] [] []) [(.int .u8 (.var 0))]) : zlet_tree.holds (fun d => d = denV (zE [c] [] [] []) b0 (.bool (.bapp 0 (.cons (.int .u8 (.var 0)) .nil)))) (zE [c] [] [] []) := by
  simp only [Tree.holds, Sy.holds, AllN, Env.more, zE, List.cons_append, List.nil_append, List.append_nil, denV, denI, denB, denL, I2.den, VOp.den, List.getD_cons_zero, List.getD_cons_succ, Cst.den, syso, syse, syio, sybo, zi_ixl, zi_lst, zi_chk, zb_let, zb_rok, zb_zon, zb_shr, zb_pre, zb_nm, List.map_nil, List.map_cons, B2.ofInts, B2.denI, B2.denB, if_true, Bool.false_eq_true, if_false, Nat.div_one, Nat.mul_one, Nat.add_zero, holds] at hc
  simp only [patsTyp, patTyp, patTypL, zE, denV, denL, List.getD_cons_zero, List.getD_cons_succ, and_true, true_and] at hty
  unfold zlet_tree
  simp only [Tree.holds, Sy.holds, AllN, Env.more, zE, List.cons_append, List.nil_append, List.append_nil, denV, denI, denB, denL, I2.den, VOp.den, List.getD_cons_zero, List.getD_cons_succ, Cst.den, syso, syse, syio, sybo, zi_ixl, zi_lst, zi_chk, zb_let, zb_rok, zb_zon, zb_shr, zb_pre, zb_nm, List.map_nil, List.map_cons, B2.ofInts, B2.denI, B2.denB, if_true, Bool.false_eq_true, if_false, Nat.div_one, Nat.mul_one, Nat.add_zero]
  refine ⟨fun h0 => ?_, fun h0 => ?_⟩
  ·
    refine ⟨fun h1 => ?_, fun h1 => ?_⟩
    ·
      refine congrArg Value.bool (Bool.eq_iff_iff.2 ?_)
      rw [letC_iff]
      try simp only [beq_iff_eq, decide_eq_true_eq, true_iff, false_iff, Bool.false_eq_true]
      omega
    ·
      refine ⟨fun h2 => ?_, fun h2 => ?_⟩
      ·
        refine ⟨fun h3 => ?_, fun h3 => ?_⟩
        ·
          refine congrArg Value.bool (Bool.eq_iff_iff.2 ?_)
          rw [letC_iff]
          try simp only [beq_iff_eq, decide_eq_true_eq, true_iff, false_iff, Bool.false_eq_true]
          omega
        ·
          refine ⟨fun h4 => ?_, fun h4 => ?_⟩
          ·
            refine ⟨fun h5 => ?_, fun h5 => ?_⟩
            ·
              refine congrArg Value.bool (Bool.eq_iff_iff.2 ?_)
              rw [letC_iff]
              try simp only [beq_iff_eq, decide_eq_true_eq, true_iff, false_iff, Bool.false_eq_true]
              omega
            ·
              refine ⟨fun h6 => ?_, fun h6 => ?_⟩
              ·
                refine congrArg Value.bool (Bool.eq_iff_iff.2 ?_)
                rw [letC_iff]
                try simp only [beq_iff_eq, decide_eq_true_eq, true_iff, false_iff, Bool.false_eq_true]
                omega
              ·
                refine ⟨fun h7 => ?_, fun h7 => ?_⟩
                ·
                  refine congrArg Value.bool (Bool.eq_iff_iff.2 ?_)
                  rw [letC_iff]
                  try simp only [beq_iff_eq, decide_eq_true_eq, true_iff, false_iff, Bool.false_eq_true]
                  omega
                ·
                  refine ⟨fun h8 => ?_, fun h8 => ?_⟩
                  ·
                    refine congrArg Value.bool (Bool.eq_iff_iff.2 ?_)
                    rw [letC_iff]
                    try simp only [beq_iff_eq, decide_eq_true_eq, true_iff, false_iff, Bool.false_eq_true]
                    omega
                  ·
                    refine congrArg Value.bool (Bool.eq_iff_iff.2 ?_)
                    rw [letC_iff]
                    try simp only [beq_iff_eq, decide_eq_true_eq, true_iff, false_iff, Bool.false_eq_true]
                    omega
          ·
            refine ⟨fun h9 => ?_, fun h9 => ?_⟩
            ·
              refine congrArg Value.bool (Bool.eq_iff_iff.2 ?_)
              rw [letC_iff]
              try simp only [beq_iff_eq, decide_eq_true_eq, true_iff, false_iff, Bool.false_eq_true]
              omega
            ·
              refine ⟨fun h10 => ?_, fun h10 => ?_⟩
              ·
                refine congrArg Value.bool (Bool.eq_iff_iff.2 ?_)
                rw [letC_iff]
                try simp only [beq_iff_eq, decide_eq_true_eq, true_iff, false_iff, Bool.false_eq_true]
                omega
              ·
                refine ⟨fun h11 => ?_, fun h11 => ?_⟩
                ·
                  refine congrArg Value.bool (Bool.eq_iff_iff.2 ?_)
                  rw [letC_iff]
                  try simp only [beq_iff_eq, decide_eq_true_eq, true_iff, false_iff, Bool.false_eq_true]
                  omega
                ·
                  refine congrArg Value.bool (Bool.eq_iff_iff.2 ?_)
                  rw [letC_iff]
                  try simp only [beq_iff_eq, decide_eq_true_eq, true_iff, false_iff, Bool.false_eq_true]
                  omega
      ·
        refine ⟨fun h12 => ?_, fun h12 => ?_⟩
        ·
          refine ⟨fun h13 => ?_, fun h13 => ?_⟩
          ·
            refine congrArg Value.bool (Bool.eq_iff_iff.2 ?_)
            rw [letC_iff]
            try simp only [beq_iff_eq, decide_eq_true_eq, true_iff, false_iff, Bool.false_eq_true]
            omega
          ·
            refine ⟨fun h14 => ?_, fun h14 => ?_⟩
            ·
              refine congrArg Value.bool (Bool.eq_iff_iff.2 ?_)
              rw [letC_iff]
              try simp only [beq_iff_eq, decide_eq_true_eq, true_iff, false_iff, Bool.false_eq_true]
              omega
            ·
              refine ⟨fun h15 => ?_, fun h15 => ?_⟩
              ·
                refine congrArg Value.bool (Bool.eq_iff_iff.2 ?_)
                rw [letC_iff]
                try simp only [beq_iff_eq, decide_eq_true_eq, true_iff, false_iff, Bool.false_eq_true]
                omega
              ·
                refine ⟨fun h16 => ?_, fun h16 => ?_⟩
                ·
                  refine congrArg Value.bool (Bool.eq_iff_iff.2 ?_)
                  rw [letC_iff]
                  try simp only [beq_iff_eq, decide_eq_true_eq, true_iff, false_iff, Bool.false_eq_true]
                  omega
                ·
                  refine congrArg Value.bool (Bool.eq_iff_iff.2 ?_)
                  rw [letC_iff]
                  try simp only [beq_iff_eq, decide_eq_true_eq, true_iff, false_iff, Bool.false_eq_true]
                  omega
        ·
          refine ⟨fun h17 => ?_, fun h17 => ?_⟩
          ·
            refine congrArg Value.bool (Bool.eq_iff_iff.2 ?_)
            rw [letC_iff]
            try simp only [beq_iff_eq, decide_eq_true_eq, true_iff, false_iff, Bool.false_eq_true]
            omega
          ·
            refine ⟨fun h18 => ?_, fun h18 => ?_⟩
            ·
              refine congrArg Value.bool (Bool.eq_iff_iff.2 ?_)
              rw [letC_iff]
              try simp only [beq_iff_eq, decide_eq_true_eq, true_iff, false_iff, Bool.false_eq_true]
              omega
            ·
              refine ⟨fun h19 => ?_, fun h19 => ?_⟩
              ·
                refine congrArg Value.bool (Bool.eq_iff_iff.2 ?_)
                rw [letC_iff]
                try simp only [beq_iff_eq, decide_eq_true_eq, true_iff, false_iff, Bool.false_eq_true]
                omega
              ·
                refine congrArg Value.bool (Bool.eq_iff_iff.2 ?_)
                rw [letC_iff]
                try simp only [beq_iff_eq, decide_eq_true_eq, true_iff, false_iff, Bool.false_eq_true]
                omega
  ·
    refine ⟨fun h20 => ?_, fun h20 => ?_⟩
    ·
      refine ⟨fun h21 => ?_, fun h21 => ?_⟩
      ·
        refine congrArg Value.bool (Bool.eq_iff_iff.2 ?_)
        rw [letC_iff]
        try simp only [beq_iff_eq, decide_eq_true_eq, true_iff, false_iff, Bool.false_eq_true]
        omega
      ·
        refine ⟨fun h22 => ?_, fun h22 => ?_⟩
        ·
          refine ⟨fun h23 => ?_, fun h23 => ?_⟩
          ·
            refine congrArg Value.bool (Bool.eq_iff_iff.2 ?_)
            rw [letC_iff]
            try simp only [beq_iff_eq, decide_eq_true_eq, true_iff, false_iff, Bool.false_eq_true]
            omega
          ·
            refine ⟨fun h24 => ?_, fun h24 => ?_⟩
            ·
              refine congrArg Value.bool (Bool.eq_iff_iff.2 ?_)
              rw [letC_iff]
              try simp only [beq_iff_eq, decide_eq_true_eq, true_iff, false_iff, Bool.false_eq_true]
              omega
            ·
              refine ⟨fun h25 => ?_, fun h25 => ?_⟩
              ·
                refine congrArg Value.bool (Bool.eq_iff_iff.2 ?_)
                rw [letC_iff]
                try simp only [beq_iff_eq, decide_eq_true_eq, true_iff, false_iff, Bool.false_eq_true]
                omega
              ·
                refine ⟨fun h26 => ?_, fun h26 => ?_⟩
                ·
                  refine congrArg Value.bool (Bool.eq_iff_iff.2 ?_)
                  rw [letC_iff]
                  try simp only [beq_iff_eq, decide_eq_true_eq, true_iff, false_iff, Bool.false_eq_true]
                  omega
                ·
                  refine congrArg Value.bool (Bool.eq_iff_iff.2 ?_)
                  rw [letC_iff]
                  try simp only [beq_iff_eq, decide_eq_true_eq, true_iff, false_iff, Bool.false_eq_true]
                  omega
        ·
          refine ⟨fun h27 => ?_, fun h27 => ?_⟩
          ·
            refine congrArg Value.bool (Bool.eq_iff_iff.2 ?_)
            rw [letC_iff]
            try simp only [beq_iff_eq, decide_eq_true_eq, true_iff, false_iff, Bool.false_eq_true]
            omega
          ·
            refine ⟨fun h28 => ?_, fun h28 => ?_⟩
            ·
              refine congrArg Value.bool (Bool.eq_iff_iff.2 ?_)
              rw [letC_iff]
              try simp only [beq_iff_eq, decide_eq_true_eq, true_iff, false_iff, Bool.false_eq_true]
              omega
            ·
              refine ⟨fun h29 => ?_, fun h29 => ?_⟩
              ·
                refine congrArg Value.bool (Bool.eq_iff_iff.2 ?_)
                rw [letC_iff]
                try simp only [beq_iff_eq, decide_eq_true_eq, true_iff, false_iff, Bool.false_eq_true]
                omega
              ·
                refine congrArg Value.bool (Bool.eq_iff_iff.2 ?_)
                rw [letC_iff]
                try simp only [beq_iff_eq, decide_eq_true_eq, true_iff, false_iff, Bool.false_eq_true]
                omega
    ·
      refine ⟨fun h30 => ?_, fun h30 => ?_⟩
      ·
        refine ⟨fun h31 => ?_, fun h31 => ?_⟩
        ·
          refine congrArg Value.bool (Bool.eq_iff_iff.2 ?_)
          rw [letC_iff]
          try simp only [beq_iff_eq, decide_eq_true_eq, true_iff, false_iff, Bool.false_eq_true]
          omega
        ·
          refine ⟨fun h32 => ?_, fun h32 => ?_⟩
          ·
            refine congrArg Value.bool (Bool.eq_iff_iff.2 ?_)
            rw [letC_iff]
            try simp only [beq_iff_eq, decide_eq_true_eq, true_iff, false_iff, Bool.false_eq_true]
            omega
          ·
            refine ⟨fun h33 => ?_, fun h33 => ?_⟩
            ·
              refine congrArg Value.bool (Bool.eq_iff_iff.2 ?_)
              rw [letC_iff]
              try simp only [beq_iff_eq, decide_eq_true_eq, true_iff, false_iff, Bool.false_eq_true]
              omega
            ·
              refine ⟨fun h34 => ?_, fun h34 => ?_⟩
              ·
                refine congrArg Value.bool (Bool.eq_iff_iff.2 ?_)
                rw [letC_iff]
                try simp only [beq_iff_eq, decide_eq_true_eq, true_iff, false_iff, Bool.false_eq_true]
                omega
              ·
                refine congrArg Value.bool (Bool.eq_iff_iff.2 ?_)
                rw [letC_iff]
                try simp only [beq_iff_eq, decide_eq_true_eq, true_iff, false_iff, Bool.false_eq_true]
                omega
      ·
        refine ⟨fun h35 => ?_, fun h35 => ?_⟩
        ·
          refine congrArg Value.bool (Bool.eq_iff_iff.2 ?_)
          rw [letC_iff]
          try simp only [beq_iff_eq, decide_eq_true_eq, true_iff, false_iff, Bool.false_eq_true]
          omega
        ·
          refine ⟨fun h36 => ?_, fun h36 => ?_⟩
          ·
            refine congrArg Value.bool (Bool.eq_iff_iff.2 ?_)
            rw [letC_iff]
            try simp only [beq_iff_eq, decide_eq_true_eq, true_iff, false_iff, Bool.false_eq_true]
            omega
          ·
            refine ⟨fun h37 => ?_, fun h37 => ?_⟩
            ·
              refine congrArg Value.bool (Bool.eq_iff_iff.2 ?_)
              rw [letC_iff]
              try simp only [beq_iff_eq, decide_eq_true_eq, true_iff, false_iff, Bool.false_eq_true]
              omega
            ·
              refine congrArg Value.bool (Bool.eq_iff_iff.2 ?_)
              rw [letC_iff]
              try simp only [beq_iff_eq, decide_eq_true_eq, true_iff, false_iff, Bool.false_eq_true]
              omega
theorem zg_zlet : zc_zlet.Good Tryd.prog syG (zE [] [] [] []) := good_of_walk (Γ := ⟨[], syG⟩) (ρ := zE [] [] [] []) sym zlet_w rfl (fun _ _ _ _ => ok_nil) (fun c hc hty => zlet_h c hc hty)
def zn1_tree : Tree :=
 (.ret (.bool (.not (.bapp 0 (.cons (.int .u8 (.var 0)) .nil)))))
abbrev zc_zn1 : Con := ⟨113, [(.int .u8 (.var 0))], (.tt true), (.bool (.not (.bapp 0 (.cons (.int .u8 (.var 0)) .nil)))), ⟨1, 0, 0, 0⟩, none⟩
theorem zn1_w : walk Tryd.prog 108 ⟨[zc_zlet], syG⟩ [] .v zc_zn1 zc_zn1.n 3000 = some zn1_tree := by kernel_rfl
theorem zn1_h (c : Int) (hc : holds (zE [c] [] [] []) (.tt true)) (hty : patsTyp (zE [c] [] [] []) [(.int .u8 (.var 0))]) : zn1_tree.holds (fun d => d = denV (zE [c] [] [] []) b0 (.bool (.not (.bapp 0 (.cons (.int .u8 (.var 0)) .nil))))) (zE [c] [] [] []) := by
  simp only [Tree.holds, Sy.holds, AllN, Env.more, zE, List.cons_append, List.nil_append, List.append_nil, denV, denI, denB, denL, I2.den, VOp.den, List.getD_cons_zero, List.getD_cons_succ, Cst.den, syso, syse, syio, sybo, zi_ixl, zi_lst, zi_chk, zb_let, zb_rok, zb_zon, zb_shr, zb_pre, zb_nm, List.map_nil, List.map_cons, B2.ofInts, B2.denI, B2.denB, if_true, Bool.false_eq_true, if_false, Nat.div_one, Nat.mul_one, Nat.add_zero, holds] at hc
  simp only [patsTyp, patTyp, patTypL, zE, denV, denL, List.getD_cons_zero, List.getD_cons_succ, and_true, true_and] at hty
  unfold zn1_tree
  simp only [Tree.holds, Sy.holds, AllN, Env.more, zE, List.cons_append, List.nil_append, List.append_nil, denV, denI, denB, denL, I2.den, VOp.den, List.getD_cons_zero, List.getD_cons_succ, Cst.den, syso, syse, syio, sybo, zi_ixl, zi_lst, zi_chk, zb_let, zb_rok, zb_zon, zb_shr, zb_pre, zb_nm, List.map_nil, List.map_cons, B2.ofInts, B2.denI, B2.denB, if_true, Bool.false_eq_true, if_false, Nat.div_one, Nat.mul_one, Nat.add_zero]
  all_goals first | omega | rfl | (simp only [Value.tuple.injEq, Value.agg.injEq, Value.int.injEq, Value.bool.injEq, Array.mk.injEq, List.cons.injEq, true_and, and_true]; omega) | (refine congrArg Value.bool (Bool.eq_iff_iff.2 ?_); simp only [beq_iff_eq, decide_eq_true_eq, true_iff, false_iff, Bool.false_eq_true, Bool.not_eq_true', Bool.and_eq_true, Bool.or_eq_true, decide_eq_false_iff_not]; omega)
theorem zg_zn1 : zc_zn1.Good Tryd.prog syG (zE [] [] [] []) := good_of_walk (Γ := ⟨[zc_zlet], syG⟩) (ρ := zE [] [] [] []) sym zn1_w rfl (fun _ _ _ _ => (ok_cons (Con.Good.env zg_zlet _ _ _ _) ok_nil)) (fun c hc hty => zn1_h c hc hty)
def zix_tree : Tree :=
 (.loop ⟨1, 0, 0, 0⟩ (.b2 .and (.b2 .le (.lit (0)) (.lit (0))) (.b2 .and (.b2 .le (.lit (0)) (.ofI (.vop (.len 1) (.cons (.opq 0) .nil)))) (.bapp 4 (.cons (.opq 0) (.cons (.int .i64 (.lit (0))) .nil))))) (.b2 .and (.b2 .le (.lit (0)) (.var 0)) (.b2 .and (.b2 .le (.var 0) (.ofI (.vop (.len 1) (.cons (.opq 0) .nil)))) (.bapp 4 (.cons (.opq 0) (.cons (.int .i64 (.var 0)) .nil)))))
 (.br (.b2 .lt (.var 0) (.ofI (.vop (.len 1) (.cons (.opq 0) .nil))))
 (.need (.b2 .and (.b2 .le (.lit (0)) (.var 0)) (.b2 .lt (.var 0) (.ofI (.vop (.len 1) (.cons (.opq 0) .nil)))))
 (.br (.not (.bapp 0 (.cons (.int .u8 (.ofI (.vop (.sel 1 0) (.cons (.opq 0) (.cons (.int .i64 (.var 0)) .nil))))) .nil)))
 (.ret (.int .i64 (.var 0)))
 (.back (.b2 .and (.b2 .le (.lit (0)) (.wrap .i64 (.i2 .add (.var 0) (.lit (1))))) (.b2 .and (.b2 .le (.wrap .i64 (.i2 .add (.var 0) (.lit (1)))) (.ofI (.vop (.len 1) (.cons (.opq 0) .nil)))) (.bapp 4 (.cons (.opq 0) (.cons (.int .i64 (.wrap .i64 (.i2 .add (.var 0) (.lit (1))))) .nil))))) (.i2 .sub (.ofI (.vop (.len 1) (.cons (.opq 0) .nil))) (.wrap .i64 (.i2 .add (.var 0) (.lit (1))))) (.i2 .sub (.ofI (.vop (.len 1) (.cons (.opq 0) .nil))) (.var 0)))))
 (.ret (.int .i64 (.lit (-1))))))
abbrev zc_zix : Con := ⟨131, [(.hs .no (.cons (.int .u8) .nil) (.opq 0)), (.cst (.fn 113))], (.tt true), (.int .i64 (.iapp 0 (.cons (.opq 0) .nil))), ⟨0, 0, 1, 0⟩, none⟩
theorem zix_w : walk Tryd.prog 108 ⟨[zc_zn1], syG⟩ [⟨0, ⟨1, 0, 0, 0⟩, [(8, (.int .i64 (.var 0)))], none, (.b2 .and (.b2 .le (.lit (0)) (.var 0)) (.b2 .and (.b2 .le (.var 0) (.ofI (.vop (.len 1) (.cons (.opq 0) .nil)))) (.bapp 4 (.cons (.opq 0) (.cons (.int .i64 (.var 0)) .nil))))), (.i2 .sub (.ofI (.vop (.len 1) (.cons (.opq 0) .nil))) (.var 0)), 0, []⟩] .v zc_zix zc_zix.n 3000 = some zix_tree := by kernel_rfl
theorem zix_h (l : Value) (hc : holds (zE [] [] [l] []) (.tt true)) (hty : patsTyp (zE [] [] [l] []) [(.hs .no (.cons (.int .u8) .nil) (.opq 0)), (.cst (.fn 113))]) : zix_tree.holds (fun d => d = denV (zE [] [] [l] []) b0 (.int .i64 (.iapp 0 (.cons (.opq 0) .nil)))) (zE [] [] [l] []) := by
  simp only [Tree.holds, Sy.holds, AllN, Env.more, zE, List.cons_append, List.nil_append, List.append_nil, denV, denI, denB, denL, I2.den, VOp.den, List.getD_cons_zero, List.getD_cons_succ, Cst.den, syso, syse, syio, sybo, zi_ixl, zi_lst, zi_chk, zb_let, zb_rok, zb_zon, zb_shr, zb_pre, zb_nm, List.map_nil, List.map_cons, B2.ofInts, B2.denI, B2.denB, if_true, Bool.false_eq_true, if_false, Nat.div_one, Nat.mul_one, Nat.add_zero, holds] at hc
  simp only [patsTyp, patTyp, patTypL, zE, denV, denL, List.getD_cons_zero, List.getD_cons_succ, and_true, true_and] at hty
  have hL_l : typ (.sl (.cons (.int .u8) .nil)) l := by first | exact hty | exact hty.1 | exact hty.2 | exact hty.1.1 | exact hty.1.2 | exact hty.2.1 | exact hty.2.2 | exact hty.2.2.1 | exact hty.2.2.2
  have hN_l := typ_len (n := 1) hL_l rfl (by omega)
  simp only [Nat.div_one, Nat.mul_one] at hN_l
  unfold zix_tree
  simp only [Tree.holds, Sy.holds, AllN, Env.more, zE, List.cons_append, List.nil_append, List.append_nil, denV, denI, denB, denL, I2.den, VOp.den, List.getD_cons_zero, List.getD_cons_succ, Cst.den, syso, syse, syio, sybo, zi_ixl, zi_lst, zi_chk, zb_let, zb_rok, zb_zon, zb_shr, zb_pre, zb_nm, List.map_nil, List.map_cons, B2.ofInts, B2.denI, B2.denB, if_true, Bool.false_eq_true, if_false, Nat.div_one, Nat.mul_one, Nat.add_zero]
  refine ⟨?_, ?_⟩
  ·
    exact ⟨by omega, by omega, preL_zero _⟩
  ·
    intro i0a hi0
    obtain ⟨hi1, hi2, hi3⟩ := hi0
    refine ⟨fun h0 => ?_, fun h0 => ?_⟩
    ·
      refine ⟨?_, fun h1 => ?_⟩
      ·
        omega
      ·
        refine ⟨fun h2 => ?_, fun h2 => ?_⟩
        ·
          first | (have hx := intsV_at (v := l) (n := i0a.toNat) (by omega)
                   have hl : letC (intOf ((rows l).getD i0a.toNat Go.undef)) = false := by simpa using h2
                   rw [ixL_at hi3 hx hl]
                   exact congrArg (Value.int .i64) (by omega)) | (rw [ixL_no hi3 (by rw [intsV_len]; omega)])
        ·
          have wf0 := wr_i64 (i0a + 1)
          refine ⟨?_, ?_⟩
          ·
            have e : IntKind.wrap .i64 (i0a + 1) = i0a + 1 := by omega
            have hx := intsV_at (v := l) (n := i0a.toNat) (by omega)
            have hl : letC (intOf ((rows l).getD i0a.toNat Go.undef)) = true := by simpa using h2
            rw [e, show (i0a + 1).toNat = i0a.toNat + 1 by omega, preL_succ hx, hi3, hl]
            exact ⟨by omega, by omega, rfl⟩
          ·
            omega
    ·
      first | (have hx := intsV_at (v := l) (n := i0a.toNat) (by omega)
               have hl : letC (intOf ((rows l).getD i0a.toNat Go.undef)) = false := by simpa using h2
               rw [ixL_at hi3 hx hl]
               exact congrArg (Value.int .i64) (by omega)) | (rw [ixL_no hi3 (by rw [intsV_len]; omega)])
theorem zg_zix : zc_zix.Good Tryd.prog syG (zE [] [] [] []) := good_of_walk (Γ := ⟨[zc_zn1], syG⟩) (ρ := zE [] [] [] []) sym zix_w rfl (fun _ _ _ _ => (ok_cons (Con.Good.env zg_zn1 _ _ _ _) ok_nil)) (fun l hc hty => zix_h l hc hty)
def zcf_tree : Tree :=
 (.ret (.bool (.b2 .le (.lit (0)) (.iapp 0 (.cons (.opq 0) .nil)))))
abbrev zc_zcf : Con := ⟨112, [(.hs .no (.cons (.int .u8) .nil) (.opq 0)), (.cst (.fn 113))], (.tt true), (.bool (.not (.b2 .lt (.iapp 0 (.cons (.opq 0) .nil)) (.lit (0))))), ⟨0, 0, 1, 0⟩, none⟩
theorem zcf_w : walk Tryd.prog 108 ⟨[zc_zix], syG⟩ [] .v zc_zcf zc_zcf.n 3000 = some zcf_tree := by kernel_rfl
theorem zcf_h (l : Value) (hc : holds (zE [] [] [l] []) (.tt true)) (hty : patsTyp (zE [] [] [l] []) [(.hs .no (.cons (.int .u8) .nil) (.opq 0)), (.cst (.fn 113))]) : zcf_tree.holds (fun d => d = denV (zE [] [] [l] []) b0 (.bool (.not (.b2 .lt (.iapp 0 (.cons (.opq 0) .nil)) (.lit (0)))))) (zE [] [] [l] []) := by
  simp only [Tree.holds, Sy.holds, AllN, Env.more, zE, List.cons_append, List.nil_append, List.append_nil, denV, denI, denB, denL, I2.den, VOp.den, List.getD_cons_zero, List.getD_cons_succ, Cst.den, syso, syse, syio, sybo, zi_ixl, zi_lst, zi_chk, zb_let, zb_rok, zb_zon, zb_shr, zb_pre, zb_nm, List.map_nil, List.map_cons, B2.ofInts, B2.denI, B2.denB, if_true, Bool.false_eq_true, if_false, Nat.div_one, Nat.mul_one, Nat.add_zero, holds] at hc
  simp only [patsTyp, patTyp, patTypL, zE, denV, denL, List.getD_cons_zero, List.getD_cons_succ, and_true, true_and] at hty
  have hL_l : typ (.sl (.cons (.int .u8) .nil)) l := by first | exact hty | exact hty.1 | exact hty.2 | exact hty.1.1 | exact hty.1.2 | exact hty.2.1 | exact hty.2.2 | exact hty.2.2.1 | exact hty.2.2.2
  have hN_l := typ_len (n := 1) hL_l rfl (by omega)
  simp only [Nat.div_one, Nat.mul_one] at hN_l
  unfold zcf_tree
  simp only [Tree.holds, Sy.holds, AllN, Env.more, zE, List.cons_append, List.nil_append, List.append_nil, denV, denI, denB, denL, I2.den, VOp.den, List.getD_cons_zero, List.getD_cons_succ, Cst.den, syso, syse, syio, sybo, zi_ixl, zi_lst, zi_chk, zb_let, zb_rok, zb_zon, zb_shr, zb_pre, zb_nm, List.map_nil, List.map_cons, B2.ofInts, B2.denI, B2.denB, if_true, Bool.false_eq_true, if_false, Nat.div_one, Nat.mul_one, Nat.add_zero]
  all_goals first | omega | rfl | (simp only [Value.tuple.injEq, Value.agg.injEq, Value.int.injEq, Value.bool.injEq, Array.mk.injEq, List.cons.injEq, true_and, and_true]; omega) | (refine congrArg Value.bool (Bool.eq_iff_iff.2 ?_); simp only [beq_iff_eq, decide_eq_true_eq, true_iff, false_iff, Bool.false_eq_true, Bool.not_eq_true', Bool.and_eq_true, Bool.or_eq_true, decide_eq_false_iff_not]; omega)
theorem zg_zcf : zc_zcf.Good Tryd.prog syG (zE [] [] [] []) := good_of_walk (Γ := ⟨[zc_zix], syG⟩) (ρ := zE [] [] [] []) sym zcf_w rfl (fun _ _ _ _ => (ok_cons (Con.Good.env zg_zix _ _ _ _) ok_nil)) (fun l hc hty => zcf_h l hc hty)
def zis_tree : Tree :=
 (.br (.b2 .lt (.blen (.str 0)) (.lit (1)))
 (.ret (.bool (.tt false)))
 (.br (.b2 .lt (.lit (12)) (.blen (.str 0)))
 (.ret (.bool (.tt false)))
 (.need (.b2 .le (.blen (.str 0)) (.lit (140737488355328)))
 (.ret (.bool (.b2 .lt (.iapp 0 (.cons (.vop .s2b (.cons (.str 0) .nil)) .nil)) (.lit (0))))))))
abbrev zc_zis : Con := ⟨78, [(.str 0)], (.tt true), (.bool (.bapp 5 (.cons (.str 0) .nil))), ⟨0, 0, 0, 1⟩, none⟩
theorem zis_w : walk Tryd.prog 108 ⟨[zc_zcf], syG⟩ [] .v zc_zis zc_zis.n 3000 = some zis_tree := by kernel_rfl
theorem zis_h (s : ByteArray) (hc : holds (zE [] [] [] [s]) (.tt true)) (hty : patsTyp (zE [] [] [] [s]) [(.str 0)]) : zis_tree.holds (fun d => d = denV (zE [] [] [] [s]) b0 (.bool (.bapp 5 (.cons (.str 0) .nil)))) (zE [] [] [] [s]) := by
  simp only [Tree.holds, Sy.holds, AllN, Env.more, zE, List.cons_append, List.nil_append, List.append_nil, denV, denI, denB, denL, I2.den, VOp.den, List.getD_cons_zero, List.getD_cons_succ, Cst.den, syso, syse, syio, sybo, zi_ixl, zi_lst, zi_chk, zb_let, zb_rok, zb_zon, zb_shr, zb_pre, zb_nm, List.map_nil, List.map_cons, B2.ofInts, B2.denI, B2.denB, if_true, Bool.false_eq_true, if_false, Nat.div_one, Nat.mul_one, Nat.add_zero, holds] at hc
  simp only [patsTyp, patTyp, patTypL, zE, denV, denL, List.getD_cons_zero, List.getD_cons_succ, and_true, true_and] at hty
  unfold zis_tree
  simp only [Tree.holds, Sy.holds, AllN, Env.more, zE, List.cons_append, List.nil_append, List.append_nil, denV, denI, denB, denL, I2.den, VOp.den, List.getD_cons_zero, List.getD_cons_succ, Cst.den, syso, syse, syio, sybo, zi_ixl, zi_lst, zi_chk, zb_let, zb_rok, zb_zon, zb_shr, zb_pre, zb_nm, List.map_nil, List.map_cons, B2.ofInts, B2.denI, B2.denB, if_true, Bool.false_eq_true, if_false, Nat.div_one, Nat.mul_one, Nat.add_zero]
  refine ⟨fun h0 => ?_, fun h0 => ?_⟩
  ·
    try simp only [intsV_s] at *
    refine congrArg Value.bool (Bool.eq_iff_iff.2 ?_)
    simp only [nameB, Bool.and_eq_true, decide_eq_true_eq, Bool.false_eq_true, false_iff]
    omega
  ·
    refine ⟨fun h1 => ?_, fun h1 => ?_⟩
    ·
      try simp only [intsV_s] at *
      refine congrArg Value.bool (Bool.eq_iff_iff.2 ?_)
      simp only [nameB, Bool.and_eq_true, decide_eq_true_eq, Bool.false_eq_true, false_iff]
      omega
    ·
      refine ⟨?_, fun h2 => ?_⟩
      ·
        omega
      ·
        try simp only [intsV_s] at *
        refine congrArg Value.bool (Bool.eq_iff_iff.2 ?_)
        simp only [nameB, Bool.and_eq_true, decide_eq_true_eq, Bool.false_eq_true, false_iff]
        omega
theorem zg_zis : zc_zis.Good Tryd.prog syG (zE [] [] [] []) := good_of_walk (Γ := ⟨[zc_zcf], syG⟩) (ρ := zE [] [] [] []) sym zis_w rfl (fun _ _ _ _ => (ok_cons (Con.Good.env zg_zcf _ _ _ _) ok_nil)) (fun s hc hty => zis_h s hc hty)
def zoff_tree : Tree :=
 (.br (.b2 .le (.lit (-86399)) (.var 0))
 (.ret (.bool (.b2 .le (.var 0) (.lit (86399)))))
 (.ret (.bool (.tt false))))
abbrev zc_zoff : Con := ⟨79, [(.int .i64 (.var 0))], (.tt true), (.bool (.b2 .and (.b2 .le (.lit (-86399)) (.var 0)) (.b2 .le (.var 0) (.lit (86399))))), ⟨1, 0, 0, 0⟩, none⟩
theorem zoff_w : walk Tryd.prog 108 ⟨[], syG⟩ [] .v zc_zoff zc_zoff.n 3000 = some zoff_tree := by kernel_rfl
theorem zoff_h (n : Int) (hc : holds (zE [n] [] [] []) (.tt true)) (hty : patsTyp (zE [n] [] [] []) [(.int .i64 (.var 0))]) : zoff_tree.holds (fun d => d = denV (zE [n] [] [] []) b0 (.bool (.b2 .and (.b2 .le (.lit (-86399)) (.var 0)) (.b2 .le (.var 0) (.lit (86399)))))) (zE [n] [] [] []) := by
  simp only [Tree.holds, Sy.holds, AllN, Env.more, zE, List.cons_append, List.nil_append, List.append_nil, denV, denI, denB, denL, I2.den, VOp.den, List.getD_cons_zero, List.getD_cons_succ, Cst.den, syso, syse, syio, sybo, zi_ixl, zi_lst, zi_chk, zb_let, zb_rok, zb_zon, zb_shr, zb_pre, zb_nm, List.map_nil, List.map_cons, B2.ofInts, B2.denI, B2.denB, if_true, Bool.false_eq_true, if_false, Nat.div_one, Nat.mul_one, Nat.add_zero, holds] at hc
  simp only [patsTyp, patTyp, patTypL, zE, denV, denL, List.getD_cons_zero, List.getD_cons_succ, and_true, true_and] at hty
  unfold zoff_tree
  simp only [Tree.holds, Sy.holds, AllN, Env.more, zE, List.cons_append, List.nil_append, List.append_nil, denV, denI, denB, denL, I2.den, VOp.den, List.getD_cons_zero, List.getD_cons_succ, Cst.den, syso, syse, syio, sybo, zi_ixl, zi_lst, zi_chk, zb_let, zb_rok, zb_zon, zb_shr, zb_pre, zb_nm, List.map_nil, List.map_cons, B2.ofInts, B2.denI, B2.denB, if_true, Bool.false_eq_true, if_false, Nat.div_one, Nat.mul_one, Nat.add_zero]
  refine ⟨fun h0 => ?_, fun h0 => ?_⟩
  ·
    all_goals first | omega | rfl | (simp only [Value.tuple.injEq, Value.agg.injEq, Value.int.injEq, Value.bool.injEq, Array.mk.injEq, List.cons.injEq, true_and, and_true]; omega) | (refine congrArg Value.bool (Bool.eq_iff_iff.2 ?_); simp only [beq_iff_eq, decide_eq_true_eq, true_iff, false_iff, Bool.false_eq_true, Bool.not_eq_true', Bool.and_eq_true, Bool.or_eq_true, decide_eq_false_iff_not]; omega)
  ·
    all_goals first | omega | rfl | (simp only [Value.tuple.injEq, Value.agg.injEq, Value.int.injEq, Value.bool.injEq, Array.mk.injEq, List.cons.injEq, true_and, and_true]; omega) | (refine congrArg Value.bool (Bool.eq_iff_iff.2 ?_); simp only [beq_iff_eq, decide_eq_true_eq, true_iff, false_iff, Bool.false_eq_true, Bool.not_eq_true', Bool.and_eq_true, Bool.or_eq_true, decide_eq_false_iff_not]; omega)
theorem zg_zoff : zc_zoff.Good Tryd.prog syG (zE [] [] [] []) := good_of_walk (Γ := ⟨[], syG⟩) (ρ := zE [] [] [] []) sym zoff_w rfl (fun _ _ _ _ => ok_nil) (fun n hc hty => zoff_h n hc hty)
def zck_tree : Tree :=
 (.br (.not (.bapp 5 (.cons (.str 0) .nil)))
 (.ret (.iface 108 (.int .i64 (.lit (1)))))
 (.br (.not (.b2 .and (.b2 .le (.lit (-86399)) (.var 0)) (.b2 .le (.var 0) (.lit (86399)))))
 (.ret (.iface 108 (.int .i64 (.lit (1)))))
 (.br (.b2 .lt (.lit (32)) (.ofI (.vop (.len 3) (.cons (.opq 0) .nil))))
 (.ret (.iface 108 (.int .i64 (.lit (1)))))
 (.loop ⟨2, 0, 0, 0⟩ (.b2 .and (.b2 .le (.lit (0)) (.lit (0))) (.b2 .and (.b2 .le (.lit (0)) (.ofI (.vop (.len 3) (.cons (.opq 0) .nil)))) (.b2 .and (.bapp 1 (.cons (.opq 0) (.cons (.int .i64 (.lit (0))) .nil))) (.b2 .eq (.lit (-1099511627776)) (.iapp 1 (.cons (.opq 0) (.cons (.int .i64 (.lit (0))) .nil))))))) (.b2 .and (.b2 .le (.lit (0)) (.var 2)) (.b2 .and (.b2 .le (.var 2) (.ofI (.vop (.len 3) (.cons (.opq 0) .nil)))) (.b2 .and (.bapp 1 (.cons (.opq 0) (.cons (.int .i64 (.var 2)) .nil))) (.b2 .eq (.var 1) (.iapp 1 (.cons (.opq 0) (.cons (.int .i64 (.var 2)) .nil)))))))
 (.br (.b2 .lt (.var 2) (.ofI (.vop (.len 3) (.cons (.opq 0) .nil))))
 (.need (.b2 .and (.b2 .le (.lit (0)) (.var 2)) (.b2 .lt (.var 2) (.ofI (.vop (.len 3) (.cons (.opq 0) .nil)))))
 (.br (.b2 .lt (.ofI (.vop (.sel 3 0) (.cons (.opq 0) (.cons (.int .i64 (.var 2)) .nil)))) (.var 1))
 (.ret (.iface 108 (.int .i64 (.lit (1)))))
 (.br (.b2 .lt (.lit (1099511627776)) (.ofI (.vop (.sel 3 0) (.cons (.opq 0) (.cons (.int .i64 (.var 2)) .nil)))))
 (.ret (.iface 108 (.int .i64 (.lit (1)))))
 (.br (.not (.b2 .and (.b2 .le (.lit (-86399)) (.ofI (.vop (.sel 3 1) (.cons (.opq 0) (.cons (.int .i64 (.var 2)) .nil))))) (.b2 .le (.ofI (.vop (.sel 3 1) (.cons (.opq 0) (.cons (.int .i64 (.var 2)) .nil)))) (.lit (86399)))))
 (.ret (.iface 108 (.int .i64 (.lit (1)))))
 (.br (.not (.bapp 5 (.cons (.vop (.ssel 3 2) (.cons (.opq 0) (.cons (.int .i64 (.var 2)) .nil))) .nil)))
 (.ret (.iface 108 (.int .i64 (.lit (1)))))
 (.back (.b2 .and (.b2 .le (.lit (0)) (.wrap .i64 (.i2 .add (.var 2) (.lit (1))))) (.b2 .and (.b2 .le (.wrap .i64 (.i2 .add (.var 2) (.lit (1)))) (.ofI (.vop (.len 3) (.cons (.opq 0) .nil)))) (.b2 .and (.bapp 1 (.cons (.opq 0) (.cons (.int .i64 (.wrap .i64 (.i2 .add (.var 2) (.lit (1))))) .nil))) (.b2 .eq (.wrap .i64 (.i2 .add (.ofI (.vop (.sel 3 0) (.cons (.opq 0) (.cons (.int .i64 (.var 2)) .nil)))) (.lit (1)))) (.iapp 1 (.cons (.opq 0) (.cons (.int .i64 (.wrap .i64 (.i2 .add (.var 2) (.lit (1))))) .nil))))))) (.i2 .sub (.ofI (.vop (.len 3) (.cons (.opq 0) .nil))) (.wrap .i64 (.i2 .add (.var 2) (.lit (1))))) (.i2 .sub (.ofI (.vop (.len 3) (.cons (.opq 0) .nil))) (.var 2))))))))
 (.ret (.cst .nilI)))))))
abbrev zc_zck : Con := ⟨38, [(.agg (.cons (.str 0) (.cons (.int .i64 (.var 0)) (.cons (.hs .no (.cons (.int .i64) (.cons (.int .i64) (.cons .str .nil))) (.opq 0)) .nil))))], (.tt true), (.err (.iapp 2 (.cons (.str 0) (.cons (.int .i64 (.var 0)) (.cons (.opq 0) .nil))))), ⟨1, 0, 1, 1⟩, none⟩
theorem zck_w : walk Tryd.prog 108 ⟨[zc_zis, zc_zoff], syG⟩ [⟨0, ⟨2, 0, 0, 0⟩, [(3, (.int .i64 (.var 1))), (26, (.int .i64 (.var 2)))], none, (.b2 .and (.b2 .le (.lit (0)) (.var 2)) (.b2 .and (.b2 .le (.var 2) (.ofI (.vop (.len 3) (.cons (.opq 0) .nil)))) (.b2 .and (.bapp 1 (.cons (.opq 0) (.cons (.int .i64 (.var 2)) .nil))) (.b2 .eq (.var 1) (.iapp 1 (.cons (.opq 0) (.cons (.int .i64 (.var 2)) .nil))))))), (.i2 .sub (.ofI (.vop (.len 3) (.cons (.opq 0) .nil))) (.var 2)), 0, []⟩] .v zc_zck zc_zck.n 3000 = some zck_tree := by kernel_rfl
theorem zck_h (fst : Int) (l : Value) (nm : ByteArray) (hc : holds (zE [fst] [] [l] [nm]) (.tt true)) (hty : patsTyp (zE [fst] [] [l] [nm]) [(.agg (.cons (.str 0) (.cons (.int .i64 (.var 0)) (.cons (.hs .no (.cons (.int .i64) (.cons (.int .i64) (.cons .str .nil))) (.opq 0)) .nil))))]) : zck_tree.holds (fun d => d = denV (zE [fst] [] [l] [nm]) b0 (.err (.iapp 2 (.cons (.str 0) (.cons (.int .i64 (.var 0)) (.cons (.opq 0) .nil)))))) (zE [fst] [] [l] [nm]) := by
  simp only [Tree.holds, Sy.holds, AllN, Env.more, zE, List.cons_append, List.nil_append, List.append_nil, denV, denI, denB, denL, I2.den, VOp.den, List.getD_cons_zero, List.getD_cons_succ, Cst.den, syso, syse, syio, sybo, zi_ixl, zi_lst, zi_chk, zb_let, zb_rok, zb_zon, zb_shr, zb_pre, zb_nm, List.map_nil, List.map_cons, B2.ofInts, B2.denI, B2.denB, if_true, Bool.false_eq_true, if_false, Nat.div_one, Nat.mul_one, Nat.add_zero, holds] at hc
  simp only [patsTyp, patTyp, patTypL, zE, denV, denL, List.getD_cons_zero, List.getD_cons_succ, and_true, true_and] at hty
  have hL_l : typ (.sl (.cons (.int .i64) (.cons (.int .i64) (.cons .str .nil)))) l := by first | exact hty | exact hty.1 | exact hty.2 | exact hty.1.1 | exact hty.1.2 | exact hty.2.1 | exact hty.2.2 | exact hty.2.2.1 | exact hty.2.2.2
  have hN_l := typ_len (n := 3) hL_l rfl (by omega)
  unfold zck_tree
  simp only [Tree.holds, Sy.holds, AllN, Env.more, zE, List.cons_append, List.nil_append, List.append_nil, denV, denI, denB, denL, I2.den, VOp.den, List.getD_cons_zero, List.getD_cons_succ, Cst.den, syso, syse, syio, sybo, zi_ixl, zi_lst, zi_chk, zb_let, zb_rok, zb_zon, zb_shr, zb_pre, zb_nm, List.map_nil, List.map_cons, B2.ofInts, B2.denI, B2.denB, if_true, Bool.false_eq_true, if_false, Nat.div_one, Nat.mul_one, Nat.add_zero]
  refine ⟨fun h0 => ?_, fun h0 => ?_⟩
  ·
    first
    | (refine errV1 (chk_no fun hz => ?_)
       rw [zone_iff] at hz
       first
       | exact h0 hz.1
       | exact h1 hz.2.1
       | omega
       | (obtain ⟨hi1, hi2, hi3, hi4⟩ := hi0
          have hr := (rul_iff _ _).1 (okR_get hz.2.2.2 (k := i0b.toNat) (by omega))
          first
          | omega
          | exact h8 hr.2.2.2.2))
    | (refine errV0 (chk_yes ?_)
       rw [zone_iff]
       refine ⟨Decidable.of_not_not h0, Decidable.of_not_not h1, by omega, ?_⟩
       rw [show (rows l).length / 3 = i0b.toNat by omega]
       exact hi0.2.2.1)
  ·
    refine ⟨fun h1 => ?_, fun h1 => ?_⟩
    ·
      first
      | (refine errV1 (chk_no fun hz => ?_)
         rw [zone_iff] at hz
         first
         | exact h0 hz.1
         | exact h1 hz.2.1
         | omega
         | (obtain ⟨hi1, hi2, hi3, hi4⟩ := hi0
            have hr := (rul_iff _ _).1 (okR_get hz.2.2.2 (k := i0b.toNat) (by omega))
            first
            | omega
            | exact h8 hr.2.2.2.2))
      | (refine errV0 (chk_yes ?_)
         rw [zone_iff]
         refine ⟨Decidable.of_not_not h0, Decidable.of_not_not h1, by omega, ?_⟩
         rw [show (rows l).length / 3 = i0b.toNat by omega]
         exact hi0.2.2.1)
    ·
      refine ⟨fun h2 => ?_, fun h2 => ?_⟩
      ·
        first
        | (refine errV1 (chk_no fun hz => ?_)
           rw [zone_iff] at hz
           first
           | exact h0 hz.1
           | exact h1 hz.2.1
           | omega
           | (obtain ⟨hi1, hi2, hi3, hi4⟩ := hi0
              have hr := (rul_iff _ _).1 (okR_get hz.2.2.2 (k := i0b.toNat) (by omega))
              first
              | omega
              | exact h8 hr.2.2.2.2))
        | (refine errV0 (chk_yes ?_)
           rw [zone_iff]
           refine ⟨Decidable.of_not_not h0, Decidable.of_not_not h1, by omega, ?_⟩
           rw [show (rows l).length / 3 = i0b.toNat by omega]
           exact hi0.2.2.1)
      ·
        refine ⟨?_, ?_⟩
        ·
          exact ⟨by omega, by omega, rfl, rfl⟩
        ·
          intro i0a i0b hi0
          refine ⟨fun h3 => ?_, fun h3 => ?_⟩
          ·
            refine ⟨?_, fun h4 => ?_⟩
            ·
              omega
            ·
              refine ⟨fun h5 => ?_, fun h5 => ?_⟩
              ·
                first
                | (refine errV1 (chk_no fun hz => ?_)
                   rw [zone_iff] at hz
                   first
                   | exact h0 hz.1
                   | exact h1 hz.2.1
                   | omega
                   | (obtain ⟨hi1, hi2, hi3, hi4⟩ := hi0
                      have hr := (rul_iff _ _).1 (okR_get hz.2.2.2 (k := i0b.toNat) (by omega))
                      first
                      | omega
                      | exact h8 hr.2.2.2.2))
                | (refine errV0 (chk_yes ?_)
                   rw [zone_iff]
                   refine ⟨Decidable.of_not_not h0, Decidable.of_not_not h1, by omega, ?_⟩
                   rw [show (rows l).length / 3 = i0b.toNat by omega]
                   exact hi0.2.2.1)
              ·
                refine ⟨fun h6 => ?_, fun h6 => ?_⟩
                ·
                  first
                  | (refine errV1 (chk_no fun hz => ?_)
                     rw [zone_iff] at hz
                     first
                     | exact h0 hz.1
                     | exact h1 hz.2.1
                     | omega
                     | (obtain ⟨hi1, hi2, hi3, hi4⟩ := hi0
                        have hr := (rul_iff _ _).1 (okR_get hz.2.2.2 (k := i0b.toNat) (by omega))
                        first
                        | omega
                        | exact h8 hr.2.2.2.2))
                  | (refine errV0 (chk_yes ?_)
                     rw [zone_iff]
                     refine ⟨Decidable.of_not_not h0, Decidable.of_not_not h1, by omega, ?_⟩
                     rw [show (rows l).length / 3 = i0b.toNat by omega]
                     exact hi0.2.2.1)
                ·
                  refine ⟨fun h7 => ?_, fun h7 => ?_⟩
                  ·
                    first
                    | (refine errV1 (chk_no fun hz => ?_)
                       rw [zone_iff] at hz
                       first
                       | exact h0 hz.1
                       | exact h1 hz.2.1
                       | omega
                       | (obtain ⟨hi1, hi2, hi3, hi4⟩ := hi0
                          have hr := (rul_iff _ _).1 (okR_get hz.2.2.2 (k := i0b.toNat) (by omega))
                          first
                          | omega
                          | exact h8 hr.2.2.2.2))
                    | (refine errV0 (chk_yes ?_)
                       rw [zone_iff]
                       refine ⟨Decidable.of_not_not h0, Decidable.of_not_not h1, by omega, ?_⟩
                       rw [show (rows l).length / 3 = i0b.toNat by omega]
                       exact hi0.2.2.1)
                  ·
                    refine ⟨fun h8 => ?_, fun h8 => ?_⟩
                    ·
                      first
                      | (refine errV1 (chk_no fun hz => ?_)
                         rw [zone_iff] at hz
                         first
                         | exact h0 hz.1
                         | exact h1 hz.2.1
                         | omega
                         | (obtain ⟨hi1, hi2, hi3, hi4⟩ := hi0
                            have hr := (rul_iff _ _).1 (okR_get hz.2.2.2 (k := i0b.toNat) (by omega))
                            first
                            | omega
                            | exact h8 hr.2.2.2.2))
                      | (refine errV0 (chk_yes ?_)
                         rw [zone_iff]
                         refine ⟨Decidable.of_not_not h0, Decidable.of_not_not h1, by omega, ?_⟩
                         rw [show (rows l).length / 3 = i0b.toNat by omega]
                         exact hi0.2.2.1)
                    ·
                      have wf0 := wr_i64 (i0b + 1)
                      have wf1 := wr_i64 ((intOf ((rows l).getD (Int.toNat i0b * 3) Go.undef)) + 1)
                      refine ⟨?_, ?_⟩
                      ·
                        obtain ⟨hi1, hi2, hi3, hi4⟩ := hi0
                        have hge := least_ge hi3
                        have e : IntKind.wrap .i64 (i0b + 1) = i0b + 1 := by omega
                        have e2 : IntKind.wrap .i64 (intOf ((rows l).getD (i0b.toNat * 3) Go.undef) + 1) = intOf ((rows l).getD (i0b.toNat * 3) Go.undef) + 1 := by omega
                        rw [e, e2, show (i0b + 1).toNat = i0b.toNat + 1 by omega]
                        refine ⟨by omega, by omega, ?_, rfl⟩
                        simp only [okR, hi3, Bool.true_and]
                        exact (rul_iff _ _).2 ⟨by omega, by omega, by omega, by omega, Decidable.of_not_not h8⟩
                      ·
                        omega
          ·
            first
            | (refine errV1 (chk_no fun hz => ?_)
               rw [zone_iff] at hz
               first
               | exact h0 hz.1
               | exact h1 hz.2.1
               | omega
               | (obtain ⟨hi1, hi2, hi3, hi4⟩ := hi0
                  have hr := (rul_iff _ _).1 (okR_get hz.2.2.2 (k := i0b.toNat) (by omega))
                  first
                  | omega
                  | exact h8 hr.2.2.2.2))
            | (refine errV0 (chk_yes ?_)
               rw [zone_iff]
               refine ⟨Decidable.of_not_not h0, Decidable.of_not_not h1, by omega, ?_⟩
               rw [show (rows l).length / 3 = i0b.toNat by omega]
               exact hi0.2.2.1)
theorem zg_zck : zc_zck.Good Tryd.prog syG (zE [] [] [] []) := good_of_walk (Γ := ⟨[zc_zis, zc_zoff], syG⟩) (ρ := zE [] [] [] []) sym zck_w rfl (fun _ _ _ _ => (ok_cons (Con.Good.env zg_zis _ _ _ _) (ok_cons (Con.Good.env zg_zoff _ _ _ _) ok_nil))) (fun fst l nm hc hty => zck_h fst l nm hc hty)
def rname_tree : Tree :=
 (.loop ⟨1, 0, 0, 0⟩ (.b2 .and (.b2 .le (.lit (0)) (.lit (0))) (.b2 .and (.b2 .le (.lit (0)) (.blen (.str 0))) (.bapp 4 (.cons (.vop .s2b (.cons (.str 0) .nil)) (.cons (.int .i64 (.lit (0))) .nil))))) (.b2 .and (.b2 .le (.lit (0)) (.var 0)) (.b2 .and (.b2 .le (.var 0) (.blen (.str 0))) (.bapp 4 (.cons (.vop .s2b (.cons (.str 0) .nil)) (.cons (.int .i64 (.var 0)) .nil)))))
 (.br (.b2 .lt (.var 0) (.blen (.str 0)))
 (.need (.b2 .and (.b2 .le (.lit (0)) (.var 0)) (.b2 .lt (.var 0) (.blen (.str 0))))
 (.br (.b2 .le (.lit (97)) (.ofI (.vop .schr (.cons (.str 0) (.cons (.int .i64 (.var 0)) .nil)))))
 (.br (.b2 .le (.ofI (.vop .schr (.cons (.str 0) (.cons (.int .i64 (.var 0)) .nil)))) (.lit (122)))
 (.back (.b2 .and (.b2 .le (.lit (0)) (.wrap .i64 (.i2 .add (.var 0) (.lit (1))))) (.b2 .and (.b2 .le (.wrap .i64 (.i2 .add (.var 0) (.lit (1)))) (.blen (.str 0))) (.bapp 4 (.cons (.vop .s2b (.cons (.str 0) .nil)) (.cons (.int .i64 (.wrap .i64 (.i2 .add (.var 0) (.lit (1))))) .nil))))) (.i2 .sub (.blen (.str 0)) (.wrap .i64 (.i2 .add (.var 0) (.lit (1))))) (.i2 .sub (.blen (.str 0)) (.var 0)))
 (.br (.b2 .le (.lit (65)) (.ofI (.vop .schr (.cons (.str 0) (.cons (.int .i64 (.var 0)) .nil)))))
 (.br (.b2 .le (.ofI (.vop .schr (.cons (.str 0) (.cons (.int .i64 (.var 0)) .nil)))) (.lit (90)))
 (.back (.b2 .and (.b2 .le (.lit (0)) (.wrap .i64 (.i2 .add (.var 0) (.lit (1))))) (.b2 .and (.b2 .le (.wrap .i64 (.i2 .add (.var 0) (.lit (1)))) (.blen (.str 0))) (.bapp 4 (.cons (.vop .s2b (.cons (.str 0) .nil)) (.cons (.int .i64 (.wrap .i64 (.i2 .add (.var 0) (.lit (1))))) .nil))))) (.i2 .sub (.blen (.str 0)) (.wrap .i64 (.i2 .add (.var 0) (.lit (1))))) (.i2 .sub (.blen (.str 0)) (.var 0)))
 (.br (.b2 .le (.lit (48)) (.ofI (.vop .schr (.cons (.str 0) (.cons (.int .i64 (.var 0)) .nil)))))
 (.br (.b2 .le (.ofI (.vop .schr (.cons (.str 0) (.cons (.int .i64 (.var 0)) .nil)))) (.lit (57)))
 (.back (.b2 .and (.b2 .le (.lit (0)) (.wrap .i64 (.i2 .add (.var 0) (.lit (1))))) (.b2 .and (.b2 .le (.wrap .i64 (.i2 .add (.var 0) (.lit (1)))) (.blen (.str 0))) (.bapp 4 (.cons (.vop .s2b (.cons (.str 0) .nil)) (.cons (.int .i64 (.wrap .i64 (.i2 .add (.var 0) (.lit (1))))) .nil))))) (.i2 .sub (.blen (.str 0)) (.wrap .i64 (.i2 .add (.var 0) (.lit (1))))) (.i2 .sub (.blen (.str 0)) (.var 0)))
 (.br (.b2 .eq (.ofI (.vop .schr (.cons (.str 0) (.cons (.int .i64 (.var 0)) .nil)))) (.lit (47)))
 (.back (.b2 .and (.b2 .le (.lit (0)) (.wrap .i64 (.i2 .add (.var 0) (.lit (1))))) (.b2 .and (.b2 .le (.wrap .i64 (.i2 .add (.var 0) (.lit (1)))) (.blen (.str 0))) (.bapp 4 (.cons (.vop .s2b (.cons (.str 0) .nil)) (.cons (.int .i64 (.wrap .i64 (.i2 .add (.var 0) (.lit (1))))) .nil))))) (.i2 .sub (.blen (.str 0)) (.wrap .i64 (.i2 .add (.var 0) (.lit (1))))) (.i2 .sub (.blen (.str 0)) (.var 0)))
 (.br (.b2 .eq (.ofI (.vop .schr (.cons (.str 0) (.cons (.int .i64 (.var 0)) .nil)))) (.lit (95)))
 (.back (.b2 .and (.b2 .le (.lit (0)) (.wrap .i64 (.i2 .add (.var 0) (.lit (1))))) (.b2 .and (.b2 .le (.wrap .i64 (.i2 .add (.var 0) (.lit (1)))) (.blen (.str 0))) (.bapp 4 (.cons (.vop .s2b (.cons (.str 0) .nil)) (.cons (.int .i64 (.wrap .i64 (.i2 .add (.var 0) (.lit (1))))) .nil))))) (.i2 .sub (.blen (.str 0)) (.wrap .i64 (.i2 .add (.var 0) (.lit (1))))) (.i2 .sub (.blen (.str 0)) (.var 0)))
 (.br (.b2 .eq (.ofI (.vop .schr (.cons (.str 0) (.cons (.int .i64 (.var 0)) .nil)))) (.lit (43)))
 (.back (.b2 .and (.b2 .le (.lit (0)) (.wrap .i64 (.i2 .add (.var 0) (.lit (1))))) (.b2 .and (.b2 .le (.wrap .i64 (.i2 .add (.var 0) (.lit (1)))) (.blen (.str 0))) (.bapp 4 (.cons (.vop .s2b (.cons (.str 0) .nil)) (.cons (.int .i64 (.wrap .i64 (.i2 .add (.var 0) (.lit (1))))) .nil))))) (.i2 .sub (.blen (.str 0)) (.wrap .i64 (.i2 .add (.var 0) (.lit (1))))) (.i2 .sub (.blen (.str 0)) (.var 0)))
 (.br (.not (.b2 .eq (.ofI (.vop .schr (.cons (.str 0) (.cons (.int .i64 (.var 0)) .nil)))) (.lit (45))))
 (.ret (.bool (.tt false)))
 (.back (.b2 .and (.b2 .le (.lit (0)) (.wrap .i64 (.i2 .add (.var 0) (.lit (1))))) (.b2 .and (.b2 .le (.wrap .i64 (.i2 .add (.var 0) (.lit (1)))) (.blen (.str 0))) (.bapp 4 (.cons (.vop .s2b (.cons (.str 0) .nil)) (.cons (.int .i64 (.wrap .i64 (.i2 .add (.var 0) (.lit (1))))) .nil))))) (.i2 .sub (.blen (.str 0)) (.wrap .i64 (.i2 .add (.var 0) (.lit (1))))) (.i2 .sub (.blen (.str 0)) (.var 0))))))))
 (.br (.b2 .eq (.ofI (.vop .schr (.cons (.str 0) (.cons (.int .i64 (.var 0)) .nil)))) (.lit (47)))
 (.back (.b2 .and (.b2 .le (.lit (0)) (.wrap .i64 (.i2 .add (.var 0) (.lit (1))))) (.b2 .and (.b2 .le (.wrap .i64 (.i2 .add (.var 0) (.lit (1)))) (.blen (.str 0))) (.bapp 4 (.cons (.vop .s2b (.cons (.str 0) .nil)) (.cons (.int .i64 (.wrap .i64 (.i2 .add (.var 0) (.lit (1))))) .nil))))) (.i2 .sub (.blen (.str 0)) (.wrap .i64 (.i2 .add (.var 0) (.lit (1))))) (.i2 .sub (.blen (.str 0)) (.var 0)))
 (.br (.b2 .eq (.ofI (.vop .schr (.cons (.str 0) (.cons (.int .i64 (.var 0)) .nil)))) (.lit (95)))
 (.back (.b2 .and (.b2 .le (.lit (0)) (.wrap .i64 (.i2 .add (.var 0) (.lit (1))))) (.b2 .and (.b2 .le (.wrap .i64 (.i2 .add (.var 0) (.lit (1)))) (.blen (.str 0))) (.bapp 4 (.cons (.vop .s2b (.cons (.str 0) .nil)) (.cons (.int .i64 (.wrap .i64 (.i2 .add (.var 0) (.lit (1))))) .nil))))) (.i2 .sub (.blen (.str 0)) (.wrap .i64 (.i2 .add (.var 0) (.lit (1))))) (.i2 .sub (.blen (.str 0)) (.var 0)))
 (.br (.b2 .eq (.ofI (.vop .schr (.cons (.str 0) (.cons (.int .i64 (.var 0)) .nil)))) (.lit (43)))
 (.back (.b2 .and (.b2 .le (.lit (0)) (.wrap .i64 (.i2 .add (.var 0) (.lit (1))))) (.b2 .and (.b2 .le (.wrap .i64 (.i2 .add (.var 0) (.lit (1)))) (.blen (.str 0))) (.bapp 4 (.cons (.vop .s2b (.cons (.str 0) .nil)) (.cons (.int .i64 (.wrap .i64 (.i2 .add (.var 0) (.lit (1))))) .nil))))) (.i2 .sub (.blen (.str 0)) (.wrap .i64 (.i2 .add (.var 0) (.lit (1))))) (.i2 .sub (.blen (.str 0)) (.var 0)))
 (.br (.not (.b2 .eq (.ofI (.vop .schr (.cons (.str 0) (.cons (.int .i64 (.var 0)) .nil)))) (.lit (45))))
 (.ret (.bool (.tt false)))
 (.back (.b2 .and (.b2 .le (.lit (0)) (.wrap .i64 (.i2 .add (.var 0) (.lit (1))))) (.b2 .and (.b2 .le (.wrap .i64 (.i2 .add (.var 0) (.lit (1)))) (.blen (.str 0))) (.bapp 4 (.cons (.vop .s2b (.cons (.str 0) .nil)) (.cons (.int .i64 (.wrap .i64 (.i2 .add (.var 0) (.lit (1))))) .nil))))) (.i2 .sub (.blen (.str 0)) (.wrap .i64 (.i2 .add (.var 0) (.lit (1))))) (.i2 .sub (.blen (.str 0)) (.var 0)))))))))
 (.br (.b2 .le (.lit (48)) (.ofI (.vop .schr (.cons (.str 0) (.cons (.int .i64 (.var 0)) .nil)))))
 (.br (.b2 .le (.ofI (.vop .schr (.cons (.str 0) (.cons (.int .i64 (.var 0)) .nil)))) (.lit (57)))
 (.back (.b2 .and (.b2 .le (.lit (0)) (.wrap .i64 (.i2 .add (.var 0) (.lit (1))))) (.b2 .and (.b2 .le (.wrap .i64 (.i2 .add (.var 0) (.lit (1)))) (.blen (.str 0))) (.bapp 4 (.cons (.vop .s2b (.cons (.str 0) .nil)) (.cons (.int .i64 (.wrap .i64 (.i2 .add (.var 0) (.lit (1))))) .nil))))) (.i2 .sub (.blen (.str 0)) (.wrap .i64 (.i2 .add (.var 0) (.lit (1))))) (.i2 .sub (.blen (.str 0)) (.var 0)))
 (.br (.b2 .eq (.ofI (.vop .schr (.cons (.str 0) (.cons (.int .i64 (.var 0)) .nil)))) (.lit (47)))
 (.back (.b2 .and (.b2 .le (.lit (0)) (.wrap .i64 (.i2 .add (.var 0) (.lit (1))))) (.b2 .and (.b2 .le (.wrap .i64 (.i2 .add (.var 0) (.lit (1)))) (.blen (.str 0))) (.bapp 4 (.cons (.vop .s2b (.cons (.str 0) .nil)) (.cons (.int .i64 (.wrap .i64 (.i2 .add (.var 0) (.lit (1))))) .nil))))) (.i2 .sub (.blen (.str 0)) (.wrap .i64 (.i2 .add (.var 0) (.lit (1))))) (.i2 .sub (.blen (.str 0)) (.var 0)))
 (.br (.b2 .eq (.ofI (.vop .schr (.cons (.str 0) (.cons (.int .i64 (.var 0)) .nil)))) (.lit (95)))
 (.back (.b2 .and (.b2 .le (.lit (0)) (.wrap .i64 (.i2 .add (.var 0) (.lit (1))))) (.b2 .and (.b2 .le (.wrap .i64 (.i2 .add (.var 0) (.lit (1)))) (.blen (.str 0))) (.bapp 4 (.cons (.vop .s2b (.cons (.str 0) .nil)) (.cons (.int .i64 (.wrap .i64 (.i2 .add (.var 0) (.lit (1))))) .nil))))) (.i2 .sub (.blen (.str 0)) (.wrap .i64 (.i2 .add (.var 0) (.lit (1))))) (.i2 .sub (.blen (.str 0)) (.var 0)))
 (.br (.b2 .eq (.ofI (.vop .schr (.cons (.str 0) (.cons (.int .i64 (.var 0)) .nil)))) (.lit (43)))
 (.back (.b2 .and (.b2 .le (.lit (0)) (.wrap .i64 (.i2 .add (.var 0) (.lit (1))))) (.b2 .and (.b2 .le (.wrap .i64 (.i2 .add (.var 0) (.lit (1)))) (.blen (.str 0))) (.bapp 4 (.cons (.vop .s2b (.cons (.str 0) .nil)) (.cons (.int .i64 (.wrap .i64 (.i2 .add (.var 0) (.lit (1))))) .nil))))) (.i2 .sub (.blen (.str 0)) (.wrap .i64 (.i2 .add (.var 0) (.lit (1))))) (.i2 .sub (.blen (.str 0)) (.var 0)))
 (.br (.not (.b2 .eq (.ofI (.vop .schr (.cons (.str 0) (.cons (.int .i64 (.var 0)) .nil)))) (.lit (45))))
 (.ret (.bool (.tt false)))
 (.back (.b2 .and (.b2 .le (.lit (0)) (.wrap .i64 (.i2 .add (.var 0) (.lit (1))))) (.b2 .and (.b2 .le (.wrap .i64 (.i2 .add (.var 0) (.lit (1)))) (.blen (.str 0))) (.bapp 4 (.cons (.vop .s2b (.cons (.str 0) .nil)) (.cons (.int .i64 (.wrap .i64 (.i2 .add (.var 0) (.lit (1))))) .nil))))) (.i2 .sub (.blen (.str 0)) (.wrap .i64 (.i2 .add (.var 0) (.lit (1))))) (.i2 .sub (.blen (.str 0)) (.var 0))))))))
 (.br (.b2 .eq (.ofI (.vop .schr (.cons (.str 0) (.cons (.int .i64 (.var 0)) .nil)))) (.lit (47)))
 (.back (.b2 .and (.b2 .le (.lit (0)) (.wrap .i64 (.i2 .add (.var 0) (.lit (1))))) (.b2 .and (.b2 .le (.wrap .i64 (.i2 .add (.var 0) (.lit (1)))) (.blen (.str 0))) (.bapp 4 (.cons (.vop .s2b (.cons (.str 0) .nil)) (.cons (.int .i64 (.wrap .i64 (.i2 .add (.var 0) (.lit (1))))) .nil))))) (.i2 .sub (.blen (.str 0)) (.wrap .i64 (.i2 .add (.var 0) (.lit (1))))) (.i2 .sub (.blen (.str 0)) (.var 0)))
 (.br (.b2 .eq (.ofI (.vop .schr (.cons (.str 0) (.cons (.int .i64 (.var 0)) .nil)))) (.lit (95)))
 (.back (.b2 .and (.b2 .le (.lit (0)) (.wrap .i64 (.i2 .add (.var 0) (.lit (1))))) (.b2 .and (.b2 .le (.wrap .i64 (.i2 .add (.var 0) (.lit (1)))) (.blen (.str 0))) (.bapp 4 (.cons (.vop .s2b (.cons (.str 0) .nil)) (.cons (.int .i64 (.wrap .i64 (.i2 .add (.var 0) (.lit (1))))) .nil))))) (.i2 .sub (.blen (.str 0)) (.wrap .i64 (.i2 .add (.var 0) (.lit (1))))) (.i2 .sub (.blen (.str 0)) (.var 0)))
 (.br (.b2 .eq (.ofI (.vop .schr (.cons (.str 0) (.cons (.int .i64 (.var 0)) .nil)))) (.lit (43)))
 (.back (.b2 .and (.b2 .le (.lit (0)) (.wrap .i64 (.i2 .add (.var 0) (.lit (1))))) (.b2 .and (.b2 .le (.wrap .i64 (.i2 .add (.var 0) (.lit (1)))) (.blen (.str 0))) (.bapp 4 (.cons (.vop .s2b (.cons (.str 0) .nil)) (.cons (.int .i64 (.wrap .i64 (.i2 .add (.var 0) (.lit (1))))) .nil))))) (.i2 .sub (.blen (.str 0)) (.wrap .i64 (.i2 .add (.var 0) (.lit (1))))) (.i2 .sub (.blen (.str 0)) (.var 0)))
 (.br (.not (.b2 .eq (.ofI (.vop .schr (.cons (.str 0) (.cons (.int .i64 (.var 0)) .nil)))) (.lit (45))))
 (.ret (.bool (.tt false)))
 (.back (.b2 .and (.b2 .le (.lit (0)) (.wrap .i64 (.i2 .add (.var 0) (.lit (1))))) (.b2 .and (.b2 .le (.wrap .i64 (.i2 .add (.var 0) (.lit (1)))) (.blen (.str 0))) (.bapp 4 (.cons (.vop .s2b (.cons (.str 0) .nil)) (.cons (.int .i64 (.wrap .i64 (.i2 .add (.var 0) (.lit (1))))) .nil))))) (.i2 .sub (.blen (.str 0)) (.wrap .i64 (.i2 .add (.var 0) (.lit (1))))) (.i2 .sub (.blen (.str 0)) (.var 0))))))))))
 (.br (.b2 .le (.lit (65)) (.ofI (.vop .schr (.cons (.str 0) (.cons (.int .i64 (.var 0)) .nil)))))
 (.br (.b2 .le (.ofI (.vop .schr (.cons (.str 0) (.cons (.int .i64 (.var 0)) .nil)))) (.lit (90)))
 (.back (.b2 .and (.b2 .le (.lit (0)) (.wrap .i64 (.i2 .add (.var 0) (.lit (1))))) (.b2 .and (.b2 .le (.wrap .i64 (.i2 .add (.var 0) (.lit (1)))) (.blen (.str 0))) (.bapp 4 (.cons (.vop .s2b (.cons (.str 0) .nil)) (.cons (.int .i64 (.wrap .i64 (.i2 .add (.var 0) (.lit (1))))) .nil))))) (.i2 .sub (.blen (.str 0)) (.wrap .i64 (.i2 .add (.var 0) (.lit (1))))) (.i2 .sub (.blen (.str 0)) (.var 0)))
 (.br (.b2 .le (.lit (48)) (.ofI (.vop .schr (.cons (.str 0) (.cons (.int .i64 (.var 0)) .nil)))))
 (.br (.b2 .le (.ofI (.vop .schr (.cons (.str 0) (.cons (.int .i64 (.var 0)) .nil)))) (.lit (57)))
 (.back (.b2 .and (.b2 .le (.lit (0)) (.wrap .i64 (.i2 .add (.var 0) (.lit (1))))) (.b2 .and (.b2 .le (.wrap .i64 (.i2 .add (.var 0) (.lit (1)))) (.blen (.str 0))) (.bapp 4 (.cons (.vop .s2b (.cons (.str 0) .nil)) (.cons (.int .i64 (.wrap .i64 (.i2 .add (.var 0) (.lit (1))))) .nil))))) (.i2 .sub (.blen (.str 0)) (.wrap .i64 (.i2 .add (.var 0) (.lit (1))))) (.i2 .sub (.blen (.str 0)) (.var 0)))
 (.br (.b2 .eq (.ofI (.vop .schr (.cons (.str 0) (.cons (.int .i64 (.var 0)) .nil)))) (.lit (47)))
 (.back (.b2 .and (.b2 .le (.lit (0)) (.wrap .i64 (.i2 .add (.var 0) (.lit (1))))) (.b2 .and (.b2 .le (.wrap .i64 (.i2 .add (.var 0) (.lit (1)))) (.blen (.str 0))) (.bapp 4 (.cons (.vop .s2b (.cons (.str 0) .nil)) (.cons (.int .i64 (.wrap .i64 (.i2 .add (.var 0) (.lit (1))))) .nil))))) (.i2 .sub (.blen (.str 0)) (.wrap .i64 (.i2 .add (.var 0) (.lit (1))))) (.i2 .sub (.blen (.str 0)) (.var 0)))
 (.br (.b2 .eq (.ofI (.vop .schr (.cons (.str 0) (.cons (.int .i64 (.var 0)) .nil)))) (.lit (95)))
 (.back (.b2 .and (.b2 .le (.lit (0)) (.wrap .i64 (.i2 .add (.var 0) (.lit (1))))) (.b2 .and (.b2 .le (.wrap .i64 (.i2 .add (.var 0) (.lit (1)))) (.blen (.str 0))) (.bapp 4 (.cons (.vop .s2b (.cons (.str 0) .nil)) (.cons (.int .i64 (.wrap .i64 (.i2 .add (.var 0) (.lit (1))))) .nil))))) (.i2 .sub (.blen (.str 0)) (.wrap .i64 (.i2 .add (.var 0) (.lit (1))))) (.i2 .sub (.blen (.str 0)) (.var 0)))
 (.br (.b2 .eq (.ofI (.vop .schr (.cons (.str 0) (.cons (.int .i64 (.var 0)) .nil)))) (.lit (43)))
 (.back (.b2 .and (.b2 .le (.lit (0)) (.wrap .i64 (.i2 .add (.var 0) (.lit (1))))) (.b2 .and (.b2 .le (.wrap .i64 (.i2 .add (.var 0) (.lit (1)))) (.blen (.str 0))) (.bapp 4 (.cons (.vop .s2b (.cons (.str 0) .nil)) (.cons (.int .i64 (.wrap .i64 (.i2 .add (.var 0) (.lit (1))))) .nil))))) (.i2 .sub (.blen (.str 0)) (.wrap .i64 (.i2 .add (.var 0) (.lit (1))))) (.i2 .sub (.blen (.str 0)) (.var 0)))
 (.br (.not (.b2 .eq (.ofI (.vop .schr (.cons (.str 0) (.cons (.int .i64 (.var 0)) .nil)))) (.lit (45))))
 (.ret (.bool (.tt false)))
 (.back (.b2 .and (.b2 .le (.lit (0)) (.wrap .i64 (.i2 .add (.var 0) (.lit (1))))) (.b2 .and (.b2 .le (.wrap .i64 (.i2 .add (.var 0) (.lit (1)))) (.blen (.str 0))) (.bapp 4 (.cons (.vop .s2b (.cons (.str 0) .nil)) (.cons (.int .i64 (.wrap .i64 (.i2 .add (.var 0) (.lit (1))))) .nil))))) (.i2 .sub (.blen (.str 0)) (.wrap .i64 (.i2 .add (.var 0) (.lit (1))))) (.i2 .sub (.blen (.str 0)) (.var 0))))))))
 (.br (.b2 .eq (.ofI (.vop .schr (.cons (.str 0) (.cons (.int .i64 (.var 0)) .nil)))) (.lit (47)))
 (.back (.b2 .and (.b2 .le (.lit (0)) (.wrap .i64 (.i2 .add (.var 0) (.lit (1))))) (.b2 .and (.b2 .le (.wrap .i64 (.i2 .add (.var 0) (.lit (1)))) (.blen (.str 0))) (.bapp 4 (.cons (.vop .s2b (.cons (.str 0) .nil)) (.cons (.int .i64 (.wrap .i64 (.i2 .add (.var 0) (.lit (1))))) .nil))))) (.i2 .sub (.blen (.str 0)) (.wrap .i64 (.i2 .add (.var 0) (.lit (1))))) (.i2 .sub (.blen (.str 0)) (.var 0)))
 (.br (.b2 .eq (.ofI (.vop .schr (.cons (.str 0) (.cons (.int .i64 (.var 0)) .nil)))) (.lit (95)))
 (.back (.b2 .and (.b2 .le (.lit (0)) (.wrap .i64 (.i2 .add (.var 0) (.lit (1))))) (.b2 .and (.b2 .le (.wrap .i64 (.i2 .add (.var 0) (.lit (1)))) (.blen (.str 0))) (.bapp 4 (.cons (.vop .s2b (.cons (.str 0) .nil)) (.cons (.int .i64 (.wrap .i64 (.i2 .add (.var 0) (.lit (1))))) .nil))))) (.i2 .sub (.blen (.str 0)) (.wrap .i64 (.i2 .add (.var 0) (.lit (1))))) (.i2 .sub (.blen (.str 0)) (.var 0)))
 (.br (.b2 .eq (.ofI (.vop .schr (.cons (.str 0) (.cons (.int .i64 (.var 0)) .nil)))) (.lit (43)))
 (.back (.b2 .and (.b2 .le (.lit (0)) (.wrap .i64 (.i2 .add (.var 0) (.lit (1))))) (.b2 .and (.b2 .le (.wrap .i64 (.i2 .add (.var 0) (.lit (1)))) (.blen (.str 0))) (.bapp 4 (.cons (.vop .s2b (.cons (.str 0) .nil)) (.cons (.int .i64 (.wrap .i64 (.i2 .add (.var 0) (.lit (1))))) .nil))))) (.i2 .sub (.blen (.str 0)) (.wrap .i64 (.i2 .add (.var 0) (.lit (1))))) (.i2 .sub (.blen (.str 0)) (.var 0)))
 (.br (.not (.b2 .eq (.ofI (.vop .schr (.cons (.str 0) (.cons (.int .i64 (.var 0)) .nil)))) (.lit (45))))
 (.ret (.bool (.tt false)))
 (.back (.b2 .and (.b2 .le (.lit (0)) (.wrap .i64 (.i2 .add (.var 0) (.lit (1))))) (.b2 .and (.b2 .le (.wrap .i64 (.i2 .add (.var 0) (.lit (1)))) (.blen (.str 0))) (.bapp 4 (.cons (.vop .s2b (.cons (.str 0) .nil)) (.cons (.int .i64 (.wrap .i64 (.i2 .add (.var 0) (.lit (1))))) .nil))))) (.i2 .sub (.blen (.str 0)) (.wrap .i64 (.i2 .add (.var 0) (.lit (1))))) (.i2 .sub (.blen (.str 0)) (.var 0)))))))))
 (.br (.b2 .le (.lit (48)) (.ofI (.vop .schr (.cons (.str 0) (.cons (.int .i64 (.var 0)) .nil)))))
 (.br (.b2 .le (.ofI (.vop .schr (.cons (.str 0) (.cons (.int .i64 (.var 0)) .nil)))) (.lit (57)))
 (.back (.b2 .and (.b2 .le (.lit (0)) (.wrap .i64 (.i2 .add (.var 0) (.lit (1))))) (.b2 .and (.b2 .le (.wrap .i64 (.i2 .add (.var 0) (.lit (1)))) (.blen (.str 0))) (.bapp 4 (.cons (.vop .s2b (.cons (.str 0) .nil)) (.cons (.int .i64 (.wrap .i64 (.i2 .add (.var 0) (.lit (1))))) .nil))))) (.i2 .sub (.blen (.str 0)) (.wrap .i64 (.i2 .add (.var 0) (.lit (1))))) (.i2 .sub (.blen (.str 0)) (.var 0)))
 (.br (.b2 .eq (.ofI (.vop .schr (.cons (.str 0) (.cons (.int .i64 (.var 0)) .nil)))) (.lit (47)))
 (.back (.b2 .and (.b2 .le (.lit (0)) (.wrap .i64 (.i2 .add (.var 0) (.lit (1))))) (.b2 .and (.b2 .le (.wrap .i64 (.i2 .add (.var 0) (.lit (1)))) (.blen (.str 0))) (.bapp 4 (.cons (.vop .s2b (.cons (.str 0) .nil)) (.cons (.int .i64 (.wrap .i64 (.i2 .add (.var 0) (.lit (1))))) .nil))))) (.i2 .sub (.blen (.str 0)) (.wrap .i64 (.i2 .add (.var 0) (.lit (1))))) (.i2 .sub (.blen (.str 0)) (.var 0)))
 (.br (.b2 .eq (.ofI (.vop .schr (.cons (.str 0) (.cons (.int .i64 (.var 0)) .nil)))) (.lit (95)))
 (.back (.b2 .and (.b2 .le (.lit (0)) (.wrap .i64 (.i2 .add (.var 0) (.lit (1))))) (.b2 .and (.b2 .le (.wrap .i64 (.i2 .add (.var 0) (.lit (1)))) (.blen (.str 0))) (.bapp 4 (.cons (.vop .s2b (.cons (.str 0) .nil)) (.cons (.int .i64 (.wrap .i64 (.i2 .add (.var 0) (.lit (1))))) .nil))))) (.i2 .sub (.blen (.str 0)) (.wrap .i64 (.i2 .add (.var 0) (.lit (1))))) (.i2 .sub (.blen (.str 0)) (.var 0)))
 (.br (.b2 .eq (.ofI (.vop .schr (.cons (.str 0) (.cons (.int .i64 (.var 0)) .nil)))) (.lit (43)))
 (.back (.b2 .and (.b2 .le (.lit (0)) (.wrap .i64 (.i2 .add (.var 0) (.lit (1))))) (.b2 .and (.b2 .le (.wrap .i64 (.i2 .add (.var 0) (.lit (1)))) (.blen (.str 0))) (.bapp 4 (.cons (.vop .s2b (.cons (.str 0) .nil)) (.cons (.int .i64 (.wrap .i64 (.i2 .add (.var 0) (.lit (1))))) .nil))))) (.i2 .sub (.blen (.str 0)) (.wrap .i64 (.i2 .add (.var 0) (.lit (1))))) (.i2 .sub (.blen (.str 0)) (.var 0)))
 (.br (.not (.b2 .eq (.ofI (.vop .schr (.cons (.str 0) (.cons (.int .i64 (.var 0)) .nil)))) (.lit (45))))
 (.ret (.bool (.tt false)))
 (.back (.b2 .and (.b2 .le (.lit (0)) (.wrap .i64 (.i2 .add (.var 0) (.lit (1))))) (.b2 .and (.b2 .le (.wrap .i64 (.i2 .add (.var 0) (.lit (1)))) (.blen (.str 0))) (.bapp 4 (.cons (.vop .s2b (.cons (.str 0) .nil)) (.cons (.int .i64 (.wrap .i64 (.i2 .add (.var 0) (.lit (1))))) .nil))))) (.i2 .sub (.blen (.str 0)) (.wrap .i64 (.i2 .add (.var 0) (.lit (1))))) (.i2 .sub (.blen (.str 0)) (.var 0))))))))
 (.br (.b2 .eq (.ofI (.vop .schr (.cons (.str 0) (.cons (.int .i64 (.var 0)) .nil)))) (.lit (47)))
 (.back (.b2 .and (.b2 .le (.lit (0)) (.wrap .i64 (.i2 .add (.var 0) (.lit (1))))) (.b2 .and (.b2 .le (.wrap .i64 (.i2 .add (.var 0) (.lit (1)))) (.blen (.str 0))) (.bapp 4 (.cons (.vop .s2b (.cons (.str 0) .nil)) (.cons (.int .i64 (.wrap .i64 (.i2 .add (.var 0) (.lit (1))))) .nil))))) (.i2 .sub (.blen (.str 0)) (.wrap .i64 (.i2 .add (.var 0) (.lit (1))))) (.i2 .sub (.blen (.str 0)) (.var 0)))
 (.br (.b2 .eq (.ofI (.vop .schr (.cons (.str 0) (.cons (.int .i64 (.var 0)) .nil)))) (.lit (95)))
 (.back (.b2 .and (.b2 .le (.lit (0)) (.wrap .i64 (.i2 .add (.var 0) (.lit (1))))) (.b2 .and (.b2 .le (.wrap .i64 (.i2 .add (.var 0) (.lit (1)))) (.blen (.str 0))) (.bapp 4 (.cons (.vop .s2b (.cons (.str 0) .nil)) (.cons (.int .i64 (.wrap .i64 (.i2 .add (.var 0) (.lit (1))))) .nil))))) (.i2 .sub (.blen (.str 0)) (.wrap .i64 (.i2 .add (.var 0) (.lit (1))))) (.i2 .sub (.blen (.str 0)) (.var 0)))
 (.br (.b2 .eq (.ofI (.vop .schr (.cons (.str 0) (.cons (.int .i64 (.var 0)) .nil)))) (.lit (43)))
 (.back (.b2 .and (.b2 .le (.lit (0)) (.wrap .i64 (.i2 .add (.var 0) (.lit (1))))) (.b2 .and (.b2 .le (.wrap .i64 (.i2 .add (.var 0) (.lit (1)))) (.blen (.str 0))) (.bapp 4 (.cons (.vop .s2b (.cons (.str 0) .nil)) (.cons (.int .i64 (.wrap .i64 (.i2 .add (.var 0) (.lit (1))))) .nil))))) (.i2 .sub (.blen (.str 0)) (.wrap .i64 (.i2 .add (.var 0) (.lit (1))))) (.i2 .sub (.blen (.str 0)) (.var 0)))
 (.br (.not (.b2 .eq (.ofI (.vop .schr (.cons (.str 0) (.cons (.int .i64 (.var 0)) .nil)))) (.lit (45))))
 (.ret (.bool (.tt false)))
 (.back (.b2 .and (.b2 .le (.lit (0)) (.wrap .i64 (.i2 .add (.var 0) (.lit (1))))) (.b2 .and (.b2 .le (.wrap .i64 (.i2 .add (.var 0) (.lit (1)))) (.blen (.str 0))) (.bapp 4 (.cons (.vop .s2b (.cons (.str 0) .nil)) (.cons (.int .i64 (.wrap .i64 (.i2 .add (.var 0) (.lit (1))))) .nil))))) (.i2 .sub (.blen (.str 0)) (.wrap .i64 (.i2 .add (.var 0) (.lit (1))))) (.i2 .sub (.blen (.str 0)) (.var 0)))))))))))
 (.br (.b2 .le (.lit (1)) (.blen (.str 0)))
 (.ret (.bool (.b2 .le (.blen (.str 0)) (.lit (12)))))
 (.ret (.bool (.tt false))))))
abbrev zc_rname : Con := ⟨80, [(.str 0)], (.b2 .le (.blen (.str 0)) (.lit (200))), (.bool (.bapp 5 (.cons (.str 0) .nil))), ⟨0, 0, 0, 1⟩, none⟩
theorem rname_w : walk Tryd.prog 108 ⟨[], syG⟩ [⟨0, ⟨1, 0, 0, 0⟩, [(3, (.int .i64 (.var 0)))], none, (.b2 .and (.b2 .le (.lit (0)) (.var 0)) (.b2 .and (.b2 .le (.var 0) (.blen (.str 0))) (.bapp 4 (.cons (.vop .s2b (.cons (.str 0) .nil)) (.cons (.int .i64 (.var 0)) .nil))))), (.i2 .sub (.blen (.str 0)) (.var 0)), 0, []⟩] .v zc_rname zc_rname.n 3000 = some rname_tree := by kernel_rfl
theorem rname_h (s : ByteArray) (hc : holds (zE [] [] [] [s]) (.b2 .le (.blen (.str 0)) (.lit (200)))) (hty : patsTyp (zE [] [] [] [s]) [(.str 0)]) : rname_tree.holds (fun d => d = denV (zE [] [] [] [s]) b0 (.bool (.bapp 5 (.cons (.str 0) .nil)))) (zE [] [] [] [s]) := by
  simp only [Tree.holds, Sy.holds, AllN, Env.more, zE, List.cons_append, List.nil_append, List.append_nil, denV, denI, denB, denL, I2.den, VOp.den, List.getD_cons_zero, List.getD_cons_succ, Cst.den, syso, syse, syio, sybo, zi_ixl, zi_lst, zi_chk, zb_let, zb_rok, zb_zon, zb_shr, zb_pre, zb_nm, List.map_nil, List.map_cons, B2.ofInts, B2.denI, B2.denB, if_true, Bool.false_eq_true, if_false, Nat.div_one, Nat.mul_one, Nat.add_zero, holds] at hc
  simp only [patsTyp, patTyp, patTypL, zE, denV, denL, List.getD_cons_zero, List.getD_cons_succ, and_true, true_and] at hty
  unfold rname_tree
  simp only [Tree.holds, Sy.holds, AllN, Env.more, zE, List.cons_append, List.nil_append, List.append_nil, denV, denI, denB, denL, I2.den, VOp.den, List.getD_cons_zero, List.getD_cons_succ, Cst.den, syso, syse, syio, sybo, zi_ixl, zi_lst, zi_chk, zb_let, zb_rok, zb_zon, zb_shr, zb_pre, zb_nm, List.map_nil, List.map_cons, B2.ofInts, B2.denI, B2.denB, if_true, Bool.false_eq_true, if_false, Nat.div_one, Nat.mul_one, Nat.add_zero]
  refine ⟨?_, ?_⟩
  ·
    exact ⟨by omega, by omega, preL_zero _⟩
  ·
    intro i0a hi0
    refine ⟨fun h0 => ?_, fun h0 => ?_⟩
    ·
      refine ⟨?_, fun h1 => ?_⟩
      ·
        omega
      ·
        refine ⟨fun h2 => ?_, fun h2 => ?_⟩
        ·
          refine ⟨fun h3 => ?_, fun h3 => ?_⟩
          ·
            have wf0 := wr_i64 (i0a + 1)
            refine ⟨?_, ?_⟩
            ·
              rw [intsV_s] at hi0 ⊢
              obtain ⟨hi1, hi2, hi3⟩ := hi0
              have hx := chr_at (s := s) (n := i0a.toNat) (by omega)
              have hl : letC ((s.data.toList.getD i0a.toNat 0).toNat : Int) = true := (letC_iff _).2 (by omega)
              have e : IntKind.wrap .i64 (i0a + 1) = i0a + 1 := by omega
              rw [e, show (i0a + 1).toNat = i0a.toNat + 1 by omega, preL_succ hx, hi3, hl]
              exact ⟨by omega, by omega, rfl⟩
            ·
              omega
          ·
            refine ⟨fun h4 => ?_, fun h4 => ?_⟩
            ·
              refine ⟨fun h5 => ?_, fun h5 => ?_⟩
              ·
                have wf1 := wr_i64 (i0a + 1)
                refine ⟨?_, ?_⟩
                ·
                  rw [intsV_s] at hi0 ⊢
                  obtain ⟨hi1, hi2, hi3⟩ := hi0
                  have hx := chr_at (s := s) (n := i0a.toNat) (by omega)
                  have hl : letC ((s.data.toList.getD i0a.toNat 0).toNat : Int) = true := (letC_iff _).2 (by omega)
                  have e : IntKind.wrap .i64 (i0a + 1) = i0a + 1 := by omega
                  rw [e, show (i0a + 1).toNat = i0a.toNat + 1 by omega, preL_succ hx, hi3, hl]
                  exact ⟨by omega, by omega, rfl⟩
                ·
                  omega
              ·
                refine ⟨fun h6 => ?_, fun h6 => ?_⟩
                ·
                  refine ⟨fun h7 => ?_, fun h7 => ?_⟩
                  ·
                    have wf2 := wr_i64 (i0a + 1)
                    refine ⟨?_, ?_⟩
                    ·
                      rw [intsV_s] at hi0 ⊢
                      obtain ⟨hi1, hi2, hi3⟩ := hi0
                      have hx := chr_at (s := s) (n := i0a.toNat) (by omega)
                      have hl : letC ((s.data.toList.getD i0a.toNat 0).toNat : Int) = true := (letC_iff _).2 (by omega)
                      have e : IntKind.wrap .i64 (i0a + 1) = i0a + 1 := by omega
                      rw [e, show (i0a + 1).toNat = i0a.toNat + 1 by omega, preL_succ hx, hi3, hl]
                      exact ⟨by omega, by omega, rfl⟩
                    ·
                      omega
                  ·
                    refine ⟨fun h8 => ?_, fun h8 => ?_⟩
                    ·
                      have wf3 := wr_i64 (i0a + 1)
                      refine ⟨?_, ?_⟩
                      ·
                        rw [intsV_s] at hi0 ⊢
                        obtain ⟨hi1, hi2, hi3⟩ := hi0
                        have hx := chr_at (s := s) (n := i0a.toNat) (by omega)
                        have hl : letC ((s.data.toList.getD i0a.toNat 0).toNat : Int) = true := (letC_iff _).2 (by omega)
                        have e : IntKind.wrap .i64 (i0a + 1) = i0a + 1 := by omega
                        rw [e, show (i0a + 1).toNat = i0a.toNat + 1 by omega, preL_succ hx, hi3, hl]
                        exact ⟨by omega, by omega, rfl⟩
                      ·
                        omega
                    ·
                      refine ⟨fun h9 => ?_, fun h9 => ?_⟩
                      ·
                        have wf4 := wr_i64 (i0a + 1)
                        refine ⟨?_, ?_⟩
                        ·
                          rw [intsV_s] at hi0 ⊢
                          obtain ⟨hi1, hi2, hi3⟩ := hi0
                          have hx := chr_at (s := s) (n := i0a.toNat) (by omega)
                          have hl : letC ((s.data.toList.getD i0a.toNat 0).toNat : Int) = true := (letC_iff _).2 (by omega)
                          have e : IntKind.wrap .i64 (i0a + 1) = i0a + 1 := by omega
                          rw [e, show (i0a + 1).toNat = i0a.toNat + 1 by omega, preL_succ hx, hi3, hl]
                          exact ⟨by omega, by omega, rfl⟩
                        ·
                          omega
                      ·
                        refine ⟨fun h10 => ?_, fun h10 => ?_⟩
                        ·
                          have wf5 := wr_i64 (i0a + 1)
                          refine ⟨?_, ?_⟩
                          ·
                            rw [intsV_s] at hi0 ⊢
                            obtain ⟨hi1, hi2, hi3⟩ := hi0
                            have hx := chr_at (s := s) (n := i0a.toNat) (by omega)
                            have hl : letC ((s.data.toList.getD i0a.toNat 0).toNat : Int) = true := (letC_iff _).2 (by omega)
                            have e : IntKind.wrap .i64 (i0a + 1) = i0a + 1 := by omega
                            rw [e, show (i0a + 1).toNat = i0a.toNat + 1 by omega, preL_succ hx, hi3, hl]
                            exact ⟨by omega, by omega, rfl⟩
                          ·
                            omega
                        ·
                          refine ⟨fun h11 => ?_, fun h11 => ?_⟩
                          ·
                            rw [intsV_s] at hi0
                            obtain ⟨hi1, hi2, hi3⟩ := hi0
                            first
                            | (have hx := chr_at (s := s) (n := i0a.toNat) (by omega)
                               have hl : ¬ letC ((s.data.toList.getD i0a.toNat 0).toNat : Int) = true := fun h => by
                                 rw [letC_iff] at h
                                 omega
                               have hix := ixL_at hi3 hx (by simpa using hl)
                               refine congrArg Value.bool (Eq.symm (Bool.eq_false_iff.2 fun h => ?_))
                               simp only [nameB, Bool.and_eq_true, decide_eq_true_eq] at h
                               omega)
                            | (have hix := ixL_no hi3 (by simp; omega)
                               refine congrArg Value.bool (Bool.eq_iff_iff.2 ?_)
                               simp only [nameB, hix, Bool.and_eq_true, decide_eq_true_eq, Bool.false_eq_true, false_iff]
                               omega)
                          ·
                            have wf6 := wr_i64 (i0a + 1)
                            refine ⟨?_, ?_⟩
                            ·
                              rw [intsV_s] at hi0 ⊢
                              obtain ⟨hi1, hi2, hi3⟩ := hi0
                              have hx := chr_at (s := s) (n := i0a.toNat) (by omega)
                              have hl : letC ((s.data.toList.getD i0a.toNat 0).toNat : Int) = true := (letC_iff _).2 (by omega)
                              have e : IntKind.wrap .i64 (i0a + 1) = i0a + 1 := by omega
                              rw [e, show (i0a + 1).toNat = i0a.toNat + 1 by omega, preL_succ hx, hi3, hl]
                              exact ⟨by omega, by omega, rfl⟩
                            ·
                              omega
                ·
                  refine ⟨fun h12 => ?_, fun h12 => ?_⟩
                  ·
                    have wf7 := wr_i64 (i0a + 1)
                    refine ⟨?_, ?_⟩
                    ·
                      rw [intsV_s] at hi0 ⊢
                      obtain ⟨hi1, hi2, hi3⟩ := hi0
                      have hx := chr_at (s := s) (n := i0a.toNat) (by omega)
                      have hl : letC ((s.data.toList.getD i0a.toNat 0).toNat : Int) = true := (letC_iff _).2 (by omega)
                      have e : IntKind.wrap .i64 (i0a + 1) = i0a + 1 := by omega
                      rw [e, show (i0a + 1).toNat = i0a.toNat + 1 by omega, preL_succ hx, hi3, hl]
                      exact ⟨by omega, by omega, rfl⟩
                    ·
                      omega
                  ·
                    refine ⟨fun h13 => ?_, fun h13 => ?_⟩
                    ·
                      have wf8 := wr_i64 (i0a + 1)
                      refine ⟨?_, ?_⟩
                      ·
                        rw [intsV_s] at hi0 ⊢
                        obtain ⟨hi1, hi2, hi3⟩ := hi0
                        have hx := chr_at (s := s) (n := i0a.toNat) (by omega)
                        have hl : letC ((s.data.toList.getD i0a.toNat 0).toNat : Int) = true := (letC_iff _).2 (by omega)
                        have e : IntKind.wrap .i64 (i0a + 1) = i0a + 1 := by omega
                        rw [e, show (i0a + 1).toNat = i0a.toNat + 1 by omega, preL_succ hx, hi3, hl]
                        exact ⟨by omega, by omega, rfl⟩
                      ·
                        omega
                    ·
                      refine ⟨fun h14 => ?_, fun h14 => ?_⟩
                      ·
                        have wf9 := wr_i64 (i0a + 1)
                        refine ⟨?_, ?_⟩
                        ·
                          rw [intsV_s] at hi0 ⊢
                          obtain ⟨hi1, hi2, hi3⟩ := hi0
                          have hx := chr_at (s := s) (n := i0a.toNat) (by omega)
                          have hl : letC ((s.data.toList.getD i0a.toNat 0).toNat : Int) = true := (letC_iff _).2 (by omega)
                          have e : IntKind.wrap .i64 (i0a + 1) = i0a + 1 := by omega
                          rw [e, show (i0a + 1).toNat = i0a.toNat + 1 by omega, preL_succ hx, hi3, hl]
                          exact ⟨by omega, by omega, rfl⟩
                        ·
                          omega
                      ·
                        refine ⟨fun h15 => ?_, fun h15 => ?_⟩
                        ·
                          rw [intsV_s] at hi0
                          obtain ⟨hi1, hi2, hi3⟩ := hi0
                          first
                          | (have hx := chr_at (s := s) (n := i0a.toNat) (by omega)
                             have hl : ¬ letC ((s.data.toList.getD i0a.toNat 0).toNat : Int) = true := fun h => by
                               rw [letC_iff] at h
                               omega
                             have hix := ixL_at hi3 hx (by simpa using hl)
                             refine congrArg Value.bool (Eq.symm (Bool.eq_false_iff.2 fun h => ?_))
                             simp only [nameB, Bool.and_eq_true, decide_eq_true_eq] at h
                             omega)
                          | (have hix := ixL_no hi3 (by simp; omega)
                             refine congrArg Value.bool (Bool.eq_iff_iff.2 ?_)
                             simp only [nameB, hix, Bool.and_eq_true, decide_eq_true_eq, Bool.false_eq_true, false_iff]
                             omega)
                        ·
                          have wf10 := wr_i64 (i0a + 1)
                          refine ⟨?_, ?_⟩
                          ·
                            rw [intsV_s] at hi0 ⊢
                            obtain ⟨hi1, hi2, hi3⟩ := hi0
                            have hx := chr_at (s := s) (n := i0a.toNat) (by omega)
                            have hl : letC ((s.data.toList.getD i0a.toNat 0).toNat : Int) = true := (letC_iff _).2 (by omega)
                            have e : IntKind.wrap .i64 (i0a + 1) = i0a + 1 := by omega
                            rw [e, show (i0a + 1).toNat = i0a.toNat + 1 by omega, preL_succ hx, hi3, hl]
                            exact ⟨by omega, by omega, rfl⟩
                          ·
                            omega
            ·
              refine ⟨fun h16 => ?_, fun h16 => ?_⟩
              ·
                refine ⟨fun h17 => ?_, fun h17 => ?_⟩
                ·
                  have wf11 := wr_i64 (i0a + 1)
                  refine ⟨?_, ?_⟩
                  ·
                    rw [intsV_s] at hi0 ⊢
                    obtain ⟨hi1, hi2, hi3⟩ := hi0
                    have hx := chr_at (s := s) (n := i0a.toNat) (by omega)
                    have hl : letC ((s.data.toList.getD i0a.toNat 0).toNat : Int) = true := (letC_iff _).2 (by omega)
                    have e : IntKind.wrap .i64 (i0a + 1) = i0a + 1 := by omega
                    rw [e, show (i0a + 1).toNat = i0a.toNat + 1 by omega, preL_succ hx, hi3, hl]
                    exact ⟨by omega, by omega, rfl⟩
                  ·
                    omega
                ·
                  refine ⟨fun h18 => ?_, fun h18 => ?_⟩
                  ·
                    have wf12 := wr_i64 (i0a + 1)
                    refine ⟨?_, ?_⟩
                    ·
                      rw [intsV_s] at hi0 ⊢
                      obtain ⟨hi1, hi2, hi3⟩ := hi0
                      have hx := chr_at (s := s) (n := i0a.toNat) (by omega)
                      have hl : letC ((s.data.toList.getD i0a.toNat 0).toNat : Int) = true := (letC_iff _).2 (by omega)
                      have e : IntKind.wrap .i64 (i0a + 1) = i0a + 1 := by omega
                      rw [e, show (i0a + 1).toNat = i0a.toNat + 1 by omega, preL_succ hx, hi3, hl]
                      exact ⟨by omega, by omega, rfl⟩
                    ·
                      omega
                  ·
                    refine ⟨fun h19 => ?_, fun h19 => ?_⟩
                    ·
                      have wf13 := wr_i64 (i0a + 1)
                      refine ⟨?_, ?_⟩
                      ·
                        rw [intsV_s] at hi0 ⊢
                        obtain ⟨hi1, hi2, hi3⟩ := hi0
                        have hx := chr_at (s := s) (n := i0a.toNat) (by omega)
                        have hl : letC ((s.data.toList.getD i0a.toNat 0).toNat : Int) = true := (letC_iff _).2 (by omega)
                        have e : IntKind.wrap .i64 (i0a + 1) = i0a + 1 := by omega
                        rw [e, show (i0a + 1).toNat = i0a.toNat + 1 by omega, preL_succ hx, hi3, hl]
                        exact ⟨by omega, by omega, rfl⟩
                      ·
                        omega
                    ·
                      refine ⟨fun h20 => ?_, fun h20 => ?_⟩
                      ·
                        have wf14 := wr_i64 (i0a + 1)
                        refine ⟨?_, ?_⟩
                        ·
                          rw [intsV_s] at hi0 ⊢
                          obtain ⟨hi1, hi2, hi3⟩ := hi0
                          have hx := chr_at (s := s) (n := i0a.toNat) (by omega)
                          have hl : letC ((s.data.toList.getD i0a.toNat 0).toNat : Int) = true := (letC_iff _).2 (by omega)
                          have e : IntKind.wrap .i64 (i0a + 1) = i0a + 1 := by omega
                          rw [e, show (i0a + 1).toNat = i0a.toNat + 1 by omega, preL_succ hx, hi3, hl]
                          exact ⟨by omega, by omega, rfl⟩
                        ·
                          omega
                      ·
                        refine ⟨fun h21 => ?_, fun h21 => ?_⟩
                        ·
                          rw [intsV_s] at hi0
                          obtain ⟨hi1, hi2, hi3⟩ := hi0
                          first
                          | (have hx := chr_at (s := s) (n := i0a.toNat) (by omega)
                             have hl : ¬ letC ((s.data.toList.getD i0a.toNat 0).toNat : Int) = true := fun h => by
                               rw [letC_iff] at h
                               omega
                             have hix := ixL_at hi3 hx (by simpa using hl)
                             refine congrArg Value.bool (Eq.symm (Bool.eq_false_iff.2 fun h => ?_))
                             simp only [nameB, Bool.and_eq_true, decide_eq_true_eq] at h
                             omega)
                          | (have hix := ixL_no hi3 (by simp; omega)
                             refine congrArg Value.bool (Bool.eq_iff_iff.2 ?_)
                             simp only [nameB, hix, Bool.and_eq_true, decide_eq_true_eq, Bool.false_eq_true, false_iff]
                             omega)
                        ·
                          have wf15 := wr_i64 (i0a + 1)
                          refine ⟨?_, ?_⟩
                          ·
                            rw [intsV_s] at hi0 ⊢
                            obtain ⟨hi1, hi2, hi3⟩ := hi0
                            have hx := chr_at (s := s) (n := i0a.toNat) (by omega)
                            have hl : letC ((s.data.toList.getD i0a.toNat 0).toNat : Int) = true := (letC_iff _).2 (by omega)
                            have e : IntKind.wrap .i64 (i0a + 1) = i0a + 1 := by omega
                            rw [e, show (i0a + 1).toNat = i0a.toNat + 1 by omega, preL_succ hx, hi3, hl]
                            exact ⟨by omega, by omega, rfl⟩
                          ·
                            omega
              ·
                refine ⟨fun h22 => ?_, fun h22 => ?_⟩
                ·
                  have wf16 := wr_i64 (i0a + 1)
                  refine ⟨?_, ?_⟩
                  ·
                    rw [intsV_s] at hi0 ⊢
                    obtain ⟨hi1, hi2, hi3⟩ := hi0
                    have hx := chr_at (s := s) (n := i0a.toNat) (by omega)
                    have hl : letC ((s.data.toList.getD i0a.toNat 0).toNat : Int) = true := (letC_iff _).2 (by omega)
                    have e : IntKind.wrap .i64 (i0a + 1) = i0a + 1 := by omega
                    rw [e, show (i0a + 1).toNat = i0a.toNat + 1 by omega, preL_succ hx, hi3, hl]
                    exact ⟨by omega, by omega, rfl⟩
                  ·
                    omega
                ·
                  refine ⟨fun h23 => ?_, fun h23 => ?_⟩
                  ·
                    have wf17 := wr_i64 (i0a + 1)
                    refine ⟨?_, ?_⟩
                    ·
                      rw [intsV_s] at hi0 ⊢
                      obtain ⟨hi1, hi2, hi3⟩ := hi0
                      have hx := chr_at (s := s) (n := i0a.toNat) (by omega)
                      have hl : letC ((s.data.toList.getD i0a.toNat 0).toNat : Int) = true := (letC_iff _).2 (by omega)
                      have e : IntKind.wrap .i64 (i0a + 1) = i0a + 1 := by omega
                      rw [e, show (i0a + 1).toNat = i0a.toNat + 1 by omega, preL_succ hx, hi3, hl]
                      exact ⟨by omega, by omega, rfl⟩
                    ·
                      omega
                  ·
                    refine ⟨fun h24 => ?_, fun h24 => ?_⟩
                    ·
                      have wf18 := wr_i64 (i0a + 1)
                      refine ⟨?_, ?_⟩
                      ·
                        rw [intsV_s] at hi0 ⊢
                        obtain ⟨hi1, hi2, hi3⟩ := hi0
                        have hx := chr_at (s := s) (n := i0a.toNat) (by omega)
                        have hl : letC ((s.data.toList.getD i0a.toNat 0).toNat : Int) = true := (letC_iff _).2 (by omega)
                        have e : IntKind.wrap .i64 (i0a + 1) = i0a + 1 := by omega
                        rw [e, show (i0a + 1).toNat = i0a.toNat + 1 by omega, preL_succ hx, hi3, hl]
                        exact ⟨by omega, by omega, rfl⟩
                      ·
                        omega
                    ·
                      refine ⟨fun h25 => ?_, fun h25 => ?_⟩
                      ·
                        rw [intsV_s] at hi0
                        obtain ⟨hi1, hi2, hi3⟩ := hi0
                        first
                        | (have hx := chr_at (s := s) (n := i0a.toNat) (by omega)
                           have hl : ¬ letC ((s.data.toList.getD i0a.toNat 0).toNat : Int) = true := fun h => by
                             rw [letC_iff] at h
                             omega
                           have hix := ixL_at hi3 hx (by simpa using hl)
                           refine congrArg Value.bool (Eq.symm (Bool.eq_false_iff.2 fun h => ?_))
                           simp only [nameB, Bool.and_eq_true, decide_eq_true_eq] at h
                           omega)
                        | (have hix := ixL_no hi3 (by simp; omega)
                           refine congrArg Value.bool (Bool.eq_iff_iff.2 ?_)
                           simp only [nameB, hix, Bool.and_eq_true, decide_eq_true_eq, Bool.false_eq_true, false_iff]
                           omega)
                      ·
                        have wf19 := wr_i64 (i0a + 1)
                        refine ⟨?_, ?_⟩
                        ·
                          rw [intsV_s] at hi0 ⊢
                          obtain ⟨hi1, hi2, hi3⟩ := hi0
                          have hx := chr_at (s := s) (n := i0a.toNat) (by omega)
                          have hl : letC ((s.data.toList.getD i0a.toNat 0).toNat : Int) = true := (letC_iff _).2 (by omega)
                          have e : IntKind.wrap .i64 (i0a + 1) = i0a + 1 := by omega
                          rw [e, show (i0a + 1).toNat = i0a.toNat + 1 by omega, preL_succ hx, hi3, hl]
                          exact ⟨by omega, by omega, rfl⟩
                        ·
                          omega
        ·
          refine ⟨fun h26 => ?_, fun h26 => ?_⟩
          ·
            refine ⟨fun h27 => ?_, fun h27 => ?_⟩
            ·
              have wf20 := wr_i64 (i0a + 1)
              refine ⟨?_, ?_⟩
              ·
                rw [intsV_s] at hi0 ⊢
                obtain ⟨hi1, hi2, hi3⟩ := hi0
                have hx := chr_at (s := s) (n := i0a.toNat) (by omega)
                have hl : letC ((s.data.toList.getD i0a.toNat 0).toNat : Int) = true := (letC_iff _).2 (by omega)
                have e : IntKind.wrap .i64 (i0a + 1) = i0a + 1 := by omega
                rw [e, show (i0a + 1).toNat = i0a.toNat + 1 by omega, preL_succ hx, hi3, hl]
                exact ⟨by omega, by omega, rfl⟩
              ·
                omega
            ·
              refine ⟨fun h28 => ?_, fun h28 => ?_⟩
              ·
                refine ⟨fun h29 => ?_, fun h29 => ?_⟩
                ·
                  have wf21 := wr_i64 (i0a + 1)
                  refine ⟨?_, ?_⟩
                  ·
                    rw [intsV_s] at hi0 ⊢
                    obtain ⟨hi1, hi2, hi3⟩ := hi0
                    have hx := chr_at (s := s) (n := i0a.toNat) (by omega)
                    have hl : letC ((s.data.toList.getD i0a.toNat 0).toNat : Int) = true := (letC_iff _).2 (by omega)
                    have e : IntKind.wrap .i64 (i0a + 1) = i0a + 1 := by omega
                    rw [e, show (i0a + 1).toNat = i0a.toNat + 1 by omega, preL_succ hx, hi3, hl]
                    exact ⟨by omega, by omega, rfl⟩
                  ·
                    omega
                ·
                  refine ⟨fun h30 => ?_, fun h30 => ?_⟩
                  ·
                    have wf22 := wr_i64 (i0a + 1)
                    refine ⟨?_, ?_⟩
                    ·
                      rw [intsV_s] at hi0 ⊢
                      obtain ⟨hi1, hi2, hi3⟩ := hi0
                      have hx := chr_at (s := s) (n := i0a.toNat) (by omega)
                      have hl : letC ((s.data.toList.getD i0a.toNat 0).toNat : Int) = true := (letC_iff _).2 (by omega)
                      have e : IntKind.wrap .i64 (i0a + 1) = i0a + 1 := by omega
                      rw [e, show (i0a + 1).toNat = i0a.toNat + 1 by omega, preL_succ hx, hi3, hl]
                      exact ⟨by omega, by omega, rfl⟩
                    ·
                      omega
                  ·
                    refine ⟨fun h31 => ?_, fun h31 => ?_⟩
                    ·
                      have wf23 := wr_i64 (i0a + 1)
                      refine ⟨?_, ?_⟩
                      ·
                        rw [intsV_s] at hi0 ⊢
                        obtain ⟨hi1, hi2, hi3⟩ := hi0
                        have hx := chr_at (s := s) (n := i0a.toNat) (by omega)
                        have hl : letC ((s.data.toList.getD i0a.toNat 0).toNat : Int) = true := (letC_iff _).2 (by omega)
                        have e : IntKind.wrap .i64 (i0a + 1) = i0a + 1 := by omega
                        rw [e, show (i0a + 1).toNat = i0a.toNat + 1 by omega, preL_succ hx, hi3, hl]
                        exact ⟨by omega, by omega, rfl⟩
                      ·
                        omega
                    ·
                      refine ⟨fun h32 => ?_, fun h32 => ?_⟩
                      ·
                        have wf24 := wr_i64 (i0a + 1)
                        refine ⟨?_, ?_⟩
                        ·
                          rw [intsV_s] at hi0 ⊢
                          obtain ⟨hi1, hi2, hi3⟩ := hi0
                          have hx := chr_at (s := s) (n := i0a.toNat) (by omega)
                          have hl : letC ((s.data.toList.getD i0a.toNat 0).toNat : Int) = true := (letC_iff _).2 (by omega)
                          have e : IntKind.wrap .i64 (i0a + 1) = i0a + 1 := by omega
                          rw [e, show (i0a + 1).toNat = i0a.toNat + 1 by omega, preL_succ hx, hi3, hl]
                          exact ⟨by omega, by omega, rfl⟩
                        ·
                          omega
                      ·
                        refine ⟨fun h33 => ?_, fun h33 => ?_⟩
                        ·
                          rw [intsV_s] at hi0
                          obtain ⟨hi1, hi2, hi3⟩ := hi0
                          first
                          | (have hx := chr_at (s := s) (n := i0a.toNat) (by omega)
                             have hl : ¬ letC ((s.data.toList.getD i0a.toNat 0).toNat : Int) = true := fun h => by
                               rw [letC_iff] at h
                               omega
                             have hix := ixL_at hi3 hx (by simpa using hl)
                             refine congrArg Value.bool (Eq.symm (Bool.eq_false_iff.2 fun h => ?_))
                             simp only [nameB, Bool.and_eq_true, decide_eq_true_eq] at h
                             omega)
                          | (have hix := ixL_no hi3 (by simp; omega)
                             refine congrArg Value.bool (Bool.eq_iff_iff.2 ?_)
                             simp only [nameB, hix, Bool.and_eq_true, decide_eq_true_eq, Bool.false_eq_true, false_iff]
                             omega)
                        ·
                          have wf25 := wr_i64 (i0a + 1)
                          refine ⟨?_, ?_⟩
                          ·
                            rw [intsV_s] at hi0 ⊢
                            obtain ⟨hi1, hi2, hi3⟩ := hi0
                            have hx := chr_at (s := s) (n := i0a.toNat) (by omega)
                            have hl : letC ((s.data.toList.getD i0a.toNat 0).toNat : Int) = true := (letC_iff _).2 (by omega)
                            have e : IntKind.wrap .i64 (i0a + 1) = i0a + 1 := by omega
                            rw [e, show (i0a + 1).toNat = i0a.toNat + 1 by omega, preL_succ hx, hi3, hl]
                            exact ⟨by omega, by omega, rfl⟩
                          ·
                            omega
              ·
                refine ⟨fun h34 => ?_, fun h34 => ?_⟩
                ·
                  have wf26 := wr_i64 (i0a + 1)
                  refine ⟨?_, ?_⟩
                  ·
                    rw [intsV_s] at hi0 ⊢
                    obtain ⟨hi1, hi2, hi3⟩ := hi0
                    have hx := chr_at (s := s) (n := i0a.toNat) (by omega)
                    have hl : letC ((s.data.toList.getD i0a.toNat 0).toNat : Int) = true := (letC_iff _).2 (by omega)
                    have e : IntKind.wrap .i64 (i0a + 1) = i0a + 1 := by omega
                    rw [e, show (i0a + 1).toNat = i0a.toNat + 1 by omega, preL_succ hx, hi3, hl]
                    exact ⟨by omega, by omega, rfl⟩
                  ·
                    omega
                ·
                  refine ⟨fun h35 => ?_, fun h35 => ?_⟩
                  ·
                    have wf27 := wr_i64 (i0a + 1)
                    refine ⟨?_, ?_⟩
                    ·
                      rw [intsV_s] at hi0 ⊢
                      obtain ⟨hi1, hi2, hi3⟩ := hi0
                      have hx := chr_at (s := s) (n := i0a.toNat) (by omega)
                      have hl : letC ((s.data.toList.getD i0a.toNat 0).toNat : Int) = true := (letC_iff _).2 (by omega)
                      have e : IntKind.wrap .i64 (i0a + 1) = i0a + 1 := by omega
                      rw [e, show (i0a + 1).toNat = i0a.toNat + 1 by omega, preL_succ hx, hi3, hl]
                      exact ⟨by omega, by omega, rfl⟩
                    ·
                      omega
                  ·
                    refine ⟨fun h36 => ?_, fun h36 => ?_⟩
                    ·
                      have wf28 := wr_i64 (i0a + 1)
                      refine ⟨?_, ?_⟩
                      ·
                        rw [intsV_s] at hi0 ⊢
                        obtain ⟨hi1, hi2, hi3⟩ := hi0
                        have hx := chr_at (s := s) (n := i0a.toNat) (by omega)
                        have hl : letC ((s.data.toList.getD i0a.toNat 0).toNat : Int) = true := (letC_iff _).2 (by omega)
                        have e : IntKind.wrap .i64 (i0a + 1) = i0a + 1 := by omega
                        rw [e, show (i0a + 1).toNat = i0a.toNat + 1 by omega, preL_succ hx, hi3, hl]
                        exact ⟨by omega, by omega, rfl⟩
                      ·
                        omega
                    ·
                      refine ⟨fun h37 => ?_, fun h37 => ?_⟩
                      ·
                        rw [intsV_s] at hi0
                        obtain ⟨hi1, hi2, hi3⟩ := hi0
                        first
                        | (have hx := chr_at (s := s) (n := i0a.toNat) (by omega)
                           have hl : ¬ letC ((s.data.toList.getD i0a.toNat 0).toNat : Int) = true := fun h => by
                             rw [letC_iff] at h
                             omega
                           have hix := ixL_at hi3 hx (by simpa using hl)
                           refine congrArg Value.bool (Eq.symm (Bool.eq_false_iff.2 fun h => ?_))
                           simp only [nameB, Bool.and_eq_true, decide_eq_true_eq] at h
                           omega)
                        | (have hix := ixL_no hi3 (by simp; omega)
                           refine congrArg Value.bool (Bool.eq_iff_iff.2 ?_)
                           simp only [nameB, hix, Bool.and_eq_true, decide_eq_true_eq, Bool.false_eq_true, false_iff]
                           omega)
                      ·
                        have wf29 := wr_i64 (i0a + 1)
                        refine ⟨?_, ?_⟩
                        ·
                          rw [intsV_s] at hi0 ⊢
                          obtain ⟨hi1, hi2, hi3⟩ := hi0
                          have hx := chr_at (s := s) (n := i0a.toNat) (by omega)
                          have hl : letC ((s.data.toList.getD i0a.toNat 0).toNat : Int) = true := (letC_iff _).2 (by omega)
                          have e : IntKind.wrap .i64 (i0a + 1) = i0a + 1 := by omega
                          rw [e, show (i0a + 1).toNat = i0a.toNat + 1 by omega, preL_succ hx, hi3, hl]
                          exact ⟨by omega, by omega, rfl⟩
                        ·
                          omega
          ·
            refine ⟨fun h38 => ?_, fun h38 => ?_⟩
            ·
              refine ⟨fun h39 => ?_, fun h39 => ?_⟩
              ·
                have wf30 := wr_i64 (i0a + 1)
                refine ⟨?_, ?_⟩
                ·
                  rw [intsV_s] at hi0 ⊢
                  obtain ⟨hi1, hi2, hi3⟩ := hi0
                  have hx := chr_at (s := s) (n := i0a.toNat) (by omega)
                  have hl : letC ((s.data.toList.getD i0a.toNat 0).toNat : Int) = true := (letC_iff _).2 (by omega)
                  have e : IntKind.wrap .i64 (i0a + 1) = i0a + 1 := by omega
                  rw [e, show (i0a + 1).toNat = i0a.toNat + 1 by omega, preL_succ hx, hi3, hl]
                  exact ⟨by omega, by omega, rfl⟩
                ·
                  omega
              ·
                refine ⟨fun h40 => ?_, fun h40 => ?_⟩
                ·
                  have wf31 := wr_i64 (i0a + 1)
                  refine ⟨?_, ?_⟩
                  ·
                    rw [intsV_s] at hi0 ⊢
                    obtain ⟨hi1, hi2, hi3⟩ := hi0
                    have hx := chr_at (s := s) (n := i0a.toNat) (by omega)
                    have hl : letC ((s.data.toList.getD i0a.toNat 0).toNat : Int) = true := (letC_iff _).2 (by omega)
                    have e : IntKind.wrap .i64 (i0a + 1) = i0a + 1 := by omega
                    rw [e, show (i0a + 1).toNat = i0a.toNat + 1 by omega, preL_succ hx, hi3, hl]
                    exact ⟨by omega, by omega, rfl⟩
                  ·
                    omega
                ·
                  refine ⟨fun h41 => ?_, fun h41 => ?_⟩
                  ·
                    have wf32 := wr_i64 (i0a + 1)
                    refine ⟨?_, ?_⟩
                    ·
                      rw [intsV_s] at hi0 ⊢
                      obtain ⟨hi1, hi2, hi3⟩ := hi0
                      have hx := chr_at (s := s) (n := i0a.toNat) (by omega)
                      have hl : letC ((s.data.toList.getD i0a.toNat 0).toNat : Int) = true := (letC_iff _).2 (by omega)
                      have e : IntKind.wrap .i64 (i0a + 1) = i0a + 1 := by omega
                      rw [e, show (i0a + 1).toNat = i0a.toNat + 1 by omega, preL_succ hx, hi3, hl]
                      exact ⟨by omega, by omega, rfl⟩
                    ·
                      omega
                  ·
                    refine ⟨fun h42 => ?_, fun h42 => ?_⟩
                    ·
                      have wf33 := wr_i64 (i0a + 1)
                      refine ⟨?_, ?_⟩
                      ·
                        rw [intsV_s] at hi0 ⊢
                        obtain ⟨hi1, hi2, hi3⟩ := hi0
                        have hx := chr_at (s := s) (n := i0a.toNat) (by omega)
                        have hl : letC ((s.data.toList.getD i0a.toNat 0).toNat : Int) = true := (letC_iff _).2 (by omega)
                        have e : IntKind.wrap .i64 (i0a + 1) = i0a + 1 := by omega
                        rw [e, show (i0a + 1).toNat = i0a.toNat + 1 by omega, preL_succ hx, hi3, hl]
                        exact ⟨by omega, by omega, rfl⟩
                      ·
                        omega
                    ·
                      refine ⟨fun h43 => ?_, fun h43 => ?_⟩
                      ·
                        rw [intsV_s] at hi0
                        obtain ⟨hi1, hi2, hi3⟩ := hi0
                        first
                        | (have hx := chr_at (s := s) (n := i0a.toNat) (by omega)
                           have hl : ¬ letC ((s.data.toList.getD i0a.toNat 0).toNat : Int) = true := fun h => by
                             rw [letC_iff] at h
                             omega
                           have hix := ixL_at hi3 hx (by simpa using hl)
                           refine congrArg Value.bool (Eq.symm (Bool.eq_false_iff.2 fun h => ?_))
                           simp only [nameB, Bool.and_eq_true, decide_eq_true_eq] at h
                           omega)
                        | (have hix := ixL_no hi3 (by simp; omega)
                           refine congrArg Value.bool (Bool.eq_iff_iff.2 ?_)
                           simp only [nameB, hix, Bool.and_eq_true, decide_eq_true_eq, Bool.false_eq_true, false_iff]
                           omega)
                      ·
                        have wf34 := wr_i64 (i0a + 1)
                        refine ⟨?_, ?_⟩
                        ·
                          rw [intsV_s] at hi0 ⊢
                          obtain ⟨hi1, hi2, hi3⟩ := hi0
                          have hx := chr_at (s := s) (n := i0a.toNat) (by omega)
                          have hl : letC ((s.data.toList.getD i0a.toNat 0).toNat : Int) = true := (letC_iff _).2 (by omega)
                          have e : IntKind.wrap .i64 (i0a + 1) = i0a + 1 := by omega
                          rw [e, show (i0a + 1).toNat = i0a.toNat + 1 by omega, preL_succ hx, hi3, hl]
                          exact ⟨by omega, by omega, rfl⟩
                        ·
                          omega
            ·
              refine ⟨fun h44 => ?_, fun h44 => ?_⟩
              ·
                have wf35 := wr_i64 (i0a + 1)
                refine ⟨?_, ?_⟩
                ·
                  rw [intsV_s] at hi0 ⊢
                  obtain ⟨hi1, hi2, hi3⟩ := hi0
                  have hx := chr_at (s := s) (n := i0a.toNat) (by omega)
                  have hl : letC ((s.data.toList.getD i0a.toNat 0).toNat : Int) = true := (letC_iff _).2 (by omega)
                  have e : IntKind.wrap .i64 (i0a + 1) = i0a + 1 := by omega
                  rw [e, show (i0a + 1).toNat = i0a.toNat + 1 by omega, preL_succ hx, hi3, hl]
                  exact ⟨by omega, by omega, rfl⟩
                ·
                  omega
              ·
                refine ⟨fun h45 => ?_, fun h45 => ?_⟩
                ·
                  have wf36 := wr_i64 (i0a + 1)
                  refine ⟨?_, ?_⟩
                  ·
                    rw [intsV_s] at hi0 ⊢
                    obtain ⟨hi1, hi2, hi3⟩ := hi0
                    have hx := chr_at (s := s) (n := i0a.toNat) (by omega)
                    have hl : letC ((s.data.toList.getD i0a.toNat 0).toNat : Int) = true := (letC_iff _).2 (by omega)
                    have e : IntKind.wrap .i64 (i0a + 1) = i0a + 1 := by omega
                    rw [e, show (i0a + 1).toNat = i0a.toNat + 1 by omega, preL_succ hx, hi3, hl]
                    exact ⟨by omega, by omega, rfl⟩
                  ·
                    omega
                ·
                  refine ⟨fun h46 => ?_, fun h46 => ?_⟩
                  ·
                    have wf37 := wr_i64 (i0a + 1)
                    refine ⟨?_, ?_⟩
                    ·
                      rw [intsV_s] at hi0 ⊢
                      obtain ⟨hi1, hi2, hi3⟩ := hi0
                      have hx := chr_at (s := s) (n := i0a.toNat) (by omega)
                      have hl : letC ((s.data.toList.getD i0a.toNat 0).toNat : Int) = true := (letC_iff _).2 (by omega)
                      have e : IntKind.wrap .i64 (i0a + 1) = i0a + 1 := by omega
                      rw [e, show (i0a + 1).toNat = i0a.toNat + 1 by omega, preL_succ hx, hi3, hl]
                      exact ⟨by omega, by omega, rfl⟩
                    ·
                      omega
                  ·
                    refine ⟨fun h47 => ?_, fun h47 => ?_⟩
                    ·
                      rw [intsV_s] at hi0
                      obtain ⟨hi1, hi2, hi3⟩ := hi0
                      first
                      | (have hx := chr_at (s := s) (n := i0a.toNat) (by omega)
                         have hl : ¬ letC ((s.data.toList.getD i0a.toNat 0).toNat : Int) = true := fun h => by
                           rw [letC_iff] at h
                           omega
                         have hix := ixL_at hi3 hx (by simpa using hl)
                         refine congrArg Value.bool (Eq.symm (Bool.eq_false_iff.2 fun h => ?_))
                         simp only [nameB, Bool.and_eq_true, decide_eq_true_eq] at h
                         omega)
                      | (have hix := ixL_no hi3 (by simp; omega)
                         refine congrArg Value.bool (Bool.eq_iff_iff.2 ?_)
                         simp only [nameB, hix, Bool.and_eq_true, decide_eq_true_eq, Bool.false_eq_true, false_iff]
                         omega)
                    ·
                      have wf38 := wr_i64 (i0a + 1)
                      refine ⟨?_, ?_⟩
                      ·
                        rw [intsV_s] at hi0 ⊢
                        obtain ⟨hi1, hi2, hi3⟩ := hi0
                        have hx := chr_at (s := s) (n := i0a.toNat) (by omega)
                        have hl : letC ((s.data.toList.getD i0a.toNat 0).toNat : Int) = true := (letC_iff _).2 (by omega)
                        have e : IntKind.wrap .i64 (i0a + 1) = i0a + 1 := by omega
                        rw [e, show (i0a + 1).toNat = i0a.toNat + 1 by omega, preL_succ hx, hi3, hl]
                        exact ⟨by omega, by omega, rfl⟩
                      ·
                        omega
    ·
      refine ⟨fun h48 => ?_, fun h48 => ?_⟩
      ·
        rw [intsV_s] at hi0
        obtain ⟨hi1, hi2, hi3⟩ := hi0
        first
        | (have hx := chr_at (s := s) (n := i0a.toNat) (by omega)
           have hl : ¬ letC ((s.data.toList.getD i0a.toNat 0).toNat : Int) = true := fun h => by
             rw [letC_iff] at h
             omega
           have hix := ixL_at hi3 hx (by simpa using hl)
           refine congrArg Value.bool (Eq.symm (Bool.eq_false_iff.2 fun h => ?_))
           simp only [nameB, Bool.and_eq_true, decide_eq_true_eq] at h
           omega)
        | (have hix := ixL_no hi3 (by simp; omega)
           refine congrArg Value.bool (Bool.eq_iff_iff.2 ?_)
           simp only [nameB, hix, Bool.and_eq_true, decide_eq_true_eq, Bool.false_eq_true, false_iff]
           omega)
      ·
        rw [intsV_s] at hi0
        obtain ⟨hi1, hi2, hi3⟩ := hi0
        first
        | (have hx := chr_at (s := s) (n := i0a.toNat) (by omega)
           have hl : ¬ letC ((s.data.toList.getD i0a.toNat 0).toNat : Int) = true := fun h => by
             rw [letC_iff] at h
             omega
           have hix := ixL_at hi3 hx (by simpa using hl)
           refine congrArg Value.bool (Eq.symm (Bool.eq_false_iff.2 fun h => ?_))
           simp only [nameB, Bool.and_eq_true, decide_eq_true_eq] at h
           omega)
        | (have hix := ixL_no hi3 (by simp; omega)
           refine congrArg Value.bool (Bool.eq_iff_iff.2 ?_)
           simp only [nameB, hix, Bool.and_eq_true, decide_eq_true_eq, Bool.false_eq_true, false_iff]
           omega)
theorem zg_rname : zc_rname.Good Tryd.prog syG (zE [] [] [] []) := good_of_walk (Γ := ⟨[], syG⟩) (ρ := zE [] [] [] []) sym rname_w rfl (fun _ _ _ _ => ok_nil) (fun s hc hty => rname_h s hc hty)
def roff_tree : Tree :=
 (.br (.b2 .lt (.lit (-86400)) (.var 0))
 (.ret (.bool (.b2 .lt (.var 0) (.lit (86400)))))
 (.ret (.bool (.tt false))))
abbrev zc_roff : Con := ⟨81, [(.int .i64 (.var 0))], (.tt true), (.bool (.b2 .and (.b2 .le (.lit (-86399)) (.var 0)) (.b2 .le (.var 0) (.lit (86399))))), ⟨1, 0, 0, 0⟩, none⟩
theorem roff_w : walk Tryd.prog 108 ⟨[], syG⟩ [] .v zc_roff zc_roff.n 3000 = some roff_tree := by kernel_rfl
theorem roff_h (n : Int) (hc : holds (zE [n] [] [] []) (.tt true)) (hty : patsTyp (zE [n] [] [] []) [(.int .i64 (.var 0))]) : roff_tree.holds (fun d => d = denV (zE [n] [] [] []) b0 (.bool (.b2 .and (.b2 .le (.lit (-86399)) (.var 0)) (.b2 .le (.var 0) (.lit (86399)))))) (zE [n] [] [] []) := by
  simp only [Tree.holds, Sy.holds, AllN, Env.more, zE, List.cons_append, List.nil_append, List.append_nil, denV, denI, denB, denL, I2.den, VOp.den, List.getD_cons_zero, List.getD_cons_succ, Cst.den, syso, syse, syio, sybo, zi_ixl, zi_lst, zi_chk, zb_let, zb_rok, zb_zon, zb_shr, zb_pre, zb_nm, List.map_nil, List.map_cons, B2.ofInts, B2.denI, B2.denB, if_true, Bool.false_eq_true, if_false, Nat.div_one, Nat.mul_one, Nat.add_zero, holds] at hc
  simp only [patsTyp, patTyp, patTypL, zE, denV, denL, List.getD_cons_zero, List.getD_cons_succ, and_true, true_and] at hty
  unfold roff_tree
  simp only [Tree.holds, Sy.holds, AllN, Env.more, zE, List.cons_append, List.nil_append, List.append_nil, denV, denI, denB, denL, I2.den, VOp.den, List.getD_cons_zero, List.getD_cons_succ, Cst.den, syso, syse, syio, sybo, zi_ixl, zi_lst, zi_chk, zb_let, zb_rok, zb_zon, zb_shr, zb_pre, zb_nm, List.map_nil, List.map_cons, B2.ofInts, B2.denI, B2.denB, if_true, Bool.false_eq_true, if_false, Nat.div_one, Nat.mul_one, Nat.add_zero]
  refine ⟨fun h0 => ?_, fun h0 => ?_⟩
  ·
    all_goals first | omega | rfl | (simp only [Value.tuple.injEq, Value.agg.injEq, Value.int.injEq, Value.bool.injEq, Array.mk.injEq, List.cons.injEq, true_and, and_true]; omega) | (refine congrArg Value.bool (Bool.eq_iff_iff.2 ?_); simp only [beq_iff_eq, decide_eq_true_eq, true_iff, false_iff, Bool.false_eq_true, Bool.not_eq_true', Bool.and_eq_true, Bool.or_eq_true, decide_eq_false_iff_not]; omega)
  ·
    all_goals first | omega | rfl | (simp only [Value.tuple.injEq, Value.agg.injEq, Value.int.injEq, Value.bool.injEq, Array.mk.injEq, List.cons.injEq, true_and, and_true]; omega) | (refine congrArg Value.bool (Bool.eq_iff_iff.2 ?_); simp only [beq_iff_eq, decide_eq_true_eq, true_iff, false_iff, Bool.false_eq_true, Bool.not_eq_true', Bool.and_eq_true, Bool.or_eq_true, decide_eq_false_iff_not]; omega)
theorem zg_roff : zc_roff.Good Tryd.prog syG (zE [] [] [] []) := good_of_walk (Γ := ⟨[], syG⟩) (ρ := zE [] [] [] []) sym roff_w rfl (fun _ _ _ _ => ok_nil) (fun n hc hty => roff_h n hc hty)
def rmay_tree : Tree :=
 (.loop ⟨1, 0, 0, 0⟩ (.b2 .and (.b2 .le (.lit (0)) (.lit (0))) (.b2 .and (.b2 .le (.lit (0)) (.ofI (.vop (.len 3) (.cons (.opq 0) .nil)))) (.bapp 1 (.cons (.opq 0) (.cons (.int .i64 (.lit (0))) .nil))))) (.b2 .and (.b2 .le (.lit (0)) (.var 1)) (.b2 .and (.b2 .le (.var 1) (.ofI (.vop (.len 3) (.cons (.opq 0) .nil)))) (.bapp 1 (.cons (.opq 0) (.cons (.int .i64 (.var 1)) .nil)))))
 (.br (.b2 .lt (.var 1) (.ofI (.vop (.len 3) (.cons (.opq 0) .nil))))
 (.need (.b2 .and (.b2 .le (.lit (0)) (.var 1)) (.b2 .lt (.var 1) (.ofI (.vop (.len 3) (.cons (.opq 0) .nil)))))
 (.need (.b2 .le (.blen (.vop (.ssel 3 2) (.cons (.opq 0) (.cons (.int .i64 (.var 1)) .nil)))) (.lit (200)))
 (.br (.not (.bapp 5 (.cons (.vop (.ssel 3 2) (.cons (.opq 0) (.cons (.int .i64 (.var 1)) .nil))) .nil)))
 (.ret (.bool (.tt false)))
 (.br (.not (.b2 .and (.b2 .le (.lit (-86399)) (.ofI (.vop (.sel 3 1) (.cons (.opq 0) (.cons (.int .i64 (.var 1)) .nil))))) (.b2 .le (.ofI (.vop (.sel 3 1) (.cons (.opq 0) (.cons (.int .i64 (.var 1)) .nil)))) (.lit (86399)))))
 (.ret (.bool (.tt false)))
 (.br (.b2 .lt (.ofI (.vop (.sel 3 0) (.cons (.opq 0) (.cons (.int .i64 (.var 1)) .nil)))) (.lit (-1099511627776)))
 (.ret (.bool (.tt false)))
 (.br (.b2 .lt (.lit (1099511627776)) (.ofI (.vop (.sel 3 0) (.cons (.opq 0) (.cons (.int .i64 (.var 1)) .nil)))))
 (.ret (.bool (.tt false)))
 (.br (.b2 .lt (.lit (0)) (.var 1))
 (.need (.b2 .and (.b2 .le (.lit (0)) (.wrap .i64 (.i2 .sub (.var 1) (.lit (1))))) (.b2 .lt (.wrap .i64 (.i2 .sub (.var 1) (.lit (1)))) (.ofI (.vop (.len 3) (.cons (.opq 0) .nil)))))
 (.br (.b2 .le (.ofI (.vop (.sel 3 0) (.cons (.opq 0) (.cons (.int .i64 (.var 1)) .nil)))) (.ofI (.vop (.sel 3 0) (.cons (.opq 0) (.cons (.int .i64 (.wrap .i64 (.i2 .sub (.var 1) (.lit (1))))) .nil)))))
 (.ret (.bool (.tt false)))
 (.back (.b2 .and (.b2 .le (.lit (0)) (.wrap .i64 (.i2 .add (.var 1) (.lit (1))))) (.b2 .and (.b2 .le (.wrap .i64 (.i2 .add (.var 1) (.lit (1)))) (.ofI (.vop (.len 3) (.cons (.opq 0) .nil)))) (.bapp 1 (.cons (.opq 0) (.cons (.int .i64 (.wrap .i64 (.i2 .add (.var 1) (.lit (1))))) .nil))))) (.i2 .sub (.ofI (.vop (.len 3) (.cons (.opq 0) .nil))) (.wrap .i64 (.i2 .add (.var 1) (.lit (1))))) (.i2 .sub (.ofI (.vop (.len 3) (.cons (.opq 0) .nil))) (.var 1)))))
 (.back (.b2 .and (.b2 .le (.lit (0)) (.wrap .i64 (.i2 .add (.var 1) (.lit (1))))) (.b2 .and (.b2 .le (.wrap .i64 (.i2 .add (.var 1) (.lit (1)))) (.ofI (.vop (.len 3) (.cons (.opq 0) .nil)))) (.bapp 1 (.cons (.opq 0) (.cons (.int .i64 (.wrap .i64 (.i2 .add (.var 1) (.lit (1))))) .nil))))) (.i2 .sub (.ofI (.vop (.len 3) (.cons (.opq 0) .nil))) (.wrap .i64 (.i2 .add (.var 1) (.lit (1))))) (.i2 .sub (.ofI (.vop (.len 3) (.cons (.opq 0) .nil))) (.var 1))))))))))
 (.need (.b2 .le (.blen (.str 0)) (.lit (200)))
 (.br (.bapp 5 (.cons (.str 0) .nil))
 (.br (.b2 .and (.b2 .le (.lit (-86399)) (.var 0)) (.b2 .le (.var 0) (.lit (86399))))
 (.ret (.bool (.b2 .le (.ofI (.vop (.len 3) (.cons (.opq 0) .nil))) (.lit (32)))))
 (.ret (.bool (.tt false))))
 (.ret (.bool (.tt false)))))))
abbrev zc_rmay : Con := ⟨39, [(.agg (.cons (.str 0) (.cons (.int .i64 (.var 0)) (.cons (.hs .no (.cons (.int .i64) (.cons (.int .i64) (.cons .str .nil))) (.opq 0)) .nil))))], (.b2 .and (.b2 .le (.blen (.str 0)) (.lit (200))) (.bapp 3 (.cons (.opq 0) .nil))), (.bool (.bapp 2 (.cons (.str 0) (.cons (.int .i64 (.var 0)) (.cons (.opq 0) .nil))))), ⟨1, 0, 1, 1⟩, none⟩
theorem rmay_w : walk Tryd.prog 108 ⟨[zc_rname, zc_roff], syG⟩ [⟨0, ⟨1, 0, 0, 0⟩, [(3, (.int .i64 (.var 1)))], none, (.b2 .and (.b2 .le (.lit (0)) (.var 1)) (.b2 .and (.b2 .le (.var 1) (.ofI (.vop (.len 3) (.cons (.opq 0) .nil)))) (.bapp 1 (.cons (.opq 0) (.cons (.int .i64 (.var 1)) .nil))))), (.i2 .sub (.ofI (.vop (.len 3) (.cons (.opq 0) .nil))) (.var 1)), 0, []⟩] .v zc_rmay zc_rmay.n 3000 = some rmay_tree := by kernel_rfl
theorem rmay_h (fst : Int) (l : Value) (nm : ByteArray) (hc : holds (zE [fst] [] [l] [nm]) (.b2 .and (.b2 .le (.blen (.str 0)) (.lit (200))) (.bapp 3 (.cons (.opq 0) .nil)))) (hty : patsTyp (zE [fst] [] [l] [nm]) [(.agg (.cons (.str 0) (.cons (.int .i64 (.var 0)) (.cons (.hs .no (.cons (.int .i64) (.cons (.int .i64) (.cons .str .nil))) (.opq 0)) .nil))))]) : rmay_tree.holds (fun d => d = denV (zE [fst] [] [l] [nm]) b0 (.bool (.bapp 2 (.cons (.str 0) (.cons (.int .i64 (.var 0)) (.cons (.opq 0) .nil)))))) (zE [fst] [] [l] [nm]) := by
  simp only [Tree.holds, Sy.holds, AllN, Env.more, zE, List.cons_append, List.nil_append, List.append_nil, denV, denI, denB, denL, I2.den, VOp.den, List.getD_cons_zero, List.getD_cons_succ, Cst.den, syso, syse, syio, sybo, zi_ixl, zi_lst, zi_chk, zb_let, zb_rok, zb_zon, zb_shr, zb_pre, zb_nm, List.map_nil, List.map_cons, B2.ofInts, B2.denI, B2.denB, if_true, Bool.false_eq_true, if_false, Nat.div_one, Nat.mul_one, Nat.add_zero, holds] at hc
  simp only [patsTyp, patTyp, patTypL, zE, denV, denL, List.getD_cons_zero, List.getD_cons_succ, and_true, true_and] at hty
  have hL_l : typ (.sl (.cons (.int .i64) (.cons (.int .i64) (.cons .str .nil)))) l := by first | exact hty | exact hty.1 | exact hty.2 | exact hty.1.1 | exact hty.1.2 | exact hty.2.1 | exact hty.2.2 | exact hty.2.2.1 | exact hty.2.2.2
  have hN_l := typ_len (n := 3) hL_l rfl (by omega)
  unfold rmay_tree
  simp only [Tree.holds, Sy.holds, AllN, Env.more, zE, List.cons_append, List.nil_append, List.append_nil, denV, denI, denB, denL, I2.den, VOp.den, List.getD_cons_zero, List.getD_cons_succ, Cst.den, syso, syse, syio, sybo, zi_ixl, zi_lst, zi_chk, zb_let, zb_rok, zb_zon, zb_shr, zb_pre, zb_nm, List.map_nil, List.map_cons, B2.ofInts, B2.denI, B2.denB, if_true, Bool.false_eq_true, if_false, Nat.div_one, Nat.mul_one, Nat.add_zero]
  refine ⟨?_, ?_⟩
  ·
    exact ⟨by omega, by omega, rfl⟩
  ·
    intro i0a hi0
    refine ⟨fun h0 => ?_, fun h0 => ?_⟩
    ·
      refine ⟨?_, fun h1 => ?_⟩
      ·
        first
        | omega
        | (have := short_get hc.2 (k := i0a.toNat) (by omega)
           omega)
      ·
        refine ⟨?_, fun h2 => ?_⟩
        ·
          first
          | omega
          | (have := short_get hc.2 (k := i0a.toNat) (by omega)
             omega)
        ·
          refine ⟨fun h3 => ?_, fun h3 => ?_⟩
          ·
            obtain ⟨hi1, hi2, hi3⟩ := hi0
            have e1 : 0 < i0a → IntKind.wrap .i64 (i0a - 1) = i0a - 1 := fun h => by
              have := wr_i64 (i0a - 1)
              omega
            have hlz : i0a.toNat = 0 → leastR (rows l) i0a.toNat = -1099511627776 := fun h => by rw [h]; rfl
            have hlp : 0 < i0a → leastR (rows l) i0a.toNat = intOf ((rows l).getD ((IntKind.wrap .i64 (i0a - 1)).toNat * 3) Go.undef) + 1 := fun h => by
              rw [e1 h, show (i0a - 1).toNat = i0a.toNat - 1 by omega]
              exact least_pos (by omega)
            have hlg := least_ge hi3
            first
            | (have hm : ¬ zoneB nm fst (rows l) = true := fun hz => by
                 rw [zone_iff] at hz
                 have hr := (rul_iff _ _).1 (okR_get hz.2.2.2 (k := i0a.toNat) (by omega))
                 first
                 | exact h3 hr.2.2.2.2
                 | omega
               exact congrArg Value.bool (Bool.eq_false_iff.2 hm).symm)
            | (have hok : okR (rows l) ((rows l).length / 3) = true := by
                 rw [show (rows l).length / 3 = i0a.toNat by omega]
                 exact hi3
               refine congrArg Value.bool (Bool.eq_iff_iff.2 ?_)
               rw [zone_iff]
               simp only [hok, and_true, decide_eq_true_eq, Bool.false_eq_true, false_iff]
               by_cases hnm : nameB nm = true <;> simp only [hnm, Bool.false_eq_true, true_and, false_and, not_true, not_false_eq_true] at * <;> first | done | omega)
          ·
            refine ⟨fun h4 => ?_, fun h4 => ?_⟩
            ·
              obtain ⟨hi1, hi2, hi3⟩ := hi0
              have e1 : 0 < i0a → IntKind.wrap .i64 (i0a - 1) = i0a - 1 := fun h => by
                have := wr_i64 (i0a - 1)
                omega
              have hlz : i0a.toNat = 0 → leastR (rows l) i0a.toNat = -1099511627776 := fun h => by rw [h]; rfl
              have hlp : 0 < i0a → leastR (rows l) i0a.toNat = intOf ((rows l).getD ((IntKind.wrap .i64 (i0a - 1)).toNat * 3) Go.undef) + 1 := fun h => by
                rw [e1 h, show (i0a - 1).toNat = i0a.toNat - 1 by omega]
                exact least_pos (by omega)
              have hlg := least_ge hi3
              first
              | (have hm : ¬ zoneB nm fst (rows l) = true := fun hz => by
                   rw [zone_iff] at hz
                   have hr := (rul_iff _ _).1 (okR_get hz.2.2.2 (k := i0a.toNat) (by omega))
                   first
                   | exact h3 hr.2.2.2.2
                   | omega
                 exact congrArg Value.bool (Bool.eq_false_iff.2 hm).symm)
              | (have hok : okR (rows l) ((rows l).length / 3) = true := by
                   rw [show (rows l).length / 3 = i0a.toNat by omega]
                   exact hi3
                 refine congrArg Value.bool (Bool.eq_iff_iff.2 ?_)
                 rw [zone_iff]
                 simp only [hok, and_true, decide_eq_true_eq, Bool.false_eq_true, false_iff]
                 by_cases hnm : nameB nm = true <;> simp only [hnm, Bool.false_eq_true, true_and, false_and, not_true, not_false_eq_true] at * <;> first | done | omega)
            ·
              refine ⟨fun h5 => ?_, fun h5 => ?_⟩
              ·
                obtain ⟨hi1, hi2, hi3⟩ := hi0
                have e1 : 0 < i0a → IntKind.wrap .i64 (i0a - 1) = i0a - 1 := fun h => by
                  have := wr_i64 (i0a - 1)
                  omega
                have hlz : i0a.toNat = 0 → leastR (rows l) i0a.toNat = -1099511627776 := fun h => by rw [h]; rfl
                have hlp : 0 < i0a → leastR (rows l) i0a.toNat = intOf ((rows l).getD ((IntKind.wrap .i64 (i0a - 1)).toNat * 3) Go.undef) + 1 := fun h => by
                  rw [e1 h, show (i0a - 1).toNat = i0a.toNat - 1 by omega]
                  exact least_pos (by omega)
                have hlg := least_ge hi3
                first
                | (have hm : ¬ zoneB nm fst (rows l) = true := fun hz => by
                     rw [zone_iff] at hz
                     have hr := (rul_iff _ _).1 (okR_get hz.2.2.2 (k := i0a.toNat) (by omega))
                     first
                     | exact h3 hr.2.2.2.2
                     | omega
                   exact congrArg Value.bool (Bool.eq_false_iff.2 hm).symm)
                | (have hok : okR (rows l) ((rows l).length / 3) = true := by
                     rw [show (rows l).length / 3 = i0a.toNat by omega]
                     exact hi3
                   refine congrArg Value.bool (Bool.eq_iff_iff.2 ?_)
                   rw [zone_iff]
                   simp only [hok, and_true, decide_eq_true_eq, Bool.false_eq_true, false_iff]
                   by_cases hnm : nameB nm = true <;> simp only [hnm, Bool.false_eq_true, true_and, false_and, not_true, not_false_eq_true] at * <;> first | done | omega)
              ·
                refine ⟨fun h6 => ?_, fun h6 => ?_⟩
                ·
                  obtain ⟨hi1, hi2, hi3⟩ := hi0
                  have e1 : 0 < i0a → IntKind.wrap .i64 (i0a - 1) = i0a - 1 := fun h => by
                    have := wr_i64 (i0a - 1)
                    omega
                  have hlz : i0a.toNat = 0 → leastR (rows l) i0a.toNat = -1099511627776 := fun h => by rw [h]; rfl
                  have hlp : 0 < i0a → leastR (rows l) i0a.toNat = intOf ((rows l).getD ((IntKind.wrap .i64 (i0a - 1)).toNat * 3) Go.undef) + 1 := fun h => by
                    rw [e1 h, show (i0a - 1).toNat = i0a.toNat - 1 by omega]
                    exact least_pos (by omega)
                  have hlg := least_ge hi3
                  first
                  | (have hm : ¬ zoneB nm fst (rows l) = true := fun hz => by
                       rw [zone_iff] at hz
                       have hr := (rul_iff _ _).1 (okR_get hz.2.2.2 (k := i0a.toNat) (by omega))
                       first
                       | exact h3 hr.2.2.2.2
                       | omega
                     exact congrArg Value.bool (Bool.eq_false_iff.2 hm).symm)
                  | (have hok : okR (rows l) ((rows l).length / 3) = true := by
                       rw [show (rows l).length / 3 = i0a.toNat by omega]
                       exact hi3
                     refine congrArg Value.bool (Bool.eq_iff_iff.2 ?_)
                     rw [zone_iff]
                     simp only [hok, and_true, decide_eq_true_eq, Bool.false_eq_true, false_iff]
                     by_cases hnm : nameB nm = true <;> simp only [hnm, Bool.false_eq_true, true_and, false_and, not_true, not_false_eq_true] at * <;> first | done | omega)
                ·
                  refine ⟨fun h7 => ?_, fun h7 => ?_⟩
                  ·
                    have wf0 := wr_i64 (i0a - 1)
                    refine ⟨?_, fun h8 => ?_⟩
                    ·
                      first
                      | omega
                      | (have := short_get hc.2 (k := i0a.toNat) (by omega)
                         omega)
                    ·
                      try simp only [hw0]
                      refine ⟨fun h9 => ?_, fun h9 => ?_⟩
                      ·
                        obtain ⟨hi1, hi2, hi3⟩ := hi0
                        have e1 : 0 < i0a → IntKind.wrap .i64 (i0a - 1) = i0a - 1 := fun h => by
                          have := wr_i64 (i0a - 1)
                          omega
                        have hlz : i0a.toNat = 0 → leastR (rows l) i0a.toNat = -1099511627776 := fun h => by rw [h]; rfl
                        have hlp : 0 < i0a → leastR (rows l) i0a.toNat = intOf ((rows l).getD ((IntKind.wrap .i64 (i0a - 1)).toNat * 3) Go.undef) + 1 := fun h => by
                          rw [e1 h, show (i0a - 1).toNat = i0a.toNat - 1 by omega]
                          exact least_pos (by omega)
                        have hlg := least_ge hi3
                        first
                        | (have hm : ¬ zoneB nm fst (rows l) = true := fun hz => by
                             rw [zone_iff] at hz
                             have hr := (rul_iff _ _).1 (okR_get hz.2.2.2 (k := i0a.toNat) (by omega))
                             first
                             | exact h3 hr.2.2.2.2
                             | omega
                           exact congrArg Value.bool (Bool.eq_false_iff.2 hm).symm)
                        | (have hok : okR (rows l) ((rows l).length / 3) = true := by
                             rw [show (rows l).length / 3 = i0a.toNat by omega]
                             exact hi3
                           refine congrArg Value.bool (Bool.eq_iff_iff.2 ?_)
                           rw [zone_iff]
                           simp only [hok, and_true, decide_eq_true_eq, Bool.false_eq_true, false_iff]
                           by_cases hnm : nameB nm = true <;> simp only [hnm, Bool.false_eq_true, true_and, false_and, not_true, not_false_eq_true] at * <;> first | done | omega)
                      ·
                        have wf1 := wr_i64 (i0a + 1)
                        refine ⟨?_, ?_⟩
                        ·
                          obtain ⟨hi1, hi2, hi3⟩ := hi0
                          have e1 : 0 < i0a → IntKind.wrap .i64 (i0a - 1) = i0a - 1 := fun h => by
                            have := wr_i64 (i0a - 1)
                            omega
                          have hlz : i0a.toNat = 0 → leastR (rows l) i0a.toNat = -1099511627776 := fun h => by rw [h]; rfl
                          have hlp : 0 < i0a → leastR (rows l) i0a.toNat = intOf ((rows l).getD ((IntKind.wrap .i64 (i0a - 1)).toNat * 3) Go.undef) + 1 := fun h => by
                            rw [e1 h, show (i0a - 1).toNat = i0a.toNat - 1 by omega]
                            exact least_pos (by omega)
                          have e : IntKind.wrap .i64 (i0a + 1) = i0a + 1 := by omega
                          rw [e, show (i0a + 1).toNat = i0a.toNat + 1 by omega]
                          refine ⟨by omega, by omega, ?_⟩
                          simp only [okR, hi3, Bool.true_and]
                          exact (rul_iff _ _).2 ⟨by omega, by omega, by omega, by omega, Decidable.of_not_not h3⟩
                        ·
                          omega
                  ·
                    have wf2 := wr_i64 (i0a + 1)
                    refine ⟨?_, ?_⟩
                    ·
                      obtain ⟨hi1, hi2, hi3⟩ := hi0
                      have e1 : 0 < i0a → IntKind.wrap .i64 (i0a - 1) = i0a - 1 := fun h => by
                        have := wr_i64 (i0a - 1)
                        omega
                      have hlz : i0a.toNat = 0 → leastR (rows l) i0a.toNat = -1099511627776 := fun h => by rw [h]; rfl
                      have hlp : 0 < i0a → leastR (rows l) i0a.toNat = intOf ((rows l).getD ((IntKind.wrap .i64 (i0a - 1)).toNat * 3) Go.undef) + 1 := fun h => by
                        rw [e1 h, show (i0a - 1).toNat = i0a.toNat - 1 by omega]
                        exact least_pos (by omega)
                      have e : IntKind.wrap .i64 (i0a + 1) = i0a + 1 := by omega
                      rw [e, show (i0a + 1).toNat = i0a.toNat + 1 by omega]
                      refine ⟨by omega, by omega, ?_⟩
                      simp only [okR, hi3, Bool.true_and]
                      exact (rul_iff _ _).2 ⟨by omega, by omega, by omega, by omega, Decidable.of_not_not h3⟩
                    ·
                      omega
    ·
      refine ⟨?_, fun h10 => ?_⟩
      ·
        first
        | omega
        | (have := short_get hc.2 (k := i0a.toNat) (by omega)
           omega)
      ·
        refine ⟨fun h11 => ?_, fun h11 => ?_⟩
        ·
          refine ⟨fun h12 => ?_, fun h12 => ?_⟩
          ·
            obtain ⟨hi1, hi2, hi3⟩ := hi0
            have e1 : 0 < i0a → IntKind.wrap .i64 (i0a - 1) = i0a - 1 := fun h => by
              have := wr_i64 (i0a - 1)
              omega
            have hlz : i0a.toNat = 0 → leastR (rows l) i0a.toNat = -1099511627776 := fun h => by rw [h]; rfl
            have hlp : 0 < i0a → leastR (rows l) i0a.toNat = intOf ((rows l).getD ((IntKind.wrap .i64 (i0a - 1)).toNat * 3) Go.undef) + 1 := fun h => by
              rw [e1 h, show (i0a - 1).toNat = i0a.toNat - 1 by omega]
              exact least_pos (by omega)
            have hlg := least_ge hi3
            first
            | (have hm : ¬ zoneB nm fst (rows l) = true := fun hz => by
                 rw [zone_iff] at hz
                 have hr := (rul_iff _ _).1 (okR_get hz.2.2.2 (k := i0a.toNat) (by omega))
                 first
                 | exact h3 hr.2.2.2.2
                 | omega
               exact congrArg Value.bool (Bool.eq_false_iff.2 hm).symm)
            | (have hok : okR (rows l) ((rows l).length / 3) = true := by
                 rw [show (rows l).length / 3 = i0a.toNat by omega]
                 exact hi3
               refine congrArg Value.bool (Bool.eq_iff_iff.2 ?_)
               rw [zone_iff]
               simp only [hok, and_true, decide_eq_true_eq, Bool.false_eq_true, false_iff]
               by_cases hnm : nameB nm = true <;> simp only [hnm, Bool.false_eq_true, true_and, false_and, not_true, not_false_eq_true] at * <;> first | done | omega)
          ·
            obtain ⟨hi1, hi2, hi3⟩ := hi0
            have e1 : 0 < i0a → IntKind.wrap .i64 (i0a - 1) = i0a - 1 := fun h => by
              have := wr_i64 (i0a - 1)
              omega
            have hlz : i0a.toNat = 0 → leastR (rows l) i0a.toNat = -1099511627776 := fun h => by rw [h]; rfl
            have hlp : 0 < i0a → leastR (rows l) i0a.toNat = intOf ((rows l).getD ((IntKind.wrap .i64 (i0a - 1)).toNat * 3) Go.undef) + 1 := fun h => by
              rw [e1 h, show (i0a - 1).toNat = i0a.toNat - 1 by omega]
              exact least_pos (by omega)
            have hlg := least_ge hi3
            first
            | (have hm : ¬ zoneB nm fst (rows l) = true := fun hz => by
                 rw [zone_iff] at hz
                 have hr := (rul_iff _ _).1 (okR_get hz.2.2.2 (k := i0a.toNat) (by omega))
                 first
                 | exact h3 hr.2.2.2.2
                 | omega
               exact congrArg Value.bool (Bool.eq_false_iff.2 hm).symm)
            | (have hok : okR (rows l) ((rows l).length / 3) = true := by
                 rw [show (rows l).length / 3 = i0a.toNat by omega]
                 exact hi3
               refine congrArg Value.bool (Bool.eq_iff_iff.2 ?_)
               rw [zone_iff]
               simp only [hok, and_true, decide_eq_true_eq, Bool.false_eq_true, false_iff]
               by_cases hnm : nameB nm = true <;> simp only [hnm, Bool.false_eq_true, true_and, false_and, not_true, not_false_eq_true] at * <;> first | done | omega)
        ·
          obtain ⟨hi1, hi2, hi3⟩ := hi0
          have e1 : 0 < i0a → IntKind.wrap .i64 (i0a - 1) = i0a - 1 := fun h => by
            have := wr_i64 (i0a - 1)
            omega
          have hlz : i0a.toNat = 0 → leastR (rows l) i0a.toNat = -1099511627776 := fun h => by rw [h]; rfl
          have hlp : 0 < i0a → leastR (rows l) i0a.toNat = intOf ((rows l).getD ((IntKind.wrap .i64 (i0a - 1)).toNat * 3) Go.undef) + 1 := fun h => by
            rw [e1 h, show (i0a - 1).toNat = i0a.toNat - 1 by omega]
            exact least_pos (by omega)
          have hlg := least_ge hi3
          first
          | (have hm : ¬ zoneB nm fst (rows l) = true := fun hz => by
               rw [zone_iff] at hz
               have hr := (rul_iff _ _).1 (okR_get hz.2.2.2 (k := i0a.toNat) (by omega))
               first
               | exact h3 hr.2.2.2.2
               | omega
             exact congrArg Value.bool (Bool.eq_false_iff.2 hm).symm)
          | (have hok : okR (rows l) ((rows l).length / 3) = true := by
               rw [show (rows l).length / 3 = i0a.toNat by omega]
               exact hi3
             refine congrArg Value.bool (Bool.eq_iff_iff.2 ?_)
             rw [zone_iff]
             simp only [hok, and_true, decide_eq_true_eq, Bool.false_eq_true, false_iff]
             by_cases hnm : nameB nm = true <;> simp only [hnm, Bool.false_eq_true, true_and, false_and, not_true, not_false_eq_true] at * <;> first | done | omega)
theorem zg_rmay : zc_rmay.Good Tryd.prog syG (zE [] [] [] []) := good_of_walk (Γ := ⟨[zc_rname, zc_roff], syG⟩) (ρ := zE [] [] [] []) sym rmay_w rfl (fun _ _ _ _ => (ok_cons (Con.Good.env zg_rname _ _ _ _) (ok_cons (Con.Good.env zg_roff _ _ _ _) ok_nil))) (fun fst l nm hc hty => rmay_h fst l nm hc hty)
end Go.Proofs.YtehiienjodicpaaDoor
