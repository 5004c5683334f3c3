/-
 Layer 5: the contracts, once more, in the forms that the statements meet.
-/
import Derived.Test.YtikfgnmljpjnbaaDoorW05fpob
namespace Go.Proofs.YtikfgnmljpjnbaaDoor
open Go.RowKit Go.Extern.Stop Go.Stop Go.Extern
set_option linter.unusedVariables false
set_option linter.unusedSimpArgs false
theorem put2_n (A : Option Addr) (c n : Nat) (l m : List UInt8) (x : Int) (w : World) (hrd : Rd w A l) (hcz : A = none → c = 0) (hn : n = l.length) (hl : l.length ≤ 140737488355000) (hx0 : 0 ≤ x) (hx1 : x < 65536) (hm : l ++ leB x.toNat 2 = m) :
   Calls Tryd.prog 37 #[.slice A n c, .int .u16 x] w (OwnP w m) := by subst hn hm; exact put2_c A c l x w hrd hcz hl hx0 hx1
theorem put8_n (A : Option Addr) (c n : Nat) (l m : List UInt8) (x : Int) (w : World) (hrd : Rd w A l) (hcz : A = none → c = 0) (hn : n = l.length) (hl : l.length ≤ 140737488355000) (hx : InR x) (hm : l ++ leB (u64of x) 8 = m) :
   Calls Tryd.prog 44 #[.slice A n c, .int .i64 x] w (OwnP w m) := by subst hn hm; exact put8_c A c l x w hrd hcz hl hx
theorem new_n (A : Option Addr) (c n : Nat) (l : List UInt8) (w : World) (hrd : Rd w A l) (hcz : A = none → c = 0) (hn : n = l.length) (hl : l.length ≤ 140737488355328) :
   Calls Tryd.prog 49 #[.slice A n c] w (NewP w l) := by subst hn; exact new_c A c l w hrd hcz hl
theorem get1_i (w : World) (g : Nat) (v : Int) (l l' : List UInt8) (sh sh' : Bool) (h : Rdr w g l sh) (hl : l.length ≤ 140737488355328) (hv : ((getV l 1 : Nat) : Int) = v) (hL : getL l 1 = l') (hS : getS l sh 1 = sh') :
   Calls Tryd.prog 50 #[.pointer (some ⟨g, 0, none⟩)] w (NumP w g (.int .u8 v) l' sh') := by subst hv hL hS; exact get1_c w g l sh h hl
theorem get2_i (w : World) (g : Nat) (v : Int) (l l' : List UInt8) (sh sh' : Bool) (h : Rdr w g l sh) (hl : l.length ≤ 140737488355328) (hv : ((getV l 2 : Nat) : Int) = v) (hL : getL l 2 = l') (hS : getS l sh 2 = sh') :
   Calls Tryd.prog 52 #[.pointer (some ⟨g, 0, none⟩)] w (NumP w g (.int .u16 v) l' sh') := by subst hv hL hS; exact get2_c w g l sh h hl
theorem get8_n (w : World) (g : Nat) (x : Int) (l l' : List UInt8) (sh sh' : Bool) (h : Rdr w g l sh) (hl : l.length ≤ 140737488355328) (hv : wrap64 (getV l 8 : Nat) = x) (hL : getL l 8 = l') (hS : getS l sh 8 = sh') :
   Calls Tryd.prog 51 #[.pointer (some ⟨g, 0, none⟩)] w (NumP w g (.int .i64 x) l' sh') := by subst hv hL hS; exact get8_c w g l sh h hl
theorem get_put (v n : Nat) (r : List UInt8) (sh : Bool) : getV (leB v n ++ r) n = v % 256 ^ n ∧ getL (leB v n ++ r) n = r ∧ getS (leB v n ++ r) sh n = sh := by
 have hl : n ≤ (leB v n ++ r).length := by simp [leB_length]
 unfold getV getL getS
 simp only [if_pos hl]
 exact ⟨by rw [List.take_left' (leB_length v n), leV_leB], List.drop_left' (leB_length v n), trivial⟩
theorem wrap_u64of (x : Int) (hx : InR x) : wrap64 ((u64of x % 256 ^ 8 : Nat) : Int) = x := by
 have h := u64of_lt x
 have e : u64of x % 256 ^ 8 = u64of x := Nat.mod_eq_of_lt (by have : 256 ^ 8 = 18446744073709551616 := by decide
                                                              omega)
 rw [e]
 unfold u64of at *
 unfold wrap64
 omega
theorem get_txt (s : ByteArray) (r : List UInt8) (sh : Bool) (hs : s.size ≤ 255) : getT (txt s ++ r) = sB s ∧ getTL (txt s ++ r) = r ∧ getTS (txt s ++ r) sh = sh := by
 have e : txt s ++ r = leB s.size 1 ++ (sB s ++ r) := by simp [txt]
 obtain ⟨h1, h2, h3⟩ := get_put s.size 1 (sB s ++ r) sh
 have hm : s.size % 256 ^ 1 = s.size := Nat.mod_eq_of_lt (by have : 256 ^ 1 = 256 := by decide
                                                             omega)
 rw [hm] at h1
 have hle : s.size ≤ (sB s ++ r).length := by simp [sB_length]
 unfold getT getTL getTS
 rw [e, h1, h2, h3]
 unfold getL getS
 simp only [if_pos hle]
 exact ⟨List.take_left' (sB_length s), List.drop_left' (sB_length s), trivial⟩
end Go.Proofs.YtikfgnmljpjnbaaDoor
