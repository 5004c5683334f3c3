/-
 Layer 6: a blob opened, told plainly.
-/
import Derived.Test.YtikfgnmljpjnbaaDoorPbapob
import Derived.Test.YtikfgnmljpjnbaaDoorN09lpob
namespace Go.Proofs.YtikfgnmljpjnbaaDoor
open Go.RowKit Go.Extern.Stop Go.Stop Go.Extern
set_option linter.unusedVariables false
set_option linter.unusedSimpArgs false
theorem con_pl {P : Program} {G : Sy.Glob} {ρ : Sy.Env} {c : Sy.Con} (h : c.Good P G ρ) (he : c.eat = none) (iv : List Int) (bv : List Bool) (vv : List Value) (sv : List ByteArray) (w : World) (xs : List Value)
   (n1 : iv.length = c.n.i) (n2 : bv.length = c.n.b) (n3 : vv.length = c.n.v) (n4 : sv.length = c.n.s) (hc : Sy.holds { ρ with iv := iv, bv := bv, vv := vv, sv := sv } c.cnd) (hG : Sy.GlobOk G (fun _ _ => True) w)
   (hr : Sy.RelT ⟨{ ρ with iv := iv, bv := bv, vv := vv, sv := sv }, fun _ => 0, fun _ => none, fun _ _ => True, w⟩ c.pat xs) :
   Calls P c.f xs.toArray w fun e w' => ∃ x o' ok', e = .returned x ∧ Below w.heap.size w w' ∧ Sy.Rel ⟨{ ρ with iv := iv, bv := bv, vv := vv, sv := sv }, fun _ => 0, o', ok', w'⟩ (Sy.relab 0 c.res) x := by
 refine (h iv bv vv sv (fun _ => 0) (fun _ _ => True) w xs n1 n2 n3 n4 hc (fun _ _ _ => trivial) hG hr (fun k e K h => by rw [he] at h; cases h)).mono ?_
 rintro e w' ⟨x, o', ok', rfl, hd, hx, _⟩
 have hex : c.ex xs = none := by unfold Sy.Con.ex; rw [he]
 rw [hex] at hd
 have hg := hd.1
 exact ⟨x, o', ok', rfl, ⟨hg.os, hg.tape, hg.output, hg.size, fun k hk => hg.block k hk (by simp)⟩, hx⟩
theorem glob_ok {w : World} (hg : w.cell? ⟨0, 0, none⟩ = some asHandle) : Sy.GlobOk syG (fun _ _ => True) w := fun x hx => by
 obtain rfl := List.mem_singleton.1 hx
 exact ⟨trivial, handle_lt hg, hg⟩
theorem kind_pl (A : Option Addr) (c : Nat) (l : List UInt8) (w : World) (hrd : Rd w A l) (hcz : A = none → c = 0) (hlc : l.length ≤ c) (hl : l.length ≤ 140737488355000) (hg : w.cell? ⟨0, 0, none⟩ = some asHandle) :
   Calls Tryd.prog 35 #[.slice A l.length c] w fun e w' => e = .returned (.tuple #[.int .u8 (kdK (l.map bV)), .int .i64 (kdN (l.map bV)), Sy.errVal 101 (kdE (l.map bV))]) ∧ Below w.heap.size w w' := by
 refine (con_pl zb6g_kind rfl [] [] [.tuple (l.map bV).toArray] [] w [.slice A l.length c] rfl rfl rfl rfl ⟨okR_isB (isB_bV l), ?_⟩ (glob_ok hg) ⟨⟨deep_of_rd hrd hcz hlc (by omega) (fun _ _ _ _ => trivial), fun _ _ h => by cases h⟩, trivial⟩).mono ?_
 · show ((((l.map bV).length / 1 : Nat)) : Int) ≤ 140737488355000
   rw [List.length_map, Nat.div_one]
   omega
 · rintro e w' ⟨x, o', ok', rfl, hb, hx⟩
   rw [Sy.relab_flat 0 _ rfl] at hx
   have := Sy.Rel.eq hx rfl
   subst this
   exact ⟨rfl, hb⟩
theorem open_er (A : Option Addr) (c n : Nat) (l : List UInt8) (k : Int) (w : World) (hrd : Rd w A l) (hn : n = l.length) (hcz : A = none → c = 0) (hlc : l.length ≤ c) (hl : l.length ≤ 140737488355000) (h0 : 0 ≤ k) (h1 : k ≤ 255) (hg : w.cell? ⟨0, 0, none⟩ = some asHandle) :
   Calls Tryd.prog 10 #[.int .u8 k, .slice A n c] w fun e w' => ∃ v, e = .returned (.tuple #[v, Sy.errVal 101 (blE (l.map bV) k)]) ∧ Below w.heap.size w w' := by
 subst hn
 refine (con_pl zb6g_open rfl [k] [] [.tuple (l.map bV).toArray] [] w [.int .u8 k, .slice A l.length c] rfl rfl rfl rfl ⟨⟨okR_isB (isB_bV l), ?_⟩, h0, h1⟩ (glob_ok hg) ⟨rfl, ⟨deep_of_rd hrd hcz hlc (by omega) (fun _ _ _ _ => trivial), fun _ _ h => by cases h⟩, trivial⟩).mono ?_
 · show ((((l.map bV).length / 1 : Nat)) : Int) ≤ 140737488355000
   rw [List.length_map, Nat.div_one]
   omega
 · rintro e w' ⟨x, o', ok', rfl, hb, vs, rfl, hL⟩
   rw [Sy.relL_toL] at hL
   match vs, hL with
   | [v0, v1], ⟨_, h2, _⟩ =>
     have h3 : v1 = Sy.errVal 101 (blE (l.map bV) k) := h2
     subst h3
     exact ⟨v0, rfl, hb⟩
   | [], hL => exact hL.elim
   | [_], hL => exact hL.2.elim
   | _ :: _ :: _ :: _, hL => exact hL.2.2.elim
theorem bV_nat (m : Nat) : bV (UInt8.ofNat m) = .int .u8 ((m : Int) % 256) := by
 unfold bV
 rw [UInt8.toNat_ofNat']
 congr 1
theorem blob_is {k : Int} {l : List UInt8} (h0 : 1 ≤ k) (h1 : k ≤ 6) (hl : l.length ≤ 1024) : (blobOf k l).map bV = Sy.rows (slV (l.map bV) k) ∧ slE (l.map bV) k = 0 ∧ (blobOf k l).length = l.length + 9 := by
 have hs : slE (l.map bV) k = 0 := by
   unfold slE
   rw [if_neg (by omega), List.length_map, if_neg (by omega)]
 refine ⟨?_, hs, ?_⟩
 · unfold slV
   rw [if_pos hs]
   show (blobOf k l).map bV = (hdB k ((l.map bV).length : Nat) ++ l.map bV) ++ (sumBytes (crcMore 0 (byL (hdB k ((l.map bV).length : Nat) ++ l.map bV)))).map bV
   have e : ([116, 109, UInt8.ofNat k.toNat] ++ leB l.length 2 ++ l).map bV = hdB k ((l.map bV).length : Nat) ++ l.map bV := by
     rw [List.map_append, List.map_append, List.length_map]
     congr 1
     show [bV 116, bV 109, bV (UInt8.ofNat k.toNat)] ++ _ = _
     rw [bV_of (by omega) (by omega)]
     unfold hdB
     congr 1
     show [bV (UInt8.ofNat (l.length / 1)), bV (UInt8.ofNat (l.length / 256))] = [Value.int .u8 ((l.length : Int) % 256), .int .u8 ((l.length : Int) / 256 % 256)]
     rw [bV_nat, bV_nat, Nat.div_one]
     congr 2
   unfold blobOf sealOf
   rw [List.map_append, e]
   congr 3
   rw [← e, byL_bV]
 · unfold blobOf
   rw [show (sealOf ([116, 109, UInt8.ofNat k.toNat] ++ leB l.length 2 ++ l)).length = ([116, 109, UInt8.ofNat k.toNat] ++ leB l.length 2 ++ l).length + 4 from List.length_append]
   simp only [List.length_append, leB_length, List.length_cons, List.length_nil]
   omega
end Go.Proofs.YtikfgnmljpjnbaaDoor
