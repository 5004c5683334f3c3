/-
 Layer 6: a blob opens.
-/
import Derived.Test.YtikfgnmljpjnbaaDoorPbbpob
namespace Go.Proofs.YtikfgnmljpjnbaaDoor
open Go.RowKit Go.Extern.Stop Go.Stop Go.Extern
set_option linter.unusedVariables false
set_option linter.unusedSimpArgs false
theorem blob_kd {k : Int} {l : List UInt8} (h0 : 1 ≤ k) (h1 : k ≤ 6) (hl : l.length ≤ 1024) : blE ((blobOf k l).map bV) k = 0 ∧ kdE ((blobOf k l).map bV) = 0 ∧ kdK ((blobOf k l).map bV) = k ∧ kdN ((blobOf k l).map bV) = ((l.length + 9 : Nat) : Int) := by
 obtain ⟨e1, e2, e3⟩ := blob_is (k := k) (l := l) h0 h1 hl
 obtain ⟨b1, b2, b3, b4⟩ := seal_back (isB_bV l) e2
 rw [e1]
 rcases bl_spec (Sy.rows (slV (l.map bV) k)) k with ⟨h, _⟩ | ⟨h, _⟩ | ⟨_, _, _, x1, x2, x3⟩
 · omega
 · omega
 · refine ⟨b3, x1, x2, ?_⟩
   rw [x3, b2, List.length_map]
theorem kind_ok (A : Option Addr) (c n : Nat) (k : Int) (l : List UInt8) (w : World) (hrd : Rd w A (blobOf k l)) (hn : n = l.length + 9) (hcz : A = none → c = 0) (hlc : n ≤ c) (h0 : 1 ≤ k) (h1 : k ≤ 6) (hl : l.length ≤ 1024) (hg : w.cell? ⟨0, 0, none⟩ = some asHandle) :
   Calls Tryd.prog 35 #[.slice A n c] w fun e w' => e = .returned (.tuple #[.int .u8 k, .int .i64 n, .nilIface]) ∧ Below w.heap.size w w' := by
 obtain ⟨_, _, e3⟩ := blob_is (k := k) (l := l) h0 h1 hl
 obtain ⟨_, x1, x2, x3⟩ := blob_kd (k := k) (l := l) h0 h1 hl
 have := kind_pl A c (blobOf k l) w hrd hcz (by omega) (by omega) hg
 rw [x1, x2, x3, e3, ← hn] at this
 exact this
set_option maxRecDepth 100000 in
set_option maxHeartbeats 4000000 in
theorem open_ok (A : Option Addr) (c n : Nat) (k : Int) (l : List UInt8) (w : World) (hrd : Rd w A (blobOf k l)) (hn : n = l.length + 9) (hcz : A = none → c = 0) (hlc : n ≤ c) (h0 : 1 ≤ k) (h1 : k ≤ 6) (hl : l.length ≤ 1024) (hg : w.cell? ⟨0, 0, none⟩ = some asHandle) :
   Calls Tryd.prog 10 #[.int .u8 k, .slice A n c] w fun e w' => ∃ v, e = .returned (.tuple #[v, .nilIface]) ∧ w'.ownsRow w.heap.size 5 1 v l.length (bv l) ∧ Below w.heap.size w w' := by
 obtain ⟨i0, hi, hz0, hz1, hz2⟩ := info_parts infoU8
 subst hn
 go_enter Tryd.func10, Tryd.ntmps10
 go_wp2_with (first | (go_at_call 36; (with_reducible refine (known_pl k _ h0 h1).mono ?_); rintro e w' ⟨rfl, rfl⟩) | (go_at_call 35; (with_reducible refine (kind_ok A c _ k l _ hrd rfl hcz hlc h0 h1 hl hg).mono ?_); rintro e w1 ⟨rfl, hb1⟩))
 obtain ⟨p, hp⟩ : ∃ p, p = [116, 109, UInt8.ofNat k.toNat] ++ leB l.length 2 ++ l := ⟨_, rfl⟩
 have hpl : p.length = l.length + 5 := by rw [hp]; simp only [List.length_append, leB_length, List.length_cons, List.length_nil]; omega
 have hpd : p.drop 5 = l := by
   rw [hp]
   exact List.drop_left' (by simp only [List.length_append, leB_length, List.length_cons, List.length_nil])
 have hrs : Rd w1 A (sealOf p) := by rw [hp]; exact hrd.below hb1
 clear hp
 (with_reducible refine (open_seal A c _ p _ (by exact hrs) (by omega) (by omega) (by omega)).mono ?_)
 rintro e w2 ⟨A2, c2, rfl, hz2', hr2, HB2, hc2⟩
 obtain ⟨ad, rfl⟩ : ∃ ad, A2 = some ad := by
   cases A2 with
   | none => have := hr2.1 rfl; rw [this] at hpl; simp at hpl
   | some ad => exact ⟨ad, rfl⟩
 have hb2 : Below w.heap.size w w2 := hb1.trans (HB2.mono hb1.size)
 have hrl : Rd w2 (some (ad.add 5)) l := by have := hr2.drop 5; rw [hpd] at this; exact this
 rw [hpl]
 rw [hpl] at hc2
 rw [add_lit _ _ (by decide)] at hrl
 have hrl2 : Rd w2 (if c2 = 5 then some ad else some ⟨ad.block, ad.off + 5, none⟩) l := by
   split
   · have : l = [] := List.eq_nil_of_length_eq_zero (by omega)
     rw [this]
     exact Rd.nil _ _
   · exact hrl
 go_wp2_with (at_builtin; (refine wpList_append_b rfl (.const (.slice none 0 0)) (.tmp 42) 22 rfl w.heap.size 5 i0 (.int .u8 0) Tryd.underlying22 hi hz0 hz1 hz2 rfl (.slice none 0 0) 0 [] rfl (World.ownsRow_nil _ _ _ _) (if c2 = 5 then some ad else some ⟨ad.block, ad.off + 5, none⟩) (c2 - 5) l rfl hrl2 (fun e => by split at e <;> cases e) (by omega) hb2.size ?_; intro v3 w3 hown3 hg3 hat3))
 all_goals
   go_ret2
   simp only [Nat.zero_add, List.nil_append] at hown3
   exact ⟨v3, rfl, hown3, hb2.grown hg3 hb2.size (fun k hk => by cases hk)⟩
end Go.Proofs.YtikfgnmljpjnbaaDoor
