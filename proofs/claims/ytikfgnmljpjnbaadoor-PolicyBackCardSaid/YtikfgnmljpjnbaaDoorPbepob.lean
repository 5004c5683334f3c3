/-
 Layer 28: a policy's blob is made.
-/
import Derived.Test.YtikfgnmljpjnbaaDoorPbdpob
namespace Go.Proofs.YtikfgnmljpjnbaaDoor
open Go.RowKit Go.Extern.Stop Go.Stop Go.Extern
set_option linter.unusedVariables false
set_option linter.unusedSimpArgs false
structure PolOk (k b a q w c f : Int) (s : ByteArray) (z L : Value) (W : World) : Prop where
 p : poP k b a q w c s f (Sy.rows L)
 k : InR k
 b : InR b
 a : InR a
 q : InR q
 w : InR w
 c : InR c
 f : InR f
 d : Sy.deepC (fun _ _ => True) W (.sl KRU) z L
 t : Sy.typ (.sl KRU) L
theorem deep_below {w w' : World} {K : Sy.SK} {v c : Value} (h : Sy.deepC (fun _ _ => True) w K v c) (hb : Below w.heap.size w w') : Sy.deepC (fun _ _ => True) w' K v c :=
 (Sy.deep_mono ⟨hb.size, fun b off hl _ => ⟨trivial, hb.cell (p := ⟨b, off, none⟩) hl⟩⟩ K).1 v c h
theorem PolOk.below {k b a q w c f : Int} {s : ByteArray} {z L : Value} {W W' : World} (h : PolOk k b a q w c f s z L W) (hb : Below W.heap.size W W') : PolOk k b a q w c f s z L W' := { h with d := deep_below h.d hb }
theorem PolOk.zone {k b a q w c f : Int} {s : ByteArray} {z L : Value} {W : World} (h : PolOk k b a q w c f s z L W) : zoneB s f (Sy.rows L) = true := zon_chk.2 h.p.2.2.2.2.2.2.2
abbrev zB (s : ByteArray) (f : Int) (L : Value) : List UInt8 := byL (Sy.rows (zkV s f (Sy.rows L)))
theorem zB_len {k b a q w c f : Int} {s : ByteArray} {z L : Value} {W : World} (h : PolOk k b a q w c f s z L W) : 9 ≤ (zB s f L).length ∧ (zB s f L).length ≤ 959 := by
 have hz := h.zone
 have hEl := encZ_len hz (Nat.le_refl ((Sy.rows L).length / 3))
 have hs : slE (encZ s f (Sy.rows L) ((Sy.rows L).length / 3)) 6 = 0 := by rcases sl_spec (encZ s f (Sy.rows L) ((Sy.rows L).length / 3)) 6 with h | h | h <;> omega
 have e : zkV s f (Sy.rows L) = slV (encZ s f (Sy.rows L) ((Sy.rows L).length / 3)) 6 := by unfold zkV; rw [if_pos hz]
 obtain ⟨s1, s2, s3, s4⟩ := seal_back (isB_encZ s f (Sy.rows L) _) hs
 rw [byL_len, e]
 omega
theorem polB_len (k b a q w c : Int) (j : Bool) (z : List UInt8) : (polB k b a q w c j z).length = 44 + z.length := by
 unfold polB
 simp only [List.length_append, leB_length, List.length_cons, List.length_nil]
theorem kind_in {k b a q w c f : Int} {s : ByteArray} {z L : Value} {W : World} (h : PolOk k b a q w c f s z L W) : 0 ≤ k ∧ k ≤ 2 := by
 obtain ⟨_, _, _, _, h5⟩ := h.p.1
 omega
theorem nums_pl {k b a q w c f : Int} {j : Bool} {s : ByteArray} {z L : Value} {W : World} (hd : Sy.deepC (fun _ _ => True) W (.sl KRU) z L) (hg : W.cell? ⟨0, 0, none⟩ = some asHandle) :
   Calls Tryd.prog 43 #[polV k b a q w c j s f z] W fun e w' => e = .returned (.agg #[.int .i64 b, .int .i64 a, .int .i64 q, .int .i64 w, .int .i64 c]) ∧ Below W.heap.size W w' := by
 refine (con_pl pb_g_nums rfl [k, b, a, q, w, c, f] [j] [L] [s] W [polV k b a q w c j s f z] rfl rfl rfl rfl rfl (glob_ok hg) ⟨⟨_, rfl, rfl, rfl, rfl, rfl, rfl, rfl, rfl, rfl, rfl, ⟨hd, fun _ _ h => by cases h⟩, rfl⟩, trivial⟩).mono ?_
 rintro e w' ⟨x, o', ok', rfl, hb, hx⟩
 rw [Sy.relab_flat 0 _ rfl] at hx
 have := Sy.Rel.eq hx rfl
 subst this
 exact ⟨rfl, hb⟩
theorem seal_pln (A : Option Addr) (c n : Nat) (l : List UInt8) (k : Int) (w : World) (hrd : Rd w A l) (hcz : A = none → c = 0) (hl : l.length ≤ 1024) (h0 : 1 ≤ k) (h1 : k ≤ 6) (hn : n = l.length) :
   Calls Tryd.prog 9 #[.int .u8 k, .slice A n c] w fun e w' => ∃ g cap, e = .returned (.tuple #[.slice (some ⟨g, 0, none⟩) (l.length + 9) cap, .nilIface]) ∧ w'.ownsRow w.heap.size 5 1 (.slice (some ⟨g, 0, none⟩) (l.length + 9) cap) (l.length + 9) (bv (blobOf k l)) ∧ Below w.heap.size w w' := by subst hn; exact seal_pl A c l k w hrd hcz hl h0 h1
def prePo (k : Int) (nl : List Int) (i : Nat) : List UInt8 := [UInt8.ofNat k.toNat] ++ (nl.take i).flatMap fun x => leB (u64of x) 8
theorem prePo_len (k b a q w c : Int) (i : Nat) (hi : i ≤ 5) : (prePo k [b, a, q, w, c] i).length = 1 + 8 * i := by
 obtain rfl | rfl | rfl | rfl | rfl | rfl : i = 0 ∨ i = 1 ∨ i = 2 ∨ i = 3 ∨ i = 4 ∨ i = 5 := by omega
 all_goals simp [prePo, leB_length]
set_option maxRecDepth 100000 in
set_option maxHeartbeats 8000000 in
theorem penc_pl {k b a q w c f : Int} {j : Bool} {s : ByteArray} {z L : Value} {W : World} (h : PolOk k b a q w c f s z L W) (hg : W.cell? ⟨0, 0, none⟩ = some asHandle) :
   Calls Tryd.prog 14 #[polV k b a q w c j s f z] W fun e w' => ∃ g cap, e = .returned (.tuple #[.slice (some ⟨g, 0, none⟩) ((polB k b a q w c j (zB s f L)).length + 9) cap, .nilIface]) ∧ w'.ownsRow W.heap.size 5 1 (.slice (some ⟨g, 0, none⟩) ((polB k b a q w c j (zB s f L)).length + 9) cap) ((polB k b a q w c j (zB s f L)).length + 9) (bv (blobOf 3 (polB k b a q w c j (zB s f L)))) ∧ Below W.heap.size W w' := by
 obtain ⟨i0, hi, hz0, hz1, hz2⟩ := info_parts infoU8
 obtain ⟨hzg, hzl⟩ := zB_len h
 obtain ⟨k0, k2⟩ := kind_in h

 have ki0 : ∀ (W : World), (Instr.index 112 (.agg #[.int .i64 b, .int .i64 a, .int .i64 q, .int .i64 w, .int .i64 c]) (.int .i64 0)).run Tryd.prog W = .ok (.int .i64 b) W := fun _ => by kernel_rfl
 have ki1 : ∀ (W : World), (Instr.index 112 (.agg #[.int .i64 b, .int .i64 a, .int .i64 q, .int .i64 w, .int .i64 c]) (.int .i64 1)).run Tryd.prog W = .ok (.int .i64 a) W := fun _ => by kernel_rfl
 have ki2 : ∀ (W : World), (Instr.index 112 (.agg #[.int .i64 b, .int .i64 a, .int .i64 q, .int .i64 w, .int .i64 c]) (.int .i64 2)).run Tryd.prog W = .ok (.int .i64 q) W := fun _ => by kernel_rfl
 have ki3 : ∀ (W : World), (Instr.index 112 (.agg #[.int .i64 b, .int .i64 a, .int .i64 q, .int .i64 w, .int .i64 c]) (.int .i64 3)).run Tryd.prog W = .ok (.int .i64 w) W := fun _ => by kernel_rfl
 have ki4 : ∀ (W : World), (Instr.index 112 (.agg #[.int .i64 b, .int .i64 a, .int .i64 q, .int .i64 w, .int .i64 c]) (.int .i64 4)).run Tryd.prog W = .ok (.int .i64 c) W := fun _ => by kernel_rfl
 go_enter Tryd.func14, Tryd.ntmps14
 go_wp2_with (fail)
 obtain ⟨WB, hWB⟩ : ∃ x, x = W.alloc (.cells #[.int .i64 k, .int .i64 b, .int .i64 a, .int .i64 q, .int .i64 w, .int .i64 c, .bool j, .string s, .int .i64 f, z] 48) := ⟨_, rfl⟩
 have hB0 : Below W.heap.size W WB := by rw [hWB]; exact (Below.refl _ _).alloc (Nat.le_refl _) _
 have hBs : WB.heap.size = W.heap.size + 1 := by rw [hWB]; simp
 have hBc : WB.heap[W.heap.size]? = some (.cells #[.int .i64 k, .int .i64 b, .int .i64 a, .int .i64 q, .int .i64 w, .int .i64 c, .bool j, .string s, .int .i64 f, z] 48 (0, 0)) := by rw [hWB]; exact heap_alloc_new W _
 rw [← hWB]
 clear hWB
 have hgB : WB.cell? ⟨0, 0, none⟩ = some asHandle := handle_below hg hB0 (handle_lt hg)
 have h1 := h.below hB0
 (with_reducible refine (check_pl h1.p ⟨h1.k, h1.b, h1.a, h1.q, h1.w, h1.c, h1.f⟩ h1.d hgB).mono ?_)
 rintro e w1 ⟨rfl, HB1⟩
 have hg1 := handle_below hgB HB1 (handle_lt hgB)
 have h2 := h1.below HB1
 have hb1 : Below W.heap.size W w1 := hB0.trans (HB1.mono hB0.size)
 have hc1 : w1.heap[W.heap.size]? = some (.cells #[.int .i64 k, .int .i64 b, .int .i64 a, .int .i64 q, .int .i64 w, .int .i64 c, .bool j, .string s, .int .i64 f, z] 48 (0, 0)) := by rw [HB1.block _ (by omega)]; exact hBc
 have hs1 : W.heap.size < w1.heap.size := by have := HB1.size; omega
 have kc0 := fun o => Sy.cell_row hc1 o
 go_wp2_with (fail)
 (with_reducible refine (zenc_pl h2.zone h2.f h2.d h2.t hg1).mono ?_)
 rintro e w2 ⟨ZA, zc, rfl, hza, hzc, hzr, HB2⟩
 have hg2 := handle_below hg1 HB2 (handle_lt hg1)
 have h3 := h2.below HB2
 have hb2 : Below W.heap.size W w2 := hb1.trans (HB2.mono hb1.size)
 have hc2 : w2.heap[W.heap.size]? = some (.cells #[.int .i64 k, .int .i64 b, .int .i64 a, .int .i64 q, .int .i64 w, .int .i64 c, .bool j, .string s, .int .i64 f, z] 48 (0, 0)) := by rw [HB2.block _ (by omega)]; exact hc1
 have hs2 : W.heap.size < w2.heap.size := by have := HB2.size; omega
 clear kc0
 have kc0 := fun o => Sy.cell_row hc2 o
 go_wp2_with (fail)
 have hA2 : Below w2.heap.size w2 (w2.alloc (.cells #[.int .u8 k] 5)) := (Below.refl _ _).alloc (Nat.le_refl _) _
 have own2 : (w2.alloc (.cells #[.int .u8 k] 5)).ownsRow w2.heap.size 5 1 (.slice (some ⟨w2.heap.size, 0, none⟩) 1 1) 1 (bv (prePo k [b, a, q, w, c] 0)) := by
   have := World.ownsRow_lit (e := 5) (size := 1) w2 #[.int .u8 k] 1 (Nat.le_refl _) (by decide) rfl
   have e : bv (prePo k [b, a, q, w, c] 0) = [Value.int .u8 k] := by
     show [bV (UInt8.ofNat k.toNat)] = _
     rw [bV_of k0 (by omega)]
   rw [e]
   exact this
 generalize w2.alloc (.cells #[.int .u8 k] 5) = w2a at hA2 own2 ⊢
 have hg2a := handle_below hg2 hA2 (handle_lt hg2)
 (with_reducible refine (nums_pl (h3.below hA2).d hg2a).mono ?_)
 rintro e w3 ⟨rfl, HB3⟩
 have hb3 : Below W.heap.size W w3 := hb2.trans ((hA2.mono hb2.size).trans (HB3.mono (Nat.le_trans hb2.size hA2.size)))
 have hg3 := handle_below hg2a HB3 (handle_lt hg2a)
 have own3 := own_below own2 HB3
 have hzlt := rd_lt hzr (fun e => by have h9 := hzg; unfold zB at h9; rw [e] at h9; simp at h9)
 have hzr3 := (hzr.below hA2).below HB3
 have hc3 : w3.heap[W.heap.size]? = some (.cells #[.int .i64 k, .int .i64 b, .int .i64 a, .int .i64 q, .int .i64 w, .int .i64 c, .bool j, .string s, .int .i64 f, z] 48 (0, 0)) := by rw [HB3.block _ (by have := hA2.size; omega), hA2.block _ hs2]; exact hc2
 have hw2 : w2.heap.size ≤ w3.heap.size := Nat.le_trans hA2.size HB3.size
 clear kc0 own2 hc2 hc1 HB1 HB2 hA2 h3 h2 hzr hg1 hg2 hg2a
 go_wp2_with (fail)
 go_loopw [7, 32] (fun v ii wr => ∃ i : Nat, i ≤ 5 ∧ ii = .int .i64 i ∧ wr.ownsRow w2.heap.size 5 1 v (prePo k [b, a, q, w, c] i).length (bv (prePo k [b, a, q, w, c] i)) ∧ Below W.heap.size W wr ∧ Rd wr ZA (zB s f L) ∧ wr.heap[W.heap.size]? = some (.cells #[.int .i64 k, .int .i64 b, .int .i64 a, .int .i64 q, .int .i64 w, .int .i64 c, .bool j, .string s, .int .i64 f, z] 48 (0, 0)) ∧ W.heap.size < wr.heap.size ∧ w2.heap.size ≤ wr.heap.size) (fun _ i _ => 5 - (intOf i).toNat)
 case atStart => exact ⟨0, by omega, rfl, own3, hb3, hzr3, hc3, by omega, hw2⟩
 case round =>
   obtain ⟨i, hi5, rfl, hown, hbw, hzr, hbc, hsz, hsw⟩ := hrel
   obtain rfl | rfl | rfl | rfl | rfl | rfl : i = 0 ∨ i = 1 ∨ i = 2 ∨ i = 3 ∨ i = 4 ∨ i = 5 := by omega
   · obtain ⟨A1, c1, rfl, hz1', hr1, _, hcl1⟩ := own_shape hown
     go_wp2_with (rw [ki0])
     (with_reducible refine (put8_n A1 c1 _ (prePo k [b, a, q, w, c] 0) (prePo k [b, a, q, w, c] 1) b wr hr1 hz1' (by first | rfl | simp [prePo, leB_length]) (by rw [prePo_len _ _ _ _ _ _ _ (by omega)]; omega) h.b (by simp [prePo])).mono ?_)
     rintro e w4 ⟨v4, rfl, own4, HB4⟩
     go_wp2_with (fail)
     go_roundw
     case rel => exact ⟨1, by omega, rfl, own_base own4 hsw, hbw.trans (HB4.mono hbw.size), hzr.below HB4, by rw [HB4.block _ hsz]; exact hbc, by have := HB4.size; omega, Nat.le_trans hsw HB4.size⟩
     case measure => simp [intOf]
   · obtain ⟨A1, c1, rfl, hz1', hr1, _, hcl1⟩ := own_shape hown
     go_wp2_with (rw [ki1])
     (with_reducible refine (put8_n A1 c1 _ (prePo k [b, a, q, w, c] 1) (prePo k [b, a, q, w, c] 2) a wr hr1 hz1' (by first | rfl | simp [prePo, leB_length]) (by rw [prePo_len _ _ _ _ _ _ _ (by omega)]; omega) h.a (by simp [prePo])).mono ?_)
     rintro e w4 ⟨v4, rfl, own4, HB4⟩
     go_wp2_with (fail)
     go_roundw
     case rel => exact ⟨2, by omega, rfl, own_base own4 hsw, hbw.trans (HB4.mono hbw.size), hzr.below HB4, by rw [HB4.block _ hsz]; exact hbc, by have := HB4.size; omega, Nat.le_trans hsw HB4.size⟩
     case measure => simp [intOf]
   · obtain ⟨A1, c1, rfl, hz1', hr1, _, hcl1⟩ := own_shape hown
     go_wp2_with (rw [ki2])
     (with_reducible refine (put8_n A1 c1 _ (prePo k [b, a, q, w, c] 2) (prePo k [b, a, q, w, c] 3) q wr hr1 hz1' (by first | rfl | simp [prePo, leB_length]) (by rw [prePo_len _ _ _ _ _ _ _ (by omega)]; omega) h.q (by simp [prePo])).mono ?_)
     rintro e w4 ⟨v4, rfl, own4, HB4⟩
     go_wp2_with (fail)
     go_roundw
     case rel => exact ⟨3, by omega, rfl, own_base own4 hsw, hbw.trans (HB4.mono hbw.size), hzr.below HB4, by rw [HB4.block _ hsz]; exact hbc, by have := HB4.size; omega, Nat.le_trans hsw HB4.size⟩
     case measure => simp [intOf]
   · obtain ⟨A1, c1, rfl, hz1', hr1, _, hcl1⟩ := own_shape hown
     go_wp2_with (rw [ki3])
     (with_reducible refine (put8_n A1 c1 _ (prePo k [b, a, q, w, c] 3) (prePo k [b, a, q, w, c] 4) w wr hr1 hz1' (by first | rfl | simp [prePo, leB_length]) (by rw [prePo_len _ _ _ _ _ _ _ (by omega)]; omega) h.w (by simp [prePo])).mono ?_)
     rintro e w4 ⟨v4, rfl, own4, HB4⟩
     go_wp2_with (fail)
     go_roundw
     case rel => exact ⟨4, by omega, rfl, own_base own4 hsw, hbw.trans (HB4.mono hbw.size), hzr.below HB4, by rw [HB4.block _ hsz]; exact hbc, by have := HB4.size; omega, Nat.le_trans hsw HB4.size⟩
     case measure => simp [intOf]
   · obtain ⟨A1, c1, rfl, hz1', hr1, _, hcl1⟩ := own_shape hown
     go_wp2_with (rw [ki4])
     (with_reducible refine (put8_n A1 c1 _ (prePo k [b, a, q, w, c] 4) (prePo k [b, a, q, w, c] 5) c wr hr1 hz1' (by first | rfl | simp [prePo, leB_length]) (by rw [prePo_len _ _ _ _ _ _ _ (by omega)]; omega) h.c (by simp [prePo])).mono ?_)
     rintro e w4 ⟨v4, rfl, own4, HB4⟩
     go_wp2_with (fail)
     go_roundw
     case rel => exact ⟨5, by omega, rfl, own_base own4 hsw, hbw.trans (HB4.mono hbw.size), hzr.below HB4, by rw [HB4.block _ hsz]; exact hbc, by have := HB4.size; omega, Nat.le_trans hsw HB4.size⟩
     case measure => simp [intOf]
   · obtain ⟨A1, c1, rfl, hz1', hr1, _, hcl1⟩ := own_shape hown
     have kc0 := fun o => Sy.cell_row hbc o
     cases j
     · go_wp2_with (at_builtin; refine wpList_append_b rfl (.tmp 41) (.tmp 43) 22 rfl w2.heap.size 5 i0 (.int .u8 0) Tryd.underlying22 hi hz0 hz1 hz2 rfl _ _ _ rfl (hown.alloc _) (some ⟨wr.heap.size, 0, none⟩) 1 [0] rfl (Rd.one _ _ _ rfl) (fun e => by cases e) (by rw [prePo_len _ _ _ _ _ _ _ (by omega)]; simp) (by simp; omega) ?_; intro v7 w7 own7 hgr7 hat7; have hbA := hbw.alloc (o := .cells #[.int .u8 0] 5) hbw.size; have hs7 := hgr7.size; have hb7 := hbA.grown hgr7 hbA.size (fun k hk => Nat.le_trans hb2.size (hown.lt k hk).1); have hzr7 := (hzr.below ((Below.refl _ _).alloc (o := .cells #[.int .u8 0] 5) (Nat.le_refl _))).grown hgr7 (fun ad e he => by have := hzlt ad e; have := (hown.lt _ he.symm).1; omega); rw [← bv_append] at own7; obtain ⟨A7, c7, rfl, hz7, hr7, hl7⟩ := own_shape own7)
       have hwr : IntKind.u16.wrap ((byL (Sy.rows (zkV s f (Sy.rows L)))).length : Int) = ((byL (Sy.rows (zkV s f (Sy.rows L)))).length : Int) := by
         rw [IntKind.wrap_u16]
         have : (byL (Sy.rows (zkV s f (Sy.rows L)))).length ≤ 959 := hzl
         omega
       rw [hwr]
       have hpl := prePo_len k b a q w c 5 (by omega)
       (with_reducible refine (put2_n A7 c7 _ (prePo k [b, a, q, w, c] 5 ++ [0]) (prePo k [b, a, q, w, c] 5 ++ [0] ++ leB (zB s f L).length 2) ((byL (Sy.rows (zkV s f (Sy.rows L)))).length : Int) w7 hr7 hz7 (by simp) (by simp; omega) (by omega) (by have : (byL (Sy.rows (zkV s f (Sy.rows L)))).length ≤ 959 := hzl; omega) (by rw [Int.toNat_natCast])).mono ?_)
       rintro e w9 ⟨v9, rfl, own9, HB9⟩
       have hb9 := hb7.trans (HB9.mono hb7.size)
       have hzr9 := hzr7.below HB9
       have hs9 := HB9.size
       obtain ⟨m9, hm9⟩ : ∃ m, m = prePo k [b, a, q, w, c] 5 ++ [0] ++ leB (zB s f L).length 2 := ⟨_, rfl⟩
       rw [← hm9] at own9
       have hml : m9.length = 44 := by rw [hm9]; simp [leB_length, hpl]
       have hbl : polB k b a q w c false (zB s f L) = m9 ++ zB s f L := by rw [hm9]; simp [polB, prePo, jB]
       clear kc0 hwr
       go_wp2_with (at_builtin; refine wpList_append_b rfl (.tmp 49) (.tmp 50) 22 rfl w7.heap.size 5 i0 (.int .u8 0) Tryd.underlying22 hi hz0 hz1 hz2 rfl v9 m9.length (bv m9) rfl own9 ZA zc (zB s f L) rfl hzr9 hza (by omega) HB9.size ?_; intro v10 w10 own10 hgr10 hat10; have hb10 := hb9.grown hgr10 hb9.size (fun k hk => Nat.le_trans hb7.size (own9.lt k hk).1); rw [← bv_append] at own10; obtain ⟨A10, c10, rfl, hz10, hr10, hl10⟩ := own_shape own10)
       (with_reducible refine (seal_pln A10 c10 _ (m9 ++ zB s f L) 3 w10 hr10 hz10 (by rw [List.length_append, hml]; omega) (by omega) (by omega) (by rw [List.length_append, hml]; simp only [leB_length]; omega)).mono ?_)
       rintro e w11 ⟨g11, cap11, rfl, own11, HB11⟩
       go_wp2_with (fail)
       go_ret2
       rw [hbl]
       have hn : 41 + ((leB (zB s f L).length 2).length + (zB s f L).length + 1) + 9 = (m9 ++ zB s f L).length + 9 := by rw [List.length_append, hml, leB_length]; omega
       exact ⟨g11, cap11, by show Ending.returned (Value.tuple #[Value.slice _ (41 + ((leB (zB s f L).length 2).length + (zB s f L).length + 1) + 9) _, _]) = _; rw [hn]; rfl, own_base own11 hb10.size, hb10.trans (HB11.mono hb10.size)⟩
     · go_wp2_with (at_builtin; refine wpList_append_b rfl (.tmp 41) (.tmp 43) 22 rfl w2.heap.size 5 i0 (.int .u8 0) Tryd.underlying22 hi hz0 hz1 hz2 rfl _ _ _ rfl (hown.alloc _) (some ⟨wr.heap.size, 0, none⟩) 1 [1] rfl (Rd.one _ _ _ rfl) (fun e => by cases e) (by rw [prePo_len _ _ _ _ _ _ _ (by omega)]; simp) (by simp; omega) ?_; intro v7 w7 own7 hgr7 hat7; have hbA := hbw.alloc (o := .cells #[.int .u8 1] 5) hbw.size; have hs7 := hgr7.size; have hb7 := hbA.grown hgr7 hbA.size (fun k hk => Nat.le_trans hb2.size (hown.lt k hk).1); have hzr7 := (hzr.below ((Below.refl _ _).alloc (o := .cells #[.int .u8 1] 5) (Nat.le_refl _))).grown hgr7 (fun ad e he => by have := hzlt ad e; have := (hown.lt _ he.symm).1; omega); rw [← bv_append] at own7; obtain ⟨A7, c7, rfl, hz7, hr7, hl7⟩ := own_shape own7)
       have hwr : IntKind.u16.wrap ((byL (Sy.rows (zkV s f (Sy.rows L)))).length : Int) = ((byL (Sy.rows (zkV s f (Sy.rows L)))).length : Int) := by
         rw [IntKind.wrap_u16]
         have : (byL (Sy.rows (zkV s f (Sy.rows L)))).length ≤ 959 := hzl
         omega
       rw [hwr]
       have hpl := prePo_len k b a q w c 5 (by omega)
       (with_reducible refine (put2_n A7 c7 _ (prePo k [b, a, q, w, c] 5 ++ [1]) (prePo k [b, a, q, w, c] 5 ++ [1] ++ leB (zB s f L).length 2) ((byL (Sy.rows (zkV s f (Sy.rows L)))).length : Int) w7 hr7 hz7 (by simp) (by simp; omega) (by omega) (by have : (byL (Sy.rows (zkV s f (Sy.rows L)))).length ≤ 959 := hzl; omega) (by rw [Int.toNat_natCast])).mono ?_)
       rintro e w9 ⟨v9, rfl, own9, HB9⟩
       have hb9 := hb7.trans (HB9.mono hb7.size)
       have hzr9 := hzr7.below HB9
       have hs9 := HB9.size
       obtain ⟨m9, hm9⟩ : ∃ m, m = prePo k [b, a, q, w, c] 5 ++ [1] ++ leB (zB s f L).length 2 := ⟨_, rfl⟩
       rw [← hm9] at own9
       have hml : m9.length = 44 := by rw [hm9]; simp [leB_length, hpl]
       have hbl : polB k b a q w c true (zB s f L) = m9 ++ zB s f L := by rw [hm9]; simp [polB, prePo, jB]
       clear kc0 hwr
       go_wp2_with (at_builtin; refine wpList_append_b rfl (.tmp 49) (.tmp 50) 22 rfl w7.heap.size 5 i0 (.int .u8 0) Tryd.underlying22 hi hz0 hz1 hz2 rfl v9 m9.length (bv m9) rfl own9 ZA zc (zB s f L) rfl hzr9 hza (by omega) HB9.size ?_; intro v10 w10 own10 hgr10 hat10; have hb10 := hb9.grown hgr10 hb9.size (fun k hk => Nat.le_trans hb7.size (own9.lt k hk).1); rw [← bv_append] at own10; obtain ⟨A10, c10, rfl, hz10, hr10, hl10⟩ := own_shape own10)
       (with_reducible refine (seal_pln A10 c10 _ (m9 ++ zB s f L) 3 w10 hr10 hz10 (by rw [List.length_append, hml]; omega) (by omega) (by omega) (by rw [List.length_append, hml]; simp only [leB_length]; omega)).mono ?_)
       rintro e w11 ⟨g11, cap11, rfl, own11, HB11⟩
       go_wp2_with (fail)
       go_ret2
       rw [hbl]
       have hn : 41 + ((leB (zB s f L).length 2).length + (zB s f L).length + 1) + 9 = (m9 ++ zB s f L).length + 9 := by rw [List.length_append, hml, leB_length]; omega
       exact ⟨g11, cap11, by show Ending.returned (Value.tuple #[Value.slice _ (41 + ((leB (zB s f L).length 2).length + (zB s f L).length + 1) + 9) _, _]) = _; rw [hn]; rfl, own_base own11 hb10.size, hb10.trans (HB11.mono hb10.size)⟩
end Go.Proofs.YtikfgnmljpjnbaaDoor
