/-
 Layer 28: the law's own certainty, and the statement's contract.
-/
import Derived.Test.YtikfgnmljpjnbaaDoorPbepob
namespace Go.Proofs.YtikfgnmljpjnbaaDoor
open Go.RowKit Go.Extern.Stop Go.Stop Go.Extern
set_option linter.unusedVariables false
set_option linter.unusedSimpArgs false
theorem Rdr.keep_gt {w w' : World} {g r : Nat} {l : List UInt8} {sh : Bool} (h : Rdr w g l sh) (hg : w.grownBy w' (some r)) (hr : g < r) : Rdr w' g l sh := by
 obtain ⟨A, c, h0, h1, h2, h3, h4⟩ := h
 refine Rdr.keep ⟨A, c, h0, h1, h2, h3, h4⟩ hg (.inr ⟨r, rfl, by omega, fun A' c' h' ad e => ?_⟩)
 rw [h0] at h'
 simp at h'
 have := h4 ad (by rw [h'.1]; exact e)
 omega
theorem con_plo {P : Program} {G : Sy.Glob} {ρ : Sy.Env} {c : Sy.Con} {w : World} {ok : Nat → Nat → Prop} (h : c.Good P G ρ) (he : c.eat = none) (hok : ∀ b off, w.heap.size ≤ b → ok b off) (iv : List Int) (bv : List Bool) (vv : List Value) (sv : List ByteArray) (xs : List Value)
   (n1 : iv.length = c.n.i) (n2 : bv.length = c.n.b) (n3 : vv.length = c.n.v) (n4 : sv.length = c.n.s) (hc : Sy.holds { ρ with iv := iv, bv := bv, vv := vv, sv := sv } c.cnd) (hG : Sy.GlobOk G ok w)
   (hr : Sy.RelT ⟨{ ρ with iv := iv, bv := bv, vv := vv, sv := sv }, fun _ => 0, fun _ => none, ok, w⟩ c.pat xs) :
   Calls P c.f xs.toArray w fun e w' => ∃ x o' ok', e = .returned x ∧ Below w.heap.size w w' ∧ (∀ b off, ok' b off → ok b off) ∧ Sy.Rel ⟨{ ρ with iv := iv, bv := bv, vv := vv, sv := sv }, fun _ => 0, o', ok', w'⟩ (Sy.relab 0 c.res) x := by
 refine (h iv bv vv sv (fun _ => 0) ok w xs n1 n2 n3 n4 hc hok hG hr (fun k e K h => by rw [he] at h; cases h)).mono ?_
 rintro e w' ⟨x, o', ok', rfl, hd, hx, _⟩
 have hex : c.ex xs = none := by unfold Sy.Con.ex; rw [he]
 rw [hex] at hd
 have hg := hd.1
 exact ⟨x, o', ok', rfl, ⟨hg.os, hg.tape, hg.output, hg.size, fun k hk => hg.block k hk (by simp)⟩, (fun b off ho => (hd.sub b off ho).resolve_right (by simp)), hx⟩
theorem deep_set {w w' : World} {T : Nat} {K : Sy.SK} {v c : Value} (h : Sy.deepC (fun b _ => b ≠ T) w K v c) (hg : w.grownBy w' (some T)) : Sy.deepC (fun b _ => b ≠ T) w' K v c :=
 (Sy.deep_mono ⟨hg.size, fun b off hl ho => ⟨ho, by
   have hb := hg.block b hl (by intro e; injection e with e; exact ho e)
   simp only [World.cell?, hb]⟩⟩ K).1 v c h
theorem deep_all {w w' : World} {ok : Nat → Nat → Prop} {K : Sy.SK} {v c : Value} (h : Sy.deepC ok w K v c) (hb : Below w.heap.size w w') : Sy.deepC (fun _ _ => True) w' K v c :=
 (Sy.deep_mono ⟨hb.size, fun b off hl _ => ⟨trivial, hb.cell (p := ⟨b, off, none⟩) hl⟩⟩ K).1 v c h
theorem deep_on {w w' : World} {T : Nat} {K : Sy.SK} {v c : Value} (h : Sy.deepC (fun b _ => b ≠ T) w K v c) (hb : Below w.heap.size w w') : Sy.deepC (fun b _ => b ≠ T) w' K v c :=
 (Sy.deep_mono ⟨hb.size, fun b off hl ho => ⟨ho, hb.cell (p := ⟨b, off, none⟩) hl⟩⟩ K).1 v c h
theorem zdec_pl (A : Option Addr) (c n : Nat) {s : ByteArray} {f : Int} {L : Value} (w : World) (T : Nat) (hT : 0 < T) (hTw : T < w.heap.size) (hAT : ∀ ad, A = some ad → ad.block ≠ T) (hty : Sy.typ (.sl KRU) L) (hz : zoneB s f (Sy.rows L) = true) (hrd : Rd w A (zB s f L)) (hn : n = (zB s f L).length) (hcz : A = none → c = 0) (hlc : n ≤ c) (hg : w.cell? ⟨0, 0, none⟩ = some asHandle) :
   Calls Tryd.prog 53 #[.slice A n c] w fun e w' => ∃ z, e = .returned (.tuple #[.agg #[.string s, .int .i64 f, z], .nilIface]) ∧ Sy.deepC (fun b _ => b ≠ T) w' (.sl KRU) z L ∧ Below w.heap.size w w' := by
 subst hn
 obtain ⟨b1, b2, b3, b4, b5, b6⟩ := zk_back hty hz
 have hb : (zB s f L).map bV = Sy.rows (zkV s f (Sy.rows L)) := b1.by
 have hl : (zB s f L).length ≤ 1000 := by show (byL _).length ≤ 1000; rw [byL_len]; exact b2
 refine (con_plo (w := w) (ok := fun b _ => b ≠ T) zl_g_zdec rfl (fun b off h => by show b ≠ T; omega) [] [] [.tuple ((zB s f L).map bV).toArray] [] [.slice A (zB s f L).length c] rfl rfl rfl rfl ⟨okR_isB (isB_bV _), ?_⟩ (fun x hx => by obtain rfl := List.mem_singleton.1 hx; exact ⟨Nat.ne_of_lt hT, handle_lt hg, hg⟩) ⟨⟨deep_of_rd hrd hcz hlc (by omega) (fun _ _ ad e => hAT ad e), fun _ _ h => by cases h⟩, trivial⟩).mono ?_
 · show (((((zB s f L).map bV).length / 1 : Nat)) : Int) ≤ 4096
   rw [List.length_map, Nat.div_one]
   omega
 · rintro e w' ⟨x, o', ok', rfl, hb', hsub, vs, rfl, hL⟩
   rw [Sy.relL_toL] at hL
   rw [show (Value.tuple ((zB s f L).map bV).toArray) = Value.tuple (Sy.rows (zkV s f (Sy.rows L))).toArray by rw [hb]] at hL
   match vs, hL with
   | [v0, v1], ⟨⟨us, hus, hU⟩, h2, _⟩ =>
     subst hus
     rw [Sy.relL_toL] at hU
     have h3 : v1 = Sy.errVal 101 (dzE (Sy.rows (zkV s f (Sy.rows L)))) := h2
     rw [b3] at h3
     subst h3
     match us, hU with
     | [u0, u1, u2], ⟨g0, g1, g2, _⟩ =>
       have e0 : u0 = .string (dzN (Sy.rows (zkV s f (Sy.rows L)))) := g0
       have e1 : u1 = .int .i64 (dzF (Sy.rows (zkV s f (Sy.rows L)))) := g1
       have e2 : Sy.deepC ok' w' (.sl KRU) u2 (dzL (Sy.rows (zkV s f (Sy.rows L)))) := g2.1
       rw [b5] at e0
       rw [b4] at e1
       rw [b6] at e2
       subst e0 e1
       refine ⟨u2, rfl, (Sy.deep_mono ⟨Nat.le_refl _, fun b off hl h => ⟨hsub b off h, rfl⟩⟩ _).1 u2 L e2, hb'⟩
     | [], hU => exact hU.elim
     | [_], hU => exact hU.2.elim
     | [_, _], hU => exact hU.2.2.elim
     | _ :: _ :: _ :: _ :: _, hU => exact hU.2.2.2.elim
   | [], hL => exact hL.elim
   | [_], hL => exact hL.2.elim
   | _ :: _ :: _ :: _, hL => exact hL.2.2.elim
theorem beq_pl (A1 A2 : Option Addr) (c1 c2 n m : Nat) (l : List UInt8) (w : World) (h1 : Rd w A1 l) (h2 : Rd w A2 l) (hn : n = l.length) (hm : m = l.length) :
   Calls Tryd.prog 54 #[.slice A1 n c1, .slice A2 m c2] w fun e w' => e = .returned (.bool true) ∧ w' = w := by
 subst hn hm
 have kt1 := run_text (P := Tryd.prog) w 22 9 5 A1 c1 l h1 Tryd.underlying22 Tryd.underlying5 Tryd.underlying9
 have kt2 := run_text (P := Tryd.prog) w 22 9 5 A2 c2 l h2 Tryd.underlying22 Tryd.underlying5 Tryd.underlying9
 go_enter Tryd.func54, Tryd.ntmps54
 go_wp2_with (fail)
 go_ret
 exact ⟨rfl, rfl⟩
def rstP (nl : List Int) (j : Bool) (z : List UInt8) (i : Nat) : List UInt8 := (nl.drop i).flatMap (fun x => leB (u64of x) 8) ++ ([jB j] ++ (leB z.length 2 ++ z))
theorem polB_rst (k b a q w c : Int) (j : Bool) (z : List UInt8) : polB k b a q w c j z = leB k.toNat 1 ++ rstP [b, a, q, w, c] j z 0 := by
 simp [polB, rstP, leB]
theorem rst_step (b a q w c : Int) (j : Bool) (z : List UInt8) : rstP [b, a, q, w, c] j z 0 = leB (u64of b) 8 ++ rstP [b, a, q, w, c] j z 1 ∧ rstP [b, a, q, w, c] j z 1 = leB (u64of a) 8 ++ rstP [b, a, q, w, c] j z 2 ∧ rstP [b, a, q, w, c] j z 2 = leB (u64of q) 8 ++ rstP [b, a, q, w, c] j z 3 ∧ rstP [b, a, q, w, c] j z 3 = leB (u64of w) 8 ++ rstP [b, a, q, w, c] j z 4 ∧ rstP [b, a, q, w, c] j z 4 = leB (u64of c) 8 ++ rstP [b, a, q, w, c] j z 5 ∧ rstP [b, a, q, w, c] j z 5 = leB (jB j).toNat 1 ++ (leB z.length 2 ++ z) := by
 simp [rstP, leB]
theorem rst_len (b a q w c : Int) (j : Bool) (z : List UInt8) (i : Nat) : (rstP [b, a, q, w, c] j z i).length ≤ 43 + z.length := by
 unfold rstP
 simp only [List.length_append, leB_length, List.length_cons, List.length_nil]
 rcases i with _ | _ | _ | _ | _ | i <;> simp [leB_length] <;> omega
def arC (b a q w c : Int) : Nat → Array Value
 | 0 => #[.int .i64 0, .int .i64 0, .int .i64 0, .int .i64 0, .int .i64 0]
 | 1 => #[.int .i64 b, .int .i64 0, .int .i64 0, .int .i64 0, .int .i64 0]
 | 2 => #[.int .i64 b, .int .i64 a, .int .i64 0, .int .i64 0, .int .i64 0]
 | 3 => #[.int .i64 b, .int .i64 a, .int .i64 q, .int .i64 0, .int .i64 0]
 | 4 => #[.int .i64 b, .int .i64 a, .int .i64 q, .int .i64 w, .int .i64 0]
 | _ => #[.int .i64 b, .int .i64 a, .int .i64 q, .int .i64 w, .int .i64 c]
theorem gi64 {x : Int} (hx : InR x) {l l' : List UInt8} (e : l = leB (u64of x) 8 ++ l') : wrap64 (getV l 8 : Nat) = x ∧ getL l 8 = l' ∧ getS l false 8 = false := by
 subst e
 obtain ⟨e1, e2, e3⟩ := get_put (u64of x) 8 l' false
 exact ⟨by rw [e1]; exact wrap_u64of x hx, e2, e3⟩
theorem own_set {w : World} {g n cap : Nat} {base : Nat} {l : List UInt8} (h : w.ownsRow base 5 1 (.slice (some ⟨g, 0, none⟩) n cap) n (bv l)) (q : Nat) (y : UInt8) :
   (w.setCell ⟨g, q, none⟩ (bV y)).ownsRow base 5 1 (.slice (some ⟨g, 0, none⟩) n cap) n (bv (l.set q y)) := by
 have h2 := h.stored q (bV y)
 have e : (bv l).set q (bV y) = bv (l.set q y) := by simp [bv, List.map_set]
 rw [← e]
 exact h2.1
theorem fill_set (Z : List UInt8) {i : Nat} (hi : i < Z.length) : (Z.take i ++ List.replicate (Z.length - i) 0).set i Z[i] = Z.take (i + 1) ++ List.replicate (Z.length - (i + 1)) 0 := by
 apply List.ext_getElem?
 intro m
 have hl : (Z.take i).length = i := by rw [List.length_take]; omega
 have hl' : (Z.take (i + 1)).length = i + 1 := by rw [List.length_take]; omega
 rw [List.getElem?_set]
 by_cases h1 : i = m
 · subst h1
   rw [if_pos rfl, if_pos (by simp; omega), List.getElem?_append_left (by omega), List.getElem?_take, if_pos (by omega), List.getElem?_eq_getElem hi]
 · rw [if_neg h1]
   by_cases h2 : m < i
   · rw [List.getElem?_append_left (by omega), List.getElem?_append_left (by omega), List.getElem?_take, List.getElem?_take, if_pos h2, if_pos (by omega)]
   · rw [List.getElem?_append_right (by omega), List.getElem?_append_right (by omega), hl, hl', List.getElem?_replicate, List.getElem?_replicate]
     by_cases h3 : m - i < Z.length - i
     · rw [if_pos h3, if_pos (by omega)]
     · rw [if_neg h3, if_neg (by omega)]
theorem gu8 (Z : List UInt8) {i : Nat} (hi : i < Z.length) : ((getV (Z.drop i) 1 : Nat) : Int) = (Z[i].toNat : Int) ∧ getL (Z.drop i) 1 = Z.drop (i + 1) ∧ getS (Z.drop i) false 1 = false := by
 have e : Z.drop i = leB Z[i].toNat 1 ++ Z.drop (i + 1) := by
   rw [List.drop_eq_getElem_cons hi]
   simp [leB]
 rw [e]
 obtain ⟨e1, e2, e3⟩ := get_put Z[i].toNat 1 (Z.drop (i + 1)) false
 refine ⟨?_, e2, e3⟩
 rw [e1]
 have := Z[i].toNat_lt
 have : Z[i].toNat % 256 ^ 1 = Z[i].toNat := Nat.mod_eq_of_lt (by omega)
 omega
set_option maxRecDepth 100000 in
set_option maxHeartbeats 16000000 in
theorem pdec_ok (A : Option Addr) (cc n : Nat) {k b a q w c f : Int} {j : Bool} {s : ByteArray} {z L : Value} {W0 W : World} (h : PolOk k b a q w c f s z L W0) (hrd : Rd W A (blobOf 3 (polB k b a q w c j (zB s f L)))) (hn : n = (polB k b a q w c j (zB s f L)).length + 9) (hcz : A = none → cc = 0) (hlc : n ≤ cc) (hg : W.cell? ⟨0, 0, none⟩ = some asHandle) :
   Calls Tryd.prog 17 #[.slice A n cc] W fun e w' => ∃ z', e = .returned (.tuple #[polV k b a q w c j s f z', .nilIface]) ∧ Sy.deepC (fun _ _ => True) w' (.sl KRU) z' L ∧ Below W.heap.size W w' := by
 obtain ⟨i0, hi, hz0, hz1, hz2⟩ := info_parts infoU8
 obtain ⟨hzg, hzl⟩ := zB_len h
 obtain ⟨k0, k2⟩ := kind_in h
 obtain ⟨r0, r1, r2, r3, r4, r5⟩ := rst_step b a q w c j (zB s f L)
 have hpl := Lib.hid (polB_len k b a q w c j (zB s f L))
 have hN := Lib.hid hn
 have hr := Lib.hid (And.intro r0 (And.intro r1 (And.intro r2 (And.intro r3 (And.intro r4 r5)))))
 clear hn r0 r1 r2 r3 r4 r5
 go_enter Tryd.func17, Tryd.ntmps17
 go_wp2_with (fail)
 obtain ⟨WB, hWB⟩ : ∃ x, x = W.alloc (.cells #[.int .i64 0, .int .i64 0, .int .i64 0, .int .i64 0, .int .i64 0, .int .i64 0, .bool false, .string ⟨#[]⟩, .int .i64 0, .slice none 0 0] 48) := ⟨_, rfl⟩
 have hB0 : Below W.heap.size W WB := by rw [hWB]; exact (Below.refl _ _).alloc (Nat.le_refl _) _
 have hBs : WB.heap.size = W.heap.size + 1 := by rw [hWB]; simp
 have hBc : WB.heap[W.heap.size]? = some (.cells #[.int .i64 0, .int .i64 0, .int .i64 0, .int .i64 0, .int .i64 0, .int .i64 0, .bool false, .string ⟨#[]⟩, .int .i64 0, .slice none 0 0] 48 (0, 0)) := by rw [hWB]; exact heap_alloc_new W _
 rw [← hWB]
 have hrB : Rd WB A (blobOf 3 (polB k b a q w c j (zB s f L))) := by rw [hWB]; exact hrd.below ((Below.refl _ _).alloc (Nat.le_refl _) _)
 clear hWB
 have hgB : WB.cell? ⟨0, 0, none⟩ = some asHandle := handle_below hg hB0 (handle_lt hg)
 (with_reducible refine (open_ok A cc n 3 (polB k b a q w c j (zB s f L)) WB hrB hN.out hcz hlc (by omega) (by omega) (by have := hpl.out; omega) hgB).mono ?_)
 rintro e w1 ⟨v1, rfl, own1, HB1⟩
 obtain ⟨A1, c1, rfl, hz1', hr1, hl1⟩ := own_shape own1
 have hg1 := handle_below hgB HB1 (handle_lt hgB)
 go_wp2_with (fail)
 (with_reducible refine (new_n A1 c1 _ (polB k b a q w c j (zB s f L)) w1 hr1 hz1' rfl (by have := hpl.out; omega)).mono ?_)
 rintro e w2 ⟨g, rfl, hR2, hgl, HB2⟩
 have hb2 : Below WB.heap.size WB w2 := HB1.trans (HB2.mono HB1.size)
 rw [polB_rst] at hR2
 obtain ⟨y1, y2, y3⟩ := get_put k.toNat 1 (rstP [b, a, q, w, c] j (zB s f L) 0) false
 go_wp2_with (fail)
 (with_reducible refine (get1_i w2 g k _ _ false false hR2 (by simp only [List.length_append, leB_length]; have := rst_len b a q w c j (zB s f L) 0; omega) (by rw [y1]; have : k.toNat % 256 ^ 1 = k.toNat := Nat.mod_eq_of_lt (by omega); omega) y2 y3).mono ?_)
 rintro e w3 ⟨rfl, hR3, hG3⟩
 have hb3 : Below WB.heap.size WB w3 := hb2.grown hG3 hb2.size (fun k hk => by cases hk; exact Nat.le_trans HB1.size hgl)
 go_wp2_with (fail)
 obtain ⟨g8, hg8e⟩ : ∃ x, x = w3.heap.size := ⟨_, rfl⟩
 obtain ⟨w4, hw4⟩ : ∃ x, x = w3.alloc (.cells #[.int .i64 0, .int .i64 0, .int .i64 0, .int .i64 0, .int .i64 0] 112) := ⟨_, rfl⟩
 have hb4 : Below WB.heap.size WB w4 := by rw [hw4]; exact hb3.alloc hb3.size _
 have hR4 : Rdr w4 g (rstP [b, a, q, w, c] j (zB s f L) 0) false := by rw [hw4]; exact hR3.below ((Below.refl _ _).alloc (Nat.le_refl _) _)
 have har4 : w4.heap[g8]? = some (.cells (arC b a q w c 0) 112 (0, 0)) := by rw [hw4, hg8e]; exact heap_alloc_new w3 _
 have hs4 : g8 < w4.heap.size := by rw [hw4, hg8e]; simp
 have hg8 : g < g8 := by rw [hg8e]; exact hR3.lt
 have hgB : WB.heap.size ≤ g := Nat.le_trans HB1.size hgl
 rw [← hw4, ← hg8e]
 clear hw4 hR3 hR2 hr1 own1 hG3 hg8e
 go_loopw [30] (fun ii wr => ∃ i : Nat, i ≤ 5 ∧ ii = .int .i64 i ∧ Below WB.heap.size WB wr ∧ Rdr wr g (rstP [b, a, q, w, c] j (zB s f L) i) false ∧ wr.heap[g8]? = some (.cells (arC b a q w c i) 112 (0, 0)) ∧ g8 < wr.heap.size) (fun i _ => 5 - (intOf i).toNat)
 case atStart => exact ⟨0, by omega, rfl, hb4, hR4, har4, hs4⟩
 case round =>
   obtain ⟨i, hi5, rfl, hbw, hR, har, hs8⟩ := hrel
   clear hb4 hR4 har4 hs4
   obtain rfl | rfl | rfl | rfl | rfl | rfl : i = 0 ∨ i = 1 ∨ i = 2 ∨ i = 3 ∨ i = 4 ∨ i = 5 := by omega
   · go_wp2_with (fail)
     (with_reducible refine (get8_n wr g b _ _ false false hR (by have := rst_len b a q w c j (zB s f L) 0; omega) (gi64 h.b hr.out.1).1 (gi64 h.b hr.out.1).2.1 (gi64 h.b hr.out.1).2.2).mono ?_)
     rintro e w5 ⟨rfl, hR5, hG5⟩
     have har5 : w5.heap[g8]? = some (.cells (arC b a q w c 0) 112 (0, 0)) := by rw [hG5.block g8 hs8 (by intro e; injection e with e; omega)]; exact har
     have kf := fun o => row_freed har5 o
     have kc := fun o => Sy.cell_row har5 o
     go_wp2_with (fail)
     go_roundw
     case rel =>
       have hb5 := hbw.grown hG5 hbw.size (fun k hk => by cases hk; exact hgB)
       exact ⟨1, by omega, rfl, hb5.setCell (p := ⟨g8, 0, none⟩) (by show WB.heap.size ≤ g8; omega) _, hR5.keep_gt (gb_set _ _ _ _) hg8, set_rowd har5 0 _, by have := hG5.size; simp; omega⟩
     case measure => simp [intOf]
   · go_wp2_with (fail)
     (with_reducible refine (get8_n wr g a _ _ false false hR (by have := rst_len b a q w c j (zB s f L) 1; omega) (gi64 h.a hr.out.2.1).1 (gi64 h.a hr.out.2.1).2.1 (gi64 h.a hr.out.2.1).2.2).mono ?_)
     rintro e w5 ⟨rfl, hR5, hG5⟩
     have har5 : w5.heap[g8]? = some (.cells (arC b a q w c 1) 112 (0, 0)) := by rw [hG5.block g8 hs8 (by intro e; injection e with e; omega)]; exact har
     have kf := fun o => row_freed har5 o
     have kc := fun o => Sy.cell_row har5 o
     go_wp2_with (fail)
     go_roundw
     case rel =>
       have hb5 := hbw.grown hG5 hbw.size (fun k hk => by cases hk; exact hgB)
       exact ⟨2, by omega, rfl, hb5.setCell (p := ⟨g8, 1, none⟩) (by show WB.heap.size ≤ g8; omega) _, hR5.keep_gt (gb_set _ _ _ _) hg8, set_rowd har5 1 _, by have := hG5.size; simp; omega⟩
     case measure => simp [intOf]
   · go_wp2_with (fail)
     (with_reducible refine (get8_n wr g q _ _ false false hR (by have := rst_len b a q w c j (zB s f L) 2; omega) (gi64 h.q hr.out.2.2.1).1 (gi64 h.q hr.out.2.2.1).2.1 (gi64 h.q hr.out.2.2.1).2.2).mono ?_)
     rintro e w5 ⟨rfl, hR5, hG5⟩
     have har5 : w5.heap[g8]? = some (.cells (arC b a q w c 2) 112 (0, 0)) := by rw [hG5.block g8 hs8 (by intro e; injection e with e; omega)]; exact har
     have kf := fun o => row_freed har5 o
     have kc := fun o => Sy.cell_row har5 o
     go_wp2_with (fail)
     go_roundw
     case rel =>
       have hb5 := hbw.grown hG5 hbw.size (fun k hk => by cases hk; exact hgB)
       exact ⟨3, by omega, rfl, hb5.setCell (p := ⟨g8, 2, none⟩) (by show WB.heap.size ≤ g8; omega) _, hR5.keep_gt (gb_set _ _ _ _) hg8, set_rowd har5 2 _, by have := hG5.size; simp; omega⟩
     case measure => simp [intOf]
   · go_wp2_with (fail)
     (with_reducible refine (get8_n wr g w _ _ false false hR (by have := rst_len b a q w c j (zB s f L) 3; omega) (gi64 h.w hr.out.2.2.2.1).1 (gi64 h.w hr.out.2.2.2.1).2.1 (gi64 h.w hr.out.2.2.2.1).2.2).mono ?_)
     rintro e w5 ⟨rfl, hR5, hG5⟩
     have har5 : w5.heap[g8]? = some (.cells (arC b a q w c 3) 112 (0, 0)) := by rw [hG5.block g8 hs8 (by intro e; injection e with e; omega)]; exact har
     have kf := fun o => row_freed har5 o
     have kc := fun o => Sy.cell_row har5 o
     go_wp2_with (fail)
     go_roundw
     case rel =>
       have hb5 := hbw.grown hG5 hbw.size (fun k hk => by cases hk; exact hgB)
       exact ⟨4, by omega, rfl, hb5.setCell (p := ⟨g8, 3, none⟩) (by show WB.heap.size ≤ g8; omega) _, hR5.keep_gt (gb_set _ _ _ _) hg8, set_rowd har5 3 _, by have := hG5.size; simp; omega⟩
     case measure => simp [intOf]
   · go_wp2_with (fail)
     (with_reducible refine (get8_n wr g c _ _ false false hR (by have := rst_len b a q w c j (zB s f L) 4; omega) (gi64 h.c hr.out.2.2.2.2.1).1 (gi64 h.c hr.out.2.2.2.2.1).2.1 (gi64 h.c hr.out.2.2.2.2.1).2.2).mono ?_)
     rintro e w5 ⟨rfl, hR5, hG5⟩
     have har5 : w5.heap[g8]? = some (.cells (arC b a q w c 4) 112 (0, 0)) := by rw [hG5.block g8 hs8 (by intro e; injection e with e; omega)]; exact har
     have kf := fun o => row_freed har5 o
     have kc := fun o => Sy.cell_row har5 o
     go_wp2_with (fail)
     go_roundw
     case rel =>
       have hb5 := hbw.grown hG5 hbw.size (fun k hk => by cases hk; exact hgB)
       exact ⟨5, by omega, rfl, hb5.setCell (p := ⟨g8, 4, none⟩) (by show WB.heap.size ≤ g8; omega) _, hR5.keep_gt (gb_set _ _ _ _) hg8, set_rowd har5 4 _, by have := hG5.size; simp; omega⟩
     case measure => simp [intOf]
   · go_wp2_with (fail)
     obtain ⟨y1, y2, y3⟩ := get_put (jB j).toNat 1 (leB (zB s f L).length 2 ++ zB s f L) false
     have e5 := hr.out.2.2.2.2.2
     have hj8 := (jB j).toNat_lt
     (with_reducible refine (get1_i wr g ((jB j).toNat : Int) _ (leB (zB s f L).length 2 ++ zB s f L) false false hR (by have := rst_len b a q w c j (zB s f L) 5; omega) (by rw [e5, y1]; have : (jB j).toNat % 256 ^ 1 = (jB j).toNat := Nat.mod_eq_of_lt (by omega); omega) (by rw [e5]; exact y2) (by rw [e5]; exact y3)).mono ?_)
     rintro e w5 ⟨rfl, hR5, hG5⟩
     have har5 : w5.heap[g8]? = some (.cells (arC b a q w c 5) 112 (0, 0)) := by rw [hG5.block g8 hs8 (by intro e; injection e with e; omega)]; exact har
     have hb5 := hbw.grown hG5 hbw.size (fun k hk => by cases hk; exact hgB)
     have hs5 : g8 < w5.heap.size := Nat.lt_of_lt_of_le hs8 hG5.size
     obtain ⟨x1, x2, x3⟩ := get_put (zB s f L).length 2 (zB s f L) false
     clear hR hG5 har hbw hs8 y1 y2 y3
     go_wp2_with (fail)
     (with_reducible refine (get2_i w5 g ((zB s f L).length : Int) _ _ false false hR5 (by simp only [List.length_append, leB_length]; omega) (by rw [x1]; have : (zB s f L).length % 256 ^ 2 = (zB s f L).length := Nat.mod_eq_of_lt (by omega); omega) x2 x3).mono ?_)
     rintro e w6 ⟨rfl, hR6, hG6⟩
     have har6 : w6.heap[g8]? = some (.cells (arC b a q w c 5) 112 (0, 0)) := by rw [hG6.block g8 hs5 (by intro e; injection e with e; omega)]; exact har5
     have hb6 := hb5.grown hG6 hb5.size (fun k hk => by cases hk; exact hgB)
     have hs6 : g8 < w6.heap.size := Nat.lt_of_lt_of_le hs5 hG6.size
     clear hR5 hG6 har5 hb5 hs5 x1 x2 x3
     obtain ⟨Z, hZ⟩ : ∃ Z, Z = zB s f L := ⟨_, rfl⟩
     rw [← hZ] at hR6 hzl hzg ⊢
     have hZh := Lib.hid hZ
     clear hZ
     go_wp2_with (at_make; refine wpList_make_full _ rfl (.tmp 41) (.tmp 41) 22 rfl w6.heap.size 5 i0 (.int .u8 0) 1 Tryd.underlying22 hi hz0 hz1 .u16 .u16 _ _ Z.length rfl rfl rfl rfl (by rw [hz2]; omega) (by unfold maxLen; omega) (Nat.le_refl _) ?_; intro w7 own7 hgr7)
     have own7' : w7.ownsRow w6.heap.size 5 1 (.slice (some ⟨w6.heap.size, 0, none⟩) Z.length Z.length) Z.length (bv (Z.take 0 ++ List.replicate (Z.length - 0) 0)) := by
       have e : (madeCells (Value.int .u8 0).cells (Z.length * 1)).toList = bv (Z.take 0 ++ List.replicate (Z.length - 0) 0) := by
         rw [show (Value.int .u8 0).cells = #[.int .u8 0] from rfl, toList_madeCells_one]
         simp [bv, bV]
       rw [← e]; exact own7
     have hb7 := hb6.grown hgr7 hb6.size (fun k hk => by cases hk)
     have hR7 : Rdr w7 g (Z.drop 0) false := hR6.keep hgr7 (.inl rfl)
     have har7 : w7.heap[g8]? = some (.cells (arC b a q w c 5) 112 (0, 0)) := by rw [hgr7.block g8 hs6 (by simp)]; exact har6
     have hs7 : w6.heap.size < w7.heap.size := (own7.lt _ rfl).2
     obtain ⟨g11, hg11⟩ : ∃ x, x = w6.heap.size := ⟨_, rfl⟩
     rw [← hg11] at own7' hs7 hs6 ⊢
     clear own7 hgr7 hR6 har6 hb6 hg11
     have hgg : g8 < g11 := hs6
     go_wp2_with (fail)
     go_loopw [45] (fun ii wr => ∃ i : Nat, i ≤ Z.length ∧ ii = .int .i64 i ∧ Below WB.heap.size WB wr ∧ Rdr wr g (Z.drop i) false ∧ wr.heap[g8]? = some (.cells (arC b a q w c 5) 112 (0, 0)) ∧ wr.ownsRow g11 5 1 (.slice (some ⟨g11, 0, none⟩) Z.length Z.length) Z.length (bv (Z.take i ++ List.replicate (Z.length - i) 0)) ∧ g11 < wr.heap.size) (fun i _ => Z.length - (intOf i).toNat)
     case atStart => exact ⟨0, by omega, rfl, hb7, hR7, har7, own7', hs7⟩
     case round =>
       obtain ⟨i, hiz, rfl, hbw, hR, har, own, hs⟩ := hrel
       clear hb7 hR7 har7 own7' hs7
       by_cases hlt : i < Z.length
       · go_wp2_with (fail)
         (with_reducible refine (get1_i _ g _ _ _ false false hR (by rw [List.length_drop]; omega) (gu8 Z hlt).1 (gu8 Z hlt).2.1 (gu8 Z hlt).2.2).mono ?_)
         rintro e w8 ⟨rfl, hR8, hG8⟩
         have har8 : w8.heap[g8]? = some (.cells (arC b a q w c 5) 112 (0, 0)) := by rw [hG8.block g8 (by omega) (by intro e; injection e with e; omega)]; exact har
         have hb8 := hbw.grown hG8 hbw.size (fun k hk => by cases hk; exact hgB)
         have own8 := own.kept hG8 (.inr (fun e => by have e : some g11 = some g := e; injection e with e; omega))
         have hs8 := Nat.lt_of_lt_of_le hs hG8.size
         have hfz := own8.frozenAt i
         have hce := own8.cellAt i (by omega)
         have hcell : w8.cell? ⟨g11, i, none⟩ = some (.int .u8 0) := by
           rw [hce, bv_get, List.getElem?_append_right (by rw [List.length_take]; omega), List.getElem?_replicate, if_pos (by rw [List.length_take]; omega)]; rfl
         clear hce
         go_wp2_with (fail)
         go_roundw
         case rel =>
           have own9 := own_set own8 i Z[i]
           rw [fill_set Z hlt] at own9
           exact ⟨i+1, by omega, rfl, hb8.setCell (p := ⟨g11, i, none⟩) (by show WB.heap.size ≤ g11; omega) _, hR8.keep_gt (gb_set _ _ _ _) (by omega), by rw [Below.heap_setCell _ _ _ _ (by show g8 ≠ g11; omega)]; exact har8, own9, by simp; omega⟩
         case measure => simp [intOf]; omega
       · obtain rfl : i = Z.length := by omega
         go_wp2_with (fail)
         have hrz : Rd wr (some ⟨g11, 0, none⟩) Z := by
           have := (Rd.of_own own).1
           rw [List.take_length, Nat.sub_self, List.replicate_zero, List.append_nil] at this
           exact this
         have hbW := hB0.trans (hbw.mono hB0.size)
         (with_reducible refine (zdec_pl (s := s) (f := f) (L := L) (some ⟨g11, 0, none⟩) Z.length Z.length wr W.heap.size (handle_lt hg) (by omega) (fun ad e => by cases e; show g11 ≠ W.heap.size; omega) h.t h.zone (by rw [← hZh.out]; exact hrz) (by rw [← hZh.out]) (fun e => by cases e) (Nat.le_refl _) (handle_below hg hbW (handle_lt hg))).mono ?_)
         rintro e w10 ⟨z', rfl, hd10, HB10⟩
         obtain ⟨pz, nz, cz, rfl⟩ : ∃ p n c, z' = .slice p n c := by obtain ⟨p, n, cap, h, _⟩ := hd10; exact ⟨p, n, cap, h⟩
         have hb10 := hbw.trans (HB10.mono hbw.size)
         have har10 : w10.heap[g8]? = some (.cells #[.int .i64 b, .int .i64 a, .int .i64 q, .int .i64 w, .int .i64 c] 112 (0, 0)) := by rw [HB10.block g8 (by omega)]; exact har
         have hs10 : g11 < w10.heap.size := Nat.lt_of_lt_of_le hs HB10.size
         have hBc10 : w10.heap[W.heap.size]? = some (.cells #[.int .i64 0, .int .i64 0, .int .i64 0, .int .i64 0, .int .i64 0, .int .i64 0, .bool false, .string ⟨#[]⟩, .int .i64 0, .slice none 0 0] 48 (0, 0)) := by rw [hb10.block _ (by omega)]; exact hBc
         clear har own hrz hR hbw HB10 hs
         have kc := fun o => Sy.cell_row har10 o
         have kc2 := fun o => Sy.cell_row hBc10 o
         have kf2 := fun o => row_freed hBc10 o
         have hl8 : g8 < w10.heap.size := by omega
         have hl8' : g8 < w10.heap.size + 1 := by omega
         have hlW : W.heap.size < w10.heap.size := by omega
         go_wp2_with (fail)
         have hj : (((jB j).toNat : Int) == 1) = j := by cases j <;> rfl
         rw [hj]
         obtain ⟨W11, hW11⟩ : ∃ x, x = w10.alloc (.cells #[.string s, .int .i64 f, .slice pz nz cz] 46) := ⟨_, rfl⟩
         rw [← hW11]
         have hs11 : W11.heap.size = w10.heap.size + 1 := by rw [hW11]; simp
         have hb11 : Below w10.heap.size w10 W11 := by rw [hW11]; exact (Below.refl _ _).alloc (Nat.le_refl _) _
         obtain ⟨W12, hW12⟩ : ∃ x, x = W11.alloc (.cells #[.int .i64 k, .int .i64 b, .int .i64 a, .int .i64 q, .int .i64 w, .int .i64 c, .bool j, .string s, .int .i64 f, .slice pz nz cz] 48) := ⟨_, rfl⟩
         rw [← hW12]
         have hb12 : Below w10.heap.size w10 W12 := by rw [hW12]; exact hb11.alloc hb11.size _
         have hBW : W12.heap[w10.heap.size + 1]? = some (.cells #[.int .i64 k, .int .i64 b, .int .i64 a, .int .i64 q, .int .i64 w, .int .i64 c, .bool j, .string s, .int .i64 f, .slice pz nz cz] 48 (0, 0)) := by rw [hW12, ← hs11]; exact heap_alloc_new W11 _
         have hs12 : W12.heap.size = W11.heap.size + 1 := by rw [hW12]; simp
         clear hW11 hW12
         have hbW12 := hB0.trans ((hb10.trans (hb12.mono hb10.size)).mono hB0.size)
         have h12 : PolOk k b a q w c f s (.slice pz nz cz) L W12 := ⟨h.p, h.k, h.b, h.a, h.q, h.w, h.c, h.f, deep_all hd10 hb12, h.t⟩
         (with_reducible refine (penc_pl (j := j) h12 (handle_below hg hbW12 (handle_lt hg))).mono ?_)
         rintro e w13 ⟨g13, cap13, rfl, own13, HB13⟩
         have hb13 := hbW12.trans (HB13.mono hbW12.size)
         have hd13 := deep_on (deep_on hd10 hb12) HB13
         have hrA := hrd.below hb13
         have hBW13 : w13.heap[w10.heap.size + 1]? = some (.cells #[.int .i64 k, .int .i64 b, .int .i64 a, .int .i64 q, .int .i64 w, .int .i64 c, .bool j, .string s, .int .i64 f, .slice pz nz cz] 48 (0, 0)) := by rw [HB13.block _ (by omega)]; exact hBW
         have hBc13 : w13.heap[W.heap.size]? = some (.cells #[.int .i64 0, .int .i64 0, .int .i64 0, .int .i64 0, .int .i64 0, .int .i64 0, .bool false, .string ⟨#[]⟩, .int .i64 0, .slice none 0 0] 48 (0, 0)) := by rw [HB13.block _ (by have := hb12.size; omega), hb12.block _ (by omega)]; exact hBc10
         have hrE := (Rd.of_own own13).1
         have hzl2 : (zB s f L).length ≤ 959 := by rw [← hZh.out]; exact hzl
         have hblen : (blobOf 3 (polB k b a q w c j (zB s f L))).length = (polB k b a q w c j (zB s f L)).length + 9 := (blob_is (by omega) (by omega) (by have := hpl.out; omega)).2.2
         clear hs11 hs12 kc kc2 kf2 hBW hBc10 har10 hd10 HB13
         have kc13 := fun o => Sy.cell_row hBW13 o
         have kb13 := fun o => Sy.cell_row hBc13 o
         have kf13 := fun o => row_freed hBc13 o
         have hblh := Lib.hid hblen
         clear hblen
         go_wp2_with (go_at_call 54; (with_reducible refine (beq_pl _ _ _ _ _ _ (blobOf 3 (polB k b a q w c j (zB s f L))) w13 (by exact hrE) hrA (by have := hblh.out; omega) (by have := hblh.out; have := hN.out; omega)).mono ?_); rintro e w14 ⟨rfl, rfl⟩)
         obtain ⟨w15, hw15⟩ : ∃ x, x = ((((((((((w14.setCell ⟨W.heap.size, 0, none⟩ (.int .i64 k)).setCell ⟨W.heap.size, 1, none⟩ (.int .i64 b)).setCell ⟨W.heap.size, 2, none⟩ (.int .i64 a)).setCell ⟨W.heap.size, 3, none⟩ (.int .i64 q)).setCell ⟨W.heap.size, 4, none⟩ (.int .i64 w)).setCell ⟨W.heap.size, 5, none⟩ (.int .i64 c)).setCell ⟨W.heap.size, 6, none⟩ (.bool j)).setCell ⟨W.heap.size, 7, none⟩ (.string s)).setCell ⟨W.heap.size, 8, none⟩ (.int .i64 f)).setCell ⟨W.heap.size, 9, none⟩ (.slice pz nz cz)) := ⟨_, rfl⟩
         rw [← hw15]
         have hrow : w15.heap[W.heap.size]? = some (.cells #[.int .i64 k, .int .i64 b, .int .i64 a, .int .i64 q, .int .i64 w, .int .i64 c, .bool j, .string s, .int .i64 f, .slice pz nz cz] 48 (0, 0)) := by
           rw [hw15]
           have hh := set_rowd (set_rowd (set_rowd (set_rowd (set_rowd (set_rowd (set_rowd (set_rowd (set_rowd (set_rowd hBc13 0 (.int .i64 k)) 1 (.int .i64 b)) 2 (.int .i64 a)) 3 (.int .i64 q)) 4 (.int .i64 w)) 5 (.int .i64 c)) 6 (.bool j)) 7 (.string s)) 8 (.int .i64 f)) 9 (.slice pz nz cz)
           simp only [List.setIfInBounds_toArray, List.set_cons_zero, List.set_cons_succ] at hh
           exact hh
         have hgr : w14.grownBy w15 (some W.heap.size) := by
           rw [hw15]
           exact gb_trans (gb_trans (gb_trans (gb_trans (gb_trans (gb_trans (gb_trans (gb_trans (gb_trans (gb_set _ _ _ _) (gb_set _ _ _ _)) (gb_set _ _ _ _)) (gb_set _ _ _ _)) (gb_set _ _ _ _)) (gb_set _ _ _ _)) (gb_set _ _ _ _)) (gb_set _ _ _ _)) (gb_set _ _ _ _)) (gb_set _ _ _ _)
         clear hw15
         have hd15 := deep_all (deep_set hd13 hgr) (Below.refl _ _)
         have hb15 : Below W.heap.size W w15 := hb13.grown hgr hb13.size (fun k hk => by cases hk; exact Nat.le_refl _)
         have kc15 := fun o => Sy.cell_row hrow o
         clear kc13 kb13 kf13
         clear hBW13 hBc13 hrow own13 hrE hrA
         refine bodyPost_ret (v := .tuple #[polV k b a q w c j s f (.slice pz nz cz), .nilIface]) (by first | (simp [results, Tryd.results17, go_sem]; done) | (simp only [results, Tryd.results17]; go_simp; done)) rfl ⟨_, rfl, hd15, hb15⟩
end Go.Proofs.YtikfgnmljpjnbaaDoor
namespace Go.Proofs.YtikfgnmljpjnbaaDoor
open Go.RowKit Go.Extern.Stop Go.Stop Go.Extern
set_option linter.unusedVariables false
set_option linter.unusedSimpArgs false
theorem givep_pl {k b a q w c f : Int} {j : Bool} {s : ByteArray} {z L : Value} {W : World} (hd : Sy.deepC (fun _ _ => True) W (.sl KRU) z L) (hl : (((Sy.rows L).length / 3 : Nat) : Int) ≤ 4398046511104) (hg : W.cell? ⟨0, 0, none⟩ = some asHandle) :
   Calls Tryd.prog 15 #[polV k b a q w c j s f z] W fun e w' => ∃ z', e = .returned (polV k b a q w c j s f z') ∧ Sy.deepC (fun _ _ => True) w' (.sl KRU) z' L ∧ Below W.heap.size W w' := by
 refine (con_pl pb_g_givep rfl [k, b, a, q, w, c, f] [j] [L] [s] W [polV k b a q w c j s f z] rfl rfl rfl rfl hl (glob_ok hg) ⟨⟨_, rfl, rfl, rfl, rfl, rfl, rfl, rfl, rfl, rfl, rfl, ⟨hd, fun _ _ h => by cases h⟩, rfl⟩, trivial⟩).mono ?_
 rintro e w' ⟨x, o', ok', rfl, hb, us, rfl, hU⟩
 rw [Sy.relL_toL] at hU
 rcases us with _ | ⟨u0, us⟩
 · exact hU.elim
 obtain ⟨g0, hU⟩ := hU
 rcases us with _ | ⟨u1, us⟩
 · exact hU.elim
 obtain ⟨g1, hU⟩ := hU
 rcases us with _ | ⟨u2, us⟩
 · exact hU.elim
 obtain ⟨g2, hU⟩ := hU
 rcases us with _ | ⟨u3, us⟩
 · exact hU.elim
 obtain ⟨g3, hU⟩ := hU
 rcases us with _ | ⟨u4, us⟩
 · exact hU.elim
 obtain ⟨g4, hU⟩ := hU
 rcases us with _ | ⟨u5, us⟩
 · exact hU.elim
 obtain ⟨g5, hU⟩ := hU
 rcases us with _ | ⟨u6, us⟩
 · exact hU.elim
 obtain ⟨g6, hU⟩ := hU
 rcases us with _ | ⟨u7, us⟩
 · exact hU.elim
 obtain ⟨g7, hU⟩ := hU
 rcases us with _ | ⟨u8, us⟩
 · exact hU.elim
 obtain ⟨g8, hU⟩ := hU
 rcases us with _ | ⟨u9, us⟩
 · exact hU.elim
 obtain ⟨g9, hU⟩ := hU
 obtain rfl : us = [] := by
   cases us with
   | nil => rfl
   | cons _ _ => exact hU.elim
 have e0 : u0 = .int .i64 k := g0
 have e1 : u1 = .int .i64 b := g1
 have e2 : u2 = .int .i64 a := g2
 have e3 : u3 = .int .i64 q := g3
 have e4 : u4 = .int .i64 w := g4
 have e5 : u5 = .int .i64 c := g5
 have e6 : u6 = .bool j := g6
 have e7 : u7 = .string s := g7
 have e8 : u8 = .int .i64 f := g8
 have e9 : Sy.deepC ok' w' (.sl KRU) u9 L := g9.1
 subst e0 e1 e2 e3 e4 e5 e6 e7 e8
 exact ⟨u9, rfl, deep_all e9 (Below.refl _ _), hb⟩
theorem big_pl {f : Int} {s : ByteArray} {z L : Value} {W : World} (hd : Sy.deepC (fun _ _ => True) W (.sl KRU) z L) (hg : W.cell? ⟨0, 0, none⟩ = some asHandle) :
   Calls Tryd.prog 12 #[.agg #[.string s, .int .i64 f, z]] W fun e w' => ∃ v, e = .returned (.bool v) ∧ Below W.heap.size W w' := by
 refine (con_pl pb_g_lbig28 rfl [f] [] [L] [s] W [.agg #[.string s, .int .i64 f, z]] rfl rfl rfl rfl rfl (glob_ok hg) ⟨⟨_, rfl, rfl, rfl, ⟨hd, fun _ _ h => by cases h⟩, rfl⟩, trivial⟩).mono ?_
 rintro e w' ⟨x, o', ok', rfl, hb, hx⟩
 exact ⟨_, congrArg Ending.returned hx, hb⟩
theorem check_er {k b a q w c f : Int} {j : Bool} {s : ByteArray} {z L : Value} {W : World} (hr : InR k ∧ InR b ∧ InR a ∧ InR q ∧ InR w ∧ InR c ∧ InR f) (hd : Sy.deepC (fun _ _ => True) W (.sl KRU) z L) (hg : W.cell? ⟨0, 0, none⟩ = some asHandle) :
   Calls Tryd.prog 21 #[polV k b a q w c j s f z] W fun e w' => e = .returned (Sy.errVal 101 (poE k b a q w c s f (Sy.rows L))) ∧ Below W.heap.size W w' := by
 obtain ⟨r1, r2, r3, r4, r5, r6, r7⟩ := hr
 refine (con_pl pb_g_pock rfl [k, b, a, q, w, c, f] [j] [L] [s] W [polV k b a q w c j s f z] rfl rfl rfl rfl ⟨r1, r2, r3, r4, r5, r6, r7⟩ (glob_ok hg) ⟨⟨_, rfl, rfl, rfl, rfl, rfl, rfl, rfl, rfl, rfl, rfl, ⟨hd, fun _ _ h => by cases h⟩, rfl⟩, trivial⟩).mono ?_
 rintro e w' ⟨x, o', ok', rfl, hb, hx⟩
 rw [Sy.relab_flat 0 _ rfl] at hx
 have := Sy.Rel.eq hx rfl
 subst this
 exact ⟨rfl, hb⟩
theorem same_pl {k b a q w c f : Int} {j : Bool} {s : ByteArray} {z z2 L : Value} {W : World} (hd : Sy.deepC (fun _ _ => True) W (.sl KRU) z L) (hd2 : Sy.deepC (fun _ _ => True) W (.sl KRU) z2 L) (hg : W.cell? ⟨0, 0, none⟩ = some asHandle) :
   Calls Tryd.prog 23 #[polV k b a q w c j s f z, polV k b a q w c j s f z2] W fun e w' => e = .returned (.bool true) ∧ Below W.heap.size W w' := by
 refine (con_pl pb_g_same rfl [k, b, a, q, w, c, f, k, b, a, q, w, c, f] [j, j] [L, L] [s, s] W [polV k b a q w c j s f z, polV k b a q w c j s f z2] rfl rfl rfl rfl ⟨rfl, rfl, rfl, rfl, rfl, rfl, rfl, by first | exact Iff.rfl | rfl | (cases j <;> first | rfl | exact Iff.rfl | simp [Sy.holds]), by show (s == s) = true; rw [ba_beq], eqV_iff.2 rfl⟩ (glob_ok hg) ⟨⟨_, rfl, rfl, rfl, rfl, rfl, rfl, rfl, rfl, rfl, rfl, ⟨hd, fun _ _ h => by cases h⟩, rfl⟩, ⟨_, rfl, rfl, rfl, rfl, rfl, rfl, rfl, rfl, rfl, rfl, ⟨hd2, fun _ _ h => by cases h⟩, rfl⟩, trivial⟩).mono ?_
 rintro e w' ⟨x, o', ok', rfl, hb, hx⟩
 have : x = .bool true := hx
 subst this
 exact ⟨rfl, hb⟩
theorem open_en (A : Option Addr) (c n : Nat) (l : List UInt8) (k : Int) (w : World) (hrd : Rd w A l) (hn : n = l.length) (hcz : A = none → c = 0) (hlc : l.length ≤ c) (hl : l.length ≤ 140737488355000) (h0 : 0 ≤ k) (h1 : k ≤ 255) (hg : w.cell? ⟨0, 0, none⟩ = some asHandle) (he : blE (l.map bV) k ≠ 0) :
   Calls Tryd.prog 10 #[.int .u8 k, .slice A n c] w fun e w' => ∃ v m, e = .returned (.tuple #[v, .iface 101 (.int .i64 m)]) ∧ Below w.heap.size w w' := by
 refine (open_er A c n l k w hrd hn hcz hlc hl h0 h1 hg).mono ?_
 rintro e w' ⟨v, rfl, hb⟩
 refine ⟨v, blE (l.map bV) k, ?_, hb⟩
 unfold Sy.errVal
 rw [if_neg he]
set_option maxRecDepth 100000 in
set_option maxHeartbeats 4000000 in
theorem pdec_er (A : Option Addr) (cc n : Nat) (l : List UInt8) (W : World) (hrd : Rd W A l) (hn : n = l.length) (hcz : A = none → cc = 0) (hlc : l.length ≤ cc) (hl : l.length ≤ 140737488355000) (hg : W.cell? ⟨0, 0, none⟩ = some asHandle) (he : blE (l.map bV) 3 ≠ 0) :
   Calls Tryd.prog 17 #[.slice A n cc] W fun e w' => ∃ m, e = .returned (.tuple #[polV 0 0 0 0 0 0 false ⟨#[]⟩ 0 (.slice none 0 0), .iface 101 (.int .i64 m)]) ∧ Below W.heap.size W w' := by
 have hN := Lib.hid hn
 clear hn
 go_enter Tryd.func17, Tryd.ntmps17
 go_wp2_with (fail)
 obtain ⟨WB, hWB⟩ : ∃ x, x = W.alloc (.cells #[.int .i64 0, .int .i64 0, .int .i64 0, .int .i64 0, .int .i64 0, .int .i64 0, .bool false, .string ⟨#[]⟩, .int .i64 0, .slice none 0 0] 48) := ⟨_, rfl⟩
 have hB0 : Below W.heap.size W WB := by rw [hWB]; exact (Below.refl _ _).alloc (Nat.le_refl _) _
 have hBs : W.heap.size < WB.heap.size := by rw [hWB]; simp
 have hBc : WB.heap[W.heap.size]? = some (.cells #[.int .i64 0, .int .i64 0, .int .i64 0, .int .i64 0, .int .i64 0, .int .i64 0, .bool false, .string ⟨#[]⟩, .int .i64 0, .slice none 0 0] 48 (0, 0)) := by rw [hWB]; exact heap_alloc_new W _
 rw [← hWB]
 have hrB : Rd WB A l := by rw [hWB]; exact hrd.below ((Below.refl _ _).alloc (Nat.le_refl _) _)
 clear hWB
 have hgB : WB.cell? ⟨0, 0, none⟩ = some asHandle := handle_below hg hB0 (handle_lt hg)
 (with_reducible refine (open_en A cc n l 3 WB hrB hN.out hcz hlc hl (by omega) (by omega) hgB he).mono ?_)
 rintro e w1 ⟨v1, m, rfl, HB1⟩
 have hb1 := hB0.trans (HB1.mono hB0.size)
 have hBc1 : w1.heap[W.heap.size]? = some (.cells #[.int .i64 0, .int .i64 0, .int .i64 0, .int .i64 0, .int .i64 0, .int .i64 0, .bool false, .string ⟨#[]⟩, .int .i64 0, .slice none 0 0] 48 (0, 0)) := by rw [HB1.block _ hBs]; exact hBc
 have kb1 := fun o => Sy.cell_row hBc1 o
 have kf1 := fun o => row_freed hBc1 o
 clear hBc
 go_wp2_with (fail)
 obtain ⟨w15, hw15⟩ : ∃ x, x = ((((((((((w1.setCell ⟨W.heap.size, 0, none⟩ (.int .i64 0)).setCell ⟨W.heap.size, 1, none⟩ (.int .i64 0)).setCell ⟨W.heap.size, 2, none⟩ (.int .i64 0)).setCell ⟨W.heap.size, 3, none⟩ (.int .i64 0)).setCell ⟨W.heap.size, 4, none⟩ (.int .i64 0)).setCell ⟨W.heap.size, 5, none⟩ (.int .i64 0)).setCell ⟨W.heap.size, 6, none⟩ (.bool false)).setCell ⟨W.heap.size, 7, none⟩ (.string ⟨#[]⟩)).setCell ⟨W.heap.size, 8, none⟩ (.int .i64 0)).setCell ⟨W.heap.size, 9, none⟩ (.slice none 0 0)) := ⟨_, rfl⟩
 rw [← hw15]
 have hrow : w15.heap[W.heap.size]? = some (.cells #[.int .i64 0, .int .i64 0, .int .i64 0, .int .i64 0, .int .i64 0, .int .i64 0, .bool false, .string ⟨#[]⟩, .int .i64 0, .slice none 0 0] 48 (0, 0)) := by
   rw [hw15]
   have hh := set_rowd (set_rowd (set_rowd (set_rowd (set_rowd (set_rowd (set_rowd (set_rowd (set_rowd (set_rowd hBc1 0 (.int .i64 0)) 1 (.int .i64 0)) 2 (.int .i64 0)) 3 (.int .i64 0)) 4 (.int .i64 0)) 5 (.int .i64 0)) 6 (.bool false)) 7 (.string ⟨#[]⟩)) 8 (.int .i64 0)) 9 (.slice none 0 0)
   simp only [List.setIfInBounds_toArray, List.set_cons_zero, List.set_cons_succ] at hh
   exact hh
 have hgr : w1.grownBy w15 (some W.heap.size) := by
   rw [hw15]
   exact gb_trans (gb_trans (gb_trans (gb_trans (gb_trans (gb_trans (gb_trans (gb_trans (gb_trans (gb_set _ _ _ _) (gb_set _ _ _ _)) (gb_set _ _ _ _)) (gb_set _ _ _ _)) (gb_set _ _ _ _)) (gb_set _ _ _ _)) (gb_set _ _ _ _)) (gb_set _ _ _ _)) (gb_set _ _ _ _)) (gb_set _ _ _ _)
 clear hw15
 have hb15 : Below W.heap.size W w15 := hb1.grown hgr hb1.size (fun k hk => by cases hk; exact Nat.le_refl _)
 have kc15 := fun o => Sy.cell_row hrow o
 clear kb1 kf1 hBc1 hrow hgr
 refine bodyPost_ret (v := .tuple #[polV 0 0 0 0 0 0 false ⟨#[]⟩ 0 (.slice none 0 0), .iface 101 (.int .i64 m)]) (by first | (simp [results, Tryd.results17, go_sem]; done) | (simp only [results, Tryd.results17]; go_simp; done)) rfl ⟨_, rfl, hb15⟩
end Go.Proofs.YtikfgnmljpjnbaaDoor
namespace Go.Proofs.YtikfgnmljpjnbaaDoor
open Go.RowKit Go.Extern.Stop Go.Stop Go.Extern
set_option linter.unusedVariables false
set_option linter.unusedSimpArgs false
def flip (x : UInt8) (r : Nat) : UInt8 := UInt8.ofNat (x.toNat ^^^ 2 ^ r)
theorem flip_ne (x : UInt8) (r : Nat) (hr : r < 8) : flip x r ≠ x := by
 intro h
 have h1 := congrArg UInt8.toNat h
 have hx := x.toNat_lt
 have hp : 2 ^ r < 2 ^ 8 := Nat.pow_lt_pow_right (by decide) hr
 have hlt : x.toNat ^^^ 2 ^ r < 2 ^ 8 := Nat.xor_lt_two_pow hx hp
 unfold flip at h1
 rw [UInt8.toNat_ofNat', Nat.mod_eq_of_lt hlt] at h1
 have h2 : x.toNat ^^^ (x.toNat ^^^ 2 ^ r) = x.toNat ^^^ x.toNat := by rw [h1]
 rw [← Nat.xor_assoc, Nat.xor_self, Nat.zero_xor] at h2
 have : 0 < 2 ^ r := Nat.pow_pos (by decide)
 omega
theorem flip_is (x : UInt8) (r : Nat) (hr : r < 8) : bits BinOp.xor IntKind.u8 (x.toNat : Int) (2 ^ r) = ((flip x r).toNat : Int) := by
 have hx := x.toNat_lt
 have hp : 2 ^ r < 2 ^ 8 := Nat.pow_lt_pow_right (by decide) hr
 have hlt : x.toNat ^^^ 2 ^ r < 2 ^ 8 := Nat.xor_lt_two_pow hx hp
 have := u8_xor_nat x.toNat (2 ^ r) hx hp
 unfold flip
 rw [UInt8.toNat_ofNat', Nat.mod_eq_of_lt hlt, ← this]
 simp
theorem flip_is' (x : UInt8) (r : Nat) (hr : r < 8) : bits BinOp.xor IntKind.u8 (x.toNat : Int) (2 ^ r % 256) = ((flip x r).toNat : Int) := by
 have hp : 2 ^ r < 2 ^ 8 := Nat.pow_lt_pow_right (by decide) hr
 have e : (2 : Int) ^ r % 256 = 2 ^ r := Int.emod_eq_of_lt (Int.pow_nonneg (by decide)) (by have h : ((2 ^ r : Nat) : Int) < ((2 ^ 8 : Nat) : Int) := Int.ofNat_lt.2 hp; simpa using h)
 rw [e]; exact flip_is x r hr
theorem place_n (bit : Int) (N : Nat) (h1 : 0 < N) (hN : N ≤ 10000) : ∃ nn : Nat, nn < N ∧ wrap64 ((IntKind.u64.wrap bit).tmod (N : Int)) = (nn : Int) := by
 have h0 : 0 ≤ IntKind.u64.wrap bit := by rw [show IntKind.u64.wrap bit = bit % 18446744073709551616 by simp [IntKind.wrap, IntKind.bits, IntKind.signed]]; omega
 have e : (IntKind.u64.wrap bit).tmod (N : Int) = IntKind.u64.wrap bit % (N : Int) := Int.tmod_eq_emod_of_nonneg h0
 have h1 := Int.emod_nonneg (IntKind.u64.wrap bit) (show (N : Int) ≠ 0 by omega)
 have h2 := Int.emod_lt_of_pos (IntKind.u64.wrap bit) (show 0 < (N : Int) by omega)
 rw [e]
 generalize IntKind.u64.wrap bit % (N : Int) = m at *
 refine ⟨m.toNat, by omega, ?_⟩
 rw [IntWalk.wrap64_in _ (by omega)]
 omega
theorem gB_take {l : List Value} {n j : Nat} (h : j < n) : gB (l.take n) j = gB l j := by
 unfold gB
 rw [List.getD_eq_getElem?_getD, List.getElem?_take, if_pos h, ← List.getD_eq_getElem?_getD]
theorem blob_hd {k : Int} {l : List UInt8} (h0 : 1 ≤ k) (h1 : k ≤ 6) (hl : l.length ≤ 1024) : gB ((blobOf k l).map bV) 3 + 256 * gB ((blobOf k l).map bV) 4 = l.length := by
 obtain ⟨_, x1, _, x3⟩ := blob_kd (k := k) (l := l) h0 h1 hl
 rcases kd_spec ((blobOf k l).map bV) with ⟨_, _, y, _⟩ | ⟨y, _⟩ <;> omega
theorem e_cutn {k : Int} {l : List UInt8} (h0 : 1 ≤ k) (h1 : k ≤ 6) (hl : l.length ≤ 1024) {m : Nat} (hm : m < l.length + 9) : blE (((blobOf k l).take m).map bV) k ≠ 0 := by
 obtain ⟨_, _, e3⟩ := blob_is (k := k) (l := l) h0 h1 hl
 have hg := blob_hd (k := k) (l := l) h0 h1 hl
 have hL : (((blobOf k l).take m).map bV).length = m := by rw [List.length_map, List.length_take]; omega
 rcases bl_spec (((blobOf k l).take m).map bV) k with ⟨h, _⟩ | ⟨h, _⟩ | ⟨_, _, _, x1, x2, x3⟩
 · omega
 · omega
 · rcases kd_spec (((blobOf k l).take m).map bV) with ⟨_, _, y, y5, _⟩ | ⟨y, _⟩
   · rw [hL] at y5 x3
     rw [List.map_take, gB_take (by omega), gB_take (by omega)] at y
     rw [List.map_take] at x3
     omega
   · omega
theorem e_flip {k : Int} {l : List UInt8} {q : Nat} {y : UInt8} (hq : q < (blobOf k l).length) (hy : y ≠ (blobOf k l)[q]) : blE (((blobOf k l).set q y).map bV) k ≠ 0 := by
 have ho : opensB ((blobOf k l).set q y) = false := by
   unfold blobOf at hq hy ⊢
   rw [seal_length] at hq
   exact opens_set _ q hq y hy
 rcases bl_spec (((blobOf k l).set q y).map bV) k with ⟨h, _⟩ | ⟨h, _⟩ | ⟨h, _⟩
 · omega
 · omega
 · rw [h]
   unfold opnE
   rw [byL_bV, ho]
   decide
def SureP : Prop := ∀ (w : World), w.cell? ⟨0, 0, none⟩ = some asHandle → Calls Tryd.prog 13 #[] w fun e w' => e = .returned (.bool true) ∧ Below w.heap.size w w'
theorem SureP.at_ (h : SureP) (w : World) (hg : w.cell? ⟨0, 0, none⟩ = some asHandle) : Calls Tryd.prog 13 #[] w fun e w' => e = .returned (.bool true) ∧ Below w.heap.size w w' := h w hg
set_option maxRecDepth 100000 in
set_option maxHeartbeats 16000000 in
theorem pb_law (hS : SureP) {k b a q w c f : Int} {j : Bool} {s : ByteArray} {z L : Value} {W : World} (hr : InR k ∧ InR b ∧ InR a ∧ InR q ∧ InR w ∧ InR c ∧ InR f) (hd : Sy.deepC (fun _ _ => True) W (.sl KRU) z L) (hty : Sy.typ (.sl KRU) L) (hl : (((Sy.rows L).length / 3 : Nat) : Int) ≤ 4398046511104) (at_ : Int) (hat : InR at_) (hg : W.cell? ⟨0, 0, none⟩ = some asHandle) :
   Calls Tryd.prog 5 #[polV k b a q w c j s f z, .int .i64 at_] W fun e w' => e = .returned (.bool true) ∧ Below W.heap.size W w' := by
 obtain ⟨pz, nz, cz, rfl⟩ : ∃ p n c, z = .slice p n c := by obtain ⟨p, n, cap, h, _⟩ := hd; exact ⟨p, n, cap, h⟩
 go_enter Tryd.func5, Tryd.ntmps5
 go_wp2_with (fail)
 obtain ⟨WB, hWB⟩ : ∃ x, x = W.alloc (.cells #[.int .i64 k, .int .i64 b, .int .i64 a, .int .i64 q, .int .i64 w, .int .i64 c, .bool j, .string s, .int .i64 f, .slice pz nz cz] 39) := ⟨_, rfl⟩
 have hB0 : Below W.heap.size W WB := by rw [hWB]; exact (Below.refl _ _).alloc (Nat.le_refl _) _
 have hBs : W.heap.size < WB.heap.size := by rw [hWB]; simp
 have hBc : WB.heap[W.heap.size]? = some (.cells #[.int .i64 k, .int .i64 b, .int .i64 a, .int .i64 q, .int .i64 w, .int .i64 c, .bool j, .string s, .int .i64 f, .slice pz nz cz] 39 (0, 0)) := by rw [hWB]; exact heap_alloc_new W _
 rw [← hWB]
 clear hWB
 have hgB := handle_below hg hB0 (handle_lt hg)
 have hdB := deep_all hd hB0
 (with_reducible refine (givep_pl hdB hl hgB).mono ?_)
 rintro e w1 ⟨z1, rfl, hd1, HB1⟩
 obtain ⟨p1, n1, c1, rfl⟩ : ∃ p n c, z1 = .slice p n c := by obtain ⟨p, n, cap, h, _⟩ := hd1; exact ⟨p, n, cap, h⟩
 have hb1 := hB0.trans (HB1.mono hB0.size)
 have hBc1 : w1.heap[W.heap.size]? = some (.cells #[.int .i64 k, .int .i64 b, .int .i64 a, .int .i64 q, .int .i64 w, .int .i64 c, .bool j, .string s, .int .i64 f, .slice pz nz cz] 39 (0, 0)) := by rw [HB1.block _ hBs]; exact hBc
 have hs1 : W.heap.size < w1.heap.size := Nat.lt_of_lt_of_le hBs HB1.size
 have kc1 := fun o => Sy.cell_row hBc1 o
 clear hBc
 go_wp2_with (fail)
 obtain ⟨W2, hW2⟩ : ∃ x, x = w1.alloc (.cells #[.int .i64 k, .int .i64 b, .int .i64 a, .int .i64 q, .int .i64 w, .int .i64 c, .bool j, .string s, .int .i64 f, .slice p1 n1 c1] 48) := ⟨_, rfl⟩
 obtain ⟨g5, hg5⟩ : ∃ x, x = w1.heap.size := ⟨_, rfl⟩
 have hA2 : Below w1.heap.size w1 W2 := by rw [hW2]; exact (Below.refl _ _).alloc (Nat.le_refl _) _
 have hX2 : W2.heap[g5]? = some (.cells #[.int .i64 k, .int .i64 b, .int .i64 a, .int .i64 q, .int .i64 w, .int .i64 c, .bool j, .string s, .int .i64 f, .slice p1 n1 c1] 48 (0, 0)) := by rw [hW2, hg5]; exact heap_alloc_new w1 _
 have hs2 : g5 < W2.heap.size := by rw [hW2, hg5]; simp
 have hW5 : W.heap.size < g5 := by rw [hg5]; exact hs1
 have hb2 := hb1.trans (hA2.mono hb1.size)
 have hd2 := deep_all hd1 hA2
 have hdz2 := deep_all (deep_all hdB HB1) hA2
 rw [← hW2, ← hg5]
 clear hW2 hg5 kc1 hd1 hBc1 HB1 hdB
 (with_reducible refine (big_pl hdz2 (handle_below hg hb2 (handle_lt hg))).mono ?_)
 rintro e w3 ⟨v, rfl, HB3⟩
 have hb3 := hb2.trans (HB3.mono hb2.size)
 have hX3 : w3.heap[g5]? = some (.cells #[.int .i64 k, .int .i64 b, .int .i64 a, .int .i64 q, .int .i64 w, .int .i64 c, .bool j, .string s, .int .i64 f, .slice p1 n1 c1] 48 (0, 0)) := by rw [HB3.block _ hs2]; exact hX2
 have hs3 := Nat.lt_of_lt_of_le hs2 HB3.size
 have hd3 := deep_all hd2 HB3
 have hg3 := handle_below hg hb3 (handle_lt hg)
 have kc3 := fun o => Sy.cell_row hX3 o
 clear hX2 hs2 hd2 hdz2 hA2
 cases v
 · go_wp2_with (fail)
   (with_reducible refine (check_er hr hd3 hg3).mono ?_)
   rintro e w4 ⟨rfl, HB4⟩
   have hb4 := hb3.trans (HB4.mono hb3.size)
   have hg4 := handle_below hg hb4 (handle_lt hg)
   have hd4 := deep_all hd3 HB4
   have hX4 : w4.heap[g5]? = some (.cells #[.int .i64 k, .int .i64 b, .int .i64 a, .int .i64 q, .int .i64 w, .int .i64 c, .bool j, .string s, .int .i64 f, .slice p1 n1 c1] 48 (0, 0)) := by rw [HB4.block _ hs3]; exact hX3
   have hs4 := Nat.lt_of_lt_of_le hs3 HB4.size
   have kc4 := fun o => Sy.cell_row hX4 o
   clear kc3 hX3
   by_cases hp : poP k b a q w c s f (Sy.rows L)
   · rw [show poE k b a q w c s f (Sy.rows L) = 0 from if_pos hp]
     have hOk : PolOk k b a q w c f s (.slice p1 n1 c1) L w4 := ⟨hp, hr.1, hr.2.1, hr.2.2.1, hr.2.2.2.1, hr.2.2.2.2.1, hr.2.2.2.2.2.1, hr.2.2.2.2.2.2, hd4, hty⟩
     have e0 : Sy.errVal 101 0 = .nilIface := rfl
     rw [e0]
     go_wp2_with (fail)
     obtain ⟨hzg, hzl⟩ := zB_len hOk
     have hpl := polB_len k b a q w c j (zB s f L)
     (with_reducible refine (penc_pl (j := j) hOk hg4).mono ?_)
     rintro e w5 ⟨g6, cap6, rfl, own5, HB5⟩
     obtain ⟨P, hP⟩ : ∃ P, P = polB k b a q w c j (zB s f L) := ⟨_, rfl⟩
     rw [← hP] at own5 hpl ⊢
     have hPl : 53 ≤ P.length ∧ P.length ≤ 1003 := by omega
     have hbl : (blobOf 3 P).length = P.length + 9 := (blob_is (by omega) (by omega) (by omega)).2.2
     have hPh := Lib.hid hP
     have hblh := Lib.hid hbl
     clear hP hbl hpl hzg hzl
     have hb5 := hb4.trans (HB5.mono hb4.size)
     have hg5' := handle_below hg hb5 (handle_lt hg)
     have hd5 := deep_all hd4 HB5
     have hX5 : w5.heap[g5]? = some (.cells #[.int .i64 k, .int .i64 b, .int .i64 a, .int .i64 q, .int .i64 w, .int .i64 c, .bool j, .string s, .int .i64 f, .slice p1 n1 c1] 48 (0, 0)) := by rw [HB5.block _ hs4]; exact hX4
     have hs5 := Nat.lt_of_lt_of_le hs4 HB5.size
     have hc6 := own_cap own5
     clear kc4 hX4 HB5 HB4 HB3
     go_wp2_with (fail)
     (with_reducible refine (pdec_ok (some ⟨g6, 0, none⟩) cap6 (P.length + 9) (j := j) hOk (by rw [← hPh.out]; exact (Rd.of_own own5).1) (by rw [← hPh.out]) (fun e => by cases e) hc6.1 hg5').mono ?_)
     rintro e w6 ⟨z7, rfl, hd7, HB6⟩
     obtain ⟨p7, n7, c7, rfl⟩ : ∃ p n c, z7 = .slice p n c := by obtain ⟨p, n, cap, h, _⟩ := hd7; exact ⟨p, n, cap, h⟩
     have hb6 := hb5.trans (HB6.mono hb5.size)
     have own6 := own_below own5 HB6
     have hd6 := deep_all hd5 HB6
     have hX6 : w6.heap[g5]? = some (.cells #[.int .i64 k, .int .i64 b, .int .i64 a, .int .i64 q, .int .i64 w, .int .i64 c, .bool j, .string s, .int .i64 f, .slice p1 n1 c1] 48 (0, 0)) := by rw [HB6.block _ hs5]; exact hX5
     have hs6 := Nat.lt_of_lt_of_le hs5 HB6.size
     have kc6 := fun o => Sy.cell_row hX6 o
     clear hX5 HB6 hd5
     have hdA := deep_all hd6 ((Below.refl w6.heap.size w6).alloc (o := .cells #[.int .i64 k, .int .i64 b, .int .i64 a, .int .i64 q, .int .i64 w, .int .i64 c, .bool j, .string s, .int .i64 f, .slice p7 n7 c7] 48) (Nat.le_refl _))
     have hdB7 := deep_all hd7 ((Below.refl w6.heap.size w6).alloc (o := .cells #[.int .i64 k, .int .i64 b, .int .i64 a, .int .i64 q, .int .i64 w, .int .i64 c, .bool j, .string s, .int .i64 f, .slice p7 n7 c7] 48) (Nat.le_refl _))
     have hbA := hb6.alloc (o := .cells #[.int .i64 k, .int .i64 b, .int .i64 a, .int .i64 q, .int .i64 w, .int .i64 c, .bool j, .string s, .int .i64 f, .slice p7 n7 c7] 48) hb6.size
     have hgA := handle_below hg hbA (handle_lt hg)
     have ownA := own6.alloc (.cells #[.int .i64 k, .int .i64 b, .int .i64 a, .int .i64 q, .int .i64 w, .int .i64 c, .bool j, .string s, .int .i64 f, .slice p7 n7 c7] 48)
     obtain ⟨m, hm, hM0⟩ := place_n at_ (P.length + 9) (by omega) (by omega)
     obtain ⟨nn, hnn, hN0⟩ := place_n at_ (8 * (P.length + 9)) (by omega) (by omega)
     have hM : wrap64 ((IntKind.u64.wrap at_).tmod ((P.length : Int) + 9)) = (m : Int) := by rw [← hM0]; congr 1
     have hN : wrap64 ((IntKind.u64.wrap at_).tmod (8 * ((P.length : Int) + 9))) = (nn : Int) := by rw [← hN0]; congr 1
     clear hM0 hN0
     go_wp2_with (go_at_call 23; (with_reducible refine (same_pl hdA hdB7 hgA).mono ?_); rintro e w7 ⟨rfl, HB7⟩)
     have hb7 := hbA.trans (HB7.mono hbA.size)
     have own7 := own_below ownA HB7
     have hg7 := handle_below hg hb7 (handle_lt hg)
     have hcut := e_cutn (k := 3) (l := P) (by omega) (by omega) (by omega) hm
     clear ownA own6 hdA hdB7 hgA hbA HB7 kc6 hX6 hd6 hd7 own5 hd4 hd3
     (with_reducible refine (pdec_er (some ⟨g6, 0, none⟩) cap6 m ((blobOf 3 P).take m) w7 (by exact (Rd.of_own own7).1.take m) (by rw [List.length_take, hblh.out]; omega) (fun e => by cases e) (by rw [List.length_take, hblh.out]; have := hc6.1; omega) (by rw [List.length_take, hblh.out]; omega) hg7 hcut).mono ?_)
     rintro e w8 ⟨m8, rfl, HB8⟩
     have hb8 := hb7.trans (HB8.mono hb7.size)
     have own8 := own_below own7 HB8
     have hql : nn / 8 < (blobOf 3 P).length := by rw [hblh.out]; omega
     obtain ⟨x, hxe⟩ : ∃ x : UInt8, x = (blobOf 3 P)[nn / 8] := ⟨_, rfl⟩
     have hcell8 : w8.cell? ⟨g6, nn / 8, none⟩ = some (.int .u8 (x.toNat : Int)) := by
       rw [own8.cellAt (nn / 8) (by omega), bv_get, List.getElem?_eq_getElem hql, hxe]; rfl
     have hfroz8 := own8.frozenAt (nn / 8)
     have hs8 : g6 < w8.heap.size := (own8.lt g6 rfl).2
     have hfl := flip_is' x (nn % 8) (by omega)
     have hxh := Lib.hid hxe
     clear hxe own7 hcut HB8 hM
     go_wp2_with (fail)
     have hc8 := own_cap own8
     have hGg : W.heap.size ≤ g6 := Nat.le_trans hb4.size hc8.2.1
     obtain ⟨W10, hW10⟩ : ∃ y, y = (w8.setCell ⟨g6, nn / 8, none⟩ (.int .u8 ((flip x (nn % 8)).toNat : Int))).alloc (.cells #[.int .i64 0, .int .i64 0, .int .i64 0, .int .i64 0, .int .i64 0, .int .i64 0, .bool false, .string ⟨#[]⟩, .int .i64 0, .slice none 0 0] 48) := ⟨_, rfl⟩
     have hb10 : Below W.heap.size W W10 := by
       rw [hW10]
       have h10 := hb8.setCell (p := ⟨g6, nn / 8, none⟩) hGg (.int .u8 ((flip x (nn % 8)).toNat : Int))
       exact h10.alloc h10.size _
     have own10 : W10.ownsRow w4.heap.size 5 1 (.slice (some ⟨g6, 0, none⟩) (P.length + 9) cap6) (P.length + 9) (bv ((blobOf 3 P).set (nn / 8) (flip x (nn % 8)))) := by
       rw [hW10]
       exact (own_set own8 (nn / 8) (flip x (nn % 8))).alloc _
     rw [← hW10]
     clear hW10 own8 hcell8 hfroz8 hfl
     have hl10 : ((blobOf 3 P).set (nn / 8) (flip x (nn % 8))).length = P.length + 9 := by rw [List.length_set, hblh.out]
     have hfe := e_flip (k := 3) (l := P) (q := nn / 8) (y := flip x (nn % 8)) hql (by rw [← hxh.out]; exact flip_ne x (nn % 8) (by omega))
     (with_reducible refine (pdec_er (some ⟨g6, 0, none⟩) cap6 (P.length + 9) ((blobOf 3 P).set (nn / 8) (flip x (nn % 8))) W10 (by exact (Rd.of_own own10).1) (by rw [hl10]) (fun e => by cases e) (by rw [hl10]; exact hc6.1) (by rw [hl10]; omega) (handle_below hg hb10 (handle_lt hg)) hfe).mono ?_)
     rintro e w11 ⟨m11, rfl, HB11⟩
     have hb11 := hb10.trans (HB11.mono hb10.size)
     have hb12 := hb11.alloc (o := .cells #[.int .i64 0, .int .i64 0, .int .i64 0, .int .i64 0, .int .i64 0, .int .i64 0, .bool false, .string ⟨#[]⟩, .int .i64 0, .slice none 0 0] 48) hb11.size
     have hg12 := handle_below hg hb12 (handle_lt hg)
     clear HB11 own10 hfe hl10 hb10 hb8 hb7 hb6 hb5
     go_wp2_with (go_at_call 13; (with_reducible refine (hS.at_ _ hg12).mono ?_); rintro e w13 ⟨rfl, HB13⟩)
     go_ret
     exact ⟨rfl, hb12.trans (HB13.mono hb12.size)⟩
   · rw [show poE k b a q w c s f (Sy.rows L) = 1 from if_neg hp]
     have e1 : Sy.errVal 101 1 = .iface 101 (.int .i64 1) := rfl
     rw [e1]
     go_wp2_with (fail)
     (with_reducible refine (hS.at_ w4 hg4).mono ?_)
     rintro e w5 ⟨rfl, HB5⟩
     go_wp2_with (fail)
     go_ret
     exact ⟨rfl, hb4.trans (HB5.mono hb4.size)⟩
 · go_wp2_with (fail)
   (with_reducible refine (hS.at_ w3 hg3).mono ?_)
   rintro e w5 ⟨rfl, HB5⟩
   go_wp2_with (fail)
   go_ret
   exact ⟨rfl, hb3.trans (HB5.mono hb3.size)⟩
end Go.Proofs.YtikfgnmljpjnbaaDoor
namespace Go.Proofs.YtikfgnmljpjnbaaDoor
open Go.RowKit Go.Extern.Stop Go.Stop Go.Extern
set_option linter.unusedVariables false
set_option linter.unusedSimpArgs false
abbrev nmUsual : ByteArray := ⟨#[85, 84, 67]⟩
abbrev nilL : Value := .tuple #[]
theorem nil_deep (w : World) : Sy.deepC (fun _ _ => True) w (.sl KRU) (.slice none 0 0) nilL := ⟨none, 0, 0, rfl, rfl, rfl, Nat.le_refl _, by omega, fun _ => rfl, fun i hi => absurd hi (Nat.not_lt_zero i)⟩
theorem nil_any {ok : Nat → Nat → Prop} {w : World} {v : Value} (h : Sy.deepC ok w (.sl KRU) v nilL) (w' : World) : Sy.deepC (fun _ _ => True) w' (.sl KRU) v nilL := by
 obtain ⟨p, n, cap, h1, h2, h3, h4, h5, h6, _⟩ := h
 have h0 : n = 0 := by
   have e : (0 : Nat) = n * 3 := h3
   omega
 subst h0
 exact ⟨p, 0, cap, h1, h2, h3, h4, h5, h6, fun i hi => absurd hi (Nat.not_lt_zero i)⟩
theorem usual_ok (w : World) : PolOk 0 0 0 1 0 1 0 nmUsual (.slice none 0 0) nilL w := by
 refine ⟨?_, ?_, ?_, ?_, ?_, ?_, ?_, ?_, nil_deep w, ⟨rfl, 0, by omega, rfl, fun i hi => absurd hi (Nat.not_lt_zero i)⟩⟩
 · refine ⟨by decide, by decide, by decide, by decide, by decide, by decide, by decide, zon_chk.1 (by kernel_rfl)⟩
 all_goals (unfold InR; omega)
theorem usual_pl (W : World) (hg : W.cell? ⟨0, 0, none⟩ = some asHandle) :
   Calls Tryd.prog 41 #[] W fun e w' => e = .returned (polV 0 0 0 1 0 1 false nmUsual 0 (.slice none 0 0)) ∧ Below W.heap.size W w' := by
 refine (con_pl pb_g_usual rfl [] [] [] [] W [] rfl rfl rfl rfl rfl (glob_ok hg) trivial).mono ?_
 rintro e w' ⟨x, o', ok', rfl, hb, hx⟩
 rw [Sy.relab_flat 0 _ rfl] at hx
 have := Sy.Rel.eq hx rfl
 subst this
 exact ⟨rfl, hb⟩
theorem num_pl (w : World) (hg : w.cell? ⟨0, 0, none⟩ = some asHandle) : Calls Tryd.prog 20 #[.iface 101 (.int .i64 1)] w fun e w' => e = .returned (.int .i64 1) ∧ Below w.heap.size w w' := num28_any 1 w hg
theorem chk0_pl (W : World) (hg : W.cell? ⟨0, 0, none⟩ = some asHandle) :
   Calls Tryd.prog 21 #[polV 0 0 0 0 0 1 false nmUsual 0 (.slice none 0 0)] W fun e w' => e = .returned (.iface 101 (.int .i64 1)) ∧ Below W.heap.size W w' := by
 have h := check_er (k := 0) (b := 0) (a := 0) (q := 0) (w := 0) (c := 1) (f := 0) (j := false) (s := nmUsual) (z := .slice none 0 0) (L := nilL) (W := W) (by unfold InR; omega) (nil_deep W) hg
 rw [show poE 0 0 0 0 0 1 nmUsual 0 (Sy.rows nilL) = 1 from if_neg (fun p => by have := p.2.1; omega)] at h
 exact h
set_option maxRecDepth 100000 in
set_option maxHeartbeats 16000000 in
theorem sure28 : SureP := by
 intro W hg
 go_enter Tryd.func13, Tryd.ntmps13
 go_wp2_with (fail)
 (with_reducible refine (usual_pl W hg).mono ?_)
 rintro e w1 ⟨rfl, hb1⟩
 go_wp2_with (fail)
 obtain ⟨W2, hW2⟩ : ∃ x, x = w1.alloc (.cells #[.int .i64 0, .int .i64 0, .int .i64 0, .int .i64 1, .int .i64 0, .int .i64 1, .bool false, .string nmUsual, .int .i64 0, .slice none 0 0] 48) := ⟨_, rfl⟩
 obtain ⟨g1, hg1⟩ : ∃ x, x = w1.heap.size := ⟨_, rfl⟩
 have hX2 : W2.heap[g1]? = some (.cells #[.int .i64 0, .int .i64 0, .int .i64 0, .int .i64 1, .int .i64 0, .int .i64 1, .bool false, .string nmUsual, .int .i64 0, .slice none 0 0] 48 (0, 0)) := by rw [hW2, hg1]; exact heap_alloc_new w1 _
 have hs2 : g1 < W2.heap.size := by rw [hW2, hg1]; simp
 have hW1 : W.heap.size ≤ g1 := by rw [hg1]; exact hb1.size
 have hb2 : Below W.heap.size W W2 := by rw [hW2]; exact hb1.alloc hb1.size _
 rw [← hW2, ← hg1]
 clear hW2 hg1
 have hg2 := handle_below hg hb2 (handle_lt hg)
 have hOk := usual_ok W2
 obtain ⟨hzg, hzl⟩ := zB_len hOk
 have hpl := polB_len 0 0 0 1 0 1 false (zB nmUsual 0 nilL)
 (with_reducible refine (penc_pl (j := false) hOk hg2).mono ?_)
 rintro e w3 ⟨g6, cap6, rfl, own3, HB3⟩
 obtain ⟨P, hP⟩ : ∃ P, P = polB 0 0 0 1 0 1 false (zB nmUsual 0 nilL) := ⟨_, rfl⟩
 rw [← hP] at own3 hpl ⊢
 have hPh := Lib.hid hP
 clear hP hpl hzg hzl
 have hb3 := hb2.trans (HB3.mono hb2.size)
 have hg3 := handle_below hg hb3 (handle_lt hg)
 have hX3 : w3.heap[g1]? = some (.cells #[.int .i64 0, .int .i64 0, .int .i64 0, .int .i64 1, .int .i64 0, .int .i64 1, .bool false, .string nmUsual, .int .i64 0, .slice none 0 0] 48 (0, 0)) := by rw [HB3.block _ hs2]; exact hX2
 have hs3 := Nat.lt_of_lt_of_le hs2 HB3.size
 have hc6 := own_cap own3
 clear hX2 HB3
 go_wp2_with (fail)
 (with_reducible refine (pdec_ok (some ⟨g6, 0, none⟩) cap6 (P.length + 9) (j := false) hOk (by rw [← hPh.out]; exact (Rd.of_own own3).1) (by rw [← hPh.out]) (fun e => by cases e) hc6.1 hg3).mono ?_)
 rintro e w4 ⟨z7, rfl, hd4, HB4⟩
 obtain ⟨p7, n7, c7, rfl⟩ : ∃ p n c, z7 = .slice p n c := by obtain ⟨p, n, cap, h, _⟩ := hd4; exact ⟨p, n, cap, h⟩
 have hb4 := hb3.trans (HB4.mono hb3.size)
 have hX4 : w4.heap[g1]? = some (.cells #[.int .i64 0, .int .i64 0, .int .i64 0, .int .i64 1, .int .i64 0, .int .i64 1, .bool false, .string nmUsual, .int .i64 0, .slice none 0 0] 48 (0, 0)) := by rw [HB4.block _ hs3]; exact hX3
 have hs4 := Nat.lt_of_lt_of_le hs3 HB4.size
 have kc4 := fun o => Sy.cell_row hX4 o
 have kf4 := fun o => row_freed hX4 o
 have hlt1 : g1 < w4.heap.size + 1 := by omega
 clear hX3 HB4 own3
 go_wp2_with (fail)
 obtain ⟨w9, hw9⟩ : ∃ x, x = (w4.setCell ⟨g1, 3, none⟩ (.int .i64 0)).alloc (.cells #[.int .i64 0, .int .i64 0, .int .i64 0, .int .i64 1, .int .i64 0, .int .i64 1, .bool false, .string nmUsual, .int .i64 0, .slice p7 n7 c7] 48) := ⟨_, rfl⟩
 obtain ⟨g4, hg4⟩ : ∃ x, x = w4.heap.size := ⟨_, rfl⟩
 have hb5 : Below W.heap.size W (w4.setCell ⟨g1, 3, none⟩ (.int .i64 0)) := hb4.setCell (p := ⟨g1, 3, none⟩) hW1 _
 have hb9 : Below W.heap.size W w9 := by rw [hw9]; exact hb5.alloc hb5.size _
 have hg9 := handle_below hg hb9 (handle_lt hg)
 have hX1 : w9.heap[g1]? = some (.cells #[.int .i64 0, .int .i64 0, .int .i64 0, .int .i64 0, .int .i64 0, .int .i64 1, .bool false, .string nmUsual, .int .i64 0, .slice none 0 0] 48 (0, 0)) := by
   have hh := set_rowd hX4 3 (.int .i64 0)
   simp only [List.setIfInBounds_toArray, List.set_cons_zero, List.set_cons_succ] at hh
   rw [hw9, ((Below.refl _ _).alloc (o := .cells #[.int .i64 0, .int .i64 0, .int .i64 0, .int .i64 1, .int .i64 0, .int .i64 1, .bool false, .string nmUsual, .int .i64 0, .slice p7 n7 c7] 48) (Nat.le_refl (w4.setCell ⟨g1, 3, none⟩ (.int .i64 0)).heap.size)).block g1 (by simpa using hs4)]
   exact hh
 have hX9 : w9.heap[g4]? = some (.cells #[.int .i64 0, .int .i64 0, .int .i64 0, .int .i64 1, .int .i64 0, .int .i64 1, .bool false, .string nmUsual, .int .i64 0, .slice p7 n7 c7] 48 (0, 0)) := by
   have hh := heap_alloc_new (w4.setCell ⟨g1, 3, none⟩ (.int .i64 0)) (.cells #[.int .i64 0, .int .i64 0, .int .i64 0, .int .i64 1, .int .i64 0, .int .i64 1, .bool false, .string nmUsual, .int .i64 0, .slice p7 n7 c7] 48)
   rw [hw9, hg4]
   simpa using hh
 have hs9 : w9.heap.size = g4 + 1 := by rw [hw9, hg4]; simp
 have hl4 : g4 < w9.heap.size := by omega
 have hl1 : g1 < w9.heap.size := by omega
 rw [← hw9, ← hg4]
 clear hw9 hg4 kc4 kf4 hlt1 hb5 hX4 hb3 hb2 hb1 hs9 hs4
 have kc1 := fun o => Sy.cell_row hX1 o
 have kc9 := fun o => Sy.cell_row hX9 o
 have hH9 : Held w9 w9 := Held.start hg9
 have hdN : ∀ w', Sy.deepC (fun _ _ => True) w' (.sl KRU) (.slice p7 n7 c7) nilL := nil_any hd4
 go_region_with (first | (go_at_call 41; (with_reducible refine (usual_pl _ (Held.handle (w0 := w9) (by repeat (first | assumption | refine Held.alloc ?_ _ | refine Held.drew ?_)))).mono ?_); rintro e w' ⟨rfl, hb'⟩; obtain ⟨hc, hf⟩ := bcell hb'; have hz := hb'.size; (try (simp at hz)); have hH' := Held.step (w0 := w9) (by repeat (first | assumption | refine Held.alloc ?_ _ | refine Held.drew ?_)) hb'; have q4 := fun o => (((Held.below hH').cell (p := ⟨g4, o, none⟩) hl4).trans (kc9 o)); have q1 := fun o => (((Held.below hH').cell (p := ⟨g1, o, none⟩) hl1).trans (kc1 o)); clear hb' hc hf hz) | (go_at_call 23; (with_reducible refine (same_pl (nil_deep _) (hdN _) (Held.handle (w0 := w9) (by repeat (first | assumption | refine Held.alloc ?_ _ | refine Held.drew ?_)))).mono ?_); rintro e w' ⟨rfl, hb'⟩; obtain ⟨hc, hf⟩ := bcell hb'; have hz := hb'.size; (try (simp at hz)); have hH' := Held.step (w0 := w9) (by repeat (first | assumption | refine Held.alloc ?_ _ | refine Held.drew ?_)) hb'; have q4 := fun o => (((Held.below hH').cell (p := ⟨g4, o, none⟩) hl4).trans (kc9 o)); have q1 := fun o => (((Held.below hH').cell (p := ⟨g1, o, none⟩) hl1).trans (kc1 o)); clear hb' hc hf hz) | (go_at_call 21; (with_reducible refine (chk0_pl _ (Held.handle (w0 := w9) (by repeat (first | assumption | refine Held.alloc ?_ _ | refine Held.drew ?_)))).mono ?_); rintro e w' ⟨rfl, hb'⟩; obtain ⟨hc, hf⟩ := bcell hb'; have hz := hb'.size; (try (simp at hz)); have hH' := Held.step (w0 := w9) (by repeat (first | assumption | refine Held.alloc ?_ _ | refine Held.drew ?_)) hb'; have q4 := fun o => (((Held.below hH').cell (p := ⟨g4, o, none⟩) hl4).trans (kc9 o)); have q1 := fun o => (((Held.below hH').cell (p := ⟨g1, o, none⟩) hl1).trans (kc1 o)); clear hb' hc hf hz) | (go_at_call 20; (with_reducible refine (num_pl _ (Held.handle (w0 := w9) (by repeat (first | assumption | refine Held.alloc ?_ _ | refine Held.drew ?_)))).mono ?_); rintro e w' ⟨rfl, hb'⟩; obtain ⟨hc, hf⟩ := bcell hb'; have hz := hb'.size; (try (simp at hz)); have hH' := Held.step (w0 := w9) (by repeat (first | assumption | refine Held.alloc ?_ _ | refine Held.drew ?_)) hb'; have q4 := fun o => (((Held.below hH').cell (p := ⟨g4, o, none⟩) hl4).trans (kc9 o)); have q1 := fun o => (((Held.below hH').cell (p := ⟨g1, o, none⟩) hl1).trans (kc1 o)); clear hb' hc hf hz))
 all_goals
   go_wp2_with (fail)
   go_ret
   have hZ := Held.below (w0 := w9) (by assumption)
   exact ⟨rfl, hb9.trans (hZ.mono hb9.size)⟩
end Go.Proofs.YtikfgnmljpjnbaaDoor
