/-
  The walks of readAll and read.
-/
import Derived.Test.YtenmjjpkbcogbaaRlpR
import Derived.Test.YtenmjjpkbcogbaaRlpE
namespace Go.Proofs.Ytenmjjpkbcogbaa
open Go.RowKit

theorem takeAll_ne (f : List UInt8 → Except Nat (Tree × Nat)) (hf : ∀ s c, f s = .error c → c ≠ 0) : ∀ (m : Nat) (body : List UInt8) (c : Nat), takeAll f m body = .error c → c ≠ 0
  | 0, body, c, h => by
    unfold takeAll at h
    by_cases h0 : body.length = 0
    · rw [if_pos h0] at h; cases h
    · rw [if_neg h0] at h; cases h; decide
  | m + 1, body, c, h => by
    unfold takeAll at h
    by_cases h0 : body.length = 0
    · rw [if_pos h0] at h; cases h
    · rw [if_neg h0] at h
      simp only at h
      cases hk : f body with
      | error e => rw [hk] at h; cases h; exact hf _ _ hk
      | ok ku =>
        obtain ⟨k, u⟩ := ku
        rw [hk] at h
        simp only at h
        cases hr : takeAll f m (body.drop u) with
        | error e => rw [hr] at h; cases h; exact takeAll_ne f hf m _ _ hr
        | ok ks' => rw [hr] at h; cases h
theorem takeR_ne : ∀ (d : Nat) (s : List UInt8) (c : Nat), takeR d s = .error c → c ≠ 0 := by
  intro d
  induction d with
  | zero =>
    intro s c h
    cases hh : headR s with
    | error e => rw [takeR_err 0 s e hh] at h; cases h; have := headR_err _ _ hh; omega
    | ok lfn =>
      obtain ⟨l, f, n⟩ := lfn
      cases l with
      | true => rw [takeR_deep s f n hh] at h; cases h; decide
      | false =>
        by_cases hb : 0 < f ∧ bareB ((s.drop f).take n) = true
        · rw [takeR_bare 0 s f n hh hb.1 hb.2] at h; cases h; decide
        · rw [takeR_text 0 s f n hh hb] at h; cases h
  | succ d ih =>
    intro s c h
    cases hh : headR s with
    | error e => rw [takeR_err (d + 1) s e hh] at h; cases h; have := headR_err _ _ hh; omega
    | ok lfn =>
      obtain ⟨l, f, n⟩ := lfn
      cases l with
      | true =>
        cases hk : takeAll (takeR d) 64 ((s.drop f).take n) with
        | error e => rw [takeR_kids_err d s f n e hh hk] at h; cases h; exact takeAll_ne _ ih _ _ _ hk
        | ok ks => rw [takeR_kids_ok d s f n ks hh hk] at h; cases h
      | false =>
        by_cases hb : 0 < f ∧ bareB ((s.drop f).take n) = true
        · rw [takeR_bare (d + 1) s f n hh hb.1 hb.2] at h; cases h; decide
        · rw [takeR_text (d + 1) s f n hh hb] at h; cases h

def joinR (ks : List Tree) (r : Except Nat (List Tree)) : Except Nat (List Tree) := match r with
  | .error e => .error e
  | .ok rs => .ok (ks ++ rs)
theorem takeAll_nil (f : List UInt8 → Except Nat (Tree × Nat)) (m : Nat) (body : List UInt8) (h : body.length = 0) : takeAll f m body = .ok [] := by unfold takeAll; rw [if_pos h]
theorem takeAll_full (f : List UInt8 → Except Nat (Tree × Nat)) (body : List UInt8) (h : body.length ≠ 0) : takeAll f 0 body = .error 8 := by unfold takeAll; rw [if_neg h]
theorem takeAll_err (f : List UInt8 → Except Nat (Tree × Nat)) (m : Nat) (body : List UInt8) (c : Nat) (h : body.length ≠ 0) (hf : f body = .error c) : takeAll f (m + 1) body = .error c := by
  unfold takeAll; rw [if_neg h]; simp only; rw [hf]
theorem takeAll_step (f : List UInt8 → Except Nat (Tree × Nat)) (m : Nat) (body : List UInt8) (k : Tree) (u : Nat) (h : body.length ≠ 0) (hf : f body = .ok (k, u)) : takeAll f (m + 1) body = joinR [k] (takeAll f m (body.drop u)) := by
  conv => lhs; unfold takeAll
  rw [if_neg h]; simp only; rw [hf]; simp only
  unfold joinR
  cases takeAll f m (body.drop u) <;> rfl
theorem joinR_joinR (ks : List Tree) (k : Tree) (r : Except Nat (List Tree)) : joinR ks (joinR [k] r) = joinR (ks ++ [k]) r := by
  unfold joinR; cases r <;> simp

theorem info25 : (Try.prog.info? 25).map (fun i => (i.zero, i.size, i.bytes)) = some (some (.agg #[.bool false, .string ⟨#[]⟩, .slice none 0 0]), 3, 48) := by kernel_rfl

theorem own_three (W : World) (x y z : Value) {H : Nat} (hH : W.heap.size = H) : ∀ j u, [x, y, z][j]? = some u → (W.alloc (.cells #[x, y, z] 25)).cell? ((⟨H, 0, none⟩ : Addr).add j) = some u := by
  subst hH
  intro j u hj
  match j, hj with
  | 0, hj => simp at hj; subst hj; simp [Addr.add]
  | 1, hj => simp at hj; subst hj; simp [Addr.add]
  | 2, hj => simp at hj; subst hj; simp [Addr.add]
  | (j + 3), hj => simp at hj
theorem own_row {w : World} {base : Nat} {v : Value} {n : Nat} {xs : List Value} (h : w.ownsRow base 25 3 v n xs) : RowIs w (fun b => base ≤ b) v n xs := by
  refine ⟨by rw [h.1]; omega, ?_⟩
  rcases h.2 with ⟨rfl, rfl⟩ | ⟨g, cap, cur, rfl, hb, _⟩
  · exact .inl ⟨rfl, _, _, rfl⟩
  · refine .inr ⟨g, 0, cap, rfl, hb, fun j hj => ?_⟩
    rw [Nat.zero_add]; exact h.cellAt j (by omega)

set_option maxRecDepth 100000 in
set_option maxHeartbeats 1000000 in
theorem readAll_of (d : Nat) (ih : ReadSaid d) : ReadAllSaid d := by
  intro w s lv hs hlv
  obtain ⟨i0, hi0, hz0, hz1, hz2⟩ := info_parts info25
  have HI : Hid (ReadSaid d) := ih
  have HLV : Hid (lv + d = 7) := hlv
  obtain ⟨R, hR⟩ : ∃ R, R = takeAll (takeR d) 64 s.data.toList := ⟨_, rfl⟩
  rw [← hR]
  have HNE : Hid (∀ c, R = .error c → c ≠ 0) := fun c h => by rw [hR] at h; exact takeAll_ne _ (takeR_ne d) _ _ _ h
  have hR0 : R = joinR [] (takeAll (takeR d) (64 - 0) s.data.toList) := by
    rw [hR]; unfold joinR; cases takeAll (takeR d) 64 s.data.toList <;> rfl
  have HR0 : Hid (R = joinR [] (takeAll (takeR d) (64 - 0) s.data.toList)) := hR0
  clear ih hR hR0 hlv
  go_enter Try.func19, Try.ntmps19
  go_wp2_with fail
  go_loopg [0, 6] s.size (fun g c v wr => ∃ (b : ByteArray) (m : Nat) (a : Option Addr) (cap : Nat) (ks : List Tree) (xs : List Value), g = b.size ∧ b.size ≤ 4096 ∧ m ≤ 64 ∧ c = .string b ∧ v = .slice a m cap ∧
    Hid (R = joinR ks (takeAll (takeR d) (64 - m) b.data.toList)) ∧ Hid (ks.length = m) ∧ wr.ownsRow w.heap.size 25 3 (.slice a m cap) m xs ∧
    Hid (∀ i, i < m → ItemIs d wr (fun q => w.heap.size ≤ q ∧ (Value.slice a m cap).ownBlock ≠ some q) ((xs.drop (3 * i)).take 3) (ks.getD i (textT []))) ∧ Below w.heap.size w wr)
  case atStart => exact ⟨s, 0, none, 0, [], [], rfl, hs, by omega, rfl, rfl, HR0.out, rfl, ⟨rfl, .inl ⟨rfl, rfl⟩⟩, fun i h => by omega, Below.refl _ _⟩
  case round =>
    obtain ⟨b, m, a, cap, ks, xs, hg, hb, hm, rfl, rfl, hRR, hkl, hown, hit, hbel⟩ := hrel
    have HG : Hid (gk = b.size) := hg
    have HO : Hid (wr.ownsRow w.heap.size 25 3 (.slice a m cap) m xs) := hown
    have HB : Hid (Below w.heap.size w wr) := hbel
    have hbl : b.data.toList.length = b.size := by simp
    have HBL : Hid (b.data.toList.length = b.size) := hbl
    clear hg hown hbel hbl HR0
    by_cases h0 : 0 < b.size
    · have h0' : (0 : Int) < (b.size : Int) := by omega
      by_cases h64 : m = 64
      · have h64' : ((m : Int) == 64) = true := beq_iff_eq.2 (by omega)
        have hE : R = .error 8 := by
          rw [hRR.out, h64, Nat.sub_self, takeAll_full _ _ (by rw [HBL.out]; omega)]; rfl
        have HE : Hid (R = .error 8) := hE
        clear hE
        go_wp2_with fail
        go_ret2
        exact ⟨by rw [HE.out]; exact ⟨rfl, by decide⟩, HB.out⟩
      · have h64' : ((m : Int) == 64) = false := beq_eq_false_iff_ne.2 (by omega)
        have e64 : 64 - m = (64 - (m + 1)) + 1 := by omega
        cases hT : takeR d b.data.toList with
        | error c =>
          have hE : R = .error c := by
            rw [hRR.out, e64, takeAll_err _ _ _ c (by rw [HBL.out]; omega) hT]; rfl
          have hc0 : ((c : Int) != 0) = true := by have := HNE.out c hE; simp; omega
          have HE : Hid (R = .error c) := hE
          have HT : Hid (takeR d b.data.toList = .error c) := hT
          clear hE hT
          go_wp2_with fail
          refine (HI.out _ b lv hb HLV.out).mono ?_
          rw [HT.out]
          rintro e w1 ⟨rfl, B1⟩
          have HB1 : Hid (Below w.heap.size w w1) := HB.out.trans (B1.mono HB.out.size)
          clear B1
          go_wp2_with fail
          go_ret2
          refine ⟨by rw [HE.out]; exact ⟨rfl, HNE.out c HE.out⟩, ?_⟩
          exact HB1.out.alloc HB1.out.size _
        | ok xu =>
          obtain ⟨x, u⟩ := xu
          have HS : Hid (R = joinR (ks ++ [x]) (takeAll (takeR d) (64 - (m + 1)) (b.data.toList.drop u))) := by
            rw [hRR.out, e64, takeAll_step _ _ _ x u (by rw [HBL.out]; omega) hT, joinR_joinR]; rfl
          obtain ⟨u1, u2, _, _⟩ := takeR_ok d _ x u hT
          have hub : u ≤ b.size := by rw [HBL.out] at u2; exact u2
          have HT : Hid (takeR d b.data.toList = .ok (x, u)) := hT
          clear hT e64
          go_wp2_with fail
          refine (HI.out _ b lv hb HLV.out).mono ?_
          rw [HT.out]
          rintro e w1 ⟨⟨kl, kt, ka, km, kc, rfl, hkid⟩, B1⟩
          have HKID : Hid (ItemIs d w1 (fun q => wr.heap.size ≤ q) [.bool kl, .string kt, .slice ka km kc] x) := hkid
          have HB1 : Hid (Below w.heap.size w w1) := HB.out.trans (B1.mono HB.out.size)
          have HBW : Hid (Below wr.heap.size wr w1) := B1
          have HO1 : Hid (w1.ownsRow w.heap.size 25 3 (.slice a m cap) m xs) := own_below HO.out B1
          clear hkid B1
          go_upto_region 8 with fail
          go_wp2_with (at_builtin; refine wpList_append_lies _ rfl (.tmp 26) (.tmp 28) 23 rfl w.heap.size 25 i0 _ 3 48 Try.underlying23 hi0 hz0 hz1 hz2 rfl (by decide) (.slice a m cap) m xs rfl ((HO1.out.alloc _).alloc _) ⟨w1.heap.size + 1, 0, none⟩ 1 1 [.bool kl, .string kt, .slice ka km kc] rfl rfl ?c1 ?c2 (by omega) ?c3 ?c4 ?c5 _ rfl ?c6)
          case c1 => exact own_three (w1.alloc _) _ _ _ (by simp)
          case c2 => intro v hv; simp at hv; rcases hv with rfl | rfl | rfl <;> rfl
          case c3 => unfold maxLen; omega
          case c4 => omega
          case c5 => have := HB1.out.size; simp; omega
          intro g2 cap2 w2 hown2 hgrow2 hat2 hlt2
          have hW : ∀ q, q < w1.heap.size → ((w1.alloc (.cells #[.bool kl, .string kt, .slice ka km kc] 25)).alloc (.cells #[.bool kl, .string kt, .slice ka km kc] 25)).heap[q]? = w1.heap[q]? := fun q hq => by
            rw [Below.heap_alloc _ _ _ (by simp; omega), Below.heap_alloc _ _ _ hq]
          have hgr : ∀ q, q < w1.heap.size → (Value.slice a m cap).ownBlock ≠ some q → w2.heap[q]? = w1.heap[q]? := fun q hq hne => by
            rw [← hW q hq]; exact hgrow2.block q (by simp; omega) (fun h => hne h.symm)
          have hg2 : ∀ q, q < w1.heap.size → (Value.slice a m cap).ownBlock ≠ some q → (Value.slice (some ⟨g2, 0, none⟩) (m + 1) cap2).ownBlock ≠ some q := fun q hq hne h => by
            have hgq : g2 = q := by simpa [Value.ownBlock] using h
            rcases hat2 with h2 | h2
            · rw [hgq] at h2; exact hne h2
            · omega
          have hbel2 : Below w.heap.size w w2 := ((HB1.out.alloc HB1.out.size _).alloc (by have := HB1.out.size; simp; omega) _).grown hgrow2 (by have := HB1.out.size; simp; omega) (fun k hk => (HO1.out.lt k hk).1)
          have hwr : wr.heap.size ≤ w1.heap.size := HBW.out.size
          have hit2 : ∀ i, i < m + 1 → ItemIs d w2 (fun q => w.heap.size ≤ q ∧ (Value.slice (some ⟨g2, 0, none⟩) (m + 1) cap2).ownBlock ≠ some q) (((xs ++ [Value.bool kl, Value.string kt, Value.slice ka km kc]).drop (3 * i)).take 3) ((ks ++ [x]).getD i (textT [])) := by
            intro i hi
            have hxl : xs.length = 3 * m := by have := HO1.out.1; omega
            by_cases him : i < m
            · have e1 : ((xs ++ [Value.bool kl, Value.string kt, Value.slice ka km kc]).drop (3 * i)).take 3 = (xs.drop (3 * i)).take 3 := by
                rw [List.drop_append_of_le_length (by omega), List.take_append_of_le_length (by rw [List.length_drop]; omega)]
              have e2 : (ks ++ [x]).getD i (textT []) = ks.getD i (textT []) := by
                rw [List.getD_eq_getElem?_getD, List.getElem?_append_left (by have := hkl.out; omega), List.getD_eq_getElem?_getD]
              rw [e1, e2]
              refine ItemIs.move (w := wr) (fun q hq hlt => ?_) d _ _ (hit.out i him)
              have hq1 : q < w1.heap.size := by omega
              exact ⟨⟨hq.1, hg2 q hq1 hq.2⟩, (hgr q hq1 hq.2).trans (HBW.out.block q hlt)⟩
            · have him' : i = m := by omega
              subst him'
              have e1 : ((xs ++ [Value.bool kl, Value.string kt, Value.slice ka km kc]).drop (3 * i)).take 3 = [.bool kl, .string kt, .slice ka km kc] := by
                rw [← hxl, List.drop_left]; rfl
              have e2 : (ks ++ [x]).getD i (textT []) = x := by
                rw [List.getD_eq_getElem?_getD, ← hkl.out, List.getElem?_append_right (Nat.le_refl _), Nat.sub_self]; rfl
              rw [e1, e2]
              refine ItemIs.move (w := w1) (fun q hq hlt => ?_) d _ _ HKID.out
              have hne : (Value.slice a i cap).ownBlock ≠ some q := fun h => by have := (HO.out.lt q h).2; omega
              exact ⟨⟨Nat.le_trans HB.out.size hq, hg2 q hlt hne⟩, hgr q hlt hne⟩
          have HI2 : Hid (∀ i, i < m + 1 → ItemIs d w2 (fun q => w.heap.size ≤ q ∧ (Value.slice (some ⟨g2, 0, none⟩) (m + 1) cap2).ownBlock ≠ some q) (((xs ++ [Value.bool kl, Value.string kt, Value.slice ka km kc]).drop (3 * i)).take 3) ((ks ++ [x]).getD i (textT []))) := hit2
          have HO2 : Hid (w2.ownsRow w.heap.size 25 3 (.slice (some ⟨g2, 0, none⟩) (m + 1) cap2) (m + 1) (xs ++ [Value.bool kl, Value.string kt, Value.slice ka km kc])) := hown2
          have HB2 : Hid (Below w.heap.size w w2) := hbel2
          clear hW hgr hg2 hbel2 hit2 hown2 hgrow2 hat2 hlt2 hwr
          have hui : (u : Int) ≤ (b.size : Int) := by omega
          go_wp2_with fail
          go_roundg (b.size - u)
          case measure => have := HG.out; omega
          case rel =>
            refine ⟨b.extract u b.size, m + 1, some ⟨g2, 0, none⟩, cap2, ks ++ [x], xs ++ [Value.bool kl, Value.string kt, Value.slice ka km kc], by simp, by simp; omega, by omega, rfl, rfl, ?_, by show (ks ++ [x]).length = m + 1; rw [List.length_append, hkl.out]; rfl, HO2.out, HI2.out, HB2.out⟩
            have e : (b.extract u b.size).data.toList = b.data.toList.drop u := by rw [Lib.extract_data, List.take_of_length_le (by simp)]
            show R = _
            rw [e]; exact HS.out
    · have h0' : ¬ ((0 : Int) < (b.size : Int)) := by omega
      have hE : R = .ok ks := by
        rw [hRR.out, takeAll_nil _ _ _ (by rw [HBL.out]; omega)]; unfold joinR; simp
      have HE : Hid (R = .ok ks) := hE
      clear hE
      go_wp2_with fail
      go_ret2
      refine ⟨?_, HB.out⟩
      rw [HE.out]
      refine ⟨.slice a m cap, xs, rfl, ?_, by rw [hkl.out]; exact hm, fun i hi => ItemIs.move (w := wr) (fun q hq _ => ⟨hq.1, rfl⟩) d _ _ (hit.out i (by rw [← hkl.out]; exact hi))⟩
      rw [hkl.out]
      exact own_row HO.out

theorem read_all : ∀ d, ReadSaid d ∧ ReadAllSaid d
  | 0 => ⟨read_of 0 (fun e h => by omega), readAll_of 0 (read_of 0 (fun e h => by omega))⟩
  | d + 1 =>
    have h : ReadSaid (d + 1) := read_of (d + 1) (fun e h => by
      have : e = d := by omega
      subst this
      exact (read_all e).2)
    ⟨h, readAll_of (d + 1) h⟩
end Go.Proofs.Ytenmjjpkbcogbaa
