import Derived.Test.YtenmjjpkbcogbaaDoorTc
import Derived.Test.YtenmjjpkbcogbaaDoorTnO
import Derived.Test.YtenmjjpkbcogbaaDoorTnP
import Derived.Test.YtenmjjpkbcogbaaDoorTnQ

/- TnR -/
namespace Go.Proofs.YtenmjjpkbcogbaaDoor
open Go.RowKit

def withP : Nd → List UInt8 → List UInt8 → Nd
  | .nil, p, v => mkLeaf p v
  | .unread h, _, _ => .unread h
  | .leaf h q x, p, v => if q = p then mkLeaf p v else splitP (.leaf h q x) p v (sharedP q p)
  | .ext h q k, p, v => if sharedP q p = q.length then mkExt q (withP k (p.drop q.length) v) else splitP (.ext h q k) p v (sharedP q p)
  | .branch _ x ks, p, v => match p with
    | [] => mkBranch ks v
    | c :: r => mkBranch (updK ks c.toNat (withP (ks c.toNat) r v)) x
/-- The nodes on a path's way have been read. -/
def Opened : Nd → List UInt8 → Prop
  | .nil, _ => True
  | .unread _, _ => False
  | .leaf _ _ _, _ => True
  | .ext _ q k, p => sharedP q p = q.length → Opened k (p.drop q.length)
  | .branch _ _ ks, p => match p with
    | [] => True
    | c :: r => Opened (ks c.toNat) r

theorem with_forked {k : Nd} {p v : List UInt8} (hf : k.forked) (ho : Opened k p) : (withP k p v).forked := by
  cases k with
  | nil => exact hf.elim
  | unread _ => exact ho.elim
  | leaf _ _ _ => exact hf.elim
  | ext _ _ _ => exact hf.elim
  | branch h x ks => cases p <;> trivial
theorem fine_with : ∀ {t : Nd} {p v : List UInt8}, Fine t → Opened t p → Nibs p → p.length ≤ 80 → v.length ≤ 160 → Fine (withP t p v) := by
  intro t
  induction t with
  | nil => intro p v _ _ hn hl hv; exact fine_leaf hn hl hv
  | unread h => intro p v _ ho; exact ho.elim
  | leaf h q x =>
    intro p v hF _ hn hl hv
    simp only [withP]
    split
    · exact fine_leaf hn hl hv
    · exact fine_split (.inl rfl) hn hl hv hF hF.2.1 hF.2.2.1
  | ext h q k ih =>
    intro p v hF ho hn hl hv
    simp only [withP]
    split
    · next e => exact fine_ext hF.2.1 hF.2.2.1 (with_forked hF.2.2.2.1 (ho e)) (ih hF.2.2.2.2 (ho e) (nibs_drop hn _) (by rw [List.length_drop]; omega) hv)
    · exact fine_split (.inr rfl) hn hl hv hF hF.2.1 hF.2.2.1
  | branch h x ks ih =>
    intro p v hF ho hn hl hv
    cases p with
    | nil => exact fine_branch hv hF.2.2
    | cons c r =>
      have hc : c.toNat < 16 := hn c (List.mem_cons_self ..)
      refine fine_branch hF.2.1 fun i hi => ?_
      unfold updK
      split
      · exact ih c.toNat (hF.2.2 _ hc) ho (fun y hy => hn y (List.mem_cons_of_mem _ hy)) (by simp at hl; omega) hv
      · exact hF.2.2 i hi
theorem with_some {t : Nd} {p v : List UInt8} (ho : Opened t p) : (withP t p v).some := by
  have hj : ∀ n s, (splitP n p v s).some := fun n s => joinP_some _ _ trivial
  cases t with
  | nil => trivial
  | unread _ => exact ho.elim
  | leaf h q x => simp only [withP]; split; trivial; exact hj _ _
  | ext h q k => simp only [withP]; split; trivial; exact hj _ _
  | branch h x ks => cases p <;> trivial

def WithSaid (t : Nd) : Prop := ∀ (w : World) (S : Nat → Prop) (u : Option Addr) (p v : List UInt8), At w t S (.pointer u) → Fine t → Opened t p → Nibs p → p.length ≤ 80 → v.length ≤ 160 → Tabs w →
  Calls Tryd.prog 43 #[.pointer u, .string (str p), .string (str v)] w (Made w S (withP t p v))

theorem with_nil : WithSaid .nil := by
  intro w S u p v hA _ _ hn hl hv T
  cases hA
  have HL : Hid (Calls Tryd.prog 54 #[.string (str p), .string (str v)] w (Made w S (mkLeaf p v))) :=
    (newLeaf_calls w p v ⟨.inl rfl, hn, hl, hv⟩ (codable_leaf _ _ _ hl hv) T).mono fun e w' h => h.mono fun x hx => hx.elim
  show Calls Tryd.prog 43 _ w (Made w S (mkLeaf p v))
  clear hn T hl hv
  generalize mkLeaf p v = R at *
  generalize str p = P at *
  generalize str v = V at *
  go_enter Tryd.func43, Tryd.ntmps43
  go_wp2_with fail
  refine HL.out.mono ?_
  rintro e1 w1 ⟨u1, rfl, hA1⟩
  have HF : Hid _ := hA1
  clear hA1 HL
  go_wp2_with fail
  go_ret
  exact ⟨u1, rfl, HF.out⟩

theorem with_branch (h x : List UInt8) (ks : Nat → Nd)
    (hbw : ∀ (w : World) (S : Nat → Prop) (u : Option Addr) (p v : List UInt8), At w (.branch h x ks) S (.pointer u) → Fine (.branch h x ks) → Opened (.branch h x ks) p → Nibs p → p.length ≤ 80 → v.length ≤ 160 → Tabs w →
      Calls Tryd.prog 55 #[.pointer u, .string (str p), .string (str v)] w (Made w S (withP (.branch h x ks) p v))) : WithSaid (.branch h x ks) := by
  intro w S u p v hA hF ho hn hl hv T
  have HL : Hid (Calls Tryd.prog 55 #[.pointer u, .string (str p), .string (str v)] w (Made w S (withP (.branch h x ks) p v))) := hbw w S u p v hA hF ho hn hl hv T
  obtain ⟨b, kps, Ss, hu, hs, B, hr⟩ := hA
  cases hu
  have c0 : w.cell? ⟨b, 0, none⟩ = some (.int .i64 3) := B.c0
  clear hn T hl hv B hr hbw hF ho
  generalize withP (.branch h x ks) p v = R at *
  generalize str p = P at *
  generalize str v = V at *
  go_enter Tryd.func43, Tryd.ntmps43
  go_wp2_with fail
  refine HL.out.mono ?_
  rintro e1 w1 ⟨u1, rfl, hA1⟩
  have HF : Hid _ := hA1
  clear hA1 HL
  go_wp2_with fail
  go_ret
  exact ⟨u1, rfl, HF.out⟩
end Go.Proofs.YtenmjjpkbcogbaaDoor

/- TnS -/
namespace Go.Proofs.YtenmjjpkbcogbaaDoor
open Go.RowKit

theorem shared_eq : ∀ (a b : List UInt8), sharedP a b = a.length → sharedP a b = b.length → a = b
  | [], [], _, _ => rfl
  | [], y :: b, _, h => by simp [sharedP] at h
  | x :: a, [], h, _ => by simp [sharedP] at h
  | x :: a, y :: b, h1, h2 => by
    simp only [sharedP] at h1 h2
    by_cases e : x = y
    · rw [if_pos e] at h1 h2
      rw [e, shared_eq a b (by simp at h1; omega) (by simp at h2; omega)]
    · rw [if_neg e] at h1; simp at h1
theorem split_calls (w : World) (t : Nd) (path v : List UInt8) (S : Nat → Prop) (u : Option Addr) (hk : t.kind = 1 ∨ t.kind = 2) (hn : Nibs path) (hl : path.length ≤ 80) (hv : v.length ≤ 160) (hF : Fine t) (hA : At w t S (.pointer u)) (T : Tabs w)
    (hq : Nibs t.path) (hql : t.path.length ≤ 80) (hne : t.path ≠ path) :
    Calls Tryd.prog 58 #[.pointer u, .string (str path), .string (str v), .int .i64 ((sharedP t.path path : Nat) : Int)] w (Made w S (splitP t path v (sharedP t.path path))) := by
  obtain ⟨h1, h2⟩ := sharedP_le t.path path
  by_cases e1 : sharedP t.path path = t.path.length
  · by_cases e2 : sharedP t.path path = path.length
    · exact absurd (shared_eq _ _ e1 e2) hne
    · exact split_c w t path v _ S u hk hn hl hv hF hA T e1 (by omega) hq hql
  · by_cases e2 : sharedP t.path path = path.length
    · exact split_a w t path v _ S u hk hn hl hv hF hA T (by omega) e2 hq hql
    · exact split_b w t path v _ S u hk hn hl hv hF hA T (by omega) (by omega) hq hql

set_option maxRecDepth 100000 in
set_option maxHeartbeats 400000 in
theorem with_leaf (h q x : List UInt8) : WithSaid (.leaf h q x) := by
  intro w S u p v hA hF _ hn hl hv T
  have HSP : Hid (q ≠ p → ∀ W, Below w.heap.size w W → Calls Tryd.prog 58 #[.pointer u, .string (str p), .string (str v), .int .i64 ((sharedP q p : Nat) : Int)] W (Made w S (splitP (.leaf h q x) p v (sharedP q p)))) := fun hne W hW =>
    (split_calls W (.leaf h q x) p v S u (.inl rfl) hn hl hv hF (hA.below hW) (T.below hW) hF.2.1 hF.2.2.1 hne).mono fun e w' hm => hm.after hW
  have HL : Hid (∀ W, Below w.heap.size w W → Calls Tryd.prog 54 #[.string (str p), .string (str v)] W (Made w S (mkLeaf p v))) := fun W hW =>
    (newLeaf_calls W p v ⟨.inl rfl, hn, hl, hv⟩ (codable_leaf _ _ _ hl hv) (T.below hW)).mono fun e w' h => (h.mono fun x hx => hx.elim).after hW
  have hql := hF.2.2.1
  have HS : Hid (∀ w : World, Calls Tryd.prog 56 #[.string (str q), .string (str p)] w fun e w' => e = .returned (.int .i64 ((sharedP q p : Nat) : Int)) ∧ ∃ n, w' = w.drewN n) := fun w => by
    have := shared_calls (str q) (str p) (by rw [str_size]; unfold maxLen; omega) (by rw [str_size]; unfold maxLen; omega) w
    rw [str_list, str_list] at this
    exact this
  have HR : Hid (withP (.leaf h q x) p v = if q = p then mkLeaf p v else splitP (.leaf h q x) p v (sharedP q p)) := rfl
  obtain ⟨b, hu, hs, B⟩ := hA
  cases hu
  have c0 : w.cell? ⟨b, 0, none⟩ = some (.int .i64 1) := B.c0
  have c2 : w.cell? ⟨b, 2, none⟩ = some (.string (str q)) := B.c2
  have hsb := str_beq q p
  have hps : (str p).size ≤ 80 := by rw [str_size]; exact hl
  have hqs : (str q).size ≤ 80 := by rw [str_size]; exact hql
  have hlt := B.lt
  obtain ⟨m, hm⟩ : ∃ m : Nat, m = sharedP q p := ⟨_, rfl⟩
  rw [← hm] at HS HSP HR
  by_cases e : q = p
  · have HR2 : Hid (withP (.leaf h q x) p v = mkLeaf p v) := by show _ = _; rw [HR.out, if_pos e]
    rw [HR2.out]
    rw [decide_eq_true e] at hsb
    clear hn T hl hv B hF HSP HR hql hm e HR2
    generalize mkLeaf p v = R at *
    generalize str p = P at *
    generalize str q = Q at *
    generalize str v = V at *
    go_enter Tryd.func43, Tryd.ntmps43
    go_wp2_with fail
    refine (HS.out _).mono ?_
    rintro e1 w1 ⟨rfl, n1, rfl⟩
    clear HS
    go_wp2_with fail
    refine (HL.out _ (Below.drewN (Below.refl _ _) _)).mono ?_
    rintro e1 w1 ⟨u1, rfl, hA1⟩
    have HF : Hid _ := hA1
    clear hA1 HL
    go_wp2_with fail
    go_ret
    exact ⟨u1, rfl, HF.out⟩
  · have HR2 : Hid (withP (.leaf h q x) p v = splitP (.leaf h q x) p v m) := by show _ = _; rw [HR.out, if_neg e]
    rw [HR2.out]
    rw [decide_eq_false e] at hsb
    have HSP2 : Hid (∀ W, Below w.heap.size w W → Calls Tryd.prog 58 #[.pointer (some ⟨b, 0, none⟩), .string (str p), .string (str v), .int .i64 (m : Int)] W (Made w S (splitP (.leaf h q x) p v m))) := HSP.out e
    clear hn T hl hv B hF HSP HR hql hm e HR2 HL
    generalize splitP (.leaf h q x) p v m = R at *
    generalize str p = P at *
    generalize str q = Q at *
    generalize str v = V at *
    go_enter Tryd.func43, Tryd.ntmps43
    go_wp2_with fail
    refine (HS.out _).mono ?_
    rintro e1 w1 ⟨rfl, n1, rfl⟩
    clear HS
    go_wp2_with fail
    refine (HSP2.out _ (Below.drewN (Below.refl _ _) _)).mono ?_
    rintro e1 w1 ⟨u1, rfl, hA1⟩
    have HF : Hid _ := hA1
    clear hA1 HSP2
    go_wp2_with fail
    go_ret
    exact ⟨u1, rfl, HF.out⟩

set_option maxRecDepth 100000 in
set_option maxHeartbeats 400000 in
theorem with_extSplit (h q : List UInt8) (k : Nd) (w : World) (S : Nat → Prop) (u : Option Addr) (p v : List UInt8) (hA : At w (.ext h q k) S (.pointer u)) (hF : Fine (.ext h q k)) (hn : Nibs p) (hl : p.length ≤ 80) (hv : v.length ≤ 160) (T : Tabs w) (hm0 : sharedP q p ≠ q.length) :
    Calls Tryd.prog 43 #[.pointer u, .string (str p), .string (str v)] w (Made w S (splitP (.ext h q k) p v (sharedP q p))) := by
  have hqp : q ≠ p := fun e => by subst e; apply hm0; clear hm0 hF hA; induction q with
    | nil => rfl
    | cons a l ih => simp only [sharedP, if_true, List.length_cons]; rw [ih (fun x hx => hn x (List.mem_cons_of_mem _ hx)) (by simp at hl; omega)]
  have HSP2 : Hid (∀ W, Below w.heap.size w W → Calls Tryd.prog 58 #[.pointer u, .string (str p), .string (str v), .int .i64 ((sharedP q p : Nat) : Int)] W (Made w S (splitP (.ext h q k) p v (sharedP q p)))) := fun W hW =>
    (split_calls W (.ext h q k) p v S u (.inr rfl) hn hl hv hF (hA.below hW) (T.below hW) hF.2.1 hF.2.2.1 hqp).mono fun e w' hm => hm.after hW
  have hql := hF.2.2.1
  have HS : Hid (∀ w : World, Calls Tryd.prog 56 #[.string (str q), .string (str p)] w fun e w' => e = .returned (.int .i64 ((sharedP q p : Nat) : Int)) ∧ ∃ n, w' = w.drewN n) := fun w => by
    have := shared_calls (str q) (str p) (by rw [str_size]; unfold maxLen; omega) (by rw [str_size]; unfold maxLen; omega) w
    rw [str_list, str_list] at this
    exact this
  obtain ⟨b, kp, S1, hu, hs, B, hr⟩ := hA
  cases hu
  have c0 : w.cell? ⟨b, 0, none⟩ = some (.int .i64 2) := B.c0
  have c2 : w.cell? ⟨b, 2, none⟩ = some (.string (str q)) := B.c2
  have hne : (((sharedP q p : Nat) : Int) == ((str q).size : Int)) = false := beq_eq_false_iff_ne.2 (by rw [str_size]; omega)
  have hlt := B.lt
  clear hn T hl hv B hF hql hr hqp hm0
  generalize splitP (.ext h q k) p v (sharedP q p) = R at *
  generalize sharedP q p = m at *
  generalize str p = P at *
  generalize str q = Q at *
  generalize str v = V at *
  go_enter Tryd.func43, Tryd.ntmps43
  go_wp2_with fail
  refine (HS.out _).mono ?_
  rintro e1 w1 ⟨rfl, n1, rfl⟩
  clear HS
  go_wp2_with fail
  refine (HSP2.out _ (Below.drewN (Below.refl _ _) _)).mono ?_
  rintro e1 w1 ⟨u1, rfl, hA1⟩
  have HF : Hid _ := hA1
  clear hA1 HSP2
  go_wp2_with fail
  go_ret
  exact ⟨u1, rfl, HF.out⟩

set_option maxRecDepth 100000 in
set_option maxHeartbeats 400000 in
theorem with_extIn (h q : List UInt8) (k : Nd) (ih : WithSaid k) (w : World) (S : Nat → Prop) (u : Option Addr) (p v : List UInt8) (hA : At w (.ext h q k) S (.pointer u)) (hF : Fine (.ext h q k)) (hn : Nibs p) (hl : p.length ≤ 80) (hv : v.length ≤ 160) (T : Tabs w) (hm0 : sharedP q p = q.length) (ho : Opened k (p.drop q.length)) :
    Calls Tryd.prog 43 #[.pointer u, .string (str p), .string (str v)] w (Made w S (mkExt q (withP k (p.drop q.length) v))) := by
  obtain ⟨b, kp, S1, hu, hs, B, hsub, hK⟩ := hA
  cases hu
  obtain ⟨uk, rfl⟩ := hK.ptr
  have hql := hF.2.2.1
  have HS : Hid (∀ w : World, Calls Tryd.prog 56 #[.string (str q), .string (str p)] w fun e w' => e = .returned (.int .i64 ((str q).size : Int)) ∧ ∃ n, w' = w.drewN n) := fun w => by
    have := shared_calls (str q) (str p) (by rw [str_size]; unfold maxLen; omega) (by rw [str_size]; unfold maxLen; omega) w
    rw [str_list, str_list, hm0] at this
    rw [str_size]; exact this
  have c0 : w.cell? ⟨b, 0, none⟩ = some (.int .i64 2) := B.c0
  have c2 : w.cell? ⟨b, 2, none⟩ = some (.string (str q)) := B.c2
  have c4 : w.cell? ⟨b, 4, none⟩ = some (.pointer uk) := B.c4
  have hlt := B.lt
  have HW : Hid (∀ W, Below w.heap.size w W → Calls Tryd.prog 43 #[.pointer uk, .string ((str p).extract (str q).size (str p).size), .string (str v)] W (Made w S (withP k (p.drop q.length) v))) := fun W hW => by
    rw [str_size q, str_drop]
    exact (ih W S1 uk _ v (hK.below hW) hF.2.2.2.2 ho (nibs_drop hn _) (by rw [List.length_drop]; omega) hv (T.below hW)).mono fun e w' hm => (hm.mono fun x hx => (hsub x hx).1).after hW
  have hFk := fine_with hF.2.2.2.2 ho (nibs_drop hn q.length) (by rw [List.length_drop]; omega) hv
  have hfk := with_forked (v := v) hF.2.2.2.1 ho
  have HE : Hid (∀ W u1, Below w.heap.size w W → At W (withP k (p.drop q.length) v) (fun x => S x ∨ w.heap.size ≤ x) (.pointer u1) → Calls Tryd.prog 57 #[.string (str q), .pointer u1] W (Made w S (mkExt q (withP k (p.drop q.length) v)))) := fun W u1 hW h1 =>
    (newExt_calls W q _ _ u1 h1 ⟨.inl rfl, hF.2.1, hql, hFk.sane⟩ (codable_ext _ _ _ hql hFk) (T.below hW)).mono fun e w' hm => by
      obtain ⟨u2, e1, e2, e3⟩ := hm
      exact ⟨u2, e1, e2.mono fun x hx => hx.elim id (fun h => .inr (Nat.le_trans hW.size h)), hW.trans (e3.mono hW.size)⟩
  have hle := (sharedP_le q p).2
  rw [hm0] at hle
  have hle2 : (str q).size ≤ (str p).size := by rw [str_size, str_size]; exact hle
  have hleI : ((str q).size : Int) ≤ ((str p).size : Int) := by omega
  have hqs : (str q).size ≤ 80 := by rw [str_size]; exact hql
  clear hn T hl hv B hF hql hm0 ho hK hsub hle hFk hfk
  generalize mkExt q (withP k (p.drop q.length) v) = R at *
  generalize withP k (p.drop q.length) v = RK at *
  generalize str p = P at *
  generalize str q = Q at *
  generalize str v = V at *
  go_enter Tryd.func43, Tryd.ntmps43
  go_wp2_with fail
  refine (HS.out _).mono ?_
  rintro e1 w1 ⟨rfl, n1, rfl⟩
  clear HS
  go_upto_region 7 with fail
  go_cut [8] (fun r wx => ∃ u1, r = .pointer u1 ∧ At wx RK (fun x => S x ∨ w.heap.size ≤ x) (.pointer u1) ∧ Below w.heap.size w wx)
  case first =>
    go_region_with (go_at_call 43; refine (HW.out _ (by first | exact Below.drewN (Below.refl _ _) _ | exact (Below.drewN (Below.refl _ _) _).drew)).mono ?_; rintro e1 w1 ⟨u1, rfl, hA1⟩; have HF1 : Hid _ := hA1; clear hA1)
    all_goals
      go_wp2_with fail
      go_meet
      exact ⟨u1, rfl, HF1.out⟩
  case rest =>
    obtain ⟨u1, rfl, hA1, hB1⟩ := hcut
    have d2 := (hB1.cell (p := ⟨b, 2, none⟩) hlt).trans c2
    have HE2 : Hid (Calls Tryd.prog 57 #[.string Q, .pointer u1] wc (Made w S R)) := HE.out wc u1 hB1 hA1
    clear hA1 hB1 HE HW c0 c2 c4
    go_wp2_with fail
    refine HE2.out.mono ?_
    rintro e1 w1 ⟨u2, rfl, hA2⟩
    have HF : Hid _ := hA2
    clear hA2 HE2
    go_wp2_with fail
    go_ret
    exact ⟨u2, rfl, HF.out⟩

theorem with_ext (h q : List UInt8) (k : Nd) (ih : WithSaid k) : WithSaid (.ext h q k) := by
  intro w S u p v hA hF ho hn hl hv T
  simp only [withP]
  by_cases e : sharedP q p = q.length
  · rw [if_pos e]; exact with_extIn h q k ih w S u p v hA hF hn hl hv T e (ho e)
  · rw [if_neg e]; exact with_extSplit h q k w S u p v hA hF hn hl hv T e
end Go.Proofs.YtenmjjpkbcogbaaDoor

/- TnT -/
namespace Go.Proofs.YtenmjjpkbcogbaaDoor
open Go.RowKit

theorem Blk.all {w : World} {b : Nat} {t : Nd} {kid : Value} {kids : Nat → Value} (h : Blk w b t kid kids) : w.cell? ⟨b, 5, none⟩ = some (kids 0) ∧ w.cell? ⟨b, 6, none⟩ = some (kids 1) ∧ w.cell? ⟨b, 7, none⟩ = some (kids 2) ∧ w.cell? ⟨b, 8, none⟩ = some (kids 3) ∧ w.cell? ⟨b, 9, none⟩ = some (kids 4) ∧ w.cell? ⟨b, 10, none⟩ = some (kids 5) ∧ w.cell? ⟨b, 11, none⟩ = some (kids 6) ∧ w.cell? ⟨b, 12, none⟩ = some (kids 7) ∧ w.cell? ⟨b, 13, none⟩ = some (kids 8) ∧ w.cell? ⟨b, 14, none⟩ = some (kids 9) ∧ w.cell? ⟨b, 15, none⟩ = some (kids 10) ∧ w.cell? ⟨b, 16, none⟩ = some (kids 11) ∧ w.cell? ⟨b, 17, none⟩ = some (kids 12) ∧ w.cell? ⟨b, 18, none⟩ = some (kids 13) ∧ w.cell? ⟨b, 19, none⟩ = some (kids 14) ∧ w.cell? ⟨b, 20, none⟩ = some (kids 15) := ⟨h.ck 0 (by omega), h.ck 1 (by omega), h.ck 2 (by omega), h.ck 3 (by omega), h.ck 4 (by omega), h.ck 5 (by omega), h.ck 6 (by omega), h.ck 7 (by omega), h.ck 8 (by omega), h.ck 9 (by omega), h.ck 10 (by omega), h.ck 11 (by omega), h.ck 12 (by omega), h.ck 13 (by omega), h.ck 14 (by omega), h.ck 15 (by omega)⟩
theorem ncells_congr (k : Int) (h p v : ByteArray) (kid : Value) (a c : Nat → Value) (e : ∀ i, i < 16 → a i = c i) : ncells k h p v kid a = ncells k h p v kid c := by
  unfold ncells
  congr 2
  exact List.map_congr_left fun i hi => e i (List.mem_range.1 hi)
/-- A branch: its sixteen trees. -/
theorem At.kids {w : World} {h v : List UInt8} {ks : Nat → Nd} {S : Nat → Prop} {p : Option Addr} (hA : At w (.branch h v ks) S (.pointer p)) :
    ∃ (b : Nat) (u : Nat → Option Addr) (Ss : Nat → Nat → Prop), p = some ⟨b, 0, Option.none⟩ ∧ S b ∧ Blk w b (.branch h v ks) nilP (fun i => .pointer (u i)) ∧ Kids w ks (fun x => S x ∧ x ≠ b) u Ss := by
  obtain ⟨b, kps, Ss, hu, hs, B, h1, h2, h3⟩ := hA
  cases hu
  have hp : ∀ i, i < 16 → kps i = .pointer ((fun i => match kps i with | .pointer a => a | _ => Option.none) i) := fun i hi => by
    obtain ⟨u, e⟩ := (h3 i hi).ptr
    show kps i = .pointer (match kps i with | .pointer a => a | _ => Option.none)
    rw [e]
  refine ⟨b, _, Ss, rfl, hs, ?_, ⟨fun i hi => by rw [← hp i hi]; exact h3 i hi, fun i x hi hx => h1 i x hi hx, h2⟩⟩
  unfold Blk at B ⊢
  rw [B]
  congr 2
  exact ncells_congr _ _ _ _ _ _ _ hp

set_option maxRecDepth 100000 in
set_option maxHeartbeats 400000 in
theorem bw_end (h x : List UInt8) (ks : Nat → Nd) (w : World) (S : Nat → Prop) (u : Option Addr) (v : List UInt8) (hA : At w (.branch h x ks) S (.pointer u)) (hF : Fine (.branch h x ks)) (hv : v.length ≤ 160) (T : Tabs w) :
    Calls Tryd.prog 55 #[.pointer u, .string ⟨#[]⟩, .string (str v)] w (Made w S (mkBranch ks v)) := by
  obtain ⟨b, U, Ss, hu, hs, B, hK⟩ := hA.kids
  cases hu
  have HB : Hid (Calls Tryd.prog 64 #[kidsV U, .string (str v)] w (Made w S (mkBranch ks v))) :=
    (newBranch_calls w v ks _ U Ss hK ⟨.inl rfl, hv, fun i hi => (hF.2.2 i hi).sane⟩ (codable_branch _ _ _ hv hF.2.2) T).mono fun e w' h => h.mono fun x hx => hx.1
  obtain ⟨k0, k1, k2, k3, k4, k5, k6, k7, k8, k9, k10, k11, k12, k13, k14, k15⟩ := B.all
  clear B hK hF hv T hA
  generalize mkBranch ks v = R at *
  generalize str v = V at *
  unfold kidsV at HB
  go_enter Tryd.func55, Tryd.ntmps55
  go_wp2_with fail
  refine HB.out.mono ?_
  rintro e1 w1 ⟨u1, rfl, hA1⟩
  have HF : Hid _ := hA1
  clear hA1 HB
  go_wp2_with fail
  go_ret
  exact ⟨u1, rfl, HF.out⟩
end Go.Proofs.YtenmjjpkbcogbaaDoor
