import Derived.Test.YtenmjjpkbcogbaaDoorTb

/- TnJ -/
namespace Go.Proofs.YtenmjjpkbcogbaaDoor
open Go.RowKit

/-- The sixteen pointers of a branch, as they are handed over. -/
def kidsV (u : Nat → Option Addr) : Value := .agg #[.pointer (u 0), .pointer (u 1), .pointer (u 2), .pointer (u 3), .pointer (u 4), .pointer (u 5), .pointer (u 6), .pointer (u 7), .pointer (u 8), .pointer (u 9), .pointer (u 10), .pointer (u 11), .pointer (u 12), .pointer (u 13), .pointer (u 14), .pointer (u 15)]

theorem tabs_alloc {w : World} (T : Tabs w) (o : Obj) : Tabs (w.alloc o) := T.below ((Below.refl _ _).alloc (Nat.le_refl _) _)

/-- A node that was laid out anew, and hashed. -/
theorem made_at (w w' : World) (t : Nd) (kid : Value) (kids : Nat → Value) (o : Obj) (hw : w' = w.alloc o) (ho : o = .cells (ncells t.kind (str t.hash) (str t.path) (str t.value) kid kids) 79) : Blk w' w.heap.size t kid kids := by
  subst hw; subst ho; exact heap_alloc_new _ _

/-- A tree that was made: of old blocks of S, and of new ones. -/
def Made (w : World) (S : Nat → Prop) (t : Nd) (e : Ending) (w' : World) : Prop := ∃ u, e = .returned (.pointer u) ∧ At w' t (fun x => S x ∨ w.heap.size ≤ x) (.pointer u) ∧ Below w.heap.size w w'

theorem newLeaf_calls (w : World) (p v : List UInt8) (hS : Sane (.leaf [] p v)) (hc : Codable (.leaf [] p v)) (T : Tabs w) :
    Calls Tryd.prog 54 #[.string (str p), .string (str v)] w (Made w (fun _ => False) (Nd.leaf [] p v).mk) := by
  have B : ∀ W, W = w.alloc (.cells (ncells 1 ⟨#[]⟩ (str p) (str v) nilP (fun _ => nilP)) 79) → Blk W w.heap.size (.leaf [] p v) nilP (fun _ => nilP) := fun W hW => made_at w W _ _ _ _ hW rfl
  have HH : Hid (∀ W, W = w.alloc (.cells (ncells 1 ⟨#[]⟩ (str p) (str v) nilP (fun _ => nilP)) 79) → Calls Tryd.prog 63 #[ptr w.heap.size] W fun e w' => e = .returned (ptr w.heap.size) ∧ Blk w' w.heap.size (Nd.leaf [] p v).mk nilP (fun _ => nilP) ∧ Below w.heap.size w w') := fun W hW =>
    (hashed_calls W (.leaf [] p v) (fun x => x = w.heap.size) w.heap.size nilP (fun _ => nilP) ⟨_, rfl, rfl, B W hW⟩ (B W hW) hS trivial rfl hc (by rw [hW]; exact tabs_alloc T _)).mono fun e w' ⟨h1, h2, h3⟩ => ⟨h1, h2, by
      have hk : Kept w.heap.size w W := by rw [hW]; exact (Kept.refl _ _).alloc _
      exact (hk.trans h3).below (Nat.le_refl _)⟩
  clear B hS hc T
  unfold ptr at *
  generalize hP : str p = P at *
  generalize hV : str v = V at *
  go_enter Tryd.func54, Tryd.ntmps54
  go_wp2_with fail
  refine (HH.out _ rfl).mono ?_
  rintro e w1 ⟨rfl, hb, hbel⟩
  have HF : Hid (Blk w1 w.heap.size (Nd.leaf [] p v).mk nilP (fun _ => nilP) ∧ Below w.heap.size w w1) := ⟨hb, hbel⟩
  clear hb hbel HH
  go_wp2_with fail
  go_ret
  exact ⟨_, rfl, ⟨_, rfl, .inr (Nat.le_refl _), HF.out.1⟩, HF.out.2⟩

theorem newExt_calls (w : World) (p : List UInt8) (k : Nd) (S : Nat → Prop) (u : Option Addr) (hK : At w k S (.pointer u)) (hS : Sane (.ext [] p k)) (hc : Codable (.ext [] p k)) (T : Tabs w) :
    Calls Tryd.prog 57 #[.string (str p), .pointer u] w (Made w S (Nd.ext [] p k).mk) := by
  have hK' := hK.cut
  have B : ∀ W, W = w.alloc (.cells (ncells 2 ⟨#[]⟩ (str p) ⟨#[]⟩ (.pointer u) (fun _ => nilP)) 79) → Blk W w.heap.size (.ext [] p k) (.pointer u) (fun _ => nilP) := fun W hW => made_at w W _ _ _ _ hW rfl
  have HH : Hid (∀ W, W = w.alloc (.cells (ncells 2 ⟨#[]⟩ (str p) ⟨#[]⟩ (.pointer u) (fun _ => nilP)) 79) → Calls Tryd.prog 63 #[ptr w.heap.size] W fun e w' => e = .returned (ptr w.heap.size) ∧ At w' (Nd.ext [] p k).mk (fun x => S x ∨ w.heap.size ≤ x) (ptr w.heap.size) ∧ Below w.heap.size w w') := fun W hW => by
    have hkW : At W k (fun x => S x ∧ x < w.heap.size) (.pointer u) := by rw [hW]; exact hK'.below ((Below.refl _ _).alloc (Nat.le_refl _) _)
    refine (hashed_calls W (.ext [] p k) (fun x => S x ∨ x = w.heap.size) w.heap.size (.pointer u) (fun _ => nilP) ⟨_, _, _, rfl, .inr rfl, B W hW, fun x hx => ⟨.inl hx.1, by omega⟩, hkW⟩ (B W hW) hS trivial rfl hc (by rw [hW]; exact tabs_alloc T _)).mono ?_
    rintro e w' ⟨h1, h2, h3⟩
    have hk : Kept w.heap.size w W := by rw [hW]; exact (Kept.refl _ _).alloc _
    have hb := (hk.trans h3).below (Nat.le_refl _)
    exact ⟨h1, ⟨_, _, _, rfl, .inr (Nat.le_refl _), h2, fun x hx => ⟨.inl hx.1, by omega⟩, hK'.below hb⟩, hb⟩
  clear B hS hc T hK hK'
  unfold ptr at *
  generalize hP : str p = P at *
  go_enter Tryd.func57, Tryd.ntmps57
  go_wp2_with fail
  refine (HH.out _ rfl).mono ?_
  rintro e w1 ⟨rfl, hb⟩
  have HF : Hid (At w1 (Nd.ext [] p k).mk (fun x => S x ∨ w.heap.size ≤ x) (.pointer (some ⟨w.heap.size, 0, none⟩)) ∧ Below w.heap.size w w1) := hb
  clear hb HH
  go_wp2_with fail
  go_ret
  exact ⟨_, rfl, HF.out⟩

/-- Sixteen trees behind sixteen pointers, apart from each other. -/
structure Kids (w : World) (ks : Nat → Nd) (S : Nat → Prop) (u : Nat → Option Addr) (Ss : Nat → Nat → Prop) : Prop where
  at_ : ∀ i, i < 16 → At w (ks i) (Ss i) (.pointer (u i))
  sub : ∀ i x, i < 16 → Ss i x → S x
  dis : ∀ i j x, i < 16 → j < 16 → Ss i x → Ss j x → i = j

set_option maxRecDepth 100000 in
set_option maxHeartbeats 400000 in
theorem newBranch_calls (w : World) (v : List UInt8) (ks : Nat → Nd) (S : Nat → Prop) (u : Nat → Option Addr) (Ss : Nat → Nat → Prop) (hK : Kids w ks S u Ss) (hS : Sane (.branch [] v ks)) (hc : Codable (.branch [] v ks)) (T : Tabs w) :
    Calls Tryd.prog 64 #[kidsV u, .string (str v)] w (Made w S (Nd.branch [] v ks).mk) := by
  have hK' : ∀ i, i < 16 → At w (ks i) (fun x => Ss i x ∧ x < w.heap.size) (.pointer (u i)) := fun i hi => (hK.at_ i hi).cut
  have hsub := hK.sub
  have hdis := hK.dis
  obtain ⟨W0, hW0⟩ : ∃ W0, W0 = w.alloc (.cells #[.pointer (u 0), .pointer (u 1), .pointer (u 2), .pointer (u 3), .pointer (u 4), .pointer (u 5), .pointer (u 6), .pointer (u 7), .pointer (u 8), .pointer (u 9), .pointer (u 10), .pointer (u 11), .pointer (u 12), .pointer (u 13), .pointer (u 14), .pointer (u 15)] 77) := ⟨_, rfl⟩
  have hs0 : W0.heap.size = w.heap.size + 1 := by rw [hW0]; simp
  have hb0 : Below w.heap.size w W0 := by rw [hW0]; exact (Below.refl _ _).alloc (Nat.le_refl _) _
  have T0 : Tabs W0 := T.below hb0
  have B : ∀ W, W = W0.alloc (.cells (ncells 3 ⟨#[]⟩ ⟨#[]⟩ (str v) nilP (fun i => .pointer (u i))) 79) → Blk W W0.heap.size (.branch [] v ks) nilP (fun i => .pointer (u i)) := fun W hW => made_at W0 W _ _ _ _ hW rfl
  have HH : Hid (∀ W, W = W0.alloc (.cells (ncells 3 ⟨#[]⟩ ⟨#[]⟩ (str v) nilP (fun i => .pointer (u i))) 79) → Calls Tryd.prog 63 #[ptr (w.heap.size + 1)] W fun e w' => e = .returned (ptr (w.heap.size + 1)) ∧ At w' (Nd.branch [] v ks).mk (fun x => S x ∨ w.heap.size ≤ x) (ptr (w.heap.size + 1)) ∧ Below w.heap.size w w') := fun W hW => by
    have hbW : Below w.heap.size w W := by rw [hW]; exact hb0.alloc hb0.size _
    have B' := B W hW
    rw [hs0] at B'
    refine (hashed_calls W (.branch [] v ks) (fun x => S x ∨ x = w.heap.size + 1) (w.heap.size + 1) nilP (fun i => .pointer (u i)) ⟨_, _, fun i x => Ss i x ∧ x < w.heap.size, rfl, .inr rfl, B', fun i x hi hx => ⟨.inl (hsub i x hi hx.1), by omega⟩, fun i j x hi hj h1 h2 => hdis i j x hi hj h1.1 h2.1, fun i hi => (hK' i hi).below hbW⟩ B' hS trivial rfl hc (by rw [hW]; exact tabs_alloc T0 _)).mono ?_
    rintro e w' ⟨h1, h2, h3⟩
    have hk : Kept (w.heap.size + 1) w W := Kept.of_below hbW _
    have hb := (hk.trans h3).below (Nat.le_succ _)
    exact ⟨h1, ⟨_, _, fun i x => Ss i x ∧ x < w.heap.size, rfl, .inr (Nat.le_succ _), h2, fun i x hi hx => ⟨.inl (hsub i x hi hx.1), by omega⟩, fun i j x hi hj h1 h2 => hdis i j x hi hj h1.1 h2.1, fun i hi => (hK' i hi).below hb⟩, hb⟩
  clear B hS hc T hK hK' hsub hdis hs0 hb0 T0
  unfold ptr kidsV at *
  generalize hP : str v = V at *
  go_enter Tryd.func64, Tryd.ntmps64
  go_wp2_with fail
  rw [← hW0]
  refine (HH.out _ rfl).mono ?_
  rintro e w1 ⟨rfl, hb⟩
  have HF : Hid (At w1 (Nd.branch [] v ks).mk (fun x => S x ∨ w.heap.size ≤ x) (.pointer (some ⟨w.heap.size + 1, 0, none⟩)) ∧ Below w.heap.size w w1) := hb
  clear hb HH
  go_wp2_with fail
  go_ret
  exact ⟨_, rfl, HF.out⟩
end Go.Proofs.YtenmjjpkbcogbaaDoor

/- TnK -/
namespace Go.Proofs.YtenmjjpkbcogbaaDoor
open Go.RowKit

def HashOk (t : Nd) : Prop := t.hash = hashOf t.code ∨ t.hash = hashL t.code
/-- What may stand below an extension. -/
def Nd.forked : Nd → Prop
  | .unread _ => True
  | .branch _ _ _ => True
  | _ => False
def Fine : Nd → Prop
  | .nil => True
  | .unread h => h.length = 32
  | .leaf h p v => HashOk (.leaf h p v) ∧ Nibs p ∧ p.length ≤ 80 ∧ v.length ≤ 160
  | .ext h p k => HashOk (.ext h p k) ∧ Nibs p ∧ p.length ≤ 80 ∧ k.forked ∧ Fine k
  | .branch h v ks => HashOk (.branch h v ks) ∧ v.length ≤ 160 ∧ ∀ i, i < 16 → Fine (ks i)

theorem HashOk.cases {t : Nd} (h : HashOk t) : (t.hash = [] ∧ t.code.length < 32) ∨ t.hash.length = 32 := by
  rcases h with h | h
  · unfold hashOf at h
    by_cases hc : 32 ≤ t.code.length
    · rw [if_pos hc] at h; right; rw [h]; exact hashL_length _
    · rw [if_neg hc] at h; exact .inl ⟨h, by omega⟩
  · right; rw [h]; exact hashL_length _
theorem HashOk.two {t : Nd} (h : HashOk t) : t.hash = [] ∨ t.hash.length = 32 := h.cases.imp (fun h => h.1) id
theorem HashOk.short {t : Nd} (h : HashOk t) (e : t.hash = []) : t.code.length < 32 := by
  rcases h.cases with h | h
  · exact h.2
  · rw [e] at h; cases h

theorem Fine.sane : ∀ {t : Nd}, Fine t → Sane t
  | .nil, _ => trivial
  | .unread _, h => h
  | .leaf _ _ _, h => ⟨h.1.two, h.2⟩
  | .ext _ _ _, h => ⟨h.1.two, h.2.1, h.2.2.1, h.2.2.2.2.sane⟩
  | .branch _ _ _, h => ⟨h.1.two, h.2.1, fun i hi => (h.2.2 i hi).sane⟩

theorem flat_mono : ∀ (d : Nat) (x : Tree), flatU d x = true → flatU (d + 1) x = true
  | d, x, h => by
    rcases flatU_inv d x h with ⟨t, rfl⟩ | ⟨e, ks, rfl, rfl, h1, h2⟩
    · exact flat_text _ _
    · rw [flat_list]
      simp only [Bool.and_eq_true, decide_eq_true_eq, List.all_eq_true]
      exact ⟨h1, fun k hk => flat_mono e k (List.all_eq_true.1 h2 k hk)⟩
theorem code_mono : ∀ (d : Nat) (x : Tree), flatU d x = true → codeU (d + 1) x = codeU d x
  | d, x, h => by
    rcases flatU_inv d x h with ⟨t, rfl⟩ | ⟨e, ks, rfl, rfl, h1, h2⟩
    · rw [codeU_text, codeU_text]
    · rw [codeU_list, codeU_list]
      congr 2
      exact List.map_congr_left fun k hk => code_mono e k (List.all_eq_true.1 h2 k hk)

theorem listC_len (b : List UInt8) : b.length + 1 ≤ (listC b).length ∧ (listC b).length ≤ b.length + 9 := by
  unfold listC
  rw [List.length_append]
  have := headU_length 192 b.length
  have := headU_length_pos 192 b.length
  omega
theorem textC_len (t : List UInt8) : 1 ≤ (textC t).length ∧ (textC t).length ≤ t.length + 9 := by
  refine ⟨textC_pos t, ?_⟩
  unfold textC
  split
  · omega
  · rw [List.length_append]
    have := headU_length 128 t.length
    omega
theorem textC_hash (t : List UInt8) (h : t.length = 32) : (textC t).length = 33 := by
  have hb : bareB t ≠ true := by unfold bareB; simp [h]
  unfold textC
  rw [if_neg hb, List.length_append, h]
  rfl

theorem flatten_one : ∀ (L : List (List UInt8)), (∀ c ∈ L, 1 ≤ c.length) → L.length ≤ L.flatten.length ∧ ∀ c ∈ L, c.length + L.length ≤ L.flatten.length + 1
  | [], _ => ⟨Nat.le_refl _, fun c hc => by cases hc⟩
  | a :: L, h => by
    obtain ⟨h1, h2⟩ := flatten_one L fun c hc => h c (List.mem_cons_of_mem _ hc)
    have ha := h a (List.mem_cons_self ..)
    rw [List.flatten_cons, List.length_append]
    refine ⟨by simp only [List.length_cons]; omega, fun c hc => ?_⟩
    rcases List.mem_cons.1 hc with rfl | hc
    · simp only [List.length_cons]; omega
    · have := h2 c hc; simp only [List.length_cons]; omega
theorem flatten_le : ∀ (L : List (List UInt8)) (m : Nat), (∀ c ∈ L, c.length ≤ m) → L.flatten.length ≤ L.length * m
  | [], m, _ => by simp
  | a :: L, m, h => by
    have := flatten_le L m fun c hc => h c (List.mem_cons_of_mem _ hc)
    have ha := h a (List.mem_cons_self ..)
    rw [List.flatten_cons, List.length_append, List.length_cons, Nat.succ_mul]
    omega

theorem item_list_form (t : Nd) : ∃ ks, t.item = listT ks := by cases t <;> exact ⟨_, rfl⟩
theorem ref_text_or (t : Nd) : (∃ s, t.ref = textT s) ∨ (t.ref = t.item ∧ t.hash = [] ∧ t.some) := by
  cases t with
  | nil => exact .inl ⟨_, rfl⟩
  | unread h => by_cases e : h = []; exact .inr ⟨if_pos e, e, trivial⟩; exact .inl ⟨h, if_neg e⟩
  | leaf h p v => by_cases e : h = []; exact .inr ⟨if_pos e, e, trivial⟩; exact .inl ⟨h, if_neg e⟩
  | ext h p k => by_cases e : h = []; exact .inr ⟨if_pos e, e, trivial⟩; exact .inl ⟨h, if_neg e⟩
  | branch h v ks => by_cases e : h = []; exact .inr ⟨if_pos e, e, trivial⟩; exact .inl ⟨h, if_neg e⟩
theorem ref_hashed {t : Nd} (hs : t.some) (h : t.hash ≠ []) : t.ref = textT t.hash := by
  cases t <;> first | exact hs.elim | exact if_neg h
theorem ref_inline {t : Nd} (hs : t.some) (h : t.hash = []) : t.ref = t.item := by
  cases t <;> first | exact hs.elim | exact if_pos h
theorem ref_pos (d : Nat) (t : Nd) : 1 ≤ (codeU (d + 1) t.ref).length := by
  rcases ref_text_or t with ⟨s, h⟩ | ⟨h, _⟩
  · rw [h, codeU_text]; exact (textC_len s).1
  · obtain ⟨ks, e⟩ := item_list_form t
    rw [h, e, codeU_list]
    exact Nat.le_trans (Nat.le_add_left _ _) (listC_len _).1

def bodyB (d : Nat) (v : List UInt8) (ks : Nat → Nd) : List (List UInt8) := (List.range 16).map (fun i => codeU d (ks i).ref) ++ [textC v]
theorem code_branch (d : Nat) (h v : List UInt8) (ks : Nat → Nd) : codeU (d + 1) (Nd.branch h v ks).item = listC (bodyB d v ks).flatten := by
  show codeU (d + 1) (listT _) = _
  rw [codeU_list]
  congr 2
  unfold bodyB
  rw [List.map_append, List.map_map]
  congr 1
  show [codeU d (textT v)] = _
  rw [codeU_text]
theorem bodyB_length (d : Nat) (v : List UInt8) (ks : Nat → Nd) : (bodyB d v ks).length = 17 := by simp [bodyB]
theorem bodyB_pos (d : Nat) (v : List UInt8) (ks : Nat → Nd) : ∀ c ∈ bodyB (d + 1) v ks, 1 ≤ c.length := by
  intro c hc
  rcases List.mem_append.1 hc with hc | hc
  · obtain ⟨i, _, rfl⟩ := List.mem_map.1 hc; exact ref_pos d (ks i)
  · obtain rfl := List.mem_singleton.1 hc; exact (textC_len v).1
theorem code_ext (d : Nat) (h p : List UInt8) (k : Nd) : codeU (d + 1) (Nd.ext h p k).item = listC (textC (packU p false) ++ codeU d k.ref) := by
  show codeU (d + 1) (listT [textT _, k.ref]) = _
  rw [codeU_list]
  simp [codeU_text]
theorem code_leaf (d : Nat) (h p v : List UInt8) : codeU (d + 1) (Nd.leaf h p v).item = listC (textC (packU p true) ++ textC v) := by
  show codeU (d + 1) (listT [textT _, textT _]) = _
  rw [codeU_list]
  simp [codeU_text]

/-- A branch's code has 18 bytes at least. -/
theorem branch_big (d : Nat) (h v : List UInt8) (ks : Nat → Nd) : 18 ≤ (codeU (d + 2) (Nd.branch h v ks).item).length := by
  rw [code_branch]
  have h1 := (listC_len (bodyB (d + 1) v ks).flatten).1
  have h2 := (flatten_one _ (bodyB_pos d v ks)).1
  rw [bodyB_length] at h2
  omega
theorem ext_big (d : Nat) (h p : List UInt8) (k : Nd) (hf : k.forked) (hk : Fine k) : 20 ≤ (codeU (d + 3) (Nd.ext h p k).item).length := by
  rw [code_ext]
  have h1 := (listC_len (textC (packU p false) ++ codeU (d + 2) k.ref)).1
  rw [List.length_append] at h1
  have h2 := (textC_len (packU p false)).1
  have h3 : 18 ≤ (codeU (d + 2) k.ref).length := by
    cases k with
    | unread x =>
      have hx : x ≠ [] := fun e => by subst e; cases hk
      rw [ref_hashed (t := .unread x) trivial hx, codeU_text]
      have := textC_hash x hk
      show 18 ≤ (textC x).length; omega
    | branch x v ks =>
      by_cases e : x = []
      · rw [ref_inline (t := .branch x v ks) trivial e]; exact branch_big d x v ks
      · rw [ref_hashed (t := .branch x v ks) trivial e, codeU_text, textC_hash _ (hk.1.two.resolve_left e)]; omega
    | nil => exact hf.elim
    | leaf _ _ _ => exact hf.elim
    | ext _ _ _ => exact hf.elim
  omega

theorem flat_leaf (d : Nat) (h p v : List UInt8) : flatU (d + 1) (Nd.leaf h p v).item = true := by
  show flatU (d + 1) (listT [textT _, textT _]) = true
  rw [flat_list]
  simp [flat_text]
theorem flat_ext (d : Nat) (h p : List UInt8) (k : Nd) (hk : flatU d k.ref = true) : flatU (d + 1) (Nd.ext h p k).item = true := by
  show flatU (d + 1) (listT [textT _, k.ref]) = true
  rw [flat_list]
  simp [flat_text, hk]
theorem flat_branch_of (d : Nat) (h v : List UInt8) (ks : Nat → Nd) (hk : ∀ i, i < 16 → flatU d (ks i).ref = true) : flatU (d + 1) (Nd.branch h v ks).item = true := by
  show flatU (d + 1) (listT _) = true
  rw [flat_list]
  simp only [Bool.and_eq_true, decide_eq_true_eq, List.all_eq_true]
  refine ⟨by simp, fun x hx => ?_⟩
  rcases List.mem_append.1 hx with hx | hx
  · obtain ⟨i, hi, rfl⟩ := List.mem_map.1 hx; exact hk i (List.mem_range.1 hi)
  · obtain rfl := List.mem_singleton.1 hx; exact flat_text _ _

/-- A branch within its parent has leaves within it alone. -/
theorem inline_branch (h v : List UInt8) (ks : Nat → Nd) (hF : Fine (.branch h v ks)) (he : h = []) : flatU 2 (Nd.branch h v ks).item = true := by
  refine flat_branch_of 1 h v ks fun i hi => ?_
  rcases ref_text_or (ks i) with ⟨s, e⟩ | ⟨e, eh, es⟩
  · rw [e]; exact flat_text _ _
  · have hs : (codeU 6 (Nd.branch h v ks).item).length < 32 := hF.1.short he
    rw [code_branch] at hs
    have h1 := (listC_len (bodyB 5 v ks).flatten).1
    have h2 : (codeU 5 (ks i).ref).length + (bodyB 5 v ks).length ≤ (bodyB 5 v ks).flatten.length + 1 := (flatten_one _ (bodyB_pos 4 v ks)).2 (codeU 5 (ks i).ref) (List.mem_append.2 (.inl (List.mem_map.2 ⟨i, List.mem_range.2 hi, rfl⟩)))
    rw [bodyB_length] at h2
    have hlt : (codeU 5 (ks i).ref).length ≤ 14 := by omega
    have hFi := hF.2.2 i hi
    rw [e] at hlt ⊢
    clear h1 h2 hs e
    generalize ks i = K at *
    cases K with
    | nil => exact es.elim
    | unread x => have : x.length = 32 := hFi; rw [show x = [] from eh] at this; cases this
    | leaf x p w => exact flat_leaf 0 x p w
    | ext x p k => have : 20 ≤ (codeU 5 (Nd.ext x p k).item).length := ext_big 2 x p k hFi.2.2.2.1 hFi.2.2.2.2; exact absurd hlt (by omega)
    | branch x w k => have : 18 ≤ (codeU 5 (Nd.branch x w k).item).length := branch_big 3 x w k; exact absurd hlt (by omega)
/-- A node within its parent has three levels at the most. -/
theorem inline_flat (t : Nd) (hF : Fine t) (hs : t.some) (he : t.hash = []) : flatU 3 t.item = true := by
  cases t with
  | nil => exact hs.elim
  | unread x => have : x.length = 32 := hF; rw [show x = [] from he] at this; cases this
  | leaf x p v => exact flat_leaf 2 x p v
  | ext x p k =>
    refine flat_ext 2 x p k ?_
    have hk := hF.2.2.2.1
    have hFk := hF.2.2.2.2
    cases k with
    | unread y =>
      have hy : y ≠ [] := fun e => by subst e; cases hFk
      rw [ref_hashed (t := .unread y) trivial hy]; exact flat_text _ _
    | branch y v ks =>
      by_cases e : y = []
      · rw [ref_inline (t := .branch y v ks) trivial e]; exact inline_branch y v ks hFk e
      · rw [ref_hashed (t := .branch y v ks) trivial e]; exact flat_text _ _
    | nil => exact hk.elim
    | leaf _ _ _ => exact hk.elim
    | ext _ _ _ => exact hk.elim
  | branch x v ks => exact flat_mono 2 _ (inline_branch x v ks hF he)
theorem ref_flat (t : Nd) (hF : Fine t) : flatU 3 t.ref = true := by
  rcases ref_text_or t with ⟨s, e⟩ | ⟨e, eh, es⟩
  · rw [e]; exact flat_text _ _
  · rw [e]; exact inline_flat t hF es eh
theorem ref_short (t : Nd) (hF : Fine t) : (codeU 5 t.ref).length ≤ 33 := by
  cases t with
  | nil => decide
  | unread x =>
    have hx : x ≠ [] := fun e => by subst e; cases hF
    rw [ref_hashed (t := .unread x) trivial hx, codeU_text]
    have := textC_hash x hF
    show (textC x).length ≤ 33; omega
  | leaf x p v =>
    by_cases e : x = []
    · have h1 := hF.1.short e
      have h2 := inline_flat _ hF trivial e
      rw [ref_inline (t := .leaf x p v) trivial e, ← code_mono 5 _ (flat_mono 4 _ (flat_mono 3 _ h2))]
      show (Nd.leaf x p v).code.length ≤ 33; omega
    · rw [ref_hashed (t := .leaf x p v) trivial e, codeU_text, textC_hash _ (hF.1.two.resolve_left e)]; omega
  | ext x p v =>
    by_cases e : x = []
    · have h1 := hF.1.short e
      have h2 := inline_flat _ hF trivial e
      rw [ref_inline (t := .ext x p v) trivial e, ← code_mono 5 _ (flat_mono 4 _ (flat_mono 3 _ h2))]
      show (Nd.ext x p v).code.length ≤ 33; omega
    · rw [ref_hashed (t := .ext x p v) trivial e, codeU_text, textC_hash _ (hF.1.two.resolve_left e)]; omega
  | branch x p v =>
    by_cases e : x = []
    · have h1 := hF.1.short e
      have h2 := inline_flat _ hF trivial e
      rw [ref_inline (t := .branch x p v) trivial e, ← code_mono 5 _ (flat_mono 4 _ (flat_mono 3 _ h2))]
      show (Nd.branch x p v).code.length ≤ 33; omega
    · rw [ref_hashed (t := .branch x p v) trivial e, codeU_text, textC_hash _ (hF.1.two.resolve_left e)]; omega

theorem codable_leaf (h p v : List UInt8) (hp : p.length ≤ 80) (hv : v.length ≤ 160) : Codable (.leaf h p v) := by
  refine ⟨flat_leaf 5 h p v, ?_⟩
  show (codeU 6 (Nd.leaf h p v).item).length ≤ 4096
  rw [code_leaf]
  have h1 := (listC_len (textC (packU p true) ++ textC v)).2
  have h2 := (textC_len (packU p true)).2
  have h3 := (textC_len v).2
  rw [packU_length] at h2
  rw [List.length_append] at h1
  omega
theorem codable_ext (h p : List UInt8) (k : Nd) (hp : p.length ≤ 80) (hk : Fine k) : Codable (.ext h p k) := by
  refine ⟨flat_ext 5 h p k (flat_mono 4 _ (flat_mono 3 _ (ref_flat k hk))), ?_⟩
  show (codeU 6 (Nd.ext h p k).item).length ≤ 4096
  rw [code_ext]
  have h1 := (listC_len (textC (packU p false) ++ codeU 5 k.ref)).2
  have h2 := (textC_len (packU p false)).2
  have h3 := ref_short k hk
  rw [packU_length] at h2
  rw [List.length_append] at h1
  omega
theorem codable_branch (h v : List UInt8) (ks : Nat → Nd) (hv : v.length ≤ 160) (hk : ∀ i, i < 16 → Fine (ks i)) : Codable (.branch h v ks) := by
  refine ⟨flat_branch_of 5 h v ks fun i hi => flat_mono 4 _ (flat_mono 3 _ (ref_flat _ (hk i hi))), ?_⟩
  show (codeU 6 (Nd.branch h v ks).item).length ≤ 4096
  rw [code_branch]
  have h1 := (listC_len (bodyB 5 v ks).flatten).2
  have h2 := flatten_le (bodyB 5 v ks) 169 (fun c hc => by
    rcases List.mem_append.1 hc with hc | hc
    · obtain ⟨i, hi, rfl⟩ := List.mem_map.1 hc
      have := ref_short _ (hk i (List.mem_range.1 hi)); omega
    · obtain rfl := List.mem_singleton.1 hc; have := (textC_len v).2; omega)
  rw [bodyB_length] at h2
  omega
theorem Fine.codable {t : Nd} (h : Fine t) (hr : t.read) : Codable t := by
  cases t with
  | nil => exact hr.elim
  | unread _ => exact hr.elim
  | leaf x p v => exact codable_leaf x p v h.2.2.1 h.2.2.2
  | ext x p k => exact codable_ext x p k h.2.2.1 h.2.2.2.2
  | branch x v ks => exact codable_branch x v ks h.2.1 h.2.2

def mkLeaf (p v : List UInt8) : Nd := (Nd.leaf [] p v).mk
def mkExt (p : List UInt8) (k : Nd) : Nd := (Nd.ext [] p k).mk
def mkBranch (ks : Nat → Nd) (v : List UInt8) : Nd := (Nd.branch [] v ks).mk
theorem fine_leaf {p v : List UInt8} (hn : Nibs p) (hp : p.length ≤ 80) (hv : v.length ≤ 160) : Fine (mkLeaf p v) := ⟨.inl rfl, hn, hp, hv⟩
theorem fine_ext {p : List UInt8} {k : Nd} (hn : Nibs p) (hp : p.length ≤ 80) (hf : k.forked) (hk : Fine k) : Fine (mkExt p k) := ⟨.inl rfl, hn, hp, hf, hk⟩
theorem fine_branch {v : List UInt8} {ks : Nat → Nd} (hv : v.length ≤ 160) (hk : ∀ i, i < 16 → Fine (ks i)) : Fine (mkBranch ks v) := ⟨.inl rfl, hv, hk⟩
end Go.Proofs.YtenmjjpkbcogbaaDoor

/- TnL -/
namespace Go.Proofs.YtenmjjpkbcogbaaDoor
open Go.RowKit

/-- The node that stands for t when the path p lies ahead of it. -/
def joinP (p : List UInt8) : Nd → Nd
  | .leaf h q v => if p = [] then .leaf h q v else mkLeaf (p ++ q) v
  | .ext h q k => if p = [] then .ext h q k else mkExt (p ++ q) k
  | .nil => if p = [] then .nil else mkExt p .nil
  | .unread h => if p = [] then .unread h else mkExt p (.unread h)
  | .branch h v ks => if p = [] then .branch h v ks else mkExt p (.branch h v ks)
theorem joinP_nil (t : Nd) : joinP [] t = t := by cases t <;> simp [joinP]
theorem nibs_append {a b : List UInt8} (ha : Nibs a) (hb : Nibs b) : Nibs (a ++ b) := fun x hx => (List.mem_append.1 hx).elim (ha x) (hb x)
theorem fine_join {p : List UInt8} {t : Nd} (hn : Nibs p) (hl : p.length + t.path.length ≤ 80) (hs : t.some) (hF : Fine t) : Fine (joinP p t) := by
  by_cases hp : p = []
  · subst hp; rw [joinP_nil]; exact hF
  · cases t with
    | nil => exact hs.elim
    | leaf h q v => simp only [joinP, if_neg hp]; exact fine_leaf (nibs_append hn hF.2.1) (by rw [List.length_append]; exact hl) hF.2.2.2
    | ext h q k => simp only [joinP, if_neg hp]; exact fine_ext (nibs_append hn hF.2.1) (by rw [List.length_append]; exact hl) hF.2.2.2.1 hF.2.2.2.2
    | unread h => simp only [joinP, if_neg hp]; exact fine_ext hn (by have : (Nd.unread h).path.length = 0 := rfl; omega) trivial hF
    | branch h v ks => simp only [joinP, if_neg hp]; exact fine_ext hn (by have : (Nd.branch h v ks).path.length = 0 := rfl; omega) trivial hF
theorem Made.mono {w : World} {S S' : Nat → Prop} {t : Nd} {e : Ending} {w' : World} (h : Made w S t e w') (hs : ∀ x, S x → S' x) : Made w S' t e w' := by
  obtain ⟨u, h1, h2, h3⟩ := h
  exact ⟨u, h1, h2.mono fun x hx => hx.imp (hs x) id, h3⟩
/-- What was made behind w0 is made behind w. -/
theorem Made.after {w w0 : World} {S : Nat → Prop} {t : Nd} {e : Ending} {w' : World} (hb : Below w.heap.size w w0) (h : Made w0 S t e w') : Made w S t e w' := by
  obtain ⟨u, h1, h2, h3⟩ := h
  exact ⟨u, h1, h2.mono fun x hx => hx.imp id (Nat.le_trans hb.size), hb.trans (h3.mono hb.size)⟩

theorem join_none (w : World) (t : Nd) (S : Nat → Prop) (u : Option Addr) (hA : At w t S (.pointer u)) : Calls Tryd.prog 66 #[.string ⟨#[]⟩, .pointer u] w (Made w S t) := by
  have HF : Hid (At w t (fun x => S x ∨ w.heap.size ≤ x) (.pointer u)) := hA.mono fun x hx => .inl hx
  clear hA
  go_enter Tryd.func66, Tryd.ntmps66
  go_wp2_with fail
  go_ret
  exact ⟨u, rfl, HF.out, Below.refl _ _⟩

set_option maxRecDepth 100000 in
set_option maxHeartbeats 400000 in
theorem join_leaf (w : World) (p h q v : List UInt8) (hp : p ≠ []) (S : Nat → Prop) (u : Option Addr) (hn : Nibs p) (hl : p.length + q.length ≤ 80) (hF : Fine (.leaf h q v)) (hA : At w (.leaf h q v) S (.pointer u)) (T : Tabs w) :
    Calls Tryd.prog 66 #[.string (str p), .pointer u] w (Made w S (mkLeaf (p ++ q) v)) := by
  obtain ⟨b, hu, hs, B⟩ := hA
  cases hu
  have c0 : w.cell? ⟨b, 0, none⟩ = some (.int .i64 1) := B.c0
  have c2 : w.cell? ⟨b, 2, none⟩ = some (.string (str q)) := B.c2
  have c3 : w.cell? ⟨b, 3, none⟩ = some (.string (str v)) := B.c3
  have hlt := B.lt
  have he : (str p).toList.isEmpty = false := by rw [str_eq_nil]; simp [hp]
  have hFl := fine_leaf (nibs_append hn hF.2.1) (by rw [List.length_append]; exact hl) hF.2.2.2
  have HL : Hid (∀ W, Below w.heap.size w W → Calls Tryd.prog 54 #[.string (str p ++ str q), .string (str v)] W (Made w S (mkLeaf (p ++ q) v))) := fun W hW => by
    rw [str_append]
    exact (newLeaf_calls W (p ++ q) v ⟨.inl rfl, hFl.2⟩ (codable_leaf _ _ _ hFl.2.2.1 hFl.2.2.2) (T.below hW)).mono fun e w' h => (h.mono fun x hx => hx.elim).after hW
  have hps : (str p).size + (str q).size ≤ 80 := by rw [str_size, str_size]; exact hl
  clear B hFl hF hp hn T
  generalize str p = P at *
  generalize str q = Q at *
  generalize hV : str v = V at *
  go_enter Tryd.func66, Tryd.ntmps66
  go_wp2_with fail
  go_region_with (go_at_call 54; refine (HL.out _ (by first | exact Below.refl _ _ | exact (Below.refl _ _).drew)).mono ?_; rintro e1 w1 ⟨u1, rfl, hA1⟩)
  all_goals
    have HF : Hid _ := hA1
    clear hA1 HL
    go_wp2_with fail
    go_ret
    exact ⟨u1, rfl, HF.out⟩

set_option maxRecDepth 100000 in
set_option maxHeartbeats 400000 in
theorem join_ext (w : World) (p h q : List UInt8) (k : Nd) (hp : p ≠ []) (S : Nat → Prop) (u : Option Addr) (hn : Nibs p) (hl : p.length + q.length ≤ 80) (hF : Fine (.ext h q k)) (hA : At w (.ext h q k) S (.pointer u)) (T : Tabs w) :
    Calls Tryd.prog 66 #[.string (str p), .pointer u] w (Made w S (mkExt (p ++ q) k)) := by
  obtain ⟨b, kp, S1, hu, hs, B, hsub, hK⟩ := hA
  cases hu
  obtain ⟨uk, rfl⟩ := hK.ptr
  have c0 : w.cell? ⟨b, 0, none⟩ = some (.int .i64 2) := B.c0
  have c2 : w.cell? ⟨b, 2, none⟩ = some (.string (str q)) := B.c2
  have c4 : w.cell? ⟨b, 4, none⟩ = some (.pointer uk) := B.c4
  have hlt := B.lt
  have he : (str p).toList.isEmpty = false := by rw [str_eq_nil]; simp [hp]
  have hFl := fine_ext (nibs_append hn hF.2.1) (by rw [List.length_append]; exact hl) hF.2.2.2.1 hF.2.2.2.2
  have HL : Hid (∀ W, Below w.heap.size w W → Calls Tryd.prog 57 #[.string (str p ++ str q), .pointer uk] W (Made w S (mkExt (p ++ q) k))) := fun W hW => by
    rw [str_append]
    exact (newExt_calls W (p ++ q) k S1 uk (hK.below hW) ⟨.inl rfl, hFl.2.1, hFl.2.2.1, hF.2.2.2.2.sane⟩ (codable_ext _ _ _ hFl.2.2.1 hF.2.2.2.2) (T.below hW)).mono fun e w' h => (h.mono fun x hx => (hsub x hx).1).after hW
  have hps : (str p).size + (str q).size ≤ 80 := by rw [str_size, str_size]; exact hl
  clear B hFl hF hp hn T hK hsub
  generalize str p = P at *
  generalize str q = Q at *
  go_enter Tryd.func66, Tryd.ntmps66
  go_wp2_with fail
  go_region_with (go_at_call 57; refine (HL.out _ (by first | exact Below.refl _ _ | exact (Below.refl _ _).drew)).mono ?_; rintro e1 w1 ⟨u1, rfl, hA1⟩)
  all_goals
    have HF : Hid _ := hA1
    clear hA1 HL
    go_wp2_with fail
    go_ret
    exact ⟨u1, rfl, HF.out⟩

theorem join_other (w : World) (p : List UInt8) (t : Nd) (hp : p ≠ []) (S : Nat → Prop) (u : Option Addr) (hn : Nibs p) (hl : p.length ≤ 80) (hf : t.forked) (hF : Fine t) (hA : At w t S (.pointer u)) (T : Tabs w) :
    Calls Tryd.prog 66 #[.string (str p), .pointer u] w (Made w S (mkExt p t)) := by
  have HL : Hid (Calls Tryd.prog 57 #[.string (str p), .pointer u] w (Made w S (mkExt p t))) := newExt_calls w p t S u hA ⟨.inl rfl, hn, hl, hF.sane⟩ (codable_ext _ _ _ hl hF) T
  obtain ⟨b, kid, kids, hu, hs, B⟩ := hA.blk (by cases t <;> first | exact hf.elim | trivial)
  cases hu
  have hk : t.kind = 0 ∨ t.kind = 3 := by cases t <;> first | exact hf.elim | exact .inl rfl | exact .inr rfl
  have c0 := B.c0
  have hlt := B.lt
  have he : (str p).toList.isEmpty = false := by rw [str_eq_nil]; simp [hp]
  clear B hF hp hn T hA
  generalize t.kind = K at *
  generalize str p = P at *
  rcases hk with rfl | rfl
  all_goals
    go_enter Tryd.func66, Tryd.ntmps66
    go_wp2_with fail
    refine HL.out.mono ?_
    rintro e1 w1 ⟨u1, rfl, hA1⟩
    have HF : Hid _ := hA1
    clear hA1 HL
    go_wp2_with fail
    go_ret
    exact ⟨u1, rfl, HF.out⟩

theorem join_calls (w : World) (p : List UInt8) (t : Nd) (S : Nat → Prop) (u : Option Addr) (hn : Nibs p) (hl : p.length + t.path.length ≤ 80) (hs : t.some) (hF : Fine t) (hA : At w t S (.pointer u)) (T : Tabs w) :
    Calls Tryd.prog 66 #[.string (str p), .pointer u] w (Made w S (joinP p t)) := by
  by_cases hp : p = []
  · subst hp; rw [joinP_nil]; exact join_none w t S u hA
  · cases t with
    | nil => exact hs.elim
    | leaf h q v => simp only [joinP, if_neg hp]; exact join_leaf w p h q v hp S u hn hl hF hA T
    | ext h q k => simp only [joinP, if_neg hp]; exact join_ext w p h q k hp S u hn hl hF hA T
    | unread h => simp only [joinP, if_neg hp]; exact join_other w p _ hp S u hn (by have : (Nd.unread h).path.length = 0 := rfl; omega) trivial hF hA T
    | branch h v ks => simp only [joinP, if_neg hp]; exact join_other w p _ hp S u hn (by have : (Nd.branch h v ks).path.length = 0 := rfl; omega) trivial hF hA T
end Go.Proofs.YtenmjjpkbcogbaaDoor

/- TnM -/
namespace Go.Proofs.YtenmjjpkbcogbaaDoor
open Go.RowKit

def arrC (u : Nat → Option Addr) : Array Value := ((List.range 16).map (fun i => Value.pointer (u i))).toArray
def updU (u : Nat → Option Addr) (d : Nat) (x : Option Addr) : Nat → Option Addr := fun i => if i = d then x else u i
/-- An array of sixteen pointers lies at block g. -/
def Arr (w : World) (g : Nat) (u : Nat → Option Addr) : Prop := w.heap[g]? = some (.cells (arrC u) 77 (0, 0))
theorem arrC_size (u : Nat → Option Addr) : (arrC u).size = 16 := by simp [arrC]
theorem arrC_at (u : Nat → Option Addr) (i : Nat) (h : i < 16) : (arrC u)[i]? = some (.pointer (u i)) := by
  unfold arrC
  rw [List.getElem?_toArray, List.getElem?_map, List.getElem?_range h]; rfl
theorem arrC_set (u : Nat → Option Addr) (d : Nat) (x : Option Addr) (h : d < 16) : (arrC u).setIfInBounds d (.pointer x) = arrC (updU u d x) := by
  apply Array.ext_getElem?
  intro j
  rw [Array.getElem?_setIfInBounds]
  by_cases hdj : d = j
  · subst hdj
    rw [if_pos rfl, if_pos (by rw [arrC_size]; exact h), arrC_at _ _ h]
    simp [updU]
  · rw [if_neg hdj]
    by_cases hj : j < 16
    · rw [arrC_at _ _ hj, arrC_at _ _ hj]
      simp [updU, Ne.symm hdj]
    · rw [Array.getElem?_eq_none (by rw [arrC_size]; omega), Array.getElem?_eq_none (by rw [arrC_size]; omega)]
namespace Arr
variable {w : World} {g : Nat} {u : Nat → Option Addr}
theorem lt (h : Arr w g u) : g < w.heap.size := (Array.getElem?_eq_some_iff.1 h).1
theorem cell (h : Arr w g u) (i : Nat) (hi : i < 16) : w.cell? ⟨g, i, none⟩ = some (.pointer (u i)) := by rw [cell_of_row w g i _ _ _ h, arrC_at u i hi]
theorem free (h : Arr w g u) (o : Nat) : w.frozen? ⟨g, o, none⟩ = false := by simp [World.frozen?, show w.heap[g]? = _ from h]
theorem set (h : Arr w g u) (d : Nat) (x : Option Addr) (hd : d < 16) : Arr (w.setCell ⟨g, d, none⟩ (.pointer x)) g (updU u d x) := by
  unfold Arr; rw [heap_setCell_same w g d _ _ _ h, arrC_set u d x hd]
theorem kept {w' : World} (h : Arr w g u) (k : w'.heap[g]? = w.heap[g]?) : Arr w' g u := k.trans h
theorem made (w : World) (u : Nat → Option Addr) : Arr (w.alloc (.cells (arrC u) 77)) w.heap.size u := heap_alloc_new _ _
theorem all (h : Arr w g u) : w.cell? ⟨g, 0, none⟩ = some (.pointer (u 0)) ∧ w.cell? ⟨g, 1, none⟩ = some (.pointer (u 1)) ∧ w.cell? ⟨g, 2, none⟩ = some (.pointer (u 2)) ∧ w.cell? ⟨g, 3, none⟩ = some (.pointer (u 3)) ∧ w.cell? ⟨g, 4, none⟩ = some (.pointer (u 4)) ∧ w.cell? ⟨g, 5, none⟩ = some (.pointer (u 5)) ∧ w.cell? ⟨g, 6, none⟩ = some (.pointer (u 6)) ∧ w.cell? ⟨g, 7, none⟩ = some (.pointer (u 7)) ∧ w.cell? ⟨g, 8, none⟩ = some (.pointer (u 8)) ∧ w.cell? ⟨g, 9, none⟩ = some (.pointer (u 9)) ∧ w.cell? ⟨g, 10, none⟩ = some (.pointer (u 10)) ∧ w.cell? ⟨g, 11, none⟩ = some (.pointer (u 11)) ∧ w.cell? ⟨g, 12, none⟩ = some (.pointer (u 12)) ∧ w.cell? ⟨g, 13, none⟩ = some (.pointer (u 13)) ∧ w.cell? ⟨g, 14, none⟩ = some (.pointer (u 14)) ∧ w.cell? ⟨g, 15, none⟩ = some (.pointer (u 15)) := ⟨h.cell 0 (by omega), h.cell 1 (by omega), h.cell 2 (by omega), h.cell 3 (by omega), h.cell 4 (by omega), h.cell 5 (by omega), h.cell 6 (by omega), h.cell 7 (by omega), h.cell 8 (by omega), h.cell 9 (by omega), h.cell 10 (by omega), h.cell 11 (by omega), h.cell 12 (by omega), h.cell 13 (by omega), h.cell 14 (by omega), h.cell 15 (by omega)⟩
end Arr

/-- What a leaf or an extension is, when only the last part of its path is left to it. -/
def tailP (t : Nd) (p : List UInt8) : Nd := match t with
  | .leaf _ _ v => mkLeaf p v
  | .ext _ _ k => joinP p k
  | t => t
theorem joinP_some (p : List UInt8) (t : Nd) (h : t.some) : (joinP p t).some := by
  by_cases hp : p = []
  · subst hp; rw [joinP_nil]; exact h
  · cases t <;> first | exact h.elim | (simp only [joinP, if_neg hp]; trivial)
theorem forked_some {t : Nd} (h : t.forked) : t.some := by cases t <;> first | exact h.elim | trivial
theorem forked_path {t : Nd} (h : t.forked) : t.path = [] := by cases t <;> first | exact h.elim | rfl
theorem fine_tail {t : Nd} {p : List UInt8} (hk : t.kind = 1 ∨ t.kind = 2) (hn : Nibs p) (hl : p.length ≤ 80) (hF : Fine t) : Fine (tailP t p) := by
  cases t with
  | nil => rcases hk with h | h <;> cases h
  | unread _ => rcases hk with h | h <;> cases h
  | branch _ _ _ => rcases hk with h | h <;> cases h
  | leaf h q v => exact fine_leaf hn hl hF.2.2.2
  | ext h q k => exact fine_join hn (by rw [forked_path hF.2.2.2.1]; exact hl) (forked_some hF.2.2.2.1) hF.2.2.2.2

theorem tail_calls (w : World) (t : Nd) (p : List UInt8) (S : Nat → Prop) (u : Option Addr) (hk : t.kind = 1 ∨ t.kind = 2) (hn : Nibs p) (hl : p.length ≤ 80) (hF : Fine t) (hA : At w t S (.pointer u)) (T : Tabs w) :
    Calls Tryd.prog 65 #[.pointer u, .string (str p)] w (Made w S (tailP t p)) := by
  cases t with
  | nil => rcases hk with h | h <;> cases h
  | unread _ => rcases hk with h | h <;> cases h
  | branch _ _ _ => rcases hk with h | h <;> cases h
  | leaf h q v =>
    obtain ⟨b, hu, hs, B⟩ := hA
    cases hu
    have c0 : w.cell? ⟨b, 0, none⟩ = some (.int .i64 1) := B.c0
    have c3 : w.cell? ⟨b, 3, none⟩ = some (.string (str v)) := B.c3
    have HL : Hid (Calls Tryd.prog 54 #[.string (str p), .string (str v)] w (Made w S (mkLeaf p v))) :=
      (newLeaf_calls w p v ⟨.inl rfl, hn, hl, hF.2.2.2⟩ (codable_leaf _ _ _ hl hF.2.2.2) T).mono fun e w' h => h.mono fun x hx => hx.elim
    show Calls Tryd.prog 65 _ w (Made w S (mkLeaf p v))
    clear B hk hF hn T hl
    generalize mkLeaf p v = R at *
    generalize str p = P at *
    generalize str v = V at *
    go_enter Tryd.func65, Tryd.ntmps65
    go_wp2_with fail
    refine HL.out.mono ?_
    rintro e1 w1 ⟨u1, rfl, hA1⟩
    have HF : Hid _ := hA1
    clear hA1 HL
    go_wp2_with fail
    go_ret
    exact ⟨u1, rfl, HF.out⟩
  | ext h q k =>
    obtain ⟨b, kp, S1, hu, hs, B, hsub, hK⟩ := hA
    cases hu
    obtain ⟨uk, rfl⟩ := hK.ptr
    have c0 : w.cell? ⟨b, 0, none⟩ = some (.int .i64 2) := B.c0
    have c4 : w.cell? ⟨b, 4, none⟩ = some (.pointer uk) := B.c4
    have HL : Hid (Calls Tryd.prog 66 #[.string (str p), .pointer uk] w (Made w S (joinP p k))) :=
      (join_calls w p k S1 uk hn (by rw [forked_path hF.2.2.2.1]; exact hl) (forked_some hF.2.2.2.1) hF.2.2.2.2 hK T).mono fun e w' h => h.mono fun x hx => (hsub x hx).1
    show Calls Tryd.prog 65 _ w (Made w S (joinP p k))
    clear B hk hF hn T hl hK hsub
    generalize joinP p k = R at *
    generalize str p = P at *
    go_enter Tryd.func65, Tryd.ntmps65
    go_wp2_with fail
    refine HL.out.mono ?_
    rintro e1 w1 ⟨u1, rfl, hA1⟩
    have HF : Hid _ := hA1
    clear hA1 HL
    go_wp2_with fail
    go_ret
    exact ⟨u1, rfl, HF.out⟩
end Go.Proofs.YtenmjjpkbcogbaaDoor

/- TnN -/
namespace Go.Proofs.YtenmjjpkbcogbaaDoor
open Go.RowKit

def updK (ks : Nat → Nd) (d : Nat) (k : Nd) : Nat → Nd := fun i => if i = d then k else ks i
def updS (Ss : Nat → Nat → Prop) (d : Nat) (F : Nat → Prop) : Nat → Nat → Prop := fun i => if i = d then F else Ss i
theorem updK_same (ks : Nat → Nd) (d : Nat) (k : Nd) : updK ks d k d = k := by simp [updK]
theorem updK_other (ks : Nat → Nd) (d : Nat) (k : Nd) (i : Nat) (h : i ≠ d) : updK ks d k i = ks i := by simp [updK, h]

/-- One of sixteen trees is another. -/
theorem Kids.put {w w' : World} {ks : Nat → Nd} {S : Nat → Prop} {u : Nat → Option Addr} {Ss : Nat → Nat → Prop} (h : Kids w ks S u Ss) (hw : ∀ x, S x → x < w.heap.size → w'.heap[x]? = w.heap[x]?)
    (d : Nat) (k : Nd) (x : Option Addr) (F : Nat → Prop) (hk : At w' k F (.pointer x)) (hF : ∀ y, F y → S y ∧ ∀ i, i < 16 → i ≠ d → ¬ Ss i y) : Kids w' (updK ks d k) S (updU u d x) (updS Ss d F) := by
  refine ⟨fun i hi => ?_, fun i y hi hy => ?_, fun i j y hi hj h1 h2 => ?_⟩
  · by_cases e : i = d
    · subst e; simp only [updK, updU, updS, if_true]; exact hk
    · simp only [updK, updU, updS, e, if_false]; exact (h.at_ i hi).kept fun y hy => hw y (h.sub i y hi hy)
  · by_cases e : i = d
    · subst e; simp only [updS, if_true] at hy; exact (hF y hy).1
    · simp only [updS, e, if_false] at hy; exact h.sub i y hi hy
  · by_cases e : i = d
    · by_cases e2 : j = d
      · omega
      · subst e; simp only [updS, if_true, e2, if_false] at h1 h2; exact ((hF y h1).2 j hj e2 h2).elim
    · by_cases e2 : j = d
      · subst e2; simp only [updS, if_true, e, if_false] at h1 h2; exact ((hF y h2).2 i hi e h1).elim
      · simp only [updS, e, e2, if_false] at h1 h2; exact h.dis i j y hi hj h1 h2
theorem Kids.cut {w : World} {ks : Nat → Nd} {S : Nat → Prop} {u : Nat → Option Addr} {Ss : Nat → Nat → Prop} (h : Kids w ks S u Ss) : Kids w ks S u (fun i x => Ss i x ∧ x < w.heap.size) :=
  ⟨fun i hi => (h.at_ i hi).cut, fun i x hi hx => h.sub i x hi hx.1, fun i j x hi hj h1 h2 => h.dis i j x hi hj h1.1 h2.1⟩
theorem Kids.none (w : World) (S : Nat → Prop) : Kids w (fun _ => .nil) S (fun _ => none) (fun _ _ => False) := ⟨fun _ _ => rfl, fun _ _ _ h => h.elim, fun _ _ _ _ _ h => h.elim⟩
theorem Kids.mono {w : World} {ks : Nat → Nd} {S S' : Nat → Prop} {u : Nat → Option Addr} {Ss : Nat → Nat → Prop} (h : Kids w ks S u Ss) (hs : ∀ x, S x → S' x) : Kids w ks S' u Ss :=
  ⟨h.at_, fun i x hi hx => hs x (h.sub i x hi hx), h.dis⟩
theorem Kids.kept {w w' : World} {ks : Nat → Nd} {S : Nat → Prop} {u : Nat → Option Addr} {Ss : Nat → Nat → Prop} (h : Kids w ks S u Ss) (hw : ∀ x, S x → x < w.heap.size → w'.heap[x]? = w.heap[x]?) : Kids w' ks S u Ss :=
  ⟨fun i hi => (h.at_ i hi).kept fun y hy => hw y (h.sub i y hi hy), h.sub, h.dis⟩

/-- The children of the branch at which a node's path and another part: first its own. -/
def splitA (n : Nd) (s : Nat) : Nat → Nd := if s < n.path.length then updK (fun _ => .nil) (n.path.getD s 0).toNat (tailP n (n.path.drop (s + 1))) else fun _ => .nil
def splitK (n : Nd) (path v : List UInt8) (s : Nat) : Nat → Nd := if s < path.length then updK (splitA n s) (path.getD s 0).toNat (mkLeaf (path.drop (s + 1)) v) else splitA n s
def splitO (n : Nd) (path v : List UInt8) (s : Nat) : List UInt8 := if s < path.length then (if s < n.path.length then [] else n.value) else v
def splitP (n : Nd) (path v : List UInt8) (s : Nat) : Nd := joinP (path.take s) (mkBranch (splitK n path v s) (splitO n path v s))

theorem str_take (r : List UInt8) (n : Nat) : (str r).extract 0 n = str (r.take n) := by
  apply Go.WideShapes.bytes_inj
  rw [Lib.extract_data, str_list, str_list]; simp
theorem nibs_drop {a : List UInt8} (h : Nibs a) (n : Nat) : Nibs (a.drop n) := fun x hx => h x (List.mem_of_mem_drop hx)
theorem nibs_take {a : List UInt8} (h : Nibs a) (n : Nat) : Nibs (a.take n) := fun x hx => h x (List.mem_of_mem_take hx)
theorem nibs_at {a : List UInt8} (h : Nibs a) (n : Nat) : (a.getD n 0).toNat < 16 := by
  by_cases hn : n < a.length
  · rw [List.getD_eq_getElem?_getD, List.getElem?_eq_getElem hn]; exact h _ (List.getElem_mem hn)
  · rw [List.getD_eq_getElem?_getD, List.getElem?_eq_none (by omega)]; decide
theorem str_at (r : List UInt8) (n : Nat) (h : n < (str r).size) : (str r)[n] = r.getD n 0 := by
  have hl : n < r.length := by rw [str_size] at h; exact h
  rw [List.getD_eq_getElem?_getD, List.getElem?_eq_getElem hl]; rfl
theorem and15_nib (c : UInt8) (h : c.toNat < 16) : bits .and .u8 (c.toNat : Int) 15 = (c.toNat : Int) := by
  have ha := and15 c
  have hlo : lo c = c := by apply u8_ext; rw [lo_nat]; omega
  rw [hlo] at ha; exact ha

theorem fine_splitK {n : Nd} {path v : List UInt8} {s : Nat} (hk : n.kind = 1 ∨ n.kind = 2) (hn : Nibs path) (hl : path.length ≤ 80) (hv : v.length ≤ 160) (hF : Fine n) (hq : Nibs n.path) (hql : n.path.length ≤ 80) : ∀ i, Fine (splitK n path v s i) := by
  have hA : ∀ i, Fine (splitA n s i) := fun i => by
    unfold splitA
    split
    · unfold updK
      split
      · exact fine_tail hk (nibs_drop hq _) (by rw [List.length_drop]; omega) hF
      · trivial
    · trivial
  intro i
  unfold splitK
  split
  · unfold updK
    split
    · exact fine_leaf (nibs_drop hn _) (by rw [List.length_drop]; omega) hv
    · exact hA i
  · exact hA i
theorem Fine.value_len {n : Nd} (hF : Fine n) : n.value.length ≤ 160 := by
  cases n with
  | nil => exact Nat.zero_le _
  | unread _ => exact Nat.zero_le _
  | leaf _ _ _ => exact hF.2.2.2
  | ext _ _ _ => exact Nat.zero_le _
  | branch _ _ _ => exact hF.2.1
theorem splitO_len {n : Nd} {path v : List UInt8} {s : Nat} (hv : v.length ≤ 160) (hF : Fine n) : (splitO n path v s).length ≤ 160 := by
  unfold splitO
  split
  · split
    · exact Nat.zero_le _
    · exact hF.value_len
  · exact hv
theorem fine_split {n : Nd} {path v : List UInt8} {s : Nat} (hk : n.kind = 1 ∨ n.kind = 2) (hn : Nibs path) (hl : path.length ≤ 80) (hv : v.length ≤ 160) (hF : Fine n) (hq : Nibs n.path) (hql : n.path.length ≤ 80) : Fine (splitP n path v s) :=
  fine_join (nibs_take hn s) (by show (path.take s).length + 0 ≤ 80; rw [List.length_take]; omega) trivial (fine_branch (splitO_len hv hF) fun i _ => fine_splitK hk hn hl hv hF hq hql i)
end Go.Proofs.YtenmjjpkbcogbaaDoor
