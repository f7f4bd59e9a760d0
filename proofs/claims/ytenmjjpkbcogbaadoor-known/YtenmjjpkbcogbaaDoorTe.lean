import Derived.Test.YtenmjjpkbcogbaaDoorTd
import Derived.Test.YtenmjjpkbcogbaaDoorTnU
import Derived.Test.YtenmjjpkbcogbaaDoorTa

/- TnV -/
namespace Go.Proofs.YtenmjjpkbcogbaaDoor
open Go.RowKit

theorem with_all : ∀ t : Nd, WithSaid t := by
  intro t
  induction t with
  | nil => exact with_nil
  | unread h => intro w S u p v _ _ ho; exact ho.elim
  | leaf h q x => exact with_leaf h q x
  | ext h q k ih => exact with_ext h q k ih
  | branch h x ks ih => exact with_branch h x ks fun w S u p v => bw_calls h x ks (fun i _ => ih i) w S u p v

/-- The root of the empty map. -/
def emptyR : List UInt8 := hashL [128]
theorem empty_calls (w : World) (T : Tabs w) : Calls Tryd.prog 40 #[] w fun e w' => e = .returned (.string (str emptyR)) ∧ Below w.heap.size w w' := by
  have HS : Hid (Calls Tryd.prog 14 #[.string ⟨#[128]⟩] w fun e w' => e = .returned (.string (str emptyR)) ∧ Below w.heap.size w w') := by
    have := sum_calls ⟨#[128]⟩ (by decide) w T
    show Calls Tryd.prog 14 _ w _
    unfold emptyR
    rw [str_hashL]; exact this
  clear T
  generalize str emptyR = R at *
  go_enter Tryd.func40, Tryd.ntmps40
  go_wp2_with fail
  refine HS.out.mono ?_
  rintro e w1 ⟨rfl, hb⟩
  have HB : Hid (Below w.heap.size w w1) := hb
  clear hb HS
  go_wp2_with fail
  go_ret
  exact ⟨rfl, HB.out⟩

/-- The root of a map by its uppermost node. -/
def rootP : Nd → List UInt8
  | .nil => emptyR
  | t => if t.hash = [] then hashL t.code else t.hash
theorem rootP_some {t : Nd} (h : t.some) : rootP t = if t.hash = [] then hashL t.code else t.hash := by cases t <;> first | exact h.elim | rfl

theorem root_calls (w : World) (t : Nd) (S : Nat → Prop) (u : Option Addr) (hA : At w t S (.pointer u)) (hF : Fine t) (T : Tabs w) :
    Calls Tryd.prog 34 #[.pointer u] w fun e w' => e = .returned (.string (str (rootP t))) ∧ Below w.heap.size w w' := by
  by_cases hs : t.some
  · rw [rootP_some hs]
    by_cases hh : t.hash = []
    · have hr : t.read := by
        cases t with
        | nil => exact hs.elim
        | unread x => have : x.length = 32 := hF; rw [show x = [] from hh] at this; cases this
        | leaf _ _ _ => trivial
        | ext _ _ _ => trivial
        | branch _ _ _ => trivial
      rw [if_pos hh]
      have hc := hF.codable hr
      have HC : Hid (Calls Tryd.prog 45 #[.pointer u] w fun e w' => e = .returned (.string (str t.code)) ∧ Below w.heap.size w w') := code_calls w t S _ hA hF.sane hr hc
      have HS : Hid (∀ W, Below w.heap.size w W → Calls Tryd.prog 14 #[.string (str t.code)] W fun e w' => e = .returned (.string (str (hashL t.code))) ∧ Below W.heap.size W w') := fun W hW => by
        have := sum_calls (str t.code) (by rw [str_size]; unfold maxLen; have := hc.2; omega) W (T.below hW)
        rw [str_hashL]; exact this
      obtain ⟨b, kid, kids, hu, _, B⟩ := hA.blk hs
      cases hu
      have c1 : w.cell? ⟨b, 1, none⟩ = some (.string ⟨#[]⟩) := by rw [B.c1, hh]; rfl
      clear hA hF T B hs hh hr hc
      generalize str t.code = C at *
      generalize str (hashL t.code) = R at *
      go_enter Tryd.func34, Tryd.ntmps34
      go_wp2_with fail
      refine HC.out.mono ?_
      rintro e w1 ⟨rfl, hb⟩
      have HSS : Hid (Calls Tryd.prog 14 #[.string C] w1 fun e w' => e = .returned (.string R) ∧ Below w1.heap.size w1 w') := HS.out w1 hb
      have HBB : Hid (Below w.heap.size w w1) := hb
      clear hb HS HC
      go_wp2_with fail
      refine HSS.out.mono ?_
      rintro e w2 ⟨rfl, hb2⟩
      have HB2 : Hid (Below w.heap.size w w2) := HBB.out.trans (hb2.mono HBB.out.size)
      clear hb2 HSS
      go_wp2_with fail
      go_ret
      exact ⟨rfl, HB2.out⟩
    · rw [if_neg hh]
      obtain ⟨b, kid, kids, hu, _, B⟩ := hA.blk hs
      cases hu
      have c1 := B.c1
      have he : (str t.hash).toList.isEmpty = false := by rw [str_eq_nil]; simp [hh]
      clear hA hF T B hs hh
      generalize str t.hash = H at *
      go_enter Tryd.func34, Tryd.ntmps34
      go_wp2_with fail
      go_ret
      exact ⟨rfl, Below.refl _ _⟩
  · cases t with
    | nil =>
      cases hA
      have HE : Hid (Calls Tryd.prog 40 #[] w fun e w' => e = .returned (.string (str (rootP .nil))) ∧ Below w.heap.size w w') := empty_calls w T
      clear T hF hs
      generalize str (rootP .nil) = R at *
      go_enter Tryd.func34, Tryd.ntmps34
      go_wp2_with fail
      refine HE.out.mono ?_
      rintro e w1 ⟨rfl, hb⟩
      have HB : Hid (Below w.heap.size w w1) := hb
      clear hb HE
      go_wp2_with fail
      go_ret
      exact ⟨rfl, HB.out⟩
    | unread _ => exact absurd trivial hs
    | leaf _ _ _ => exact absurd trivial hs
    | ext _ _ _ => exact absurd trivial hs
    | branch _ _ _ => exact absurd trivial hs

theorem named_calls (w : World) (h : List UInt8) : Calls Tryd.prog 41 #[.string (str h)] w (Made w (fun _ => False) (.unread h)) := by
  have HB : Hid (Blk (w.alloc (.cells (ncells 0 (str h) ⟨#[]⟩ ⟨#[]⟩ nilP (fun _ => nilP)) 79)) w.heap.size (.unread h) nilP (fun _ => nilP)) := made_at w _ _ _ _ _ rfl rfl
  generalize hH : str h = H at *
  go_enter Tryd.func41, Tryd.ntmps41
  go_wp2_with fail
  go_ret
  exact ⟨_, rfl, ⟨_, rfl, .inr (Nat.le_refl _), HB.out⟩, (Below.refl _ _).alloc (Nat.le_refl _) _⟩

/-- The uppermost node of the map with a root. -/
def topP (r : List UInt8) : Nd := if r = emptyR then .nil else .unread r
theorem top_calls (w : World) (r : List UInt8) (T : Tabs w) : Calls Tryd.prog 32 #[.string (str r)] w (Made w (fun _ => False) (topP r)) := by
  have HE : Hid (Calls Tryd.prog 40 #[] w fun e w' => e = .returned (.string (str emptyR)) ∧ Below w.heap.size w w') := empty_calls w T
  have hb := str_beq r emptyR
  by_cases e : r = emptyR
  · have HT : Hid (topP r = .nil) := by show _ = _; unfold topP; rw [if_pos e]
    rw [HT.out]
    rw [decide_eq_true e] at hb
    clear HT e T
    generalize str emptyR = E at *
    generalize str r = R at *
    go_enter Tryd.func32, Tryd.ntmps32
    go_wp2_with fail
    refine HE.out.mono ?_
    rintro e w1 ⟨rfl, hb1⟩
    have HB : Hid (Below w.heap.size w w1) := hb1
    clear hb1 HE
    go_wp2_with fail
    go_ret
    exact ⟨none, rfl, rfl, HB.out⟩
  · have HT : Hid (topP r = .unread r) := by show _ = _; unfold topP; rw [if_neg e]
    rw [HT.out]
    rw [decide_eq_false e] at hb
    have HN : Hid (∀ W, Below w.heap.size w W → Calls Tryd.prog 41 #[.string (str r)] W (Made w (fun _ => False) (.unread r))) := fun W hW => (named_calls W r).mono fun e w' h => h.after hW
    clear HT e T
    generalize str emptyR = E at *
    generalize hR : str r = R at *
    go_enter Tryd.func32, Tryd.ntmps32
    go_wp2_with fail
    refine HE.out.mono ?_
    rintro e w1 ⟨rfl, hb1⟩
    have HN1 : Hid (Calls Tryd.prog 41 #[.string R] w1 (Made w (fun _ => False) (.unread r))) := HN.out w1 hb1
    clear hb1 HE HN
    go_wp2_with fail
    refine HN1.out.mono ?_
    rintro e1 w2 ⟨u1, rfl, hA1⟩
    have HF3 : Hid _ := hA1
    clear hA1 HN1
    go_wp2_with fail
    go_ret
    exact ⟨u1, rfl, HF3.out⟩
end Go.Proofs.YtenmjjpkbcogbaaDoor

/- TnW -/
namespace Go.Proofs.YtenmjjpkbcogbaaDoor
open Go.RowKit

theorem sharedP_comm : ∀ a b, sharedP a b = sharedP b a
  | [], [] => rfl
  | [], _ :: _ => rfl
  | _ :: _, [] => rfl
  | x :: a, y :: b => by
    simp only [sharedP]
    by_cases e : x = y
    · rw [if_pos e, if_pos e.symm, sharedP_comm a b]
    · rw [if_neg e, if_neg (Ne.symm e)]
/-- How many nodes lie on a path's way. -/
def wayLen : Nd → List UInt8 → Nat
  | .nil, _ => 0
  | .unread _, _ => 1
  | .leaf _ _ _, _ => 1
  | .ext _ q k, p => if sharedP q p = q.length then 1 + wayLen k (p.drop q.length) else 1
  | .branch _ _ ks, p => match p with
    | [] => 1
    | c :: r => 1 + wayLen (ks c.toNat) r
/-- The value at a path. -/
def findP : Nd → List UInt8 → List UInt8
  | .nil, _ => []
  | .unread _, _ => []
  | .leaf h q v, p => (Nd.leaf h q v).at p
  | .ext _ q k, p => if sharedP q p = q.length then findP k (p.drop q.length) else []
  | .branch _ v ks, p => match p with
    | [] => v
    | c :: r => findP (ks c.toNat) r

structure NextOf (w : World) (S : Nat → Prop) (t : Nd) (r : List UInt8) (d : Nat) (k : Nd) (u : Option Addr) (r' : List UInt8) (d' : Nat) (S' : Nat → Prop) : Prop where
  at_ : At w k S' (.pointer u)
  sub : ∀ x, S' x → S x
  opened : Opened k r'
  fine : Fine k
  nibs : Nibs r'
  deep : d' + r'.length ≤ 80
  less : wayLen k r' < wayLen t r
  last : k = .nil → t.at r = findP t r
  more : k ≠ .nil → findP k r' = findP t r

def NextSaid (W : World) (S : Nat → Prop) (t : Nd) (r : List UInt8) (d : Nat) (e : Ending) (w' : World) : Prop :=
  ∃ k u r' d' bl' S', e = .returned (wayV (.pointer u) (str r') d' bl') ∧ NextOf W S t r d k u r' d' S' ∧ Below W.heap.size W w'

theorem next_end (W : World) (S : Nat → Prop) (t : Nd) (r : List UInt8) (d : Nat) (h1 : wayLen t r = 1) (h2 : t.at r = findP t r) : NextOf W S t r d .nil none [] 0 (fun _ => False) :=
  ⟨rfl, fun _ h => h.elim, trivial, trivial, fun _ h => (List.not_mem_nil h).elim, by decide, by rw [h1]; exact Nat.zero_lt_one, fun _ => h2, fun h => (h rfl).elim⟩

theorem next_all (W : World) (S : Nat → Prop) (t : Nd) (b : Nat) (r : List UInt8) (d : Nat) (bl : Bool) (hA : At W t S (.pointer (some ⟨b, 0, none⟩))) (hF : Fine t) (ho : Opened t r) (hn : Nibs r) (hd : d + r.length ≤ 80) (hs : t.some) :
    Calls Tryd.prog 53 #[wayV (.pointer (some ⟨b, 0, none⟩)) (str r) d bl] W (NextSaid W S t r d) := by
  cases t with
  | nil => exact hs.elim
  | unread _ => exact ho.elim
  | leaf h q v =>
    obtain ⟨b', hu, _, B⟩ := hA
    cases hu
    exact (next_leaf b h q v _ _ r (by have := hF.2.2.1; omega) d bl W B).mono fun e w' ⟨h1, h2⟩ => ⟨_, _, _, _, _, _, h1, next_end W S _ r d rfl rfl, h2⟩
  | ext h q k =>
    obtain ⟨b', kp, S1, hu, _, B, hsub, hK⟩ := hA
    cases hu
    obtain ⟨uk, rfl⟩ := hK.ptr
    have hql := hF.2.2.1
    by_cases e : sharedP q r = q.length
    · have e' : sharedP r q = q.length := by rw [sharedP_comm]; exact e
      have hle := (sharedP_le q r).2
      rw [e] at hle
      refine (next_ext b h q k uk _ r (by omega) (by omega) e' d (by omega) bl W B).mono fun en w' ⟨h1, h2⟩ => ⟨k, uk, r.drop q.length, d + q.length, true, S1, h1, ⟨hK, fun x hx => (hsub x hx).1, ho e, hF.2.2.2.2, nibs_drop hn _, by rw [List.length_drop]; omega, ?_, ?_, ?_⟩, h2⟩
      · simp only [wayLen, if_pos e]; omega
      · intro hk; have := hF.2.2.2.1; rw [hk] at this; exact this.elim
      · intro _; simp only [findP, if_pos e]
    · have e' : sharedP r q ≠ q.length := by rw [sharedP_comm]; exact e
      exact (next_extEnd b h q k _ _ r (by omega) (by omega) e' d bl W B).mono fun en w' ⟨h1, h2⟩ => ⟨_, _, _, _, _, _, h1, next_end W S _ r d (by simp only [wayLen, if_neg e]) (by simp only [findP, if_neg e]; rfl), h2⟩
  | branch h v ks =>
    cases r with
    | nil =>
      obtain ⟨b', kps, Ss, hu, _, B, _⟩ := hA
      cases hu
      exact (next_branchEnd b h v ks _ _ d bl W B).mono fun en w' ⟨h1, h2⟩ => ⟨_, _, _, _, _, _, h1, next_end W S _ [] d rfl (by simp [Nd.at, findP, Nd.kind, Nd.path, Nd.value]), h2⟩
    | cons c r =>
      obtain ⟨b', U, Ss, hu, _, B, hK⟩ := hA.kids
      cases hu
      have hc : c.toNat < 16 := hn c (List.mem_cons_self ..)
      have hl : r.length + 1 + d ≤ 80 := by simp at hd; omega
      refine (next_branch b h v ks _ _ c r hc (U c.toNat) rfl (by omega) d (by omega) bl W B).mono fun en w' ⟨h1, h2⟩ => ⟨ks c.toNat, U c.toNat, r, d + 1, false, Ss c.toNat, h1, ⟨hK.at_ _ hc, fun x hx => (hK.sub _ x hc hx).1, ho, hF.2.2 _ hc, fun y hy => hn y (List.mem_cons_of_mem _ hy), by omega, ?_, ?_, ?_⟩, h2⟩
      · simp only [wayLen]; omega
      · intro hk; simp [Nd.at, findP, Nd.path, hk]
      · intro _; rfl

theorem read_open (w : World) (tb b : Nat) (t : Nd) (kid : Value) (kids : Nat → Value) (d : Nat) (bl : Bool) (B : Blk w b t kid kids) (hr : t.read) :
    Calls Tryd.prog 52 #[.pointer (some ⟨tb, 0, none⟩), .pointer (some ⟨b, 0, none⟩), .int .i64 (d : Int), .bool bl] w fun e w' => e = .returned (.int .i64 0) ∧ w' = w := by
  have c0 := B.c0
  have hk : ((t.kind : Int) != 0) = true := by cases t <;> first | exact hr.elim | rfl
  clear B hr
  generalize t.kind = K at *
  go_enter Tryd.func52, Tryd.ntmps52
  go_wp2_with fail
  go_ret
  exact ⟨rfl, rfl⟩
end Go.Proofs.YtenmjjpkbcogbaaDoor

/- TnX -/
namespace Go.Proofs.YtenmjjpkbcogbaaDoor
open Go.RowKit

/-- A place on a way lies at block g. -/
def WayAt (w : World) (g : Nat) (u : Option Addr) (r : ByteArray) (d : Nat) (bl : Bool) : Prop := w.heap[g]? = some (.cells #[.pointer u, .string r, .int .i64 (d : Int), .bool bl] 73 (0, 0))
namespace WayAt
variable {w : World} {g : Nat} {u : Option Addr} {r : ByteArray} {d : Nat} {bl : Bool}
theorem lt (h : WayAt w g u r d bl) : g < w.heap.size := (Array.getElem?_eq_some_iff.1 h).1
theorem cells (h : WayAt w g u r d bl) : w.cell? ⟨g, 0, none⟩ = some (.pointer u) ∧ w.cell? ⟨g, 1, none⟩ = some (.string r) ∧ w.cell? ⟨g, 2, none⟩ = some (.int .i64 (d : Int)) ∧ w.cell? ⟨g, 3, none⟩ = some (.bool bl) :=
  ⟨by rw [cell_of_row w g 0 _ _ _ h]; rfl, by rw [cell_of_row w g 1 _ _ _ h]; rfl, by rw [cell_of_row w g 2 _ _ _ h]; rfl, by rw [cell_of_row w g 3 _ _ _ h]; rfl⟩
theorem free (h : WayAt w g u r d bl) : w.frozen? ⟨g, 0, none⟩ = false ∧ w.frozen? ⟨g, 1, none⟩ = false ∧ w.frozen? ⟨g, 2, none⟩ = false ∧ w.frozen? ⟨g, 3, none⟩ = false := by
  have hh : w.heap[g]? = _ := h
  refine ⟨?_, ?_, ?_, ?_⟩ <;> simp [World.frozen?, hh]
theorem set (h : WayAt w g u r d bl) (u' : Option Addr) (r' : ByteArray) (d' : Nat) (bl' : Bool) : WayAt ((((w.setCell ⟨g, 0, none⟩ (.pointer u')).setCell ⟨g, 1, none⟩ (.string r')).setCell ⟨g, 2, none⟩ (.int .i64 (d' : Int))).setCell ⟨g, 3, none⟩ (.bool bl')) g u' r' d' bl' := by
  have h1 := heap_setCell_same w g 0 _ _ (.pointer u') h
  have h2 := heap_setCell_same _ g 1 _ _ (.string r') h1
  have h3 := heap_setCell_same _ g 2 _ _ (.int .i64 (d' : Int)) h2
  exact heap_setCell_same _ g 3 _ _ (.bool bl') h3
theorem other (h : WayAt w g u r d bl) (g' : Nat) (hne : g ≠ g') (a b c e : Value) : WayAt ((((w.setCell ⟨g', 0, none⟩ a).setCell ⟨g', 1, none⟩ b).setCell ⟨g', 2, none⟩ c).setCell ⟨g', 3, none⟩ e) g u r d bl := by
  unfold WayAt
  rw [heap_setCell_other _ _ _ _ hne, heap_setCell_other _ _ _ _ hne, heap_setCell_other _ _ _ _ hne, heap_setCell_other _ _ _ _ hne]; exact h
theorem kept {w' : World} (h : WayAt w g u r d bl) (k : w'.heap[g]? = w.heap[g]?) : WayAt w' g u r d bl := k.trans h
end WayAt

/-- What the last place of a way tells. -/
def LastIs (w : World) (n : Nat) (u : Option Addr) (r V : List UInt8) : Prop := (u = none ∧ V = []) ∨ ∃ b t kid kids, u = some ⟨b, 0, none⟩ ∧ b < n ∧ Blk w b t kid kids ∧ t.at r = V

structure Walks (w : World) (ga gl gr : Nat) (V : List UInt8) (g : Nat) (wr : World) (t : Nd) (S : Nat → Prop) (u : Option Addr) (r : List UInt8) (d : Nat) (bl : Bool) (ul : Option Addr) (rl : List UInt8) (dl : Nat) (bll : Bool) : Prop where
  here : WayAt wr ga u (str r) d bl
  last : WayAt wr gl ul (str rl) dl bll
  res : WayAt wr gr none ⟨#[]⟩ 0 false
  at_ : At w t S (.pointer u)
  sub : ∀ x, S x → x < w.heap.size
  opened : Opened t r
  fine : Fine t
  nibs : Nibs r
  deep : d + r.length ≤ 80
  more : t ≠ .nil → findP t r = V
  done : t = .nil → LastIs w w.heap.size ul rl V
  len : g = wayLen t r
  bel : Below w.heap.size w wr

set_option maxRecDepth 100000 in
set_option maxHeartbeats 400000 in
theorem walk_open (w : World) (tb : Nat) (st : Option Addr) (u : Option Addr) (t : Nd) (S : Nat → Prop) (key : ByteArray) (hk : key.size ≤ 40) (hA : At w t S (.pointer u)) (hF : Fine t) (ho : Opened t (halvesU key.data.toList))
    (hT : w.heap[tb]? = some (.cells #[.pointer st, .pointer u] 64 (0, 0))) :
    Calls Tryd.prog 42 #[.pointer (some ⟨tb, 0, none⟩), .string key] w fun e w' => ∃ ul rl dl bl, e = .returned (.tuple #[wayV (.pointer ul) (str rl) dl bl, .int .i64 0]) ∧ LastIs w w.heap.size ul rl (findP t (halvesU key.data.toList)) ∧ Below w.heap.size w w' := by
  have t1 : w.cell? ⟨tb, 1, none⟩ = some (.pointer u) := by rw [cell_of_row w tb 1 _ _ _ hT]; rfl
  have hlt : tb < w.heap.size := (Array.getElem?_eq_some_iff.1 hT).1
  have HS : Hid (∀ W : World, Calls Tryd.prog 51 #[.pointer u, .string key] W fun e w' => e = .returned (wayV (.pointer u) (str (halvesU key.data.toList)) 0 false) ∧ Below W.heap.size W w') := fun W => start_calls u key (by omega) W
  have HA : Hid (At w t (fun x => S x ∧ x < w.heap.size) (.pointer u)) := hA.cut
  have HF : Hid (Fine t) := hF
  have HOP : Hid (Opened t (halvesU key.data.toList)) := ho
  have HL : Hid ((halvesU key.data.toList).length ≤ 80) := by show _ ≤ 80; rw [halvesU_length]; have : key.data.toList.length = key.size := (by simp); omega
  have HN : Hid (Nibs (halvesU key.data.toList)) := halvesU_nibs _
  obtain ⟨V, hV⟩ : ∃ V, V = findP t (halvesU key.data.toList) := ⟨_, rfl⟩
  rw [← hV]
  have HV : Hid (V = findP t (halvesU key.data.toList)) := hV
  clear hT hk hA hF ho hV
  generalize halvesU key.data.toList = K0 at *
  unfold wayV at *
  go_enter Tryd.func42, Tryd.ntmps42
  go_wp2_with fail
  refine (HS.out _).mono ?_
  rintro e w1 ⟨rfl, hb⟩
  obtain ⟨⟨c0, c1, c2, c3⟩, ⟨f0, f1, f2, f3⟩, hbw⟩ := wres hb
  have hz1 : w.heap.size < w1.heap.size := by have := hb.size; simp at this; omega
  have hres1 : WayAt w1 w.heap.size none ⟨#[]⟩ 0 false := (hb.block _ (by simp)).trans (heap_alloc_new _ _)
  have HB1 : Hid (Below w.heap.size w w1) := hbw
  have HR1 : Hid (WayAt w1 w.heap.size none ⟨#[]⟩ 0 false) := hres1
  clear hb hbw hres1 HS c0 c1 c2 c3 f0 f1 f2 f3 t1
  go_wp2_with fail
  go_loopg [8] (wayLen t K0) (fun g ee wr => ∃ tc Sc uc r d bl ul rl dl bll, Walks w w1.heap.size (w1.heap.size + 1) w.heap.size V g wr tc Sc uc r d bl ul rl dl bll)
  case atStart =>
    refine ⟨t, _, u, K0, 0, false, u, K0, 0, false, ⟨?_, ?_, ?_, HA.out, fun x hx => hx.2, HOP.out, HF.out, HN.out, by have := HL.out; omega, fun _ => HV.out.symm, fun h => .inl ?_, rfl, ?_⟩⟩
    · unfold WayAt; rw [Below.heap_alloc _ _ _ (by simp)]; exact heap_alloc_new _ _
    · exact alloc_at _ _ _ (by simp)
    · unfold WayAt; rw [Below.heap_alloc _ _ _ (by simp; omega), Below.heap_alloc _ _ _ hz1]; exact HR1.out
    · subst h; have h1 : Value.pointer u = .pointer none := HA.out; cases h1; exact ⟨rfl, HV.out⟩
    · exact (HB1.out.alloc (by omega) _).alloc (by simp; omega) _
  case round =>
    obtain ⟨tc, Sc, uc, r, d, bl, ul, rl, dl, bll, hw⟩ := hrel
    have HW : Hid (Walks w w1.heap.size (w1.heap.size + 1) w.heap.size V gk wr tc Sc uc r d bl ul rl dl bll) := hw
    obtain ⟨a0, a1, a2, a3⟩ := hw.here.cells
    obtain ⟨fa0, fa1, fa2, fa3⟩ := hw.here.free
    obtain ⟨b0, b1, b2, b3⟩ := hw.last.cells
    obtain ⟨fb0, fb1, fb2, fb3⟩ := hw.last.free
    have hga := hw.here.lt
    have hgl := hw.last.lt
    have hn1 : w1.heap.size ≠ w.heap.size := by omega
    have hn2 : w1.heap.size + 1 ≠ w.heap.size := by omega
    by_cases hs : tc.some
    · obtain ⟨b, kid, kids, hu, hsb, B⟩ := hw.at_.blk hs
      cases hu
      have hr : tc.read := by
        have := hw.opened
        cases tc <;> first | exact hs.elim | exact this.elim | trivial
      have hbl : b < w.heap.size := B.lt
      have hbk : ∀ W : World, Below w.heap.size w W → Blk W b tc kid kids := fun W hW => (hW.block b hbl).trans B
      have HRD : Hid (∀ W, Below w.heap.size w W → Calls Tryd.prog 52 #[.pointer (some ⟨tb, 0, none⟩), .pointer (some ⟨b, 0, none⟩), .int .i64 (d : Int), .bool bl] W fun e w' => e = .returned (.int .i64 0) ∧ w' = W) := fun W hW => read_open W tb b tc kid kids d bl (hbk W hW) hr
      have HNX : Hid (∀ W, Below w.heap.size w W → Calls Tryd.prog 53 #[.agg #[.pointer (some ⟨b, 0, none⟩), .string (str r), .int .i64 (d : Int), .bool bl]] W (NextSaid W Sc tc r d)) := fun W hW => next_all W Sc tc b r d bl (hw.at_.below hW) hw.fine hw.opened hw.nibs hw.deep hs
      have HBK : Hid (Blk w b tc kid kids ∧ b < w.heap.size) := ⟨B, hbl⟩
      have HBE : Hid (Below w.heap.size w wr) := hw.bel
      clear hw hr hsb hbk B
      go_wp2_with fail
      refine (HRD.out _ HBE.out).mono ?_
      rintro e w2 ⟨rfl, rfl⟩
      clear HRD
      go_wp2_with fail
      obtain ⟨W3, hW3⟩ : ∃ W3, W3 = ((((w2.setCell ⟨w1.heap.size + 1, 0, none⟩ (.pointer (some ⟨b, 0, none⟩))).setCell ⟨w1.heap.size + 1, 1, none⟩ (.string (str r))).setCell ⟨w1.heap.size + 1, 2, none⟩ (.int .i64 (d : Int))).setCell ⟨w1.heap.size + 1, 3, none⟩ (.bool bl)) := ⟨_, rfl⟩
      have hB3 : Below w.heap.size w W3 := by rw [hW3]; exact below_sets HBE.out (by omega) _ _ _ _
      have hh3 : WayAt W3 w1.heap.size (some ⟨b, 0, none⟩) (str r) d bl := by rw [hW3]; exact HW.out.here.other _ (by omega) _ _ _ _
      have hl3 : WayAt W3 (w1.heap.size + 1) (some ⟨b, 0, none⟩) (str r) d bl := by rw [hW3]; exact HW.out.last.set _ _ _ _
      have hr3 : WayAt W3 w.heap.size none ⟨#[]⟩ 0 false := by rw [hW3]; exact HW.out.res.other _ (by omega) _ _ _ _
      rw [← hW3]
      refine (HNX.out _ hB3).mono ?_
      rintro e w4 ⟨k, uk, r', d', bl', S', rfl, hN, hB4⟩
      have hh4 : WayAt w4 w1.heap.size (some ⟨b, 0, none⟩) (str r) d bl := hh3.kept (hB4.block _ hh3.lt)
      have hl4 : WayAt w4 (w1.heap.size + 1) (some ⟨b, 0, none⟩) (str r) d bl := hl3.kept (hB4.block _ hl3.lt)
      have hr4 : WayAt w4 w.heap.size none ⟨#[]⟩ 0 false := hr3.kept (hB4.block _ hr3.lt)
      have hbw4 : Below w.heap.size w w4 := hB3.trans (hB4.mono hB3.size)
      have hAk : At w k S' (.pointer uk) := hN.at_.kept fun x hx _ => (hB3.block x (HW.out.sub x (hN.sub x hx))).symm
      have hV2 := HW.out.more (by intro e; rw [e] at hs; exact hs)
      have HX : Hid (∀ W5, WayAt W5 w1.heap.size uk (str r') d' bl' → WayAt W5 (w1.heap.size + 1) (some ⟨b, 0, none⟩) (str r) d bl → WayAt W5 w.heap.size none ⟨#[]⟩ 0 false → Below w.heap.size w W5 →
          Walks w w1.heap.size (w1.heap.size + 1) w.heap.size V (wayLen k r') W5 k S' uk r' d' bl' (some ⟨b, 0, none⟩) r d bl) := fun W5 p1 p2 p3 p4 =>
        ⟨p1, p2, p3, hAk, fun x hx => HW.out.sub x (hN.sub x hx), hN.opened, hN.fine, hN.nibs, hN.deep, fun hk => (hN.more hk).trans hV2, fun hk => .inr ⟨b, tc, kid, kids, rfl, hbl, HBK.out.1, (hN.last hk).trans hV2⟩, rfl, p4⟩
      have HLE : Hid (wayLen k r' < gk) := by show _ < _; rw [HW.out.len]; exact hN.less
      have H4 : Hid (WayAt w4 w1.heap.size (some ⟨b, 0, none⟩) (str r) d bl ∧ WayAt w4 (w1.heap.size + 1) (some ⟨b, 0, none⟩) (str r) d bl ∧ WayAt w4 w.heap.size none ⟨#[]⟩ 0 false ∧ Below w.heap.size w w4) := ⟨hh4, hl4, hr4, hbw4⟩
      obtain ⟨x0, x1, x2, x3⟩ := hh4.cells
      obtain ⟨y0, y1, y2, y3⟩ := hh4.free
      unfold wayV
      clear hN hB4 hB3 hh3 hl3 hr3 hh4 hl4 hr4 hbw4 hAk hV2 hW3 HNX HBK HBE HW a0 a1 a2 a3 fa0 fa1 fa2 fa3 b0 b1 b2 b3 fb0 fb1 fb2 fb3 hga hgl
      go_wp2_with fail
      go_roundg (wayLen k r')
      case measure => exact HLE.out
      case rel =>
        obtain ⟨q1, q2, q3, q4⟩ := H4.out
        exact ⟨k, S', uk, r', d', bl', some ⟨b, 0, none⟩, r, d, bl, HX.out _ (q1.set _ _ _ _) (q2.other _ (by omega) _ _ _ _) (q3.other _ (by omega) _ _ _ _) (below_sets q4 (by omega) _ _ _ _)⟩
    · have hnil : tc = .nil := by cases tc <;> first | rfl | exact absurd trivial hs
      subst hnil
      have hu : Value.pointer uc = .pointer none := hw.at_
      cases hu
      obtain ⟨r0, r1, r2, r3⟩ := hw.res.cells
      obtain ⟨fr0, fr1, fr2, fr3⟩ := hw.res.free
      have HD : Hid (LastIs w w.heap.size ul rl V) := hw.done rfl
      have HBE : Hid (Below w.heap.size w wr) := hw.bel
      clear hw HW
      go_wp2_with fail
      refine bodyPost_ret (v := .tuple #[wayV (.pointer ul) (str rl) dl bll, .int .i64 0]) (by simp [results, Tryd.results42, go_sem, wayV, r0, r1, r2, r3]) rfl ⟨ul, rl, dl, bll, rfl, HD.out, ?_⟩
      exact below_sets HBE.out (Nat.le_refl _) _ _ _ _
end Go.Proofs.YtenmjjpkbcogbaaDoor

/- TnY -/
namespace Go.Proofs.YtenmjjpkbcogbaaDoor
open Go.RowKit

/-- A map's own block. -/
def TrieAt (w : World) (tb : Nat) (st u : Option Addr) : Prop := w.heap[tb]? = some (.cells #[.pointer st, .pointer u] 64 (0, 0))
namespace TrieAt
variable {w : World} {tb : Nat} {st u : Option Addr}
theorem lt (h : TrieAt w tb st u) : tb < w.heap.size := (Array.getElem?_eq_some_iff.1 h).1
theorem c0 (h : TrieAt w tb st u) : w.cell? ⟨tb, 0, none⟩ = some (.pointer st) := by rw [cell_of_row w tb 0 _ _ _ h]; rfl
theorem c1 (h : TrieAt w tb st u) : w.cell? ⟨tb, 1, none⟩ = some (.pointer u) := by rw [cell_of_row w tb 1 _ _ _ h]; rfl
theorem free (h : TrieAt w tb st u) (o : Nat) : w.frozen? ⟨tb, o, none⟩ = false := by simp [World.frozen?, show w.heap[tb]? = _ from h]
theorem kept {w' : World} (h : TrieAt w tb st u) (k : w'.heap[tb]? = w.heap[tb]?) : TrieAt w' tb st u := k.trans h
theorem set (h : TrieAt w tb st u) (u' : Option Addr) : TrieAt (w.setCell ⟨tb, 1, none⟩ (.pointer u')) tb st u' := heap_setCell_same w tb 1 _ _ (.pointer u') h
end TrieAt

def keyP (k : ByteArray) : List UInt8 := halvesU k.data.toList
theorem keyP_len (k : ByteArray) : (keyP k).length = 2 * k.size := by unfold keyP; rw [halvesU_length]; simp
theorem keyP_nibs (k : ByteArray) : Nibs (keyP k) := halvesU_nibs _

set_option maxRecDepth 100000 in
set_option maxHeartbeats 400000 in
theorem put_open (w : World) (tb : Nat) (st u : Option Addr) (t : Nd) (S : Nat → Prop) (key value : ByteArray) (hT : TrieAt w tb st u) (hA : At w t S (.pointer u)) (hF : Fine t) (ho : Opened t (keyP key)) (hk : key.size ≤ 40) (hv : value.size ≤ 160) (hv0 : 0 < value.size) (T : Tabs w) :
    Calls Tryd.prog 33 #[.pointer (some ⟨tb, 0, none⟩), .string key, .string value] w fun e w' => ∃ u', e = .returned (.tuple #[.pointer u', .int .i64 0]) ∧ At w' (withP t (keyP key) value.data.toList) (fun x => S x ∨ w.heap.size ≤ x) (.pointer u') ∧ Below w.heap.size w w' := by
  have HWK : Hid (Calls Tryd.prog 42 #[.pointer (some ⟨tb, 0, none⟩), .string key] w fun e w' => ∃ ul rl dl bl, e = .returned (.tuple #[wayV (.pointer ul) (str rl) dl bl, .int .i64 0]) ∧ Below w.heap.size w w') :=
    (walk_open w tb st u t S key hk hA hF ho hT).mono fun e w' ⟨ul, rl, dl, bl, h1, _, h3⟩ => ⟨ul, rl, dl, bl, h1, h3⟩
  have HPO : Hid (∀ W : World, Calls Tryd.prog 44 #[.string key] W fun e w' => e = .returned (.string (str (keyP key))) ∧ Below W.heap.size W w') := fun W => pathOf_calls key (by omega) W
  have HWT : Hid (∀ W, Below w.heap.size w W → Calls Tryd.prog 43 #[.pointer u, .string (str (keyP key)), .string value] W (Made w S (withP t (keyP key) value.data.toList))) := fun W hW => by
    have := with_all t W S u (keyP key) value.data.toList (hA.below hW) hF ho (keyP_nibs key) (by rw [keyP_len]; omega) (by simpa using hv) (T.below hW)
    rw [str_data] at this
    exact this.mono fun e w' h => h.after hW
  have t1 := hT.c1
  have hlt := hT.lt
  have hk1 : decide ((40 : Int) < (key.size : Int)) = false := by simp; omega
  have hv1 : decide ((160 : Int) < (value.size : Int)) = false := by simp; omega
  have he : value.toList.isEmpty = false := by rw [isEmpty_not]; omega
  clear hT hA hF ho T hk hv
  generalize withP t (keyP key) value.data.toList = R at *
  generalize str (keyP key) = P at *
  unfold wayV at HWK
  go_enter Tryd.func33, Tryd.ntmps33
  go_wp2_with fail
  refine HWK.out.mono ?_
  rintro e w1 ⟨ul, rl, dl, bl, rfl, hb⟩
  have HB : Hid (Below w.heap.size w w1) := hb
  have d1 := (hb.cell (p := ⟨tb, 1, none⟩) hlt).trans t1
  clear hb HWK t1
  go_wp2_with fail
  obtain ⟨W1, hW1⟩ : ∃ W1, W1 = w1.alloc (.cells #[.pointer ul, .string (str rl), .int .i64 (dl : Int), .bool bl] 73) := ⟨_, rfl⟩
  have hb1 : Below w.heap.size w W1 := by rw [hW1]; exact HB.out.alloc HB.out.size _
  have c1 : W1.cell? ⟨tb, 1, none⟩ = some (.pointer u) := by rw [hW1, World.cell?_alloc_lt _ _ _ (Nat.lt_of_lt_of_le hlt HB.out.size)]; exact d1
  have hlt1 : tb < W1.heap.size := Nat.lt_of_lt_of_le hlt hb1.size
  have HB1 : Hid (Below w.heap.size w W1) := hb1
  rw [← hW1]
  clear hW1 hb1 HB d1
  go_region_with (first | (go_at_call 44; refine (HPO.out _).mono ?_; rintro e2 w2 ⟨rfl, hb2⟩; have c2 : w2.cell? ⟨tb, 1, none⟩ = some (.pointer u) := (hb2.cell (p := ⟨tb, 1, none⟩) hlt1).trans c1; have HB2 : Hid (Below w.heap.size w w2) := HB1.out.drew.trans (hb2.mono HB1.out.size); clear hb2) | (go_at_call 43; refine (HWT.out _ HB2.out).mono ?_; rintro e3 w3 ⟨u3, rfl, hA3⟩; have HF3 : Hid _ := hA3; clear hA3))
  all_goals
    go_wp2_with fail
    go_ret2
    exact ⟨u3, rfl, HF3.out⟩

theorem Put_open (w : World) (tb : Nat) (st u : Option Addr) (t : Nd) (S : Nat → Prop) (key value : ByteArray) (hT : TrieAt w tb st u) (hA : At w t S (.pointer u)) (hF : Fine t) (ho : Opened t (keyP key)) (hk : key.size ≤ 40) (hv : value.size ≤ 160) (hv0 : 0 < value.size) (T : Tabs w) (hS : ¬ S tb) :
    Calls Tryd.prog 24 #[.pointer (some ⟨tb, 0, none⟩), .string key, .string value] w fun e w' => e = .returned (.int .i64 0) ∧ ∃ u', TrieAt w' tb st u' ∧ At w' (withP t (keyP key) value.data.toList) (fun x => (S x ∨ w.heap.size ≤ x) ∧ x ≠ tb) (.pointer u') ∧ Kept tb w w' := by
  have HP : Hid (Calls Tryd.prog 33 #[.pointer (some ⟨tb, 0, none⟩), .string key, .string value] w fun e w' => ∃ u', e = .returned (.tuple #[.pointer u', .int .i64 0]) ∧ At w' (withP t (keyP key) value.data.toList) (fun x => S x ∨ w.heap.size ≤ x) (.pointer u') ∧ Below w.heap.size w w') := put_open w tb st u t S key value hT hA hF ho hk hv hv0 T
  have HT : Hid (TrieAt w tb st u) := hT
  have HNS : Hid (¬ S tb) := hS
  have hlt := hT.lt
  clear hT hA hF ho T hk hv hv0 hS
  generalize withP t (keyP key) value.data.toList = R at *
  go_enter Tryd.func24, Tryd.ntmps24
  go_wp2_with fail
  refine HP.out.mono ?_
  rintro e w1 ⟨u1, rfl, hA1, hb⟩
  have hT1 : TrieAt w1 tb st u := HT.out.kept (hb.block tb hlt)
  have d1 := hT1.c1
  have f1 := hT1.free 1
  have HF : Hid (TrieAt w1 tb st u ∧ At w1 R (fun x => S x ∨ w.heap.size ≤ x) (.pointer u1) ∧ Below w.heap.size w w1) := ⟨hT1, hA1, hb⟩
  clear hA1 hb hT1 HP
  go_wp2_with fail
  go_ret
  obtain ⟨g1, g2, g3⟩ := HF.out
  have hne : ∀ x, S x ∨ w.heap.size ≤ x → x ≠ tb := fun x hx e => by
    subst e
    rcases hx with h | h
    · exact HNS.out h
    · omega
  exact ⟨rfl, u1, g1.set u1, (g2.mono fun x hx => ⟨hx, hne x hx⟩).kept fun x hx _ => heap_setCell_other _ _ _ _ hx.2, (Kept.of_below g3 tb).set 1 _⟩

theorem Open_calls (w : World) (st : Option Addr) (r : List UInt8) (hr : r.length = 32) (T : Tabs w) :
    Calls Tryd.prog 23 #[.pointer st, .string (str r)] w fun e w' => ∃ tb u, e = .returned (.tuple #[.pointer (some ⟨tb, 0, none⟩), .int .i64 0]) ∧ w.heap.size ≤ tb ∧ TrieAt w' tb st u ∧ At w' (topP r) (fun x => w.heap.size ≤ x ∧ x ≠ tb) (.pointer u) ∧ Below w.heap.size w w' := by
  have HT : Hid (∀ W, Below w.heap.size w W → Calls Tryd.prog 32 #[.string (str r)] W (Made w (fun _ => False) (topP r))) := fun W hW => (top_calls W r (T.below hW)).mono fun e w' h => h.after hW
  have h32 : (((str r).size : Int) != 32) = false := by rw [str_size, hr]; rfl
  clear T hr
  generalize topP r = R at *
  generalize str r = RS at *
  go_enter Tryd.func23, Tryd.ntmps23
  go_wp2_with fail
  refine (HT.out w (Below.refl _ _)).mono ?_
  rintro e w1 ⟨u1, rfl, hA1, hb⟩
  have HF : Hid (At w1 R (fun x => w.heap.size ≤ x ∧ x < w1.heap.size) (.pointer u1) ∧ Below w.heap.size w w1) := ⟨hA1.cut.mono fun x hx => ⟨hx.1.elim (fun h => h.elim) id, hx.2⟩, hb⟩
  clear hA1 hb HT
  go_wp2_with fail
  go_ret2
  obtain ⟨g1, g2⟩ := HF.out
  exact ⟨w1.heap.size, u1, rfl, g2.size, heap_alloc_new _ _, (g1.mono fun x hx => ⟨hx.1, by omega⟩).below ((Below.refl _ _).alloc (Nat.le_refl _) _), g2.alloc g2.size _⟩

theorem Root_calls (w : World) (tb : Nat) (st u : Option Addr) (t : Nd) (S : Nat → Prop) (hT : TrieAt w tb st u) (hA : At w t S (.pointer u)) (hF : Fine t) (T : Tabs w) :
    Calls Tryd.prog 25 #[.pointer (some ⟨tb, 0, none⟩)] w fun e w' => e = .returned (.string (str (rootP t))) ∧ Below w.heap.size w w' := by
  have HR : Hid (Calls Tryd.prog 34 #[.pointer u] w fun e w' => e = .returned (.string (str (rootP t))) ∧ Below w.heap.size w w') := root_calls w t S u hA hF T
  have t1 := hT.c1
  clear hT hA hF T
  generalize str (rootP t) = R at *
  go_enter Tryd.func25, Tryd.ntmps25
  go_wp2_with fail
  refine HR.out.mono ?_
  rintro e w1 ⟨rfl, hb⟩
  have HB : Hid (Below w.heap.size w w1) := hb
  clear hb HR
  go_wp2_with fail
  go_ret
  exact ⟨rfl, HB.out⟩
end Go.Proofs.YtenmjjpkbcogbaaDoor
