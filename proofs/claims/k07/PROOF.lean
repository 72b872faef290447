import PyProof.Rows.All
import Wide.All
import OpenK.AllK
import Wide.FinOn
import HandS.ForMost
import HandS.IsInst
import HandS.TupAny
import HandS.TupMul
import HandS.Style
import HandS.Zip
import KE.GoesEnum
import KE.KRevSl
import HandS.Conv
import HandS.Dict
import HandS.SortKw
import HandS.SetFor
import HandS.More
import HandS.NoneIn
import HandS.Deep
import HandS.Exc
import HandS.ExcOwn
import HandS.ExcInit
import HandS.ExcField
import HandS.WordsExc
import HandS.ExcIs
import KE.KExcIs
import HandS.DictComp
import HandS.ListItems
import KE.KSortTupAny
import HandS.Keys
import HandS.SortInts
import HandS.SlotsOwn
import HandS.ExcValue
import KE.GoesZip
import KE.GoesMore
import KE.SortData
import KE.KDictZip
import KE.DatumOrd
import HandS.TryOnly
import KE.KDictPairs
import KE.KIndexOf
import PySem.Challenge.RW_allbide_k07_refusals_of_nets
set_option Elab.async false
set_option linter.all false
set_option maxRecDepth 100000
set_option maxHeartbeats 8000000
namespace GR
section
variable {X : Type} (sv ev : X → Nat) (wv : X → Int) (es : List X)
def wlen (p : List X) : Int := (p.map wv).sum
def IsW : Nat → Nat → List X → Prop
  | i, j, [] => i = j
  | i, j, x :: p => x ∈ es ∧ sv x = i ∧ IsW (ev x) j p
variable {sv ev wv es}
theorem wlen_nil : wlen wv ([] : List X) = 0 := rfl
theorem wlen_cons (x : X) (p : List X) : wlen wv (x :: p) = wv x + wlen wv p := by unfold wlen; rw [List.map_cons, List.sum_cons]
theorem wlen_append : ∀ (p q : List X), wlen wv (p ++ q) = wlen wv p + wlen wv q
  | [], q => by rw [List.nil_append, wlen_nil]; omega
  | x :: p, q => by rw [List.cons_append, wlen_cons, wlen_cons, wlen_append p q]; omega
theorem wlen_one (x : X) : wlen wv [x] = wv x := by rw [wlen_cons, wlen_nil]; omega
theorem isW_append : ∀ {p q : List X} {i j : Nat}, IsW sv ev es i j (p ++ q) ↔ ∃ m, IsW sv ev es i m p ∧ IsW sv ev es m j q
  | [], q, i, j => ⟨fun h => ⟨i, rfl, h⟩, fun ⟨m, h1, h2⟩ => by cases (show i = m from h1); exact h2⟩
  | x :: p, q, i, j => by
    constructor
    · intro ⟨h1, h2, h3⟩
      obtain ⟨m, h4, h5⟩ := isW_append.mp h3
      exact ⟨m, ⟨h1, h2, h4⟩, h5⟩
    · intro ⟨m, ⟨h1, h2, h3⟩, h4⟩
      exact ⟨h1, h2, isW_append.mpr ⟨m, h3, h4⟩⟩
theorem isW_one {x : X} (h : x ∈ es) : IsW sv ev es (sv x) (ev x) [x] := ⟨h, rfl, rfl⟩
/-! ### the vertices of a walk, and a round in a long one -/
def vx (ev : X → Nat) (i : Nat) (p : List X) : List Nat := i :: p.map ev
/-! ### no round below 0 -/
variable (sv ev wv es) in
def NoNeg : Prop := ∀ (i : Nat) (p : List X), IsW sv ev es i i p → 0 ≤ wlen wv p
/-! ### the least length of the walks from i to j -/
variable (sv ev wv es) in
/-- o is the least length of a walk from i to j, none if there is no walk -/
structure Dst (i j : Nat) (o : Option Int) : Prop where
  ex : ∀ L, o = some L → ∃ p, IsW sv ev es i j p ∧ wlen wv p = L
  le : ∀ p, IsW sv ev es i j p → ∃ L, o = some L ∧ L ≤ wlen wv p
/-! options as numbers with infinity -/
def omin : Option Int → Option Int → Option Int
  | none, b => b
  | some a, none => some a
  | some a, some b => some (if b < a then b else a)
def oadd : Option Int → Option Int → Option Int
  | some a, some b => some (a + b)
  | _, _ => none
/-- a is at most b -/
def ole : Option Int → Option Int → Prop
  | _, none => True
  | none, some _ => False
  | some a, some b => a ≤ b
theorem ole_refl (a : Option Int) : ole a a := by cases a <;> simp [ole]
theorem ole_trans {a b c : Option Int} (h : ole a b) (h' : ole b c) : ole a c := by
  cases a <;> cases b <;> cases c <;> simp_all [ole]; omega
theorem omin_cases (a b : Option Int) : omin a b = a ∨ omin a b = b := by
  cases a <;> cases b <;> simp [omin]; omega
theorem oadd_mono {a b c d : Option Int} (h1 : ole a b) (h2 : ole c d) : ole (oadd a c) (oadd b d) := by
  cases a <;> cases b <;> cases c <;> cases d <;> simp_all [ole, oadd]; omega
theorem Dst.ole {i j : Nat} {o : Option Int} (h : Dst sv ev wv es i j o) {p : List X} (hp : IsW sv ev es i j p) : ole o (some (wlen wv p)) := by
  obtain ⟨L, rfl, hl⟩ := h.le p hp
  exact hl
theorem Dst.self {i : Nat} (hz : NoNeg sv ev wv es) : Dst sv ev wv es i i (some 0) :=
  ⟨fun L e => by cases e; exact ⟨[], rfl, rfl⟩, fun p h => ⟨0, rfl, hz i p h⟩⟩
/-! ### a fold with what is done -/
theorem foldl_inv {α β : Type} {f : β → α → β} (P : List α → β → Prop) : ∀ {l : List α} {b : β}, P [] b → (∀ pre x c, x ∈ l → P pre c → P (pre ++ [x]) (f c x)) → P l (l.foldl f b) := by
  intro l b h0 hs
  have key : ∀ (r pre : List α) (c : β), (∀ x ∈ r, x ∈ l) → P pre c → P (pre ++ r) (r.foldl f c) := by
    intro r
    induction r with
    | nil => intro pre c _ h; rw [List.append_nil]; exact h
    | cons x r ih =>
      intro pre c hr h
      rw [List.foldl_cons]
      have := ih (pre ++ [x]) (f c x) (fun y hy => hr y (List.mem_cons_of_mem _ hy)) (hs pre x c (hr x List.mem_cons_self) h)
      rw [List.append_assoc] at this
      exact this
  have := key l [] b (fun _ h => h) h0
  rwa [List.nil_append] at this
/-! ### the table over each third one -/
abbrev Tb := Nat → Nat → Option Int
def upd2 (T : Tb) (i j : Nat) (o : Option Int) : Tb := fun a b => if a = i ∧ b = j then o else T a b
def fwCell (k : Nat) (T : Tb) (ij : Nat × Nat) : Tb := upd2 T ij.1 ij.2 (omin (T ij.1 ij.2) (oadd (T ij.1 k) (T k ij.2)))
def prs (n : Nat) : List (Nat × Nat) := (List.range n).flatMap fun i => (List.range n).map fun j => (i, j)
def fwSt (n : Nat) (T : Tb) (k : Nat) : Tb := (prs n).foldl (fwCell k) T
def fw (n : Nat) (T : Tb) : Tb := (List.range n).foldl (fwSt n) T
variable (sv ev wv es) in
def Sound (T : Tb) : Prop := ∀ i j L, T i j = some L → ∃ p, IsW sv ev es i j p ∧ wlen wv p = L
theorem Sound.upd {T : Tb} (h : Sound sv ev wv es T) {i j : Nat} {o : Option Int} (ho : ∀ L, o = some L → ∃ p, IsW sv ev es i j p ∧ wlen wv p = L) : Sound sv ev wv es (upd2 T i j o) := by
  intro a b L e
  unfold upd2 at e
  split at e
  · rename_i hab; obtain ⟨rfl, rfl⟩ := hab; exact ho L e
  · exact h a b L e
theorem Sound.add {T : Tb} (h : Sound sv ev wv es T) {i j k : Nat} {L : Int} (e : oadd (T i k) (T k j) = some L) : ∃ p, IsW sv ev es i j p ∧ wlen wv p = L := by
  cases e1 : T i k with
  | none => rw [e1] at e; cases e
  | some a =>
    cases e2 : T k j with
    | none => rw [e1, e2] at e; cases e
    | some b =>
      rw [e1, e2] at e
      cases e
      obtain ⟨p, p1, p2⟩ := h i k a e1
      obtain ⟨q, q1, q2⟩ := h k j b e2
      exact ⟨p ++ q, isW_append.mpr ⟨k, p1, q1⟩, by rw [wlen_append, p2, q2]⟩
theorem Sound.cell {T : Tb} (h : Sound sv ev wv es T) (k : Nat) (ij : Nat × Nat) : Sound sv ev wv es (fwCell k T ij) := by
  refine h.upd fun L e => ?_
  rcases omin_cases (T ij.1 ij.2) (oadd (T ij.1 k) (T k ij.2)) with z | z
  · rw [z] at e; exact h _ _ _ e
  · rw [z] at e; exact h.add e
theorem Sound.fw {T : Tb} (h : Sound sv ev wv es T) (n : Nat) : Sound sv ev wv es (GR.fw n T) := by
  unfold GR.fw
  refine foldl_inv (P := fun _ R => Sound sv ev wv es R) h fun _ k c _ hc => ?_
  unfold fwSt
  exact foldl_inv (P := fun _ R => Sound sv ev wv es R) hc fun _ x c _ h => h.cell k x
/-! ### tables of walks: one edge more, again and again -/
abbrev Wt (X : Type) := Nat → Option (List X)
def upd1 (R : Wt X) (j : Nat) (o : Option (List X)) : Wt X := fun b => if b = j then o else R b
variable (sv ev wv) in
def bfOne (row : Wt X) (R : Wt X) (x : X) : Wt X := match row (sv x) with
  | none => R
  | some p => (match R (ev x) with
    | none => upd1 R (ev x) (some (p ++ [x]))
    | some q => if wlen wv p + wv x < wlen wv q then upd1 R (ev x) (some (p ++ [x])) else R)
variable (wv) in
def oL (o : Option (List X)) : Option Int := o.map (wlen wv)
theorem bfOne_n {row R : Wt X} {x : X} (h : row (sv x) = none) : bfOne sv ev wv row R x = R := by unfold bfOne; rw [h]
theorem bfOne_a {row R : Wt X} {x : X} {p : List X} (h : row (sv x) = some p) (h2 : R (ev x) = none) : bfOne sv ev wv row R x = upd1 R (ev x) (some (p ++ [x])) := by unfold bfOne; rw [h]; dsimp only; rw [h2]
theorem bfOne_b {row R : Wt X} {x : X} {p q : List X} (h : row (sv x) = some p) (h2 : R (ev x) = some q) : bfOne sv ev wv row R x = if wlen wv p + wv x < wlen wv q then upd1 R (ev x) (some (p ++ [x])) else R := by unfold bfOne; rw [h]; dsimp only; rw [h2]
theorem bfOne_c {row R : Wt X} {x : X} {p : List X} (h : row (sv x) = some p) : (bfOne sv ev wv row R x = upd1 R (ev x) (some (p ++ [x])) ∧ ole (some (wlen wv p + wv x)) (oL wv (R (ev x)))) ∨ (bfOne sv ev wv row R x = R ∧ ole (oL wv (R (ev x))) (some (wlen wv p + wv x))) := by
  cases h2 : R (ev x) with
  | none => exact .inl ⟨bfOne_a h h2, True.intro⟩
  | some q =>
    rw [bfOne_b h h2]
    by_cases c : wlen wv p + wv x < wlen wv q
    · rw [if_pos c]; exact .inl ⟨rfl, Int.le_of_lt c⟩
    · rw [if_neg c]; exact .inr ⟨rfl, Int.not_lt.mp c⟩
theorem bfOne_le (row R : Wt X) (x : X) (j : Nat) : ole (oL wv (bfOne sv ev wv row R x j)) (oL wv (R j)) := by
  cases h : row (sv x) with
  | none => rw [bfOne_n h]; exact ole_refl _
  | some p =>
    rcases bfOne_c (ev := ev) (wv := wv) (R := R) h with ⟨e, l⟩ | ⟨e, l⟩
    · rw [e]
      unfold upd1
      split
      · rename_i z; subst z
        show ole (some (wlen wv (p ++ [x]))) _
        rw [wlen_append, wlen_one]; exact l
      · exact ole_refl _
    · rw [e]; exact ole_refl _
theorem bfOne_at (row R : Wt X) (x : X) : ole (oL wv (bfOne sv ev wv row R x (ev x))) (oadd (oL wv (row (sv x))) (some (wv x))) := by
  cases h : row (sv x) with
  | none => simp [oL, oadd, ole]
  | some p =>
    rcases bfOne_c (ev := ev) (wv := wv) (R := R) h with ⟨e, l⟩ | ⟨e, l⟩
    · rw [e]
      unfold upd1
      rw [if_pos rfl]
      show ole (some (wlen wv (p ++ [x]))) _
      rw [wlen_append, wlen_one]; exact ole_refl _
    · rw [e]; exact l
variable (sv ev wv es) in
def bfRow (row : Wt X) : Wt X := es.foldl (bfOne sv ev wv row) row
theorem bfRow_le (row : Wt X) (j : Nat) : ole (oL wv (bfRow sv ev wv es row j)) (oL wv (row j)) :=
  foldl_inv (f := bfOne sv ev wv row) (l := es) (b := row) (P := fun _ (R : Wt X) => ole (oL wv (R j)) (oL wv (row j))) (ole_refl _) fun _ x c _ h => ole_trans (bfOne_le row c x j) h
theorem bfRow_at (row : Wt X) {x : X} (hx : x ∈ es) : ole (oL wv (bfRow sv ev wv es row (ev x))) (oadd (oL wv (row (sv x))) (some (wv x))) :=
  foldl_inv (f := bfOne sv ev wv row) (l := es) (b := row) (P := fun pre (R : Wt X) => ∀ y ∈ pre, ole (oL wv (R (ev y))) (oadd (oL wv (row (sv y))) (some (wv y)))) (fun y hy => absurd hy List.not_mem_nil) (fun pre x c _ h y hy => by
    rcases List.mem_append.mp hy with hy | hy
    · exact ole_trans (bfOne_le row c x _) (h y hy)
    · obtain rfl := List.mem_singleton.mp hy
      exact bfOne_at row c y) x hx
theorem bfRow_from (row : Wt X) {j : Nat} {q : List X} (h : bfRow sv ev wv es row j = some q) : row j = some q ∨ ∃ x ∈ es, ∃ p, row (sv x) = some p ∧ ev x = j ∧ q = p ++ [x] := by
  refine foldl_inv (f := bfOne sv ev wv row) (l := es) (b := row) (P := fun _ R => ∀ j q, R j = some q → row j = some q ∨ ∃ x ∈ es, ∃ p, row (sv x) = some p ∧ ev x = j ∧ q = p ++ [x]) (fun _ _ h => .inl h) (fun pre x c hx ih j q h => ?_) j q h
  cases hp : row (sv x) with
  | none => rw [bfOne_n hp] at h; exact ih j q h
  | some p =>
    rcases bfOne_c (ev := ev) (wv := wv) (R := c) hp with ⟨e, _⟩ | ⟨e, _⟩
    · rw [e] at h
      unfold upd1 at h
      split at h
      · rename_i e; cases h; exact .inr ⟨x, hx, p, hp, e.symm, rfl⟩
      · exact ih j q h
    · rw [e] at h; exact ih j q h
variable (sv ev wv es) in
/-- a row of the walks from i with at most k edges -/
structure Kd (k i : Nat) (row : Wt X) : Prop where
  ok : ∀ j q, row j = some q → IsW sv ev es i j q ∧ q.length ≤ k
  le : ∀ j p, IsW sv ev es i j p → p.length ≤ k → ole (oL wv (row j)) (some (wlen wv p))
theorem Kd.zero (i : Nat) : Kd sv ev wv es 0 i (fun j => if i = j then some [] else none) := by
  refine ⟨fun j q h => ?_, fun j p h hl => ?_⟩
  · split at h
    · rename_i e; cases h; exact ⟨e, Nat.le_refl _⟩
    · cases h
  · match p, h, hl with
    | [], h, _ =>
      have e : i = j := h
      rw [if_pos e]
      exact Int.le_refl _
theorem Kd.succ {k i : Nat} {row : Wt X} (h : Kd sv ev wv es k i row) : Kd sv ev wv es (k + 1) i (bfRow sv ev wv es row) := by
  refine ⟨fun j q hq => ?_, fun j p hp hl => ?_⟩
  · rcases bfRow_from row hq with hq | ⟨x, hx, p, h1, rfl, rfl⟩
    · have := h.ok j q hq
      exact ⟨this.1, by omega⟩
    · have := h.ok _ p h1
      exact ⟨isW_append.mpr ⟨_, this.1, isW_one hx⟩, by rw [List.length_append]; simpa using this.2⟩
  · rcases List.eq_nil_or_concat p with rfl | ⟨p, x, rfl⟩
    · exact ole_trans (bfRow_le row j) (h.le j [] hp (Nat.zero_le _))
    · rw [List.concat_eq_append] at hp hl ⊢
      obtain ⟨m, h1, h2, h3, h4⟩ := isW_append.mp hp
      subst h3
      have h4 : ev x = j := h4
      subst h4
      rw [List.length_append] at hl
      have := h.le _ p h1 (by simp at hl; omega)
      rw [wlen_append, wlen_one]
      exact ole_trans (bfRow_at row h2) (oadd_mono this (ole_refl (some (wv x))))
end
end GR
namespace Z2
open PySem PySem.Spec PyProof.Rows L2
def PlT (H : Hp) (a : Addr) (xs : List V) : Prop := ∃ o : Obj, H a = some (.frz o (.tup xs)) ∧ o.cls = .type "tuple" ∧ o.dict = none
theorem PlT.sqt {K : PySem.W.Frag} {H : Hp} {a : Addr} {xs : List V} (h : PlT H a xs) : SqT K H a xs := let ⟨o, ho, _⟩ := h; .inl (.inr ⟨o, ho⟩)
theorem PlT.mono {H H' : Hp} {a : Addr} {xs : List V} (e : ∀ a o, H a = some o → H' a = some o) (h : PlT H a xs) : PlT H' a xs := let ⟨o, ho, r⟩ := h; ⟨o, e _ _ ho, r⟩
/-- the plain tuple's object -/
def tO (us : List Value) : Obj := { cls := .type "tuple", data := .seq us.toArray }
/-- a new plain tuple at p -/
def NewT (H : Hp) (xs : List V) (Q : VK) : Prop := ∀ (p : Addr) (o : Obj), o.cls = .type "tuple" → o.dict = none → H p = none → Q (.ref p) (upd H p (.frz o (.tup xs)))
theorem PlT.new {H : Hp} {p : Addr} {o : Obj} {xs : List V} (hc : o.cls = .type "tuple") (hd : o.dict = none) : PlT (upd H p (.frz o (.tup xs))) p xs := ⟨o, upd_same, hc, hd⟩
section
variable {X : Cx} {pins : List (Addr × Obj)} {σ : L2.St} {H : Hp} {s : Shared} {Q : VK}
/-- laying one -/
theorem lay_tuple {xs : List V} {us : List Value} (I : Inv X pins σ H s) (r : Vals xs us) (hz : xs.length ≤ sizeLine) (q : NewT H xs Q) : EP X pins σ Q (.ref s.heap.objs.size) { s with heap := s.heap.push (tO us) } := by
  have g : (s.heap.push (tO us)).get? s.heap.objs.size = some (tO us) := Heap.get?_push_size _ rfl
  have ok : ObjOk X.prog X.w (upd H s.heap.objs.size (.frz (tO us) (.tup xs))) (s.heap.push (tO us)) s.heap.objs.size (.frz (tO us) (.tup xs)) :=
    ⟨g, hz, us, r, ⟨_, g, rfl, _, rfl⟩⟩
  have I2 := I.laid (t' := s.toks) (fun b o e => Heap.get?_push_of_some _ e) (Nat.le_refl s.heap.objs.size) ok
  exact ⟨.ref s.heap.objs.size, _, I2, rfl, q _ _ rfl rfl (I.hok.fresh (Nat.le_refl _))⟩
end
section
variable {X : Cx} {es : List Expr} {t : TA} {pos : Pos}
def tTupF (t : TA) : TE := fun σ H Q => t σ H fun xs H1 => xs.length ≤ sizeLine ∧ NewT H1 xs Q
theorem pe_tupF {x1} (h : PA X es t) : PE X (.Tuple es x1 pos) (tTupF t) := by
  constructor
  intro pins s σ H Q I hq
  refine wpAny_Tuple_spliced (thn (h.run pos pins s σ H _ I hq) fun us s1 z => ?_)
  obtain ⟨xs, H1, I1, r, hz, q⟩ := z
  exact ⟨by rw [← r.length]; exact hz, lay_tuple I1 r hz q⟩
/-- t + u -/
def rCatF (K : PySem.W.Frag) : R2 := fun x y H Q => ∃ a b xs ys, x = .ref a ∧ y = .ref b ∧ SqT K H a xs ∧ SqT K H b ys ∧ xs.length + ys.length ≤ sizeLine ∧
  (xs = [] → Q (.ref b) H) ∧ (xs ≠ [] → ys = [] → Q (.ref a) H) ∧ (xs ≠ [] → ys ≠ [] → NewT H (xs ++ ys) Q)
theorem op_catF : OpR X (binaryOp .Add) (rCatF X.K) := by
  intro pins s σ H x y v u Q I rx ry h
  obtain ⟨a, b, xs, ys, rfl, rfl, ha, hb, hz, q0, q1, q2⟩ := h
  cases rx
  cases ry
  obtain ⟨its, r1, p1, _⟩ := I.tuple ha
  obtain ⟨its2, r2, p2, _⟩ := I.tuple hb
  by_cases hx : xs = []
  · subst hx
    cases r1
    exact cat_tup0 p1 p2 ⟨.ref b, H, I, rfl, q0 rfl⟩
  refine HT.cat_tup p1 p2 (fun z => hx (r1.nil_iff.mp z)) ?_ ?_ ?_
  · exact fun z => ⟨.ref a, H, I, rfl, q1 hx (r2.nil_iff.mp z)⟩
  · exact fun z => lay_tuple I (r1.append r2) (by rw [List.length_append]; exact hz) (q2 hx fun w => z (r2.nil_iff.mpr w))
  · rw [← r1.length, ← r2.length]; exact hz
/-- t[lo:hi] -/
def rSlF (K : PySem.W.Frag) : V → Option Int → Option Int → Hp → VK → Prop := fun x lo hi H Q => ∃ a xs, x = .ref a ∧ SqT K H a xs ∧
  (HT.sIx xs.length 0 lo = 0 ∧ HT.sIx xs.length xs.length hi = xs.length → Q (.ref a) H) ∧ (¬ (HT.sIx xs.length 0 lo = 0 ∧ HT.sIx xs.length xs.length hi = xs.length) → NewT H (cutV xs lo hi) Q)
theorem sl_tupF : SlR X (rSlF X.K) := by
  intro pins s σ H x v vl vu lo hi sl Q I rx hs pl pu h
  obtain ⟨a, xs, rfl, hx, q1, q2⟩ := h
  cases rx
  obtain ⟨its, r, ht, hz⟩ := I.tuple hx
  have hlen : its.toArray.size = xs.length := (by rw [List.size_toArray]; exact r.length.symm)
  refine ⟨"tuple", _, PyProof.Rows.slot_tuple_getitem.lookup, ht.typeIs, ?_⟩
  by_cases hw : HT.sIx xs.length 0 lo = 0 ∧ HT.sIx xs.length xs.length hi = xs.length
  · exact getItem_tuple_whole ht hs pl pu (by rw [hlen]; exact hw) ⟨.ref a, H, I, rfl, q1 hw⟩
  · refine HT.getItem_tuple_cut ht hs pl pu (by rw [hlen]; exact hw) ?_ (by rw [hlen]; exact hz)
    rw [hlen]
    have hc := (r.drop (HT.sIx xs.length 0 lo)).take (HT.sIx xs.length xs.length hi - HT.sIx xs.length 0 lo)
    exact lay_tuple I (xs := cutV xs lo hi) hc (Nat.le_trans (cutV_length xs lo hi) hz) (q2 hw)
/-- t * k -/
def rRepF (K : PySem.W.Frag) : R2 := fun x y H Q => ∃ l k xs, x = .ref l ∧ y = .int k ∧ SqT K H l xs ∧ xs ≠ [] ∧ 2 ≤ k ∧ k ≤ 1000 ∧ xs.length ≤ 1000 ∧ NewT H (List.replicate k.toNat xs).flatten Q
theorem op_repF : OpR X (binaryOp .Mult) (rRepF X.K) := by
  intro pins s σ H x y v u Q I rx ry h
  obtain ⟨l, k, xs, rfl, rfl, hT, hne, h1, h2, hz, q⟩ := h
  cases rx
  obtain ⟨t, rfl⟩ := ry
  obtain ⟨its, r, ⟨⟨cls, dd, data, sl⟩, ho, hc, n, hd⟩, hs⟩ := I.tuple hT
  simp only at hc hd
  subst hc hd
  have hle := r.length.symm
  have hn : its ≠ [] := fun e => hne (by rw [e] at hle; exact List.eq_nil_of_length_eq_zero hle.symm)
  have hi : its.toArray.isEmpty = false := by cases its with
    | nil => exact absurd rfl hn
    | cons a b => rfl
  have hsz0 : its.toArray.size = xs.length := by rw [List.size_toArray, hle]
  have hlow : k.toNat * xs.length ≤ 1000 * 1000 := Nat.mul_le_mul (by omega) hz
  have hm : ((its.toArray.size : Nat) : Int) * k ≤ 1000000 := by
    have a1 : ((xs.length : Nat) : Int) * k ≤ 1000 * k := Int.mul_le_mul_of_nonneg_right (by omega) (by omega)
    rw [hsz0]; omega
  have hln : (List.replicate k.toNat xs).flatten.length ≤ sizeLine := by rw [lm_len_rep_flat, sizeLine_eq]; omega
  have c0 : (decide (k < -(2 ^ 63)) || decide (k ≥ 2 ^ 63)) = false := by rw [decide_eq_false (by omega), decide_eq_false (by omega)] <;> rfl
  have c1 : (its.toArray.isEmpty || k == 1) = false := (by rw [hi, Bool.false_or]; exact beq_eq_false_iff_ne.mpr (by omega))
  have c2 : (decide (k ≤ 0) || its.toArray.isEmpty) = false := (by rw [hi, Bool.or_false]; exact decide_eq_false (by omega))
  have c4 : Builtin.Tuple.tupleTooMany (((its.toArray.size : Nat) : Int) * k) = false := (by unfold Builtin.Tuple.tupleTooMany; rw [sizeLine_eq]; exact decide_eq_false (by omega))
  have hsz : (List.foldl (fun x1 x2 => x1 ++ x2) #[] (List.replicate k.toNat its.toArray)).size ≤ sizeLine := by
    rw [size_rep, List.size_toArray, lm_len_rep_flat, hle, sizeLine_eq]; omega
  refine wpAny_binaryOp_repeat_ref (T := "tuple") (U := "int") (by decide) ⟨_, ho, rfl⟩ (fun s' => typeIs_int s' k t) noFill_tuple_mul F.fills_int_mul F.slot_int_rmul repeat_tuple F.slot_int_index.lookup ?_
  refine call_meets F.slot_int_rmul (typeIs_int s k t) F.entry_int_rmul (F.args_int_rmul_2 _ _) (int_rmul_tuple k t l its.toArray n dd sl) ⟨ho, rfl, ⟨_, ho, rfl⟩, ?_⟩
  refine call_meets F.slot_tuple_mul ⟨_, ho, rfl⟩ F.entry_tuple_mul (F.args_tuple_mul_2 _ _) (tuple_mulW l its.toArray n dd sl k t c0 c1 c2 (by omega) c4 hsz) ⟨ho, ?_⟩
  rw [size_rep]
  exact lay_tuple I (r.rep k.toNat) hln q
/-- tuple(xs) -/
def rTupF (K : PySem.W.Frag) : List V → Hp → VK → Prop := fun xs H Q => ∃ p ys, xs = [.ref p] ∧ ((SqL K H p ys ∧ NewT H ys Q) ∨ (SqT K H p ys ∧ Q (.ref p) H))
theorem call_tupleF : CallR X (.type "tuple") (rTupF X.K) := by
  intro pins s σ H xs us Q I r h
  obtain ⟨p, ys, rfl, h⟩ := h
  obtain ⟨u, rfl, rx⟩ := vals1 r
  cases rx
  rcases h with ⟨hq, q⟩ | ⟨hq, q⟩
  · obtain ⟨its, r', pl, hz⟩ := I.list hq
    refine call_tuple_list pl.isList (fun h' kp => ?_) (by rw [List.size_toArray, ← r'.length]; exact hz)
    exact lay_tuple (s := { s with heap := h' }) (I.kept (t' := s.toks) kp) r' hz q
  · obtain ⟨its, r', pl, hz⟩ := I.tuple hq
    exact call_tuple_same pl ⟨.ref p, H, I, rfl, q⟩
end
end Z2
namespace Z2
open PySem PySem.Spec PyProof.Rows L2
def ItzF (K : PySem.W.Frag) (a b : Addr) : It where
  go := fun i H => ∃ (xs ys : List V) (x y : V), SqT K H a xs ∧ SqT K H b ys ∧ xs[i]? = some x ∧ ys[i]? = some y
  yld := fun i H v H' => ∃ T x y o, v = .ref T ∧ o.cls = .type "tuple" ∧ o.dict = none ∧ H T = none ∧ H' = upd H T (.frz o (.tup [x, y])) ∧ (∀ xs, SqT K H a xs → xs[i]? = some x) ∧ ∀ ys, SqT K H b ys → ys[i]? = some y
  stop := fun i H => ∃ xs ys : List V, SqT K H a xs ∧ SqT K H b ys ∧ (xs.length ≤ i ∨ ys.length ≤ i)
/-- where zip stands -/
def ZSt (z TI TO i1 i2 a b : Addr) (i : Nat) (h : Heap) : Prop := IsZip h z TI TO .none ∧ IsPair h TI (.ref i1) (.ref i2) ∧ (∃ x y, IsPair h TO x y) ∧ h.IsTupleIter i1 a i ∧ h.IsTupleIter i2 b i
theorem zmem {z TI TO i1 i2 c : Addr} : c ∈ [z, TI, TO, i1, i2] ↔ (c = z ∨ c = TI ∨ c = TO ∨ c = i1 ∨ c = i2) := by simp
theorem ZSt.lt {z TI TO i1 i2 a b : Addr} {i : Nat} {h : Heap} (st : ZSt z TI TO i1 i2 a b i h) : ∀ c ∈ [z, TI, TO, i1, i2], ∃ o, h.get? c = some o ∧ ∀ v, o.data ≠ .cell v := by
  obtain ⟨hz, hTI, ⟨x, y, hTO⟩, ⟨o1, e1, _, d1⟩, ⟨o2, e2, _, d2⟩⟩ := st
  intro c hc
  rcases zmem.mp hc with q | q | q | q | q <;> subst q
  · exact ⟨_, hz, fun v q => nomatch q⟩
  · exact ⟨_, hTI, fun v q => nomatch q⟩
  · exact ⟨_, hTO, fun v q => nomatch q⟩
  · exact ⟨o1, e1, fun v q => by rw [d1] at q; cases q⟩
  · exact ⟨o2, e2, fun v q => by rw [d2] at q; cases q⟩
theorem turn_zipF {P : Program} {w : World} {K : PySem.W.Frag} {elts : List Expr} {kk : Nat} {tpos : Pos} {a b z TI TO i1 i2 : Addr} (D : ZipApart z TI TO i1 i2 a b) :
    Turn P w K (.Tuple elts kk tpos) (ItzF K a b) [z, TI, TO, i1, i2] z (ZSt z TI TO i1 i2 a b) where
  mem := List.mem_cons_self
  obj := fun i h st => st.lt
  keep := by
    rintro i h h' ⟨hz, hTI, ⟨x, y, hTO⟩, h1, h2⟩ k
    exact ⟨k z (zmem.mpr (.inl rfl)) _ hz, k TI (zmem.mpr (.inr (.inl rfl))) _ hTI, ⟨x, y, k TO (zmem.mpr (.inr (.inr (.inl rfl)))) _ hTO⟩,
      h1.at (k i1 (zmem.mpr (.inr (.inr (.inr (.inl rfl)))))), h2.at (k i2 (zmem.mpr (.inr (.inr (.inr (.inr rfl))))))⟩
  item := by
    rintro X rfl rfl rfl hc i pins s σ H E I hf st ⟨xs, ys, x, y, hqx, hqy, hx, hy⟩
    have live := st.lt
    obtain ⟨hz, hTI, ⟨x0, y0, hTO⟩, h1, h2⟩ := st
    obtain ⟨its, rv, p, _⟩ := I.tuple hqx
    obtain ⟨its2, rv2, p2, _⟩ := I.tuple hqy
    obtain ⟨u, hu, ru⟩ := rv.get hx
    obtain ⟨u2, hu2, ru2⟩ := rv2.get hy
    have hzl : z < s.heap.objs.size := Heap.lt_size hz
    have g1 : its.toArray[i]? = some u := (by simpa using hu)
    have g2 : its2.toArray[i]? = some u2 := (by simpa using hu2)
    refine RZ.pyNext_zipT_item D hz hTI hTO h1 h2 p p2 g1 g2 fun h' z' TO' h1' h2' hT hsz hk => ?_
    refine ⟨_, rfl, ?_⟩
    refine wpAny_letOwnedTupleGo_zip (s := { s with heap := h' }) z' fun h'' z'' sb => ?_
    have hT2 : h''.get? s.heap.objs.size = some (tO [u, u2]) := (sb.2 _ (Nat.ne_of_gt hzl)).trans hT
    have ok : ObjOk X.prog X.w (upd H s.heap.objs.size (.frz (tO [u, u2]) (.tup [x, y]))) h'' s.heap.objs.size (.frz (tO [u, u2]) (.tup [x, y])) :=
      ⟨hT2, by show 2 ≤ sizeLine; decide, [u, u2], .cons ru (.cons ru2 .nil), ⟨_, hT2, rfl, _, rfl⟩⟩
    have same : ∀ c o, c ∉ [z, TI, TO, i1, i2] → s.heap.get? c = some o → h''.get? c = some o := fun c o hb q => by
      have n := fun w => hb (zmem.mpr w)
      exact (sb.2 c fun w => n (.inl w)).trans (hk c o (fun w => n (.inl w)) (fun w => n (.inr (.inr (.inl w)))) (fun w => n (.inr (.inr (.inr (.inl w))))) (fun w => n (.inr (.inr (.inr (.inr w))))) q)
    have I1 := I.turnedNew (t' := s.toks) (ch := [z, TI, TO, i1, i2]) same hf (Nat.le_refl s.heap.objs.size) ok
    have y1 : ∀ l, SqT X.K H a l → l[i]? = some x := fun l hl => by rw [I.tuple_inj hl hqx]; exact hx
    have y2 : ∀ l, SqT X.K H b l → l[i]? = some y := fun l hl => by rw [I.tuple_inj hl hqy]; exact hy
    have st2 : ZSt z TI TO i1 i2 a b (i + 1) h'' := ⟨z'', (sb.2 _ D.TIz).trans (hk _ _ D.TIz D.TITO D.TIi1 D.TIi2 hTI), ⟨u, u2, (sb.2 _ D.TOz).trans TO'⟩, h1'.at (fun o q => (sb.2 _ D.i1z).trans q), h2'.at (fun o q => (sb.2 _ D.i2z).trans q)⟩
    refine ⟨.ref s.heap.objs.size, _, I1, rfl, ⟨_, x, y, tO [u, u2], rfl, rfl, rfl, I.hok.fresh (Nat.le_refl _), rfl, y1, y2⟩, st2, fun c hcm => ?_⟩
    obtain ⟨o, ho, _⟩ := live c hcm
    rw [upd_ne (Nat.ne_of_lt (Heap.lt_size ho))]
    exact (hf c hcm).1
  done := by
    rintro X rfl rfl rfl hc i pins s σ H E I hf ⟨hz, hTI, ⟨x0, y0, hTO⟩, h1, h2⟩ ⟨xs, ys, hqx, hqy, hend⟩
    obtain ⟨its, rv, p, _⟩ := I.tuple hqx
    obtain ⟨its2, rv2, p2, _⟩ := I.tuple hqy
    have l1 := rv.length
    have l2 := rv2.length
    have he : its.toArray[i]? = none ∨ its2.toArray[i]? = none := hend.elim (fun q => .inl (by simp; omega)) fun q => .inr (by simp; omega)
    refine RZ.pyNext_zipT_end (I.ok.hd hc) D hz hTI hTO h1 h2 p p2 he fun h' hk => ⟨rfl, ?_⟩
    refine I.turnedL (t' := s.toks) (ch := [z, TI, TO, i1, i2]) (fun c o hb q => ?_) hf
    have n := fun w => hb (zmem.mpr w)
    exact hk c o (fun w => n (.inl w)) (fun w => n (.inr (.inr (.inl w)))) (fun w => n (.inr (.inr (.inr (.inl w))))) (fun w => n (.inr (.inr (.inr (.inr w))))) q
  self := fun A i s Q E st h => wpAny_pyIter_zip st.1 h
def iZipF (K : PySem.W.Frag) (ta : TA) : TI := fun σ H R => ta σ H fun vs H1 => ∃ a b xs ys, vs = [.ref a, .ref b] ∧ SqT K H1 a xs ∧ SqT K H1 b ys ∧ R (ItzF K a b) H1
theorem pi_zipF {X : Cx} {e e2 : Expr} {ta : TA} {p pos tpos : Pos} {elts : List Expr} {kk : Nat} (hg : Gl X "zip") (hm : X.mg "zip" = none) (ha : PA X [e, e2] ta)
    (hs : starEach [e, e2] X.env = (false, eval e X.env) :: starEach [e2] X.env := by rfl) (hpl : (backTo pos (starEach [e2] X.env)).any (·.1) = false := by rfl) :
    PI X (.Tuple elts kk tpos) (.Call (.Name "zip" p) [e, e2] [] pos) (iZipF X.K ta) := by
  constructor
  intro pins s σ H R I h
  refine Call_ (ld_blt I hg hm PyProof.Rows.boot_zip (PyProof.Rows.callWith_type1 (thn (ha.run pos pins s σ H _ I h) fun us s1 w => ?_) hs hpl))
  obtain ⟨vs, H1, I1, r1, a, b, xs, ys, ex, hqx, hqy, q⟩ := w
  subst ex
  obtain ⟨_, _, rfl, r, r'⟩ := vals2 r1
  cases r
  cases r'
  have fp : ∀ c, c ∈ [s1.heap.objs.size + 4, s1.heap.objs.size + 2, s1.heap.objs.size + 3, s1.heap.objs.size, s1.heap.objs.size + 1] → FpOk X pins H1 c := fun c hcm => by
    have hle : s1.heap.objs.size ≤ c := (by rcases zmem.mp hcm with z | z | z | z | z <;> subst z <;> omega)
    exact I1.fpOk hle (I1.hok.fresh hle)
  obtain ⟨its, rv, p1, _⟩ := I1.tuple hqx
  obtain ⟨its2, rv2, p2, _⟩ := I1.tuple hqy
  obtain ⟨o1, ho1, _⟩ := id p1
  obtain ⟨o2, ho2, _⟩ := id p2
  refine RZ.call_zipT (show s1.heap.IsTuple a its.toArray from p1) (show s1.heap.IsTuple b its2.toArray from p2) fun h' hz hTI hTO h1 h2 hsz hk => ?_
  refine wpAny_pyIter_zip hz ?_
  have ap := PySem.W.ktu_apart s1.heap.objs.size a b (Heap.lt_size ho1) (Heap.lt_size ho2)
  exact ⟨_, _, _, _, H1, rfl, I1.kept (t' := s1.toks) hk, turn_zipF ap, ⟨hz, hTI, ⟨_, _, hTO⟩, h1, h2⟩, fp, q⟩
end Z2
namespace Z2
open PySem L2
abbrev Fg := PySem.W.Frag
abbrev D := PyData
/-- a dict whose keys are tuples of ints and texts, one's own: keys, where they lie, values -/
def dctO (w : World) (a : Addr) (xs : List (List Key × Addr × Value)) : HO := .ext fun h => (a == sysModules) = false ∧ xs.length ≤ sizeLine ∧ ∃ o es ep, h.get? a = some o ∧ o.ExactDict ∧ o.data = .dict es ep ∧
  (∀ P : Program, es.toList = xs.map (entryOfKey (tupleKind (mixKind P w)))) ∧ (xs.map (·.1)).Nodup
/-- plain values -/
inductive R0 : V → D → Prop
  | non : R0 .non .none
  | bl (b : Bool) : R0 (.bl b) (.bool b)
  | int (i : Int) : R0 (.int i) (.int i)
def kI (ns : List Int) : List Key := ns.map Sum.inl
/-- a dict whose keys are tuples of ints, with plain values, as data -/
inductive KF (K : Fg) (I : Hp) : List (List Key × Addr × Value) → List (D × D) → Prop
  | nil : KF K I [] []
  | cons {ns : List Int} {b : Addr} {u : Value} {v : V} {d : D} {xs : List (List Key × Addr × Value)} {kvs : List (D × D)} : SqT K I b (ns.map V.int) → RelV v u → R0 v d → KF K I xs kvs → KF K I ((kI ns, b, u) :: xs) ((.tuple (ns.map PyData.int), d) :: kvs)
mutual
inductive Rp (K : Fg) (I : Hp) : V → D → Prop
  | non : Rp K I .non .none
  | bl (b : Bool) : Rp K I (.bl b) (.bool b)
  | int (i : Int) : Rp K I (.int i) (.int i)
  | str (x : Str) : Rp K I (.str x) (.str x)
  | lst {a : Addr} {vs : List V} {ds : List D} : I a = some (.lst vs) → Rps K I vs ds → Rp K I (.ref a) (.list ds)
  | tup {a : Addr} {vs : List V} {ds : List D} : PlT I a vs → Rps K I vs ds → Rp K I (.ref a) (.tuple ds)
  | dic {a : Addr} {w : World} {xs : List (List Key × Addr × Value)} {kvs : List (D × D)} : I a = some (dctO w a xs) → KF K I xs kvs → Rp K I (.ref a) (.dict kvs)
inductive Rps (K : Fg) (I : Hp) : List V → List D → Prop
  | nil : Rps K I [] []
  | cons {v : V} {vs : List V} {d : D} {ds : List D} : Rp K I v d → Rps K I vs ds → Rps K I (v :: vs) (d :: ds)
end
theorem Same.sqt {K : Fg} {H H' : Hp} {a : Addr} {xs : List V} (e : Same H H') (h : SqT K H a xs) : SqT K H' a xs := by
  rcases h with (h | ⟨o, h⟩) | h
  · exact .inl (.inl (e _ _ h))
  · exact .inl (.inr ⟨o, e _ _ h⟩)
  · exact .inr h
theorem KF.mono {K : Fg} {I I' : Hp} (e : Same I I') : ∀ {xs : List (List Key × Addr × Value)} {ks : List (D × D)}, KF K I xs ks → KF K I' xs ks
  | _, _, .nil => .nil
  | _, _, .cons h1 h2 h3 t => .cons (Same.sqt e h1) h2 h3 (KF.mono e t)
section
variable {K : Fg} {I I' : Hp}
theorem R0.rp {v : V} {d : D} (h : R0 v d) : Rp K I v d := by
  cases h with
  | non => exact .non
  | bl b => exact .bl b
  | int i => exact .int i
mutual
theorem Rp.mono (e : Same I I') : ∀ (d : D) (v : V), Rp K I v d → Rp K I' v d
  | .none, _, h => by cases h; exact .non
  | .bool _, _, h => by cases h; exact .bl _
  | .int _, _, h => by cases h; exact .int _
  | .str _, _, h => by cases h; exact .str _
  | .list ds, _, h => by
    cases h with
    | lst h1 h2 => exact .lst (e _ _ h1) (Rps.mono e ds _ h2)
  | .tuple ds, _, h => by
    cases h with
    | tup h1 h2 => exact .tup (h1.mono e) (Rps.mono e ds _ h2)
  | .dict _, _, h => by
    cases h with
    | dic h1 h2 => exact .dic (e _ _ h1) (KF.mono e h2)
theorem Rps.mono (e : Same I I') : ∀ (ds : List D) (vs : List V), Rps K I vs ds → Rps K I' vs ds
  | [], _, h => by cases h; exact .nil
  | d :: ds, _, h => by
    cases h with
    | cons h1 h2 => exact .cons (Rp.mono e d _ h1) (Rps.mono e ds _ h2)
end
mutual
theorem Rp.dp {H : Hp} (e : Same I H) : ∀ (d : D) (v : V), d.canLay0 = true → Rp K I v d → Dp K H v d
  | .none, _, _, h => by cases h; exact .non
  | .bool _, _, _, h => by cases h; exact .bl _
  | .int _, _, _, h => by cases h; exact .int _
  | .str _, _, _, h => by cases h; exact .str _
  | .list ds, _, c, h => by
    cases h with
    | lst h1 h2 => exact .lst (SqL.of (e _ _ h1)) (Rps.dp e ds _ (by simpa [PyData.canLay0] using c) h2)
  | .tuple ds, _, c, h => by
    cases h with
    | tup h1 h2 => exact .tup (Same.sqt e h1.sqt) (Rps.dp e ds _ (by simpa [PyData.canLay0] using c) h2)
  | .dict _, _, c, h => by simp [PyData.canLay0] at c
theorem Rps.dp {H : Hp} (e : Same I H) : ∀ (ds : List D) (vs : List V), PyData.canLayAll0 ds = true → Rps K I vs ds → DpAll K H vs ds
  | [], _, _, h => by cases h; exact .nil
  | d :: ds, _, c, h => by
    have c : (d.canLay0 && PyData.canLayAll0 ds) = true := by simpa [PyData.canLayAll0] using c
    rw [Bool.and_eq_true] at c
    cases h with
    | cons h1 h2 => exact .cons (Rp.dp e d _ c.1 h1) (Rps.dp e ds _ c.2 h2)
end
theorem Rps.length : ∀ {vs : List V} {ds : List D}, Rps K I vs ds → vs.length = ds.length
  | _, _, .nil => rfl
  | _, _, .cons _ t => by rw [List.length_cons, List.length_cons, Rps.length t]
theorem Rps.get : ∀ {vs : List V} {ds : List D} {i : Nat} {x : V}, Rps K I vs ds → vs[i]? = some x → ∃ d, ds[i]? = some d ∧ Rp K I x d
  | _, _, _, _, .nil, e => by simp at e
  | _, _, 0, _, .cons r _, e => by simp at e; subst e; exact ⟨_, rfl, r⟩
  | _, _, i + 1, x, .cons _ t, e => by
    obtain ⟨u, h1, h2⟩ := Rps.get (i := i) (x := x) t (by simpa using e)
    exact ⟨u, by simpa using h1, h2⟩
theorem Rps.got : ∀ {vs : List V} {ds : List D} {i : Nat} {d : D}, Rps K I vs ds → ds[i]? = some d → ∃ x, vs[i]? = some x ∧ Rp K I x d
  | _, _, _, _, .nil, e => by simp at e
  | _, _, 0, _, .cons r _, e => by simp at e; subst e; exact ⟨_, rfl, r⟩
  | _, _, i + 1, x, .cons _ t, e => by
    obtain ⟨u, h1, h2⟩ := Rps.got (i := i) (d := x) t (by simpa using e)
    exact ⟨u, by simpa using h1, h2⟩
theorem Rps.append : ∀ {vs ws : List V} {ds es : List D}, Rps K I vs ds → Rps K I ws es → Rps K I (vs ++ ws) (ds ++ es)
  | _, _, _, _, .nil, s => s
  | _, _, _, _, .cons r t, s => .cons r (Rps.append t s)
theorem Rps.take : ∀ {vs : List V} {ds : List D} (n : Nat), Rps K I vs ds → Rps K I (vs.take n) (ds.take n)
  | _, _, 0, _ => .nil
  | _, _, _ + 1, .nil => .nil
  | _, _, n + 1, .cons r t => .cons r (Rps.take n t)
theorem Rps.drop : ∀ {vs : List V} {ds : List D} (n : Nat), Rps K I vs ds → Rps K I (vs.drop n) (ds.drop n)
  | _, _, 0, r => r
  | _, _, _ + 1, .nil => .nil
  | _, _, n + 1, .cons _ t => Rps.drop n t
theorem Rps.set {x : V} {d : D} (r : Rp K I x d) : ∀ {vs : List V} {ds : List D} (i : Nat), Rps K I vs ds → Rps K I (vs.set i x) (ds.set i d)
  | _, _, _, .nil => .nil
  | _, _, 0, .cons _ t => .cons r t
  | _, _, i + 1, .cons q t => .cons q (Rps.set r i t)
theorem Rps.rep {vs : List V} {ds : List D} (r : Rps K I vs ds) : ∀ n : Nat, Rps K I (List.replicate n vs).flatten (List.replicate n ds).flatten
  | 0 => .nil
  | n + 1 => by
    rw [List.replicate_succ, List.replicate_succ, List.flatten_cons, List.flatten_cons]
    exact Rps.append r (Rps.rep r n)
/-- ints as ints -/
theorem Rps.ints : ∀ {vs : List V} {ns : List Int}, Rps K I vs (ns.map PyData.int) → vs = ns.map V.int
  | _, [], h => by cases h; rfl
  | _, n :: ns, h => by
    cases h with
    | cons h1 h2 => cases h1; rw [List.map_cons, Rps.ints h2]
theorem Rps.ofInts : ∀ (ns : List Int), Rps K I (ns.map V.int) (ns.map PyData.int)
  | [] => .nil
  | n :: ns => .cons (.int n) (Rps.ofInts ns)
theorem Rps.bools : ∀ {vs : List V} {ns : List Bool}, Rps K I vs (ns.map PyData.bool) → vs = ns.map V.bl
  | _, [], h => by cases h; rfl
  | _, n :: ns, h => by
    cases h with
    | cons h1 h2 => cases h1; rw [List.map_cons, Rps.bools h2]
end
/-! ### worlds -/
structure Gr (m : Option Addr) (I H I' H' : Hp) : Prop where
  ii : Same I I'
  ih : Same I' H'
  hh : ∀ a o, H a = some o → m ≠ some a → H' a = some o
  fr : ∀ a, I a = none → H a ≠ none → I' a = none
  th : ∀ a, H a ≠ none → H' a ≠ none
/-- the draws' list at s: the numbers, the cell, the place -/
def Strm (I H : Hp) (s : Addr) : Prop := I s = none ∧ ∃ (l : Addr) (c k : Int) (ns : List Int), H s = some (.lst [.ref l, .int c, .int k]) ∧ I l = some (.lst (ns.map V.int)) ∧ 0 ≤ k
inductive KD (K : Fg) (I : Hp) : List (List Key × Addr × Value) → List (List Key × D) → Prop
  | nil : KD K I [] []
  | cons {k : List Key} {b : Addr} {u : Value} {v : V} {d : D} {xs : List (List Key × Addr × Value)} {ks : List (List Key × D)} : SqT K I b (k.map kV) → RelV v u → Rp K I v d → KD K I xs ks → KD K I ((k, b, u) :: xs) ((k, d) :: ks)
theorem KD.mono {K : Fg} {I I' : Hp} (e : Same I I') : ∀ {xs : List (List Key × Addr × Value)} {ks : List (List Key × D)}, KD K I xs ks → KD K I' xs ks
  | _, _, .nil => .nil
  | _, _, .cons h1 h2 h3 t => .cons (Same.sqt e h1) h2 (Rp.mono e _ _ h3) (KD.mono e t)
/-- a dict of one's own whose keys are ints -/
inductive KDI (K : Fg) (I : Hp) : List (Key × V) → List (Int × D) → Prop
  | nil : KDI K I [] []
  | cons {i : Int} {v : V} {d : D} {xs : List (Key × V)} {ks : List (Int × D)} : Rp K I v d → KDI K I xs ks → KDI K I ((.inl i, v) :: xs) ((i, d) :: ks)
theorem KDI.mono {K : Fg} {I I' : Hp} (e : Same I I') : ∀ {xs : List (Key × V)} {ks : List (Int × D)}, KDI K I xs ks → KDI K I' xs ks
  | _, _, .nil => .nil
  | _, _, .cons h t => .cons (Rp.mono e _ _ h) (KDI.mono e t)
/-- rows of one's own -/
inductive MR (K : Fg) (H0 I H : Hp) : List Addr → List (List D) → Prop
  | nil : MR K H0 I H [] []
  | cons {b : Addr} {vs : List V} {ds : List D} {bs : List Addr} {rows : List (List D)} : H0 b = none → I b = none → H b = some (.lst vs) → Rps K I vs ds → b ∉ bs → MR K H0 I H bs rows → MR K H0 I H (b :: bs) (ds :: rows)
theorem MR.stays {K : Fg} {H0 I H I' H' : Hp} {bs : List Addr} {rows : List (List D)} (ii : Same I I') (m : MR K H0 I H bs rows) (h : ∀ b ∈ bs, H0 b = none → I b = none → H b ≠ none → I' b = none ∧ H' b = H b) : MR K H0 I' H' bs rows := by
  induction m with
  | nil => exact .nil
  | @cons b vs ds bs rows h1 h2 h3 h4 h5 t ih =>
    obtain ⟨g1, g2⟩ := h b List.mem_cons_self h1 h2 (by rw [h3]; exact fun z => nomatch z)
    exact .cons h1 g1 (g2.trans h3) (Rps.mono ii _ _ h4) h5 (ih fun c hc => h c (List.mem_cons_of_mem _ hc))
theorem MR.live {K : Fg} {H0 I H : Hp} {bs : List Addr} {rows : List (List D)} (m : MR K H0 I H bs rows) : ∀ b ∈ bs, H0 b = none ∧ I b = none ∧ ∃ vs, H b = some (.lst vs) := by
  induction m with
  | nil => exact fun b hb => absurd hb List.not_mem_nil
  | @cons b vs ds bs rows h1 h2 h3 h4 h5 t ih =>
    intro c hc
    rcases List.mem_cons.mp hc with rfl | hc
    · exact ⟨h1, h2, _, h3⟩
    · exact ih c hc
/-- what is lent to a function: a list or a dict that another one owns -/
inductive Lnt where
  | l (ds : List D) | d (w : World) (ks : List (List Key × D))
def LntR (K : Fg) (I H : Hp) (a : Addr) : Lnt → Prop
  | .l ds => ∃ vs, H a = some (.lst vs) ∧ Rps K I vs ds
  | .d w ks => ∃ xs, H a = some (dctO w a xs) ∧ KD K I xs ks
theorem LntR.stays {K : Fg} {I I' H H' : Hp} {a : Addr} {x : Lnt} (h : LntR K I H a x) (ii : Same I I') (k : ∀ o, H a = some o → H' a = some o) : LntR K I' H' a x := by
  cases x with
  | l ds => obtain ⟨vs, h1, h2⟩ := h; exact ⟨vs, k _ h1, Rps.mono ii _ _ h2⟩
  | d w ks => obtain ⟨xs, h1, h2⟩ := h; exact ⟨xs, k _ h1, KD.mono ii h2⟩
/-- an instance's fields that are data; those that are lists of its own; there are no others -/
def FldD (K : Fg) (I : Hp) (vs : List (Str × V)) (fs : List (Str × D)) : Prop := ∀ f d, (f, d) ∈ fs → ∃ u, vs.lookup f = some u ∧ Rp K I u d
theorem FldD.mono {K : Fg} {I I' : Hp} {vs : List (Str × V)} {fs : List (Str × D)} (e : Same I I') (h : FldD K I vs fs) : FldD K I' vs fs := fun f d m => by
  obtain ⟨u, h1, h2⟩ := h f d m
  exact ⟨u, h1, Rp.mono e d u h2⟩
def FldL (vs : List (Str × V)) (fs : List (Str × D)) (ls : List (Str × Addr × List D)) : Prop := (∀ f b ds, (f, b, ds) ∈ ls → vs.lookup f = some (.ref b)) ∧ ∀ f, fs.lookup f = none → ls.lookup f = none → vs.lookup f = none
inductive Sl where
  | dat (d : D) | own (ds : List D) | strm | dct (w : World) (ks : List (List Key × D)) | dki (ks : List (Int × D)) | mat (rows : List (List D)) | lnt (x : Lnt) | rng (n : Int) | obj (a C : Addr) (fs : List (Str × D)) (ls : List (Str × Addr × List D)) | obf (a C : Addr) (fs : List (Str × D))
abbrev Ev := List (Option Sl)
structure P0 where
  m : Option Addr
  I0 : Hp
  H0 : Hp
  B : Hp
/-- a step of the world -/
structure Stp (p : P0) (I H I' H' : Hp) : Prop where
  gr : Gr p.m I H I' H'
  st : ∀ s, p.m = some s → Strm I H s → Strm I' H' s
def SlR (K : Fg) (p : P0) (I H : Hp) : Sl → V → Prop
  | .dat d, v => Rp K I v d
  | .own ds, v => ∃ a vs, v = .ref a ∧ p.H0 a = none ∧ I a = none ∧ H a = some (.lst vs) ∧ Rps K I vs ds
  | .strm, v => ∃ a, v = .ref a ∧ p.m = some a
  | .dct w ks, v => ∃ a xs, v = .ref a ∧ p.H0 a = none ∧ I a = none ∧ H a = some (dctO w a xs) ∧ KD K I xs ks
  | .dki ks, v => ∃ a xs, v = .ref a ∧ p.H0 a = none ∧ I a = none ∧ H a = some (.dK xs) ∧ KDI K I xs ks
  | .rng n, v => ∃ a, v = .ref a ∧ I a = some (.rng 0 n)
  | .mat rows, v => ∃ (a : Addr) (bs : List Addr), v = .ref a ∧ p.H0 a = none ∧ I a = none ∧ H a = some (.lst (bs.map V.ref)) ∧ a ∉ bs ∧ MR K p.H0 I H bs rows
  | .lnt x, v => ∃ a, v = .ref a ∧ p.H0 a ≠ none ∧ p.m ≠ some a ∧ LntR K I H a x
  | .obj a C fs ls, v => v = .ref a ∧ (∃ (dx : Addr) (vs : List (Str × V)), I a = some (.ins C dx vs) ∧ FldD K I vs fs ∧ FldL vs fs ls) ∧ MR K p.H0 I H (ls.map (·.2.1)) (ls.map (·.2.2))
  | .obf a C fs, v => v = .ref a ∧ ∃ (dx : Addr) (vs : List (Str × V)), I a = some (.ins C dx vs) ∧ FldD K I vs fs ∧ FldL vs fs []
/-- the cells that a name's own lists take -/
def Cell (x : Sl) (v : V) (H : Hp) (c : Addr) : Prop := match x with
  | .own _ => v = .ref c
  | .mat _ => v = .ref c ∨ ∃ (a : Addr) (bs : List Addr), v = .ref a ∧ H a = some (.lst (bs.map V.ref)) ∧ c ∈ bs
  | .obj _ _ _ ls => c ∈ ls.map (·.2.1)
  | _ => False
def isMat : Sl → Bool | .mat _ => true | .obj _ _ _ _ => true | _ => false
def isTop : Sl → Bool | .mat _ => true | _ => false
theorem top_mat {x : Sl} (h : isTop x = true) : isMat x = true := by cases x <;> first | rfl | exact h
/-- what two names own is apart, where one is a table of rows -/
def SepM (env : Ev) (σ : L2.St) (H : Hp) : Prop := ∀ (i j : Nat) (x y : Sl) (u v : V) (c : Addr), i ≠ j → (isMat x || isMat y) = true → env[i]? = some (some x) → env[j]? = some (some y) → σ[i]? = some (some u) → σ[j]? = some (some v) → Cell x u H c → ¬ Cell y v H c
/-- dicts at two names are two dicts -/
def SepD (env : Ev) (σ : L2.St) : Prop := ∀ (i j : Nat) (w w' : World) (x y : List (List Key × D)) (a : Addr), i ≠ j → env[i]? = some (some (.dct w x)) → env[j]? = some (some (.dct w' y)) → σ[i]? = some (some (.ref a)) → σ[j]? ≠ some (some (.ref a))
structure Rel (K : Fg) (p : P0) (env : Ev) (σ : L2.St) (I H : Hp) : Prop where
  gr : Gr p.m p.I0 p.H0 I H
  sl : ∀ (i : Nat) (x : Sl), env[i]? = some (some x) → ∃ v : V, σ[i]? = some (some v) ∧ SlR K p I H x v
  sep : ∀ (i j : Nat) (x y : List D) (a : Addr), i ≠ j → env[i]? = some (some (.own x)) → env[j]? = some (some (.own y)) → σ[i]? = some (some (.ref a)) → σ[j]? ≠ some (some (.ref a))
  st : ∀ s, p.m = some s → p.H0 s ≠ none ∧ Strm I H s
  bs : Same p.B I
  sd : SepD env σ
  sm : SepM env σ H
theorem Gr.refl {m : Option Addr} {I H : Hp} (e : Same I H) : Gr m I H I H := ⟨Same.refl _, e, fun _ _ h _ => h, fun _ h _ => h, fun _ h => h⟩
theorem Gr.trans {m : Option Addr} {I H I1 H1 I2 H2 : Hp} (a : Gr m I H I1 H1) (b : Gr m I1 H1 I2 H2) : Gr m I H I2 H2 :=
  ⟨a.ii.trans b.ii, b.ih, fun c o h n => b.hh c o (a.hh c o h n) n, fun c h n => b.fr c (a.fr c h n) (a.th c n), fun c h => b.th c (a.th c h)⟩
theorem Gr.weak {m : Option Addr} {I H I1 H1 : Hp} (a : Gr none I H I1 H1) : Gr m I H I1 H1 :=
  ⟨a.ii, a.ih, fun c o h _ => a.hh c o h (fun q => nomatch q), a.fr, a.th⟩
theorem Gr.new {m : Option Addr} {I H : Hp} {p : Addr} {o : HO} (e : Same I H) (hp : H p = none) : Gr m I H (upd I p o) (upd H p o) := by
  have ip : I p = none := Same.free e hp
  refine ⟨fun b u h => ?_, fun b u h => ?_, fun b u h _ => ?_, fun b h n => ?_, fun b h => ?_⟩
  · rw [upd_ne (ne_of_none h ip)]; exact h
  · by_cases hb : b = p
    · subst hb; rw [upd_same] at h ⊢; exact h
    · rw [upd_ne hb] at h ⊢; exact e _ _ h
  · rw [upd_ne (ne_of_none h hp)]; exact h
  · have hb : b ≠ p := fun q => n (by rw [q]; exact hp)
    rw [upd_ne hb]; exact h
  · have hb : b ≠ p := fun q => h (by rw [q]; exact hp)
    rw [upd_ne hb]; exact h
/-- a new thing of one's own -/
theorem Gr.fresh {m : Option Addr} {I H : Hp} {p : Addr} {o : HO} (e : Same I H) (hp : H p = none) : Gr m I H I (upd H p o) := by
  refine ⟨Same.refl _, fun b u h => ?_, fun b u h _ => ?_, fun b h n => h, fun b h => ?_⟩
  · rw [upd_ne (ne_of_none (e _ _ h) hp)]; exact e _ _ h
  · rw [upd_ne (ne_of_none h hp)]; exact h
  · have hb : b ≠ p := fun q => h (by rw [q]; exact hp)
    rw [upd_ne hb]; exact h
theorem Strm.grow {I H I' H' : Hp} {s : Addr} (g : Gr none I H I' H') (h : Strm I H s) : Strm I' H' s := by
  obtain ⟨h0, l, c, k, ns, h1, h2, h3⟩ := h
  exact ⟨g.fr _ h0 (by rw [h1]; exact fun q => nomatch q), l, c, k, ns, g.hh _ _ h1 (fun q => nomatch q), g.ii _ _ h2, h3⟩
theorem Stp.refl {p : P0} {I H : Hp} (e : Same I H) : Stp p I H I H := ⟨Gr.refl e, fun _ _ h => h⟩
theorem Stp.trans {p : P0} {I H I1 H1 I2 H2 : Hp} (a : Stp p I H I1 H1) (b : Stp p I1 H1 I2 H2) : Stp p I H I2 H2 :=
  ⟨a.gr.trans b.gr, fun s e h => b.st s e (a.st s e h)⟩
theorem Stp.of {p : P0} {I H I1 H1 : Hp} (a : Gr none I H I1 H1) : Stp p I H I1 H1 := ⟨a.weak, fun _ _ h => h.grow a⟩
theorem Stp.ii {p : P0} {I H I1 H1 : Hp} (a : Stp p I H I1 H1) : Same I I1 := a.gr.ii
theorem Stp.ih {p : P0} {I H I1 H1 : Hp} (a : Stp p I H I1 H1) : Same I1 H1 := a.gr.ih
theorem refs_inj : ∀ {bs cs : List Addr}, bs.map V.ref = cs.map V.ref → bs = cs
  | [], [], _ => rfl
  | [], _ :: _, h => by simp at h
  | _ :: _, [], h => by simp at h
  | b :: bs, c :: cs, h => by
    rw [List.map_cons, List.map_cons] at h
    injection h with h1 h2
    injection h1 with h1
    rw [h1, refs_inj h2]
theorem cell_to {x : Sl} {v : V} {H H' : Hp} {c : Addr} (k : isTop x = true → ∀ a, v = .ref a → H' a = H a) (h : Cell x v H' c) : Cell x v H c := by
  cases x with
  | mat rows =>
    rcases h with h | ⟨a, bs, e1, e2, e3⟩
    · exact .inl h
    · exact .inr ⟨a, bs, e1, by rw [← k rfl a e1]; exact e2, e3⟩
  | own ds => exact h
  | dat d => exact h
  | rng _ => exact h
  | obj _ _ _ _ => exact h
  | obf _ _ _ => exact h
  | strm => exact h
  | dct w ks => exact h
  | dki ks => exact h
  | lnt x => exact h
theorem cell_live {K : Fg} {p : P0} {I H : Hp} {x : Sl} {v : V} {c : Addr} (s : SlR K p I H x v) (h : Cell x v H c) : p.H0 c = none ∧ I c = none ∧ ∃ vs, H c = some (.lst vs) := by
  cases x with
  | mat rows =>
    obtain ⟨a, bs, rfl, e2, e3, e4, e5, e6⟩ := s
    rcases h with h | ⟨a', bs', f1, f2, f3⟩
    · cases h
      exact ⟨e2, e3, _, e4⟩
    · cases f1
      rw [e4] at f2
      have f2 := HO.lst.inj (Option.some.inj f2)
      have : bs = bs' := refs_inj f2
      subst this
      exact e6.live c f3
  | own ds =>
    obtain ⟨a, vs, rfl, e2, e3, e4, e5⟩ := s
    cases h
    exact ⟨e2, e3, _, e4⟩
  | dat d => exact h.elim
  | rng _ => exact h.elim
  | obf _ _ _ => exact h.elim
  | obj _ _ _ _ => exact s.2.2.live c h
  | strm => exact h.elim
  | dct w ks => exact h.elim
  | dki ks => exact h.elim
  | lnt x => exact h.elim
theorem SepM.keep {env : Ev} {σ : L2.St} {H H' : Hp} (h : SepM env σ H) (k : ∀ (i : Nat) (x : Sl) (u : V) (a : Addr), env[i]? = some (some x) → isTop x = true → σ[i]? = some (some u) → u = .ref a → H' a = H a) : SepM env σ H' :=
  fun i j x y u v c n hm e1 e2 s1 s2 c1 c2 => h i j x y u v c n hm e1 e2 s1 s2 (cell_to (fun m a e => k i x u a e1 m s1 e) c1) (cell_to (fun m a e => k j y v a e2 m s2 e) c2)
section
variable {K : Fg} {p : P0} {env : Ev} {σ : L2.St} {I H I' H' : Hp}
theorem Rel.same (r : Rel K p env σ I H) : Same I H := r.gr.ih
theorem Rel.stp (r : Rel K p env σ I H) (s : Stp p I H I' H') : Rel K p env σ I' H' := by
  refine ⟨r.gr.trans s.gr, fun i x e => ?_, r.sep, fun a e => ⟨(r.st a e).1, s.st a e (r.st a e).2⟩, r.bs.trans s.ii, r.sd, r.sm.keep fun i x u a e hm su eu => ?_⟩
  rotate_left
  · obtain ⟨v, hv, h⟩ := r.sl i x e
    rw [su] at hv
    cases hv
    cases x <;> first | (cases hm) | skip
    obtain ⟨a', bs, e1, e2, e3, e4, _, _⟩ := h
    rw [eu] at e1
    cases e1
    have ne : p.m ≠ some a := fun q => (r.st a q).1 e2
    rw [s.gr.hh a _ e4 ne, e4]
  obtain ⟨v, hv, h⟩ := r.sl i x e
  refine ⟨v, hv, ?_⟩
  cases x with
  | dat d => exact Rp.mono s.ii d v h
  | rng _ => obtain ⟨a_, e1_, e2_⟩ := h; exact ⟨a_, e1_, (s.ii) _ _ e2_⟩
  | obf _ _ _ => obtain ⟨e1, dx, vs, e2, e3, e4⟩ := h; exact ⟨e1, dx, vs, s.ii _ _ e2, e3.mono s.ii, e4⟩
  | obj _ _ _ _ =>
    obtain ⟨e1, ⟨dx, vs, e2, e3, e4⟩, e6⟩ := h
    have ne : ∀ b, p.H0 b = none → p.m ≠ some b := fun b z q => (r.st b q).1 z
    refine ⟨e1, ⟨dx, vs, s.ii _ _ e2, e3.mono s.ii, e4⟩, e6.stays s.ii fun b hb z1 z2 z3 => ⟨s.gr.fr b z2 z3, ?_⟩⟩
    cases hz : H b with
    | none => exact absurd hz z3
    | some o => exact s.gr.hh b o hz (ne b z1)
  | own ds =>
    obtain ⟨a, vs, e1, e2, e3, e4, e5⟩ := h
    have ne : p.m ≠ some a := fun q => (r.st a q).1 e2
    exact ⟨a, vs, e1, e2, s.gr.fr a e3 (by rw [e4]; exact fun q => nomatch q), s.gr.hh a _ e4 ne, Rps.mono s.ii ds vs e5⟩
  | strm => exact h
  | lnt x =>
    obtain ⟨a, e1, e2, e3, e4⟩ := h
    exact ⟨a, e1, e2, e3, e4.stays s.ii fun o q => s.gr.hh a o q e3⟩
  | dct w ks =>
    obtain ⟨a, vs, e1, e2, e3, e4, e5⟩ := h
    have ne : p.m ≠ some a := fun q => (r.st a q).1 e2
    exact ⟨a, vs, e1, e2, s.gr.fr a e3 (by rw [e4]; exact fun q => nomatch q), s.gr.hh a _ e4 ne, KD.mono s.ii e5⟩
  | dki ks =>
    obtain ⟨a, vs, e1, e2, e3, e4, e5⟩ := h
    have ne : p.m ≠ some a := fun q => (r.st a q).1 e2
    exact ⟨a, vs, e1, e2, s.gr.fr a e3 (by rw [e4]; exact fun q => nomatch q), s.gr.hh a _ e4 ne, KDI.mono s.ii e5⟩
  | mat rows =>
    obtain ⟨a, bs, e1, e2, e3, e4, e5, e6⟩ := h
    have ne : ∀ b, p.H0 b = none → p.m ≠ some b := fun b z q => (r.st b q).1 z
    refine ⟨a, bs, e1, e2, s.gr.fr a e3 (by rw [e4]; exact fun q => nomatch q), s.gr.hh a _ e4 (ne a e2), e5, e6.stays s.ii fun b hb z1 z2 z3 => ⟨s.gr.fr b z2 z3, ?_⟩⟩
    cases hz : H b with
    | none => exact absurd hz z3
    | some o => exact s.gr.hh b o hz (ne b z1)
theorem Rel.grow (r : Rel K p env σ I H) (g : Gr none I H I' H') : Rel K p env σ I' H' := r.stp (.of g)
theorem getSet {α : Type} {l : List α} {i j : Nat} {x y : α} (h : (l.set i x)[j]? = some y) : (i = j ∧ y = x ∧ i < l.length) ∨ (i ≠ j ∧ l[j]? = some y) := by
  by_cases e : i = j
  · subst e
    by_cases q : i < l.length
    · rw [List.getElem?_set_self q] at h
      exact .inl ⟨rfl, (Option.some.inj h).symm, q⟩
    · rw [List.getElem?_eq_none (by rw [List.length_set]; omega)] at h; cases h
  · rw [List.getElem?_set_ne e] at h
    exact .inr ⟨e, h⟩
end
theorem SepD.set {env : Ev} {σ : L2.St} (h : SepD env σ) (i : Nat) (x : Option Sl) (v : Option V) (hx : ∀ w ks, x ≠ some (.dct w ks)) : SepD (env.set i x) (σ.set i v) := by
  intro j k w w' y z a n e1 e2 e3 e4
  rcases getSet e1 with ⟨_, q, _⟩ | ⟨n1, q1⟩
  · exact hx _ _ q.symm
  · rcases getSet e2 with ⟨_, q, _⟩ | ⟨n2, q2⟩
    · exact hx _ _ q.symm
    · rw [List.getElem?_set_ne n1] at e3
      rw [List.getElem?_set_ne n2] at e4
      exact h j k w w' y z a n q1 q2 e3 e4
theorem SepD.setE {env : Ev} {σ : L2.St} (h : SepD env σ) (i : Nat) (x : Option Sl) (hx : ∀ w ks, x ≠ some (.dct w ks)) : SepD (env.set i x) σ := by
  intro j k w w' y z a n e1 e2 e3 e4
  rcases getSet e1 with ⟨_, q, _⟩ | ⟨n1, q1⟩
  · exact hx _ _ q.symm
  · rcases getSet e2 with ⟨_, q, _⟩ | ⟨n2, q2⟩
    · exact hx _ _ q.symm
    · exact h j k w w' y z a n q1 q2 e3 e4
theorem SepM.set {env : Ev} {σ : L2.St} {H : Hp} (h : SepM env σ H) (i : Nat) (x : Option Sl) (v : Option V) (hx : ∀ y, x = some y → ∀ (u : V) (c : Addr), ¬ Cell y u H c) : SepM (env.set i x) (σ.set i v) H := by
  intro j k y z u1 u2 c n hm e1 e2 e3 e4 c1 c2
  rcases getSet e1 with ⟨_, q, _⟩ | ⟨n1, q1⟩
  · exact hx y q.symm u1 c c1
  · rcases getSet e2 with ⟨_, q, _⟩ | ⟨n2, q2⟩
    · exact hx z q.symm u2 c c2
    · rw [List.getElem?_set_ne n1] at e3
      rw [List.getElem?_set_ne n2] at e4
      exact h j k y z u1 u2 c n hm q1 q2 e3 e4 c1 c2
theorem SepM.setE {env : Ev} {σ : L2.St} {H : Hp} (h : SepM env σ H) (i : Nat) (x : Option Sl) (hx : ∀ y, x = some y → ∀ (u : V) (c : Addr), Cell y u H c → ∃ w, env[i]? = some (some w) ∧ Cell w u H c ∧ isMat w = isMat y) : SepM (env.set i x) σ H := by
  intro j k y z u1 u2 c n hm e1 e2 e3 e4 c1 c2
  rcases getSet e1 with ⟨rfl, q, _⟩ | ⟨n1, q1⟩
  · obtain ⟨w, ew, cw, mw⟩ := hx y q.symm u1 c c1
    rcases getSet e2 with ⟨rfl, q', _⟩ | ⟨n2, q2⟩
    · exact n rfl
    · exact h _ k w z u1 u2 c n (by rw [mw]; exact hm) ew q2 e3 e4 cw c2
  · rcases getSet e2 with ⟨rfl, q, _⟩ | ⟨n2, q2⟩
    · obtain ⟨w, ew, cw, mw⟩ := hx z q.symm u2 c c2
      exact h j _ y w u1 u2 c n (by rw [mw]; exact hm) q1 ew e3 e4 c1 cw
    · exact h j k y z u1 u2 c n hm q1 q2 e3 e4 c1 c2
structure RelL (K : Fg) (p : P0) (env : Ev) (σ : L2.St) (I H : Hp) : Prop where
  r : Rel K p env σ I H
  len : env.length = σ.length
theorem RelL.stp {K : Fg} {p : P0} {env : Ev} {σ : L2.St} {I H I' H' : Hp} (r : RelL K p env σ I H) (s : Stp p I H I' H') : RelL K p env σ I' H' := ⟨r.r.stp s, r.len⟩
theorem RelL.same {K : Fg} {p : P0} {env : Ev} {σ : L2.St} {I H : Hp} (r : RelL K p env σ I H) : Same I H := r.r.gr.ih
section
variable {K : Fg} {p : P0} {env : Ev} {σ : L2.St} {I H I' H' : Hp}
theorem RelL.rebase (r : RelL K p env σ I H) {B : Hp} (h : Same B I) : RelL K { p with B := B } env σ I H :=
  ⟨⟨r.r.gr, r.r.sl, r.r.sep, r.r.st, h, r.r.sd, r.r.sm⟩, r.len⟩
/-- a name is given data -/
theorem RelL.setDat (r : RelL K p env σ I H) {v : V} {d : D} (h : Rp K I v d) (i : Nat) : RelL K p (env.set i (some (.dat d))) (σ.set i (some v)) I H := by
  refine ⟨⟨r.r.gr, fun j x e => ?_, fun j k x y a n e1 e2 e3 e4 => ?_, r.r.st, r.r.bs, r.r.sd.set _ _ _ (fun _ _ z => nomatch z), r.r.sm.set _ _ _ (fun _ z _ _ c => by cases z; exact c)⟩, by rw [List.length_set, List.length_set]; exact r.len⟩
  · rcases getSet e with ⟨rfl, q, hl⟩ | ⟨n, q⟩
    · cases q
      exact ⟨v, List.getElem?_set_self (by rw [← r.len]; exact hl), h⟩
    · obtain ⟨u, hu, q⟩ := r.r.sl j x q
      exact ⟨u, by rw [List.getElem?_set_ne n]; exact hu, q⟩
  · rcases getSet e1 with ⟨_, q, _⟩ | ⟨n1, q1⟩
    · cases q
    · rcases getSet e2 with ⟨_, q, _⟩ | ⟨n2, q2⟩
      · cases q
      · rw [List.getElem?_set_ne n1] at e3
        rw [List.getElem?_set_ne n2] at e4
        exact r.r.sep j k x y a n q1 q2 e3 e4
/-- a name is given a list of its own -/
theorem RelL.setOwn (r : RelL K p env σ I H) {a : Addr} {vs : List V} {ds : List D} (h0 : p.H0 a = none) (h1 : I a = none) (h2 : H a = some (.lst vs)) (h3 : Rps K I vs ds)
    (hn : ∀ (j : Nat) (x : List D), env[j]? = some (some (.own x)) → σ[j]? ≠ some (some (.ref a))) (hc : ∀ (j : Nat) (x : Sl) (v : V), env[j]? = some (some x) → isMat x = true → σ[j]? = some (some v) → ¬ Cell x v H a) (i : Nat) : RelL K p (env.set i (some (.own ds))) (σ.set i (some (.ref a))) I H := by
  refine ⟨⟨r.r.gr, fun j x e => ?_, fun j k x y b n e1 e2 e3 e4 => ?_, r.r.st, r.r.bs, r.r.sd.set _ _ _ (fun _ _ z => nomatch z), fun j k y z u1 u2 c n hm e1 e2 e3 e4 c1 c2 => ?_⟩, by rw [List.length_set, List.length_set]; exact r.len⟩
  rotate_left
  rotate_left
  · rcases getSet e1 with ⟨rfl, q, hl⟩ | ⟨n1, q1⟩
    · rw [List.getElem?_set_self (by rw [← r.len]; exact hl)] at e3
      cases e3
      cases q
      cases c1
      rcases getSet e2 with ⟨z, _, _⟩ | ⟨n2, q2⟩
      · exact n z
      · rw [List.getElem?_set_ne n2] at e4
        exact hc k z u2 q2 (by simpa [isMat] using hm) e4 c2
    · rw [List.getElem?_set_ne n1] at e3
      rcases getSet e2 with ⟨rfl, q, hl⟩ | ⟨n2, q2⟩
      · rw [List.getElem?_set_self (by rw [← r.len]; exact hl)] at e4
        cases e4
        cases q
        cases c2
        exact hc j y u1 q1 (by simpa [isMat] using hm) e3 c1
      · rw [List.getElem?_set_ne n2] at e4
        exact r.r.sm j k y z u1 u2 c n hm q1 q2 e3 e4 c1 c2
  · rcases getSet e with ⟨rfl, q, hl⟩ | ⟨n, q⟩
    · cases q
      exact ⟨_, List.getElem?_set_self (by rw [← r.len]; exact hl), a, vs, rfl, h0, h1, h2, h3⟩
    · obtain ⟨u, hu, q⟩ := r.r.sl j x q
      exact ⟨u, by rw [List.getElem?_set_ne n]; exact hu, q⟩
  · rcases getSet e1 with ⟨rfl, q, hl⟩ | ⟨n1, q1⟩
    · rw [List.getElem?_set_self (by rw [← r.len]; exact hl)] at e3
      cases e3
      rcases getSet e2 with ⟨z, _, _⟩ | ⟨n2, q2⟩
      · exact n z
      · rw [List.getElem?_set_ne n2] at e4
        exact hn k y q2 e4
    · rw [List.getElem?_set_ne n1] at e3
      rcases getSet e2 with ⟨rfl, q, hl⟩ | ⟨n2, q2⟩
      · rw [List.getElem?_set_self (by rw [← r.len]; exact hl)] at e4
        cases e4
        exact hn j x q1 e3
      · rw [List.getElem?_set_ne n2] at e4
        exact r.r.sep j k x y b n q1 q2 e3 e4
/-- the own list at a is changed -/
theorem RelL.mutOwn (r : RelL K p env σ I H) {i : Nat} {ds ds' : List D} {a : Addr} {vs' : List V} (e : env[i]? = some (some (.own ds))) (hv : σ[i]? = some (some (.ref a))) (h : Rps K I vs' ds') :
    RelL K p (env.set i (some (.own ds'))) σ I (upd H a (.lst vs')) := by
  obtain ⟨v, hv2, a, vs, e1, e2, e3, e4, e5⟩ := r.r.sl i _ e
  rw [hv] at hv2; cases hv2; cases e1
  have nI : ∀ b o, I b = some o → b ≠ a := fun b o q => ne_of_none q e3
  have nm : p.m ≠ some a := fun q => (r.r.st _ q).1 e2
  have hmat : ∀ (j : Nat) (x : Sl) (v : V), env[j]? = some (some x) → isMat x = true → σ[j]? = some (some v) → ¬ Cell x v H a := fun j x v f1 m f2 c =>
    r.r.sm i j (.own ds) x (.ref a) v a (fun z => by subst z; rw [e] at f1; cases f1; cases m) (by rw [m]; simp [isMat]) e f1 hv f2 rfl c
  refine ⟨⟨⟨r.r.gr.ii, fun b o q => by rw [upd_ne (nI b o q)]; exact r.r.gr.ih b o q, fun b o q n => ?_, r.r.gr.fr, fun b q => ?_⟩, fun j x q => ?_, fun j k x y b n q1 q2 q3 q4 => ?_, fun s q => ⟨(r.r.st s q).1, ?_⟩, r.r.bs, r.r.sd.setE _ _ (fun _ _ z => nomatch z),
      (r.r.sm.setE i (some (.own ds')) (fun y z u c cc => by cases z; exact ⟨_, e, cc, rfl⟩)).keep fun j x u b q m su eu => upd_ne fun z => by
        rcases getSet q with ⟨rfl, w, _⟩ | ⟨_, q⟩
        · cases w; cases m
        · subst z
          refine hmat j x u q (top_mat m) su ?_
          cases x <;> first | (cases m) | skip
          exact .inl eu⟩,
    by rw [List.length_set]; exact r.len⟩
  · rw [upd_ne (ne_of_none q e2)]; exact r.r.gr.hh b o q n
  · by_cases hb : b = a
    · rw [hb, upd_same]; exact fun q => nomatch q
    · rw [upd_ne hb]; exact r.r.gr.th b q
  · rcases getSet q with ⟨rfl, z, hl⟩ | ⟨n, z⟩
    · cases z
      exact ⟨_, hv, a, vs', rfl, e2, e3, upd_same, h⟩
    · obtain ⟨u, hu, z2⟩ := r.r.sl j x z
      refine ⟨u, hu, ?_⟩
      cases x with
      | dat d => exact z2
      | rng _ => exact z2
      | obf _ _ _ => exact z2
      | obj _ _ _ _ =>
        obtain ⟨f1, f2, f6⟩ := z2
        exact ⟨f1, f2, f6.stays (Same.refl _) fun c hc z1 z2 z3 => ⟨z2, upd_ne fun w => hmat j _ _ z rfl hu (by rw [← w]; exact hc)⟩⟩
      | own es =>
        obtain ⟨b, ws, f1, f2, f3, f4, f5⟩ := z2
        subst f1
        have nb : b ≠ a := fun w => r.r.sep i j ds es a n e z hv (by rw [← w]; exact hu)
        exact ⟨b, ws, rfl, f2, f3, by rw [upd_ne nb]; exact f4, f5⟩
      | strm => exact z2
      | lnt x =>
        obtain ⟨b, f1, f2, f3, f4⟩ := z2
        have nb : b ≠ a := fun w => f2 (by rw [w]; exact e2)
        exact ⟨b, f1, f2, f3, f4.stays (Same.refl _) fun o q => by rw [upd_ne nb]; exact q⟩
      | dct w ks =>
        obtain ⟨b, ws, f1, f2, f3, f4, f5⟩ := z2
        subst f1
        have nb : b ≠ a := fun w => by
          rw [w, e4] at f4
          exact nomatch f4
        exact ⟨b, ws, rfl, f2, f3, by rw [upd_ne nb]; exact f4, f5⟩
      | dki ks =>
        obtain ⟨b, ws, f1, f2, f3, f4, f5⟩ := z2
        subst f1
        have nb : b ≠ a := fun w => by
          rw [w, e4] at f4
          exact nomatch f4
        exact ⟨b, ws, rfl, f2, f3, by rw [upd_ne nb]; exact f4, f5⟩
      | mat rows =>
        obtain ⟨b, bs, f1, f2, f3, f4, f5, f6⟩ := z2
        subst f1
        have nb : b ≠ a := fun w => hmat j _ _ z rfl hu (.inl (by rw [w]))
        refine ⟨b, bs, rfl, f2, f3, by rw [upd_ne nb]; exact f4, f5, f6.stays (Same.refl _) fun c hc z1 z2 z3 => ⟨z2, upd_ne fun w => ?_⟩⟩
        exact hmat j _ _ z rfl hu (.inr ⟨b, bs, rfl, f4, by rw [← w]; exact hc⟩)
  · have own : ∀ (l : Nat) (x : List D), (env.set i (some (Sl.own ds')))[l]? = some (some (Sl.own x)) → ∃ y : List D, env[l]? = some (some (Sl.own y)) := fun l x w => by
      rcases getSet w with ⟨rfl, _, _⟩ | ⟨_, w⟩
      · exact ⟨_, e⟩
      · exact ⟨_, w⟩
    obtain ⟨x2, w1⟩ := own j x q1
    obtain ⟨y2, w2⟩ := own k y q2
    exact r.r.sep j k x2 y2 b n w1 w2 q3 q4
  · obtain ⟨f0, l, c, k, ns, f1, f2, f3⟩ := (r.r.st s q).2
    have ns2 : s ≠ a := fun w => nm (by rw [q, w])
    exact ⟨f0, l, c, k, ns, by rw [upd_ne ns2]; exact f1, f2, f3⟩
/-- an own list becomes data -/
theorem RelL.freeze (r : RelL K p env σ I H) {i : Nat} {ds : List D} (e : env[i]? = some (some (.own ds))) : ∃ I', Same I I' ∧ RelL K p (env.set i (some (.dat (.list ds)))) σ I' H := by
  obtain ⟨v, hv, a, vs, rfl, e2, e3, e4, e5⟩ := r.r.sl i _ e
  have ii : Same I (upd I a (.lst vs)) := fun b o q => by rw [upd_ne (ne_of_none q e3)]; exact q
  have nm : p.m ≠ some a := fun q => (r.r.st _ q).1 e2
  have hmat : ∀ (j : Nat) (x : Sl) (v : V), env[j]? = some (some x) → isMat x = true → σ[j]? = some (some v) → ¬ Cell x v H a := fun j x v f1 m f2 c =>
    r.r.sm i j (.own ds) x (.ref a) v a (fun z => by subst z; rw [e] at f1; cases f1; cases m) (by rw [m]; simp [isMat]) e f1 hv f2 rfl c
  refine ⟨upd I a (.lst vs), ii, ⟨⟨r.r.gr.ii.trans ii, fun b o q => ?_, r.r.gr.hh, fun b q n => ?_, r.r.gr.th⟩, fun j x q => ?_, fun j k x y b n q1 q2 q3 q4 => ?_, fun s q => ⟨(r.r.st s q).1, ?_⟩, r.r.bs.trans ii, r.r.sd.setE _ _ (fun _ _ z => nomatch z), r.r.sm.setE _ _ (fun y z u c cc => by cases z; exact cc.elim)⟩, by rw [List.length_set]; exact r.len⟩
  · by_cases hb : b = a
    · subst hb; rw [upd_same] at q; cases q; exact e4
    · rw [upd_ne hb] at q; exact r.r.gr.ih b o q
  · have hb : b ≠ a := fun w => n (by rw [w]; exact e2)
    rw [upd_ne hb]; exact r.r.gr.fr b q n
  · rcases getSet q with ⟨rfl, z, hl⟩ | ⟨n, z⟩
    · cases z
      exact ⟨_, hv, .lst upd_same (Rps.mono ii ds vs e5)⟩
    · obtain ⟨u, hu, z2⟩ := r.r.sl j x z
      refine ⟨u, hu, ?_⟩
      cases x with
      | dat d => exact Rp.mono ii d u z2
      | rng _ => obtain ⟨a_, e1_, e2_⟩ := z2; exact ⟨a_, e1_, (ii) _ _ e2_⟩
      | obf _ _ _ => obtain ⟨f1, dx, vs, f2, f3, f4⟩ := z2; exact ⟨f1, dx, vs, ii _ _ f2, f3.mono ii, f4⟩
      | obj _ _ _ _ =>
        obtain ⟨f1, ⟨dx, vs2, f2, f3, f4⟩, f6⟩ := z2
        refine ⟨f1, ⟨dx, vs2, ii _ _ f2, f3.mono ii, f4⟩, f6.stays ii fun c hc z1 z2 z3 => ⟨?_, rfl⟩⟩
        rw [upd_ne fun w => hmat j _ _ z rfl hu (by rw [← w]; exact hc)]
        exact z2
      | own es =>
        obtain ⟨b, ws, f1, f2, f3, f4, f5⟩ := z2
        subst f1
        have nb : b ≠ a := fun w => r.r.sep i j ds es a n e z hv (by rw [← w]; exact hu)
        exact ⟨b, ws, rfl, f2, by rw [upd_ne nb]; exact f3, f4, Rps.mono ii es ws f5⟩
      | strm => exact z2
      | lnt x =>
        obtain ⟨b, f1, f2, f3, f4⟩ := z2
        exact ⟨b, f1, f2, f3, f4.stays ii fun o q => q⟩
      | dct w ks =>
        obtain ⟨b, ws, f1, f2, f3, f4, f5⟩ := z2
        subst f1
        have nb : b ≠ a := fun w => by
          rw [w, e4] at f4
          exact nomatch f4
        exact ⟨b, ws, rfl, f2, by rw [upd_ne nb]; exact f3, f4, KD.mono ii f5⟩
      | dki ks =>
        obtain ⟨b, ws, f1, f2, f3, f4, f5⟩ := z2
        subst f1
        have nb : b ≠ a := fun w => by
          rw [w, e4] at f4
          exact nomatch f4
        exact ⟨b, ws, rfl, f2, by rw [upd_ne nb]; exact f3, f4, KDI.mono ii f5⟩
      | mat rows =>
        obtain ⟨b, bs, f1, f2, f3, f4, f5, f6⟩ := z2
        subst f1
        have nb : b ≠ a := fun w => hmat j _ _ z rfl hu (.inl (by rw [w]))
        refine ⟨b, bs, rfl, f2, by rw [upd_ne nb]; exact f3, f4, f5, f6.stays ii fun c hc z1 z2 z3 => ⟨?_, rfl⟩⟩
        rw [upd_ne fun w => hmat j _ _ z rfl hu (.inr ⟨b, bs, rfl, f4, by rw [← w]; exact hc⟩)]
        exact z2
  · rcases getSet q1 with ⟨_, z, _⟩ | ⟨n1, z1⟩
    · cases z
    · rcases getSet q2 with ⟨_, z, _⟩ | ⟨n2, z2⟩
      · cases z
      · exact r.r.sep j k x y b n z1 z2 q3 q4
  · obtain ⟨f0, l, c, k, ns, f1, f2, f3⟩ := (r.r.st s q).2
    have ns2 : s ≠ a := fun w => nm (by rw [q, w])
    exact ⟨by rw [upd_ne ns2]; exact f0, l, c, k, ns, f1, ii _ _ f2, f3⟩
/-- a cell that nobody here knows is changed -/
theorem RelL.beside (r : RelL K p env σ I H) {a : Addr} {o : HO} (h0 : p.H0 a = none) (h1 : I a = none) (hx : ∀ w xs, H a ≠ some (dctO w a xs)) (hx2 : ∀ xs, H a ≠ some (.dK xs)) (hmat : ∀ (j : Nat) (x : Sl) (v : V), env[j]? = some (some x) → isMat x = true → σ[j]? = some (some v) → ¬ Cell x v H a) (hn : ∀ (j : Nat) (x : List D), env[j]? = some (some (.own x)) → σ[j]? ≠ some (some (.ref a))) : RelL K p env σ I (upd H a o) := by
  have nm : p.m ≠ some a := fun q => (r.r.st _ q).1 h0
  refine ⟨⟨⟨r.r.gr.ii, fun b u q => by rw [upd_ne (ne_of_none q h1)]; exact r.r.gr.ih b u q, fun b u q n => by rw [upd_ne (ne_of_none q h0)]; exact r.r.gr.hh b u q n, r.r.gr.fr, fun b q => ?_⟩, fun j x q => ?_, r.r.sep, fun s q => ⟨(r.r.st s q).1, ?_⟩, r.r.bs, r.r.sd, r.r.sm.keep fun j x u b q m su eu => upd_ne fun z => by
      subst z
      refine hmat j x u q (top_mat m) su ?_
      cases x <;> first | (cases m) | skip
      exact .inl eu⟩, r.len⟩
  · by_cases hb : b = a
    · rw [hb, upd_same]; exact fun q => nomatch q
    · rw [upd_ne hb]; exact r.r.gr.th b q
  · obtain ⟨u, hu, z2⟩ := r.r.sl j x q
    refine ⟨u, hu, ?_⟩
    cases x with
    | dat d => exact z2
    | rng _ => exact z2
    | obf _ _ _ => exact z2
    | obj _ _ _ _ =>
      obtain ⟨f1, f2, f6⟩ := z2
      exact ⟨f1, f2, f6.stays (Same.refl _) fun c hc z1 z2 z3 => ⟨z2, upd_ne fun w => hmat j _ _ q rfl hu (by rw [← w]; exact hc)⟩⟩
    | own es =>
      obtain ⟨b, ws, f1, f2, f3, f4, f5⟩ := z2
      subst f1
      have nb : b ≠ a := fun w => hn j es q (by rw [← w]; exact hu)
      exact ⟨b, ws, rfl, f2, f3, by rw [upd_ne nb]; exact f4, f5⟩
    | strm => exact z2
    | lnt x =>
      obtain ⟨b, f1, f2, f3, f4⟩ := z2
      have nb : b ≠ a := fun w => f2 (by rw [w]; exact h0)
      exact ⟨b, f1, f2, f3, f4.stays (Same.refl _) fun o q => by rw [upd_ne nb]; exact q⟩
    | dct w ks =>
      obtain ⟨b, ws, f1, f2, f3, f4, f5⟩ := z2
      subst f1
      have nb : b ≠ a := fun z => by
        subst z
        exact hx _ _ f4
      exact ⟨b, ws, rfl, f2, f3, by rw [upd_ne nb]; exact f4, f5⟩
    | dki ks =>
      obtain ⟨b, ws, f1, f2, f3, f4, f5⟩ := z2
      subst f1
      have nb : b ≠ a := fun z => by
        subst z
        exact hx2 _ f4
      exact ⟨b, ws, rfl, f2, f3, by rw [upd_ne nb]; exact f4, f5⟩
    | mat rows =>
      obtain ⟨b, bs, f1, f2, f3, f4, f5, f6⟩ := z2
      subst f1
      have nb : b ≠ a := fun w => hmat j _ _ q rfl hu (.inl (by rw [w]))
      refine ⟨b, bs, rfl, f2, f3, by rw [upd_ne nb]; exact f4, f5, f6.stays (Same.refl _) fun c hc z1 z2 z3 => ⟨z2, upd_ne fun w => ?_⟩⟩
      exact hmat j _ _ q rfl hu (.inr ⟨b, bs, rfl, f4, by rw [← w]; exact hc⟩)
  · obtain ⟨f0, l, c, k, ns, f1, f2, f3⟩ := (r.r.st s q).2
    have ns2 : s ≠ a := fun w => nm (by rw [q, w])
    exact ⟨f0, l, c, k, ns, by rw [upd_ne ns2]; exact f1, f2, f3⟩
theorem RelL.cellBack (r : RelL K p env σ I H) (s : Stp p I H I' H') {j : Nat} {x : Sl} {v : V} {c : Addr} (e : env[j]? = some (some x)) (sv : σ[j]? = some (some v)) (h : Cell x v H' c) : Cell x v H c := by
  obtain ⟨u, hu, sl⟩ := r.r.sl j x e
  rw [sv] at hu
  cases hu
  refine cell_to (fun m a ea => ?_) h
  cases x <;> first | (cases m) | skip
  obtain ⟨a', bs, e1, e2, e3, e4, _, _⟩ := sl
  rw [ea] at e1
  cases e1
  rw [s.gr.hh a _ e4 (fun q => (r.r.st a q).1 e2), e4]
theorem RelL.freshCell (r : RelL K p env σ I H) (s : Stp p I H I' H') {l : Addr} (h0 : H l = none) : ∀ (j : Nat) (x : Sl) (v : V), env[j]? = some (some x) → isMat x = true → σ[j]? = some (some v) → ¬ Cell x v H' l := by
  intro j x v e m sv c
  have c' := r.cellBack s e sv c
  obtain ⟨u, hu, sl⟩ := r.r.sl j x e
  rw [sv] at hu
  cases hu
  obtain ⟨_, _, vs, hv⟩ := cell_live sl c'
  rw [h0] at hv
  cases hv
theorem RelL.freshCellU (r : RelL K p env σ I H) {l : Addr} {o : HO} (h0 : H l = none) : ∀ (j : Nat) (x : Sl) (v : V), env[j]? = some (some x) → isMat x = true → σ[j]? = some (some v) → ¬ Cell x v (upd H l o) l := by
  intro j x v e m sv c
  obtain ⟨u, hu, sl⟩ := r.r.sl j x e
  rw [sv] at hu
  cases hu
  have c' : Cell x v H l := cell_to (fun m a ea => upd_ne fun z => by
    subst z
    cases x <;> first | (cases m) | skip
    obtain ⟨a', bs, e1, e2, e3, e4, _, _⟩ := sl
    rw [ea] at e1
    cases e1
    rw [h0] at e4
    cases e4) c
  obtain ⟨_, _, vs, hv⟩ := cell_live sl c'
  rw [h0] at hv
  cases hv
def wipeE (env : Ev) : List Nat → Ev
  | [] => env
  | v :: vs => (wipeE env vs).set v none
theorem RelL.wipe (r : RelL K p env σ I H) : ∀ vs : List Nat, RelL K p (wipeE env vs) (wipe σ vs) I H
  | [] => r
  | v :: vs => by
    have q := RelL.wipe r vs
    refine ⟨⟨q.r.gr, fun j x e => ?_, fun j k x y a n e1 e2 e3 e4 => ?_, q.r.st, q.r.bs, by unfold wipeE L2.wipe; exact q.r.sd.set _ _ _ (fun _ _ z => nomatch z), by unfold wipeE L2.wipe; exact q.r.sm.set _ _ _ (fun _ z => nomatch z)⟩, by unfold wipeE L2.wipe; rw [List.length_set, List.length_set]; exact q.len⟩
    · unfold wipeE at e
      rcases getSet e with ⟨_, z, _⟩ | ⟨n, z⟩
      · cases z
      · obtain ⟨u, hu, z2⟩ := q.r.sl j x z
        exact ⟨u, by unfold L2.wipe; rw [List.getElem?_set_ne n]; exact hu, z2⟩
    · unfold wipeE at e1 e2
      unfold L2.wipe at e3 e4
      rcases getSet e1 with ⟨_, z, _⟩ | ⟨n1, z1⟩
      · cases z
      · rcases getSet e2 with ⟨_, z, _⟩ | ⟨n2, z2⟩
        · cases z
        · rw [List.getElem?_set_ne n1] at e3
          rw [List.getElem?_set_ne n2] at e4
          exact q.r.sep j k x y a n z1 z2 e3 e4
theorem wipe_set {i : Nat} {x : Option V} : ∀ {vs : List Nat} {σ : L2.St}, i ∈ vs → L2.wipe (σ.set i x) vs = L2.wipe σ vs
  | [], _, h => absurd h (by simp)
  | v :: vs, σ, h => by
    unfold L2.wipe
    by_cases hi : i ∈ vs
    · rw [wipe_set hi]
    · have e : i = v := by
        rcases List.mem_cons.mp h with h | h
        · exact h
        · exact absurd h hi
      subst e
      have : ∀ (us : List Nat) (τ : L2.St), i ∉ us → L2.wipe (τ.set i x) us = (L2.wipe τ us).set i x := by
        intro us
        induction us with
        | nil => intro τ _; rfl
        | cons u us ih =>
          intro τ hu
          unfold L2.wipe
          rw [ih τ (fun z => hu (List.mem_cons_of_mem _ z)), List.set_comm _ _ (fun z => hu (by rw [← z]; exact List.mem_cons_self))]
      rw [this vs σ hi, List.set_set]
end
end Z2
namespace Z2
open PySem L2
abbrev T2E := Ev → (D → Prop) → Prop
abbrev T2T := Ev → (Bool → Prop) → Prop
abbrev T2A := Ev → (List D → Prop) → Prop
abbrev R1D := D → (D → Prop) → Prop
abbrev R2D := D → D → (D → Prop) → Prop
abbrev RCD := List D → (D → Prop) → Prop
def SE (K : Fg) (te : TE) (t : T2E) : Prop := ∀ (p : P0) (env : Ev) (σ : L2.St) (I H : Hp) (Q2 : D → Prop) (Q : VK), RelL K p env σ I H → t env Q2 →
  (∀ d v I' H', Q2 d → Stp p I H I' H' → Rp K I' v d → Q v H') → te σ H Q
def SA (K : Fg) (n : Nat) (ta : TA) (t : T2A) : Prop := ∀ (p : P0) (env : Ev) (σ : L2.St) (I H : Hp) (Q2 : List D → Prop) (Q : List V → Hp → Prop), RelL K p env σ I H → t env Q2 →
  (∀ ds vs I' H', Q2 ds → vs.length = n → Stp p I H I' H' → Rps K I' vs ds → Q vs H') → ta σ H Q
def ST (K : Fg) (tt : TT) (t : T2T) : Prop := ∀ (p : P0) (env : Ev) (σ : L2.St) (I H : Hp) (Q2 : Bool → Prop) (Q : Bool → Hp → Prop), RelL K p env σ I H → t env Q2 →
  (∀ b I' H', Q2 b → Stp p I H I' H' → Q b H') → tt σ H Q
/-- a list that is new -/
def SO (K : Fg) (te : TE) (t : T2A) : Prop := ∀ (p : P0) (env : Ev) (σ : L2.St) (I H : Hp) (Q2 : List D → Prop) (Q : VK), RelL K p env σ I H → t env Q2 →
  (∀ ds a vs I' H', Q2 ds → Stp p I H I' H' → H a = none → I' a = none → H' a = some (.lst vs) → Rps K I' vs ds → Q (.ref a) H') → te σ H Q
theorem Stp.lay {p : P0} {I H I' H' : Hp} {a : Addr} {vs : List V} (s : Stp p I H I' H') (h0 : H a = none) (h1 : I' a = none) (h2 : H' a = some (.lst vs)) : Stp p I H (upd I' a (.lst vs)) H' ∧ Same I' (upd I' a (.lst vs)) := by
  have ii : Same I' (upd I' a (.lst vs)) := fun b o q => by rw [upd_ne (ne_of_none q h1)]; exact q
  refine ⟨⟨⟨s.ii.trans ii, fun b o q => ?_, s.gr.hh, fun b q n => ?_, s.gr.th⟩, fun c e h => ?_⟩, ii⟩
  · by_cases hb : b = a
    · subst hb; rw [upd_same] at q; cases q; exact h2
    · rw [upd_ne hb] at q; exact s.ih b o q
  · have hb : b ≠ a := fun w => n (by rw [w]; exact h0)
    rw [upd_ne hb]; exact s.gr.fr b q n
  · obtain ⟨f0, l, x, k, ns, f1, f2, f3⟩ := s.st c e h
    have hc : c ≠ a := fun w => by
      obtain ⟨_, _, _, _, _, g1, _⟩ := h
      rw [w, h0] at g1; cases g1
    exact ⟨by rw [upd_ne hc]; exact f0, l, x, k, ns, f1, ii _ _ f2, f3⟩
def tList (t : T2A) : T2E := fun env Q => t env fun ds => Q (.list ds)
theorem se_own {K : Fg} {te : TE} {t : T2A} (h : SO K te t) : SE K te (tList t) := by
  intro p env σ I H Q2 Q r q k
  refine h p env σ I H _ Q r q fun ds a vs I' H' q2 s h0 h1 h2 h3 => ?_
  obtain ⟨s2, ii⟩ := s.lay h0 h1 h2
  exact k _ _ _ _ q2 s2 (.lst upd_same (Rps.mono ii ds vs h3))
/-! ### names, constants -/
def dVar (i : Nat) : T2E := fun env Q => match env[i]? with | some (some (.dat d)) => Q d | _ => False
def dC (d : D) : T2E := fun _ Q => Q d
theorem se_var {K : Fg} (i : Nat) : SE K (tVar i) (dVar i) := by
  intro p env σ I H Q2 Q r q k
  unfold dVar at q
  cases e : env[i]? with
  | none => rw [e] at q; exact q.elim
  | some o =>
    cases o with
    | none => rw [e] at q; exact q.elim
    | some x =>
      cases x with
      | own _ => rw [e] at q; exact q.elim
      | strm => rw [e] at q; exact q.elim
      | dct _ _ => rw [e] at q; exact q.elim
      | dki _ => rw [e] at q; exact q.elim
      | rng _ => rw [e] at q; exact q.elim
      | obj _ _ _ _ => rw [e] at q; exact q.elim
      | obf _ _ _ => rw [e] at q; exact q.elim
      | lnt _ => rw [e] at q; exact q.elim
      | mat _ => rw [e] at q; exact q.elim
      | dat d =>
        rw [e] at q
        obtain ⟨v, hv, h⟩ := r.r.sl i _ e
        exact ⟨v, hv, k d v I H q (.refl r.same) h⟩
theorem se_int {K : Fg} {n : Int} : SE K (tC (.int n)) (dC (.int n)) := fun _ _ _ I H _ _ r q k => k _ _ I H q (.refl r.same) (.int n)
theorem se_bl {K : Fg} {n : Bool} : SE K (tC (.bl n)) (dC (.bool n)) := fun _ _ _ I H _ _ r q k => k _ _ I H q (.refl r.same) (.bl n)
theorem se_non {K : Fg} : SE K (tC .non) (dC .none) := fun _ _ _ I H _ _ r q k => k _ _ I H q (.refl r.same) .non
theorem se_str {K : Fg} {x : Str} : SE K (tC (.str x)) (dC (.str x)) := fun _ _ _ I H _ _ r q k => k _ _ I H q (.refl r.same) (.str x)
/-! ### operators -/
def Sim1 (K : Fg) (r : V → Hp → VK → Prop) (r2 : R1D) : Prop := ∀ (I H : Hp) (x : V) (dx : D) (Q2 : D → Prop) (Q : VK), Same I H → Rp K I x dx → r2 dx Q2 →
  (∀ d v I' H', Q2 d → Gr none I H I' H' → Rp K I' v d → Q v H') → r x H Q
def Sim2 (K : Fg) (r : R2) (r2 : R2D) : Prop := ∀ (I H : Hp) (x y : V) (dx dy : D) (Q2 : D → Prop) (Q : VK), Same I H → Rp K I x dx → Rp K I y dy → r2 dx dy Q2 →
  (∀ d v I' H', Q2 d → Gr none I H I' H' → Rp K I' v d → Q v H') → r x y H Q
def SimC (K : Fg) (r : List V → Hp → VK → Prop) (r2 : RCD) : Prop := ∀ (I H : Hp) (vs : List V) (ds : List D) (Q2 : D → Prop) (Q : VK), Same I H → Rps K I vs ds → r2 ds Q2 →
  (∀ d v I' H', Q2 d → Gr none I H I' H' → Rp K I' v d → Q v H') → r vs H Q
/-- a call that hands back a new list -/
def SimCO (K : Fg) (r : List V → Hp → VK → Prop) (r2 : List D → (List D → Prop) → Prop) : Prop := ∀ (I H : Hp) (vs : List V) (ds : List D) (Q2 : List D → Prop) (Q : VK), Same I H → Rps K I vs ds → r2 ds Q2 →
  (∀ es a ws, Q2 es → H a = none → Rps K I ws es → Q (.ref a) (upd H a (.lst ws))) → r vs H Q
def Sim2O (K : Fg) (r : R2) (r2 : D → D → (List D → Prop) → Prop) : Prop := ∀ (I H : Hp) (x y : V) (dx dy : D) (Q2 : List D → Prop) (Q : VK), Same I H → Rp K I x dx → Rp K I y dy → r2 dx dy Q2 →
  (∀ es a ws, Q2 es → H a = none → Rps K I ws es → Q (.ref a) (upd H a (.lst ws))) → r x y H Q
def dOp (r : R2D) (a b : T2E) : T2E := fun env Q => a env fun x => b env fun y => r x y Q
def dOpO (r : D → D → (List D → Prop) → Prop) (a b : T2E) : T2A := fun env Q => a env fun x => b env fun y => r x y Q
def dUn (r : R1D) (a : T2E) : T2E := fun env Q => a env fun x => r x Q
def dCB (r : RCD) (a : T2A) : T2E := fun env Q => a env fun ds => r ds Q
def dCBO (r : List D → (List D → Prop) → Prop) (a : T2A) : T2A := fun env Q => a env fun ds => r ds Q
section
variable {K : Fg} {ta tb tc : TE} {a b c : T2E} {r : R2} {r2 : R2D}
theorem se_op (h : Sim2 K r r2) (ha : SE K ta a) (hb : SE K tb b) : SE K (tOp r ta tb) (dOp r2 a b) := by
  intro p env σ I H Q2 Q rl q k
  refine ha p env σ I H _ _ rl q fun d v I1 H1 q1 s1 h1 => ?_
  refine hb p env σ I1 H1 _ _ (rl.stp s1) q1 fun e w I3 H3 q3 s3 h3 => ?_
  exact h I3 H3 v w d e Q2 Q s3.ih (Rp.mono s3.ii d v h1) h3 q3 fun d' v' I' H' q' g r' => k d' v' I' H' q' ((s1.trans s3).trans (.of g)) r'
theorem se_un {r : V → Hp → VK → Prop} {r2 : R1D} (h : Sim1 K r r2) (ha : SE K ta a) : SE K (tUn r ta) (dUn r2 a) := by
  intro p env σ I H Q2 Q rl q k
  refine ha p env σ I H _ _ rl q fun d v I1 H1 q1 s1 h1 => ?_
  exact h I1 H1 v d Q2 Q s1.ih h1 q1 fun d' v' I' H' q' g r' => k d' v' I' H' q' (s1.trans (.of g)) r'
theorem se_cb {r : List V → Hp → VK → Prop} {r2 : RCD} {n : Nat} {t : TA} {u : T2A} (h : SimC K r r2) (ha : SA K n t u) : SE K (tCB r t) (dCB r2 u) := by
  intro p env σ I H Q2 Q rl q k
  refine ha p env σ I H _ _ rl q fun ds vs I1 H1 q1 hl s1 h1 => ?_
  exact h I1 H1 vs ds Q2 Q s1.ih h1 q1 fun d' v' I' H' q' g r' => k d' v' I' H' q' (s1.trans (.of g)) r'
theorem Stp.fresh {p : P0} {I H : Hp} {a : Addr} {o : HO} (e : Same I H) (h : H a = none) : Stp p I H I (upd H a o) := .of (Gr.fresh e h)
theorem so_cb {r : List V → Hp → VK → Prop} {r2 : List D → (List D → Prop) → Prop} {n : Nat} {t : TA} {u : T2A} (h : SimCO K r r2) (ha : SA K n t u) : SO K (tCB r t) (dCBO r2 u) := by
  intro p env σ I H Q2 Q rl q k
  refine ha p env σ I H _ _ rl q fun ds vs I1 H1 q1 hl s1 h1 => ?_
  refine h I1 H1 vs ds Q2 Q s1.ih h1 q1 fun es l ws q' h0 r' => ?_
  have hn : H l = none := by
    cases e : H l with
    | none => rfl
    | some o => exact absurd h0 (s1.gr.th l (by rw [e]; exact fun z => nomatch z))
  exact k es l ws I1 _ q' (s1.trans (Stp.fresh s1.ih h0)) hn (Same.free s1.ih h0) upd_same r'
/-! arguments, displays -/
def dNil : T2A := fun _ Q => Q []
def dCons (a : T2E) (t : T2A) : T2A := fun env Q => a env fun x => t env fun xs => Q (x :: xs)
theorem sa_nil : SA K 0 tNil dNil := fun _ _ _ I H _ _ r q k => k _ _ I H q rfl (.refl r.same) .nil
theorem sa_cons {n : Nat} {t : TA} {u : T2A} (ha : SE K ta a) (ht : SA K n t u) : SA K (n + 1) (tCons ta t) (dCons a u) := by
  intro p env σ I H Q2 Q rl q k
  refine ha p env σ I H _ _ rl q fun d v I1 H1 q1 s1 h1 => ?_
  refine ht p env σ I1 H1 _ _ (rl.stp s1) q1 fun ds vs I3 H3 q3 hl s3 h3 => ?_
  exact k _ _ I3 H3 q3 (by rw [List.length_cons, hl]) (s1.trans s3) (.cons (Rp.mono s3.ii d v h1) h3)
def dTup (t : T2A) : T2E := fun env Q => t env fun ds => Q (.tuple ds)
theorem le_line {n : Nat} (h : n ≤ 1000000) : n ≤ sizeLine := Nat.le_trans h (by decide)
theorem lt_line {n : Nat} (h : n < 1000000) : n < sizeLine := Nat.lt_of_lt_of_le h (by decide)
theorem se_tup {n : Nat} {t : TA} {u : T2A} (ht : SA K n t u) (hn : n ≤ 1000000 := by decide) : SE K (tTupF t) (dTup u) := by
  intro p env σ I H Q2 Q rl q k
  refine ht p env σ I H _ _ rl q fun ds vs I1 H1 q1 hl s1 h1 => ⟨le_line (by rw [hl]; exact hn), fun l ob hc hd h0 => ?_⟩
  have g := Gr.new (m := none) (o := .frz ob (.tup vs)) s1.ih h0
  exact k _ _ _ _ q1 (s1.trans (.of g)) (.tup (PlT.new hc hd) (Rps.mono g.ii ds vs h1))
theorem so_lst {n : Nat} {t : TA} {u : T2A} (ht : SA K n t u) (hn : n ≤ 1000000 := by decide) : SO K (tLst t) u := by
  intro p env σ I H Q2 Q rl q k
  refine ht p env σ I H _ _ rl q fun ds vs I1 H1 q1 hl s1 h1 => ⟨le_line (by rw [hl]; exact hn), fun l h0 => ?_⟩
  have hn : H l = none := by
    cases e : H l with
    | none => rfl
    | some o => exact absurd h0 (s1.gr.th l (by rw [e]; exact fun z => nomatch z))
  exact k ds l vs I1 _ q1 (s1.trans (Stp.fresh s1.ih h0)) hn (Same.free s1.ih h0) upd_same h1
/-! tests -/
def dB (a : T2E) : T2T := fun env Q => a env fun d => match d with | .bool b => Q b | _ => False
theorem st_test (ha : SE K ta a) : ST K (tTest ta) (dB a) := by
  intro p env σ I H Q2 Q rl q k
  refine ha p env σ I H _ _ rl q fun d v I1 H1 q1 s1 h1 => ?_
  cases d <;> first | exact q1.elim | skip
  cases h1
  exact ⟨_, rfl, k _ _ _ q1 s1⟩
variable {t u : TT} {t2 u2 : T2T}
def dAnd (t u : T2T) : T2T := fun env Q => t env fun c => if c = true then u env Q else Q false
def dOr (t u : T2T) : T2T := fun env Q => t env fun c => if c = true then Q true else u env Q
def dNot (t : T2T) : T2T := fun env Q => t env fun c => Q (!c)
theorem st_and (h1 : ST K t t2) (h2 : ST K u u2) : ST K (tAnd t u) (dAnd t2 u2) := by
  intro p env σ I H Q2 Q rl q k
  refine h1 p env σ I H _ _ rl q fun c I1 H1 q1 s1 => ?_
  cases c with
  | true =>
    rw [if_pos rfl] at q1 ⊢
    exact h2 p env σ I1 H1 _ _ (rl.stp s1) q1 fun c I2 H2 q2 s2 => k c I2 H2 q2 (s1.trans s2)
  | false =>
    rw [if_neg Bool.false_ne_true] at q1 ⊢
    exact k _ _ _ q1 s1
theorem st_or (h1 : ST K t t2) (h2 : ST K u u2) : ST K (tOr t u) (dOr t2 u2) := by
  intro p env σ I H Q2 Q rl q k
  refine h1 p env σ I H _ _ rl q fun c I1 H1 q1 s1 => ?_
  cases c with
  | false =>
    rw [if_neg Bool.false_ne_true] at q1 ⊢
    exact h2 p env σ I1 H1 _ _ (rl.stp s1) q1 fun c I2 H2 q2 s2 => k c I2 H2 q2 (s1.trans s2)
  | true =>
    rw [if_pos rfl] at q1 ⊢
    exact k _ _ _ q1 s1
theorem st_not (h1 : ST K t t2) : ST K (tNot t) (dNot t2) := by
  intro p env σ I H Q2 Q rl q k
  exact h1 p env σ I H _ _ rl q fun c I1 H1 q1 s1 => k _ _ _ q1 s1
theorem st_yes : ST K tYes (fun _ Q => Q true) := fun _ _ _ I H _ _ r q k => k _ I H q (.refl r.same)
/-- and, or, not as values -/
def dAndV (a b : T2E) : T2E := fun env Q => a env fun d => match d with | .bool c => if c = true then b env Q else Q (.bool false) | _ => False
def dOrV (a b : T2E) : T2E := fun env Q => a env fun d => match d with | .bool c => if c = true then Q (.bool true) else b env Q | _ => False
def dNotV (a : T2E) : T2E := fun env Q => a env fun d => match d with | .bool c => Q (.bool (!c)) | _ => False
theorem se_and (ha : SE K ta a) (hb : SE K tb b) : SE K (tAndV ta tb) (dAndV a b) := by
  intro p env σ I H Q2 Q rl q k
  refine ha p env σ I H _ _ rl q fun d v I1 H1 q1 s1 h1 => ?_
  cases d <;> first | exact q1.elim | skip
  rename_i c
  cases h1
  refine ⟨c, rfl, ?_⟩
  cases c with
  | true =>
    dsimp only at q1
    rw [if_pos rfl] at q1 ⊢
    exact hb p env σ I1 H1 _ _ (rl.stp s1) q1 fun d v I2 H2 q2 s2 h2 => k d v I2 H2 q2 (s1.trans s2) h2
  | false =>
    dsimp only at q1
    rw [if_neg Bool.false_ne_true] at q1 ⊢
    exact k _ _ _ _ q1 s1 (.bl _)
theorem se_or (ha : SE K ta a) (hb : SE K tb b) : SE K (tOrV ta tb) (dOrV a b) := by
  intro p env σ I H Q2 Q rl q k
  refine ha p env σ I H _ _ rl q fun d v I1 H1 q1 s1 h1 => ?_
  cases d <;> first | exact q1.elim | skip
  rename_i c
  cases h1
  refine ⟨c, rfl, ?_⟩
  cases c with
  | false =>
    dsimp only at q1
    rw [if_neg Bool.false_ne_true] at q1 ⊢
    exact hb p env σ I1 H1 _ _ (rl.stp s1) q1 fun d v I2 H2 q2 s2 h2 => k d v I2 H2 q2 (s1.trans s2) h2
  | true =>
    dsimp only at q1
    rw [if_pos rfl] at q1 ⊢
    exact k _ _ _ _ q1 s1 (.bl _)
theorem se_not (ha : SE K ta a) : SE K (tNotV ta) (dNotV a) := by
  intro p env σ I H Q2 Q rl q k
  refine ha p env σ I H _ _ rl q fun d v I1 H1 q1 s1 h1 => ?_
  cases d <;> first | exact q1.elim | skip
  rename_i c
  cases h1
  exact ⟨c, rfl, k _ _ _ _ q1 s1 (.bl _)⟩
def dIf (t : T2T) (a b : T2E) : T2E := fun env Q => t env fun c => if c = true then a env Q else b env Q
theorem se_if (h1 : ST K t t2) (ha : SE K ta a) (hb : SE K tb b) : SE K (tIf t ta tb) (dIf t2 a b) := by
  intro p env σ I H Q2 Q rl q k
  refine h1 p env σ I H _ _ rl q fun c I1 H1 q1 s1 => ?_
  cases c with
  | true =>
    rw [if_pos rfl] at q1 ⊢
    exact ha p env σ I1 H1 _ _ (rl.stp s1) q1 fun d v I2 H2 q2 s2 h2 => k d v I2 H2 q2 (s1.trans s2) h2
  | false =>
    rw [if_neg Bool.false_ne_true] at q1 ⊢
    exact hb p env σ I1 H1 _ _ (rl.stp s1) q1 fun d v I2 H2 q2 s2 h2 => k d v I2 H2 q2 (s1.trans s2) h2
def dChain (r r' : R2D) (a b c : T2E) : T2E := fun env Q => a env fun x => b env fun y => r x y fun z => match z with | .bool k => if k = true then c env fun w => r' y w Q else Q (.bool false) | _ => False
theorem se_chain {r' : R2} {r2' : R2D} (h : Sim2 K r r2) (h' : Sim2 K r' r2') (ha : SE K ta a) (hb : SE K tb b) (hc : SE K tc c) : SE K (tChain r r' ta tb tc) (dChain r2 r2' a b c) := by
  intro p env σ I H Q2 Q rl q k
  refine ha p env σ I H _ _ rl q fun d v I1 H1 q1 s1 h1 => ?_
  refine hb p env σ I1 H1 _ _ (rl.stp s1) q1 fun e w I3 H3 q3 s3 h3 => ?_
  refine h I3 H3 v w d e _ _ s3.ih (Rp.mono s3.ii d v h1) h3 q3 fun z zv I4 H4 q4 g4 r4 => ?_
  cases z <;> first | exact q4.elim | skip
  rename_i c
  cases r4
  have s4 := (s1.trans s3).trans (Stp.of g4)
  refine ⟨c, rfl, ?_⟩
  cases c with
  | false =>
    dsimp only at q4
    rw [if_neg Bool.false_ne_true] at q4 ⊢
    exact k _ _ _ _ q4 s4 (.bl _)
  | true =>
    dsimp only at q4
    rw [if_pos rfl] at q4 ⊢
    refine hc p env σ I4 H4 _ _ (rl.stp s4) q4 fun f u I5 H5 q5 s5 h5 => ?_
    exact h' I5 H5 w u e f Q2 Q s5.ih (Rp.mono (g4.ii.trans s5.ii) e w h3) h5 q5 fun d' v' I' H' q' g r' => k d' v' I' H' q' ((s4.trans s5).trans (.of g)) r'
end
/-! ### the operators by values -/
section
variable {K : Fg}
def d2I (g : Int → Int → D) : R2D := fun x y Q => match x, y with | .int i, .int j => Q (g i j) | _, _ => False
def d2IC (C : Int → Int → Prop) (g : Int → Int → D) : R2D := fun x y Q => match x, y with | .int i, .int j => C i j ∧ Q (g i j) | _, _ => False
theorem s2_int {g : Int → Int → Int} : Sim2 K (rI0 fun i j => .int (g i j)) (d2I fun i j => .int (g i j)) := by
  intro I H x y dx dy Q2 Q e hx hy q k
  unfold d2I at q
  split at q
  · cases hx; cases hy; exact ⟨_, _, rfl, rfl, k _ _ I H q (.refl e) (.int _)⟩
  · exact q.elim
theorem s2_bool {g : Int → Int → Bool} : Sim2 K (rI0 fun i j => .bl (g i j)) (d2I fun i j => .bool (g i j)) := by
  intro I H x y dx dy Q2 Q e hx hy q k
  unfold d2I at q
  split at q
  · cases hx; cases hy; exact ⟨_, _, rfl, rfl, k _ _ I H q (.refl e) (.bl _)⟩
  · exact q.elim
theorem s2_intC {C : Int → Int → Prop} {g : Int → Int → Int} : Sim2 K (rI C fun i j => .int (g i j)) (d2IC C fun i j => .int (g i j)) := by
  intro I H x y dx dy Q2 Q e hx hy q k
  unfold d2IC at q
  split at q
  · cases hx; cases hy; exact ⟨_, _, rfl, rfl, q.1, k _ _ I H q.2 (.refl e) (.int _)⟩
  · exact q.elim
theorem Rps.nil_iff {I : Hp} {vs : List V} {ds : List D} (h : Rps K I vs ds) : vs = [] ↔ ds = [] := by
  cases h with
  | nil => simp
  | cons _ _ => simp
/-- t + u of tuples -/
def dCatT : R2D := fun x y Q => match x, y with | .tuple xs, .tuple ys => xs.length + ys.length ≤ 1000000 ∧ Q (.tuple (xs ++ ys)) | _, _ => False
theorem s2_catT : Sim2 K (rCatF K) dCatT := by
  intro I H x y dx dy Q2 Q e hx hy q k
  unfold dCatT at q
  split at q
  · obtain ⟨hl, q⟩ := q
    cases hx with
    | tup h1 h2 =>
      cases hy with
      | tup h3 h4 =>
        rename_i a vs b ws
        refine ⟨a, b, vs, ws, rfl, rfl, Same.sqt e h1.sqt, Same.sqt e h3.sqt, le_line (by rw [h2.length, h4.length]; exact hl), fun z => ?_, fun z z2 => ?_, fun z z2 l ob hc hd h0 => ?_⟩
        · subst z
          cases h2
          exact k _ _ I H q (.refl e) (.tup h3 h4)
        · subst z2
          cases h4
          rw [List.append_nil] at q
          exact k _ _ I H q (.refl e) (.tup h1 h2)
        · have g := Gr.new (m := none) (o := .frz ob (.tup (vs ++ ws))) e h0
          exact k _ _ _ _ q g (.tup (PlT.new hc hd) (Rps.append (Rps.mono g.ii _ _ h2) (Rps.mono g.ii _ _ h4)))
  · exact q.elim
/-- xs + ys of lists -/
def dCatL : D → D → (List D → Prop) → Prop := fun x y Q => match x, y with | .list xs, .list ys => xs.length + ys.length ≤ 1000000 ∧ Q (xs ++ ys) | _, _ => False
theorem s2_catL : Sim2O K rCat dCatL := by
  intro I H x y dx dy Q2 Q e hx hy q k
  unfold dCatL at q
  split at q
  · obtain ⟨hl, q⟩ := q
    cases hx with
    | lst h1 h2 =>
      cases hy with
      | lst h3 h4 =>
        rename_i a vs b ws
        exact ⟨a, b, vs, ws, rfl, rfl, e _ _ h1, e _ _ h3, le_line (by rw [h2.length, h4.length]; exact hl), fun l h0 => k _ l _ q h0 (Rps.append h2 h4)⟩
  · exact q.elim
/-- xs * n of lists -/
def dRepL : D → D → (List D → Prop) → Prop := fun x y Q => match x, y with | .list xs, .int n => -1000000 ≤ n ∧ n ≤ 1000000 ∧ xs.length * n.toNat ≤ 1000000 ∧ Q (List.replicate n.toNat xs).flatten | _, _ => False
theorem s2_repL : Sim2O K rRep dRepL := by
  intro I H x y dx dy Q2 Q e hx hy q k
  unfold dRepL at q
  split at q
  · obtain ⟨n1, n2, hl, q⟩ := q
    cases hx with
    | lst h1 h2 =>
      cases hy
      rename_i a vs
      exact ⟨a, _, vs, rfl, rfl, e _ _ h1, by omega, by omega, le_line (by rw [h2.length]; exact hl), fun l h0 => k _ l _ q h0 (Rps.rep h2 _)⟩
  · exact q.elim
/-- t * n of tuples -/
def dRepT : R2D := fun x y Q => match x, y with | .tuple xs, .int n => xs ≠ [] ∧ 2 ≤ n ∧ n ≤ 1000 ∧ xs.length ≤ 1000 ∧ Q (.tuple (List.replicate n.toNat xs).flatten) | _, _ => False
theorem s2_repT : Sim2 K (rRepF K) dRepT := by
  intro I H x y dx dy Q2 Q e hx hy q k
  unfold dRepT at q
  split at q
  · obtain ⟨hn, n1, n2, hl, q⟩ := q
    cases hx with
    | tup h1 h2 =>
      cases hy
      rename_i a vs
      refine ⟨a, _, vs, rfl, rfl, Same.sqt e h1.sqt, fun z => hn ((Rps.nil_iff h2).mp z), n1, n2, by rw [h2.length]; exact hl, fun l ob hc hd h0 => ?_⟩
      exact k _ _ _ _ q (Gr.new e h0) (.tup (PlT.new hc hd) (Rps.rep (Rps.mono (Gr.new (m := none) e h0).ii _ _ h2) _))
  · exact q.elim
/-- == and != -/
def dEq : R2D := fun x y Q => SeqAt.shaped x = true ∧ SeqAt.shaped y = true ∧ Q (.bool (PyData.eqv x y))
def dNe : R2D := fun x y Q => SeqAt.shaped x = true ∧ SeqAt.shaped y = true ∧ Q (.bool (!PyData.eqv x y))
theorem s2_eq : Sim2 K (rEqD K) dEq := fun I H x y dx dy Q2 Q e hx hy q k => ⟨dx, dy, Rp.dp e dx x (SeqAt.canLay_of_shaped q.1) hx, Rp.dp e dy y (SeqAt.canLay_of_shaped q.2.1) hy, q.1, q.2.1, k _ _ I H q.2.2 (.refl e) (.bl _)⟩
theorem s2_ne : Sim2 K (rNeD K) dNe := fun I H x y dx dy Q2 Q e hx hy q k => ⟨dx, dy, Rp.dp e dx x (SeqAt.canLay_of_shaped q.1) hx, Rp.dp e dy y (SeqAt.canLay_of_shaped q.2.1) hy, q.1, q.2.1, k _ _ I H q.2.2 (.refl e) (.bl _)⟩
/-- is None -/
def isNone : D → Bool | .none => true | _ => false
theorem Rp.isNone {I : Hp} {v : V} {d : D} (h : Rp K I v d) : decide (v = V.non) = isNone d := by
  cases h with
  | non => exact decide_eq_true rfl
  | bl _ => exact decide_eq_false (fun q => nomatch q)
  | int _ => exact decide_eq_false (fun q => nomatch q)
  | str _ => exact decide_eq_false (fun q => nomatch q)
  | lst _ _ => exact decide_eq_false (fun q => nomatch q)
  | tup _ _ => exact decide_eq_false (fun q => nomatch q)
  | dic _ _ => exact decide_eq_false (fun q => nomatch q)
def dIsN : R2D := fun x y Q => match y with | .none => Q (.bool (isNone x)) | _ => False
def dNotN : R2D := fun x y Q => match y with | .none => Q (.bool (!isNone x)) | _ => False
theorem s2_isN : Sim2 K (fun x y H Q => y = .non ∧ Q (.bl (decide (x = .non))) H) dIsN := by
  intro I H x y dx dy Q2 Q e hx hy q k
  unfold dIsN at q
  split at q
  · cases hy
    refine ⟨rfl, ?_⟩
    rw [Rp.isNone hx]
    exact k _ _ I H q (.refl e) (.bl _)
  · exact q.elim
theorem s2_notN : Sim2 K (fun x y H Q => y = .non ∧ Q (.bl (!decide (x = .non))) H) dNotN := by
  intro I H x y dx dy Q2 Q e hx hy q k
  unfold dNotN at q
  split at q
  · cases hy
    refine ⟨rfl, ?_⟩
    rw [Rp.isNone hx]
    exact k _ _ I H q (.refl e) (.bl _)
  · exact q.elim
/-- is of bools -/
def dIsB : R2D := fun x y Q => match x, y with | .bool a, .bool b => Q (.bool (decide (a = b))) | _, _ => False
/-- x in xs, flat things -/
def flatD : D → Bool | .none => true | .bool _ => true | .int _ => true | .str _ => true | _ => false
theorem Rp.flat {I : Hp} {v : V} {d : D} (h : Rp K I v d) (f : flatD d = true) : flatV v = true := by
  cases h <;> first | rfl | exact nomatch f
theorem Rps.flat {I : Hp} : ∀ {vs : List V} {ds : List D}, Rps K I vs ds → ds.all flatD = true → vs.all flatV = true
  | _, _, .nil, _ => rfl
  | _, _, .cons r t, f => by
    rw [List.all_cons, Bool.and_eq_true] at f ⊢
    exact ⟨Rp.flat r f.1, Rps.flat t f.2⟩
def seqOf : D → Option (List D) | .list xs => some xs | .tuple xs => some xs | _ => none
theorem Rp.seq {I H : Hp} {v : V} {d : D} {ds : List D} (e : Same I H) (h : Rp K I v d) (q : seqOf d = some ds) : ∃ a vs, v = .ref a ∧ (SqL K H a vs ∨ SqT K H a vs) ∧ Rps K I vs ds := by
  cases h with
  | lst h1 h2 => cases q; exact ⟨_, _, rfl, .inl (SqL.of (e _ _ h1)), h2⟩
  | tup h1 h2 => cases q; exact ⟨_, _, rfl, .inr (Same.sqt e h1.sqt), h2⟩
  | _ => cases q
/-- x in xs -/
theorem eqV_of {I : Hp} {v w : V} {d e : D} (h : Rp K I v d) (h2 : Rp K I w e) (f : flatD d = true) (f2 : flatD e = true) : eqV v w = PyData.eqv d e := by
  cases h <;> cases h2 <;> first | rfl | exact nomatch f | exact nomatch f2
theorem any_of {I : Hp} {w : V} {e : D} (h2 : Rp K I w e) (f2 : flatD e = true) : ∀ {vs : List V} {ds : List D}, Rps K I vs ds → ds.all flatD = true → inV w vs = ds.any fun d => PyData.eqv d e
  | _, _, .nil, _ => rfl
  | v :: vs, d :: ds, .cons r t, f => by
    rw [List.all_cons, Bool.and_eq_true] at f
    have q := any_of h2 f2 t f.2
    unfold inV at q ⊢
    rw [List.any_cons, List.any_cons, q, eqV_of r h2 f.1 f2]
def dIn (neg : Bool) : R2D := fun x y Q => match seqOf y with | some ds => flatD x = true ∧ ds.all flatD = true ∧ Q (.bool (if neg then !(ds.any fun d => PyData.eqv d x) else ds.any fun d => PyData.eqv d x)) | none => False
theorem s2_in {neg : Bool} : Sim2 K (rIn K neg) (dIn neg) := by
  intro I H x y dx dy Q2 Q e hx hy q k
  unfold dIn at q
  split at q
  · rename_i ds e2
    obtain ⟨f1, f2, q⟩ := q
    obtain ⟨a, vs, rfl, h1, h2⟩ := Rp.seq e hy e2
    refine ⟨a, vs, rfl, h1, Rp.flat hx f1, Rps.flat h2 f2, ?_⟩
    rw [any_of hx f1 h2 f2]
    exact k _ _ I H q (.refl e) (.bl _)
  · exact q.elim
/-! ### subscripts, slices -/
def dIx : R2D := fun x y Q => match y with
  | .int i => (match seqOf x with | some ds => (match atI ds i with | some d => Q d | none => False) | none => False)
  | _ => False
theorem atI_rp {I : Hp} {vs : List V} {ds : List D} {i : Int} {d : D} (h : Rps K I vs ds) (e : atI ds i = some d) : ∃ v, atI vs i = some v ∧ Rp K I v d := by
  unfold atI at e ⊢
  rw [h.length]
  cases q : ixN ds.length i with
  | none => rw [q] at e; cases e
  | some j =>
    rw [q] at e
    exact h.got e
theorem s2_ix : Sim2 K (rIx K) dIx := by
  intro I H x y dx dy Q2 Q e hx hy q k
  unfold dIx at q
  split at q
  · rename_i i
    split at q
    · rename_i ds e2
      split at q
      · rename_i d e3
        obtain ⟨a, vs, rfl, h1, h2⟩ := Rp.seq e hx e2
        obtain ⟨v, h3, h4⟩ := atI_rp h2 e3
        cases hy
        rcases h1 with h1 | h1
        · exact .inl ⟨a, vs, i, v, rfl, rfl, h1, h3, k _ _ I H q (.refl e) h4⟩
        · exact .inr (.inl ⟨a, vs, i, v, rfl, rfl, h1, h3, k _ _ I H q (.refl e) h4⟩)
      · exact q.elim
    · exact q.elim
  · exact q.elim
def cutD (ds : List D) (lo hi : Option Int) : List D := (ds.drop (HT.sIx ds.length 0 lo)).take (HT.sIx ds.length ds.length hi - HT.sIx ds.length 0 lo)
theorem Rps.cut {I : Hp} {vs : List V} {ds : List D} (h : Rps K I vs ds) (lo hi : Option Int) : Rps K I (cutV vs lo hi) (cutD ds lo hi) := by
  unfold cutV cutD
  rw [h.length]
  exact (h.drop _).take _
abbrev T2O := Ev → (Option Int → Prop) → Prop
def SOp (K : Fg) (to : TO) (t : T2O) : Prop := ∀ (p : P0) (env : Ev) (σ : L2.St) (I H : Hp) (Q2 : Option Int → Prop) (Q : Option Int → Hp → Prop), RelL K p env σ I H → t env Q2 →
  (∀ o I' H', Q2 o → Stp p I H I' H' → Q o H') → to σ H Q
def dNoPart : T2O := fun _ Q => Q none
def dPart (a : T2E) : T2O := fun env Q => a env fun d => match d with | .int i => Q (some i) | _ => False
theorem sop_none : SOp K tNoPart dNoPart := fun _ _ _ I H _ _ r q k => k _ I H q (.refl r.same)
theorem sop_some {ta : TE} {a : T2E} (ha : SE K ta a) : SOp K (tPart ta) (dPart a) := by
  intro p env σ I H Q2 Q rl q k
  refine ha p env σ I H _ _ rl q fun d v I1 H1 q1 s1 h1 => ?_
  cases d <;> first | exact q1.elim | skip
  cases h1
  exact ⟨_, rfl, k _ _ _ q1 s1⟩
/-- t[lo:hi] of a tuple -/
def dSlT (a : T2E) (l u : T2O) : T2E := fun env Q => a env fun x => l env fun lo => u env fun hi => match x with | .tuple ds => Q (.tuple (cutD ds lo hi)) | _ => False
theorem cut_whole {α : Type} {xs : List α} {lo hi : Option Int} (h : HT.sIx xs.length 0 lo = 0 ∧ HT.sIx xs.length xs.length hi = xs.length) : (xs.drop (HT.sIx xs.length 0 lo)).take (HT.sIx xs.length xs.length hi - HT.sIx xs.length 0 lo) = xs := by
  rw [h.1, h.2]
  simp
/-- xs[lo:hi] of a list -/
def dSlL (a : T2E) (l u : T2O) : T2A := fun env Q => a env fun x => l env fun lo => u env fun hi => match x with | .list ds => Q (cutD ds lo hi) | _ => False
/-! ### built-in calls -/
def dLen : RCD := fun ds Q => match ds with | [x] => (match seqOf x with | some xs => Q (.int xs.length) | none => False) | _ => False
theorem Rps.one {I : Hp} {vs : List V} {d : D} (h : Rps K I vs [d]) : ∃ v, vs = [v] ∧ Rp K I v d := by
  cases h with
  | cons h1 h2 => cases h2; exact ⟨_, rfl, h1⟩
theorem Rps.two {I : Hp} {vs : List V} {d e : D} (h : Rps K I vs [d, e]) : ∃ v w, vs = [v, w] ∧ Rp K I v d ∧ Rp K I w e := by
  cases h with
  | cons h1 h2 =>
    obtain ⟨w, rfl, h3⟩ := h2.one
    exact ⟨_, _, rfl, h1, h3⟩
theorem sc_len : SimC K (fun xs H Q => ∃ p ys, xs = [.ref p] ∧ (SqL K H p ys ∨ SqT K H p ys) ∧ Q (.int ys.length) H) dLen := by
  intro I H vs ds Q2 Q e h q k
  unfold dLen at q
  split at q
  · rename_i x
    split at q
    · rename_i xs e2
      obtain ⟨v, rfl, h1⟩ := h.one
      obtain ⟨a, ws, rfl, h2, h3⟩ := Rp.seq e h1 e2
      refine ⟨a, ws, rfl, h2, ?_⟩
      rw [h3.length]
      exact k _ _ I H q (.refl e) (.int _)
    · exact q.elim
  · exact q.elim
/-- tuple(xs) -/
def dTupOf : RCD := fun ds Q => match ds with | [x] => (match seqOf x with | some xs => Q (.tuple xs) | none => False) | _ => False
theorem sc_tuple : SimC K (rTupF K) dTupOf := by
  intro I H vs ds Q2 Q e h q k
  unfold dTupOf at q
  split at q
  · rename_i x
    split at q
    · rename_i xs e2
      obtain ⟨v, rfl, h1⟩ := h.one
      cases h1 with
      | lst e3 e4 =>
        rename_i a ws ds
        cases e2
        refine ⟨a, ws, rfl, .inl ⟨SqL.of (e _ _ e3), fun l ob hc hd h0 => ?_⟩⟩
        have g := Gr.new (m := none) (o := .frz ob (.tup ws)) e h0
        exact k _ _ _ _ q g (.tup (PlT.new hc hd) (Rps.mono g.ii _ _ e4))
      | tup e3 e4 =>
        rename_i a ws ds
        cases e2
        exact ⟨a, ws, rfl, .inr ⟨Same.sqt e e3.sqt, k _ _ I H q (.refl e) (.tup e3 e4)⟩⟩
      | _ => cases e2
    · exact q.elim
  · exact q.elim
/-- list(xs) -/
def dListOf : List D → (List D → Prop) → Prop := fun ds Q => match ds with | [x] => (match seqOf x with | some xs => Q xs | none => False) | _ => False
theorem sc_list : SimCO K (fun xs H Q => ∃ p ys, xs = [.ref p] ∧ (SqL K H p ys ∨ SqT K H p ys) ∧ ∀ l, H l = none → Q (.ref l) (upd H l (.lst ys))) dListOf := by
  intro I H vs ds Q2 Q e h q k
  unfold dListOf at q
  split at q
  · rename_i x
    split at q
    · rename_i xs e2
      obtain ⟨v, rfl, h1⟩ := h.one
      obtain ⟨a, ws, rfl, h2, h3⟩ := Rp.seq e h1 e2
      exact ⟨a, ws, rfl, h2, fun l h0 => k _ l _ q h0 h3⟩
    · exact q.elim
  · exact q.elim
def dInt1 (g : Int → D) : RCD := fun ds Q => match ds with | [.int i] => Q (g i) | _ => False
def dIntOf : RCD := fun ds Q => match ds with | [.int i] => Q (.int i) | [.bool b] => Q (.int (if b then 1 else 0)) | _ => False
theorem sc_int : SimC K (fun xs H Q => (∃ i, xs = [.int i] ∧ Q (.int i) H) ∨ ∃ k, xs = [.bl k] ∧ Q (.int (if k then 1 else 0)) H) dIntOf := by
  intro I H vs ds Q2 Q e h q k
  unfold dIntOf at q
  split at q
  · obtain ⟨v, rfl, h1⟩ := h.one
    cases h1
    exact .inl ⟨_, rfl, k _ _ I H q (.refl e) (.int _)⟩
  · obtain ⟨v, rfl, h1⟩ := h.one
    cases h1
    exact .inr ⟨_, rfl, k _ _ I H q (.refl e) (.int _)⟩
  · exact q.elim
def dInt2 (g : Int → Int → Int) : RCD := fun ds Q => match ds with | [.int i, .int j] => Q (.int (g i j)) | _ => False
/-- a text of an int: whatever it is, it is a text -/
def dStrOf : RCD := fun ds Q => match ds with | [.int i] => i.natAbs.log2 < 1920 ∧ Q (.str (toString i : Str)) | _ => False
def allBool : List D → Option (List Bool)
  | [] => some []
  | .bool b :: ds => (allBool ds).map (b :: ·)
  | _ :: _ => none
def allInt : List D → Option (List Int)
  | [] => some []
  | .int b :: ds => (allInt ds).map (b :: ·)
  | _ :: _ => none
theorem allBool_of : ∀ {ds : List D} {bs : List Bool}, allBool ds = some bs → ds = bs.map PyData.bool
  | [], _, h => by cases h; rfl
  | .bool b :: ds, bs, h => by
    unfold allBool at h
    cases e : allBool ds with
    | none => rw [e] at h; cases h
    | some cs =>
      rw [e] at h
      cases h
      rw [allBool_of e]; rfl
  | .none :: _, _, h => by cases h
  | .int _ :: _, _, h => by cases h
  | .str _ :: _, _, h => by cases h
  | .list _ :: _, _, h => by cases h
  | .tuple _ :: _, _, h => by cases h
  | .dict _ :: _, _, h => by cases h
theorem allInt_of : ∀ {ds : List D} {bs : List Int}, allInt ds = some bs → ds = bs.map PyData.int
  | [], _, h => by cases h; rfl
  | .int b :: ds, bs, h => by
    unfold allInt at h
    cases e : allInt ds with
    | none => rw [e] at h; cases h
    | some cs =>
      rw [e] at h
      cases h
      rw [allInt_of e]; rfl
  | .none :: _, _, h => by cases h
  | .bool _ :: _, _, h => by cases h
  | .str _ :: _, _, h => by cases h
  | .list _ :: _, _, h => by cases h
  | .tuple _ :: _, _, h => by cases h
  | .dict _ :: _, _, h => by cases h
def dBools (g : List Bool → Bool) : RCD := fun ds Q => match ds with | [.list xs] => (match allBool xs with | some bs => Q (.bool (g bs)) | none => False) | _ => False
theorem sc_all : SimC K (rAll K) (dBools fun bs => bs.all id) := by
  intro I H vs ds Q2 Q e h q k
  unfold dBools at q
  split at q
  · split at q
    · rename_i xs bs e2
      obtain ⟨v, rfl, h1⟩ := h.one
      cases h1 with
      | lst h3 h4 =>
        rename_i a ws
        have z := allBool_of e2
        subst z
        have z := h4.bools
        subst z
        exact ⟨a, bs, rfl, SqL.of (e _ _ h3), k _ _ I H q (.refl e) (.bl _)⟩
    · exact q.elim
  · exact q.elim
def dSum : RCD := fun ds Q => match ds with | [.list xs] => (match allInt xs with | some bs => Q (.int bs.sum) | none => False) | _ => False
theorem sc_sum : SimC K (rSum K) dSum := by
  intro I H vs ds Q2 Q e h q k
  unfold dSum at q
  split at q
  · split at q
    · rename_i xs bs e2
      obtain ⟨v, rfl, h1⟩ := h.one
      cases h1 with
      | lst h3 h4 =>
        rename_i a ws
        have z := allInt_of e2
        subst z
        have z := h4.ints
        subst z
        exact ⟨a, bs, rfl, SqL.of (e _ _ h3), k _ _ I H q (.refl e) (.int _)⟩
    · exact q.elim
  · exact q.elim
/-- sorted(xs) of ints -/
def dSorted : List D → (List D → Prop) → Prop := fun ds Q => match ds with
  | [.list xs] => (match allInt xs with | some ns => ns.length < 64 ∧ ∀ ns' : List Int, ns'.Perm ns → ns'.Pairwise (· ≤ ·) → Q (ns'.map PyData.int) | none => False) | _ => False
theorem sc_sorted : SimCO K (rSorted K) dSorted := by
  intro I H vs ds Q2 Q e h q k
  unfold dSorted at q
  split at q
  · split at q
    · rename_i xs bs e2
      obtain ⟨v, rfl, h1⟩ := h.one
      cases h1 with
      | lst h3 h4 =>
        rename_i a ws
        have z := allInt_of e2
        subst z
        have z := h4.ints
        subst z
        exact ⟨a, bs, rfl, SqL.of (e _ _ h3), q.1, fun ns' l hp hw h0 => k _ l _ (q.2 ns' hp hw) h0 (Rps.ofInts _)⟩
    · exact q.elim
  · exact q.elim
/-! ### isinstance -/
def tyD : D → String
  | .none => "NoneType" | .bool _ => "bool" | .int _ => "int" | .str _ => "str" | .list _ => "list" | .tuple _ => "tuple" | .dict _ => "dict"
theorem Rp.ty {I H : Hp} {v : V} {d : D} (e : Same I H) (h : Rp K I v d) : TyX K H v (.type (tyD d)) ∨ (tyD d = "dict" ∧ ∃ a w xs, v = .ref a ∧ H a = some (dctO w a xs)) := by
  cases h with
  | non => exact .inl (.base .non)
  | bl b => exact .inl (.base (.bl b))
  | int b => exact .inl (.base (.int b))
  | str b => exact .inl (.base (.str b))
  | lst h1 h2 => exact .inl (.base (.lst (e _ _ h1)))
  | tup h1 h2 =>
    rcases Same.sqt e h1.sqt with (h | ⟨o, h⟩) | ⟨o, its, n, hk, hc, _⟩
    · exact .inl (.base (.tup h))
    · exact .inl (.fTuple h)
    · exact .inl (.kTuple hk hc)
  | dic h1 h2 => exact .inr ⟨rfl, _, _, _, rfl, e _ _ h1⟩
end
/-- isinstance, also of a dict of one's own -/
def rIsi2 (K : Fg) : List V → Hp → VK → Prop := fun xs H Q => rIsi K xs H Q ∨ ∃ (a : Addr) (w : World) (ys : List (List Key × Addr × Value)) (c : V) (u : Value) (b : Bool), xs = [.ref a, c] ∧ ClsV c u ∧ H a = some (dctO w a ys) ∧ PySem.W.kitOne K (.type "dict") u = some b ∧ Q (.bl b) H
theorem call_isi2 {X : Cx} : CallR X (.builtin "isinstance") (rIsi2 X.K) := by
  intro pins s σ H xs us Q I r h
  rcases h with h | ⟨a, w, ys, c, u, b, rfl, k, ea, e, q⟩
  · exact call_isi pins s σ H xs us Q I r h
  · obtain ⟨u1, u2, rfl, r1, r2⟩ := vals2 r
    have e2 := k.eq r2
    subst e2
    cases (show u1 = Value.ref a from r1)
    obtain ⟨⟨z1, z2, o, es, ep, h1, h2, _⟩, _, _⟩ := (show ObjOk X.prog X.w H s.heap a (dctO w a ys) from I.hok a _ ea)
    exact PySem.W.kia_one PySem.W.kitx_dict I.kIn ⟨o, h1, h2.1⟩ e (fun z => nomatch z) fun tk => ⟨.bl b, H, I.tok tk, rfl, q⟩
def isT (T : String) : D → Bool
  | .bool _ => T == "bool" || T == "int" | d => T == tyD d
def tyTab (K : Fg) (T : String) : Prop := PySem.W.kitOne K (.type "NoneType") (.type T) = some (T == "NoneType") ∧ PySem.W.kitOne K (.type "bool") (.type T) = some (T == "bool" || T == "int") ∧ PySem.W.kitOne K (.type "int") (.type T) = some (T == "int") ∧
  PySem.W.kitOne K (.type "str") (.type T) = some (T == "str") ∧ PySem.W.kitOne K (.type "list") (.type T) = some (T == "list") ∧ PySem.W.kitOne K (.type "tuple") (.type T) = some (T == "tuple") ∧ PySem.W.kitOne K (.type "dict") (.type T) = some (T == "dict")
theorem tyTab_is {K : Fg} {T : String} (t : tyTab K T) (d : D) : PySem.W.kitOne K (.type (tyD d)) (.type T) = some (isT T d) := by
  obtain ⟨h1, h2, h3, h4, h5, h6, h7⟩ := t
  cases d <;> assumption
def dIsi (T : String) (a : T2E) : T2E := fun env Q => a env fun d => Q (.bool (isT T d))
theorem se_isi {K : Fg} {T : String} {ta : TE} {a : T2E} (t : tyTab K T) (ha : SE K ta a) : SE K (tCB (rIsi2 K) (tCons ta (tCons (tC (.ty T)) tNil))) (dIsi T a) := by
  intro p env σ I H Q2 Q rl q k
  refine ha p env σ I H _ _ rl q fun d v I1 H1 q1 s1 h1 => ?_
  have tt := tyTab_is t d
  rcases Rp.ty s1.ih h1 with z | ⟨z, a, w, ys, rfl, z2⟩
  · exact .inl ⟨v, .ty T, _, _, isT T d, rfl, .ty T, z, tt, k _ _ _ _ q1 s1 (.bl _)⟩
  · rw [z] at tt
    exact .inr ⟨a, w, ys, .ty T, _, isT T d, rfl, .ty T, z2, tt, k _ _ _ _ q1 s1 (.bl _)⟩
end Z2
namespace Z2
open PySem L2
structure Ends2 where
  nx : Ev → Prop
  rt : D → Prop
  bk : Ev → Prop := fun _ => False
  ct : Ev → Prop := fun _ => False
  rd : World → List (List Key × D) → Prop := fun _ _ => False
  re : Ev → D → Prop := fun _ _ => False
  rv : Ev → Nat → Prop := fun _ _ => False
abbrev T2S := Ends2 → Ev → Prop
structure EndsR (K : Fg) (p : P0) (D2 : Ends2) (E : Ends) : Prop where
  nx : ∀ env σ I H, D2.nx env → RelL K p env σ I H → E.nx σ H
  rt : ∀ d v I H, D2.rt d → Gr p.m p.I0 p.H0 I H → (∀ s, p.m = some s → Strm I H s) → Rp K I v d → E.rt v H
  bk : ∀ env σ I H, D2.bk env → RelL K p env σ I H → E.bk σ H
  ct : ∀ env σ I H, D2.ct env → RelL K p env σ I H → E.ct σ H
  rd : ∀ w ks a xs I H, D2.rd w ks → Gr p.m p.I0 p.H0 I H → p.H0 a = none → I a = none → H a = some (dctO w a xs) → KD K I xs ks → E.rt (.ref a) H
  re : ∀ env σ I H d v, D2.re env d → RelL K p env σ I H → Rp K I v d → E.rt v H
  rv : ∀ env σ I H i v, D2.rv env i → RelL K p env σ I H → σ[i]? = some (some v) → E.rt v H
def SS (K : Fg) (ts : TS) (t : T2S) : Prop := ∀ (p : P0) (env : Ev) (σ : L2.St) (I H : Hp) (D2 : Ends2) (E : Ends), RelL K p env σ I H → t D2 env → EndsR K p D2 E → ts E σ H
theorem RelL.grow' {K : Fg} {p : P0} {env : Ev} {σ : L2.St} {I H I' H' : Hp} (r : RelL K p env σ I H) (g : Gr none I H I' H') : RelL K p env σ I' H' := r.stp (.of g)
theorem wipe_wipe (σ : L2.St) (vs : List Nat) : L2.wipe (L2.wipe σ vs) vs = L2.wipe σ vs := by
  refine List.ext_getElem? fun i => ?_
  by_cases h : i ∈ vs
  · have : ∀ (us : List Nat) (τ : L2.St), i ∈ us → (L2.wipe τ us)[i]? = if i < τ.length then some none else none := by
      intro us
      induction us with
      | nil => intro τ h; exact absurd h (by simp)
      | cons u us ih =>
        intro τ h
        unfold L2.wipe
        by_cases hu : u = i
        · subst hu
          by_cases hl : u < τ.length
          · rw [if_pos hl, List.getElem?_set_self (by rw [wipe_length]; exact hl)]
          · rw [if_neg hl, List.getElem?_eq_none (by rw [List.length_set, wipe_length]; omega)]
        · rw [List.getElem?_set_ne hu]
          exact ih τ (by
            rcases List.mem_cons.mp h with h | h
            · exact absurd h.symm hu
            · exact h)
    rw [this vs _ h, this vs _ h, wipe_length]
  · rw [wipe_out h]
/-! ### targets -/
abbrev T2G := D → Ev → (Ev → Prop) → Prop
abbrev T2Gs := List D → Ev → (Ev → Prop) → Prop
def SG (K : Fg) (vs : List Nat) (g : TG) (t : T2G) : Prop := ∀ (p : P0) (env : Ev) (σ : L2.St) (I H : Hp) (v : V) (d : D) (Q2 : Ev → Prop) (Q : L2.St → Hp → Prop), RelL K p env σ I H → Rp K I v d → t d env Q2 →
  (∀ env' σ' I' H', Q2 env' → RelL K p env' σ' I' H' → Stp p I H I' H' → L2.wipe σ' vs = L2.wipe σ vs → Q σ' H') → g v σ H Q
def SGs (K : Fg) (n : Nat) (vs : List Nat) (g : TGs) (t : T2Gs) : Prop := ∀ (p : P0) (env : Ev) (σ : L2.St) (I H : Hp) (xs : List V) (ds : List D) (Q2 : Ev → Prop) (Q : L2.St → Hp → Prop), RelL K p env σ I H → Rps K I xs ds → t ds env Q2 →
  (∀ env' σ' I' H', Q2 env' → RelL K p env' σ' I' H' → Stp p I H I' H' → L2.wipe σ' vs = L2.wipe σ vs → Q σ' H') → g xs σ H Q
def gN (i : Nat) : T2G := fun d env Q => Q (env.set i (some (.dat d)))
section
variable {K : Fg} {vs : List Nat}
theorem sg_name (i : Nat) (h : i ∈ vs := by decide) : SG K vs (gName i) (gN i) := fun p env σ I H v d Q2 Q r hv q k => k _ _ I H q (r.setDat hv i) (.refl r.same) (wipe_set h)
def gsNil : T2Gs := fun ds env Q => match ds with | [] => Q env | _ => False
def gsCons (t : T2G) (u : T2Gs) : T2Gs := fun ds env Q => match ds with | d :: es => t d env fun env' => u es env' Q | _ => False
theorem sgs_nil : SGs K 0 vs gNil gsNil := by
  intro p env σ I H xs ds Q2 Q r h q k
  unfold gsNil at q
  split at q
  · cases h; exact ⟨rfl, k _ _ I H q r (.refl r.same) rfl⟩
  · exact q.elim
theorem sgs_cons {n : Nat} {g : TG} {gs : TGs} {t : T2G} {u : T2Gs} (h1 : SG K vs g t) (h2 : SGs K n vs gs u) : SGs K (n + 1) vs (gCons g gs) (gsCons t u) := by
  intro p env σ I H xs ds Q2 Q r h q k
  unfold gsCons at q
  split at q
  · cases h with
    | cons a b =>
      rename_i d es v ws
      refine ⟨v, ws, rfl, h1 p env σ I H v d _ _ r a q fun env1 σ1 I1 H1 q1 r1 s1 w1 => ?_⟩
      exact h2 p env1 σ1 I1 H1 ws es _ _ r1 (Rps.mono s1.ii _ _ b) q1 fun env2 σ2 I2 H2 q2 r2 s2 w2 => k _ _ _ _ q2 r2 (s1.trans s2) (w2.trans w1)
  · exact q.elim
/-- a, b = t, a tuple -/
def gT (n : Nat) (t : T2Gs) : T2G := fun d env Q => match d with | .tuple ds => ds.length = n ∧ t ds env Q | .list ds => ds.length = n ∧ t ds env Q | _ => False
/-- a tuple or a list, unpacked -/
def gSq (K : Fg) (n : Nat) (t : TGs) : TG := fun v σ H Q => gTup K n t v σ H Q ∨ gUnl K n t v σ H Q
theorem pg_sq {X : Cx} {pos : Pos} {es : List Expr} {k : Nat} {t : TGs} {n : Nat} (hc : X.calm = true) (h : PGs X es t) (e1 : (assignEach es X.env).length = n := by rfl) (e2 : List.findIdx? (fun x => x.fst) (assignEach es X.env) = none := by rfl) : PG X (.Tuple es k pos) (gSq X.K n t) :=
  ⟨fun pins s σ H v u Q I r q => q.elim (fun q => (pg_tup hc h e1 e2).run pins s σ H v u Q I r q) (fun q => (pg_unl hc h e1 e2).run pins s σ H v u Q I r q)⟩
theorem sg_tup {n : Nat} {gs : TGs} {t : T2Gs} (h : SGs K n vs gs t) : SG K vs (gSq K n gs) (gT n t) := by
  intro p env σ I H v d Q2 Q r hv q k
  unfold gT at q
  split at q
  · cases hv with
    | tup h1 h2 =>
      exact .inl ⟨_, _, rfl, Same.sqt r.same h1.sqt, by rw [h2.length]; exact q.1, h p env σ I H _ _ _ _ r h2 q.2 k⟩
  · cases hv with
    | lst h1 h2 =>
      exact .inr ⟨_, _, rfl, SqL.of (r.same _ _ h1), by rw [h2.length]; exact q.1, h p env σ I H _ _ _ _ r h2 q.2 k⟩
  · exact q.elim
end
/-! ### what is walked -/
abbrev T2I := Ev → (List D → Prop) → Prop
structure ItR (K : Fg) (I : Hp) (J : It) (ds : List D) : Prop where
  go : ∀ i I' H', Same I I' → Same I' H' → i < ds.length → J.go i H'
  stop : ∀ i I' H', Same I I' → Same I' H' → i = ds.length → J.stop i H'
  yld : ∀ i x I' H' H'', Same I I' → Same I' H' → i < ds.length → J.yld i H' x H'' → ∃ I'' d, Gr none I' H' I'' H'' ∧ ds[i]? = some d ∧ Rp K I'' x d
def SI (K : Fg) (wi : TI) (t : T2I) : Prop := ∀ (p : P0) (env : Ev) (σ : L2.St) (I H : Hp) (Q2 : List D → Prop) (R : It → Hp → Prop), RelL K p env σ I H → t env Q2 →
  (∀ ds J I' H', Q2 ds → Stp p I H I' H' → ItR K I' J ds → R J H') → wi σ H R
section
variable {K : Fg}
theorem itr_list {I : Hp} {a : Addr} {vs : List V} {ds : List D} (h : I a = some (.lst vs)) (r : Rps K I vs ds) : ItR K I (Itl K a) ds where
  go := fun i I' H' e1 e2 hi => by
    obtain ⟨v, hv, _⟩ := r.got (List.getElem?_eq_getElem hi)
    exact ⟨vs, v, SqL.of (e2 _ _ (e1 _ _ h)), hv⟩
  stop := fun i I' H' e1 e2 hi => ⟨vs, SqL.of (e2 _ _ (e1 _ _ h)), by rw [r.length]; omega⟩
  yld := fun i x I' H' H'' e1 e2 hi y => by
    obtain ⟨rfl, y⟩ := y
    obtain ⟨d, hd, q⟩ := r.get (y vs (SqL.of (e2 _ _ (e1 _ _ h))))
    exact ⟨I', d, .refl e2, hd, Rp.mono e1 _ _ q⟩
theorem itr_tup {I : Hp} {a : Addr} {vs : List V} {ds : List D} (h : SqT K I a vs) (r : Rps K I vs ds) : ItR K I (Itt K a) ds where
  go := fun i I' H' e1 e2 hi => by
    obtain ⟨v, hv, _⟩ := r.got (List.getElem?_eq_getElem hi)
    exact ⟨vs, v, Same.sqt e2 (Same.sqt e1 h), hv⟩
  stop := fun i I' H' e1 e2 hi => ⟨vs, Same.sqt e2 (Same.sqt e1 h), by rw [r.length]; omega⟩
  yld := fun i x I' H' H'' e1 e2 hi y => by
    obtain ⟨rfl, y⟩ := y
    obtain ⟨d, hd, q⟩ := r.get (y vs (Same.sqt e2 (Same.sqt e1 h)))
    exact ⟨I', d, .refl e2, hd, Rp.mono e1 _ _ q⟩
def dRange (lo : Int) (n : Nat) : List D := (List.range n).map fun (i : Nat) => PyData.int (lo + i)
theorem itr_range {I : Hp} (lo : Int) (n : Nat) : ItR K I (Itr lo n) (dRange lo n) where
  go := fun i I' H' e1 e2 hi => by
    unfold dRange at hi
    rw [List.length_map, List.length_range] at hi
    exact hi
  stop := fun i I' H' e1 e2 hi => by
    unfold dRange at hi
    rw [List.length_map, List.length_range] at hi
    show _ ≤ _
    omega
  yld := fun i x I' H' H'' e1 e2 hi y => by
    obtain ⟨rfl, rfl⟩ := y
    refine ⟨I', .int (lo + i), .refl e2, ?_, .int _⟩
    unfold dRange at hi ⊢
    rw [List.length_map, List.length_range] at hi
    rw [List.getElem?_map, List.getElem?_range hi]
    rfl
def dEnum (ds : List D) : List D := (List.range ds.length).map fun i => PyData.tuple [.int (i : Nat), ds.getD i .none]
def dZip : List D → List D → List D
  | x :: xs, y :: ys => .tuple [x, y] :: dZip xs ys
  | _, _ => []
theorem dZip_get : ∀ {xs ys : List D} {i : Nat} {x y : D}, xs[i]? = some x → ys[i]? = some y → (dZip xs ys)[i]? = some (.tuple [x, y])
  | [], _, _, _, _, h, _ => by simp at h
  | _ :: _, [], _, _, _, _, h => by simp at h
  | _ :: _, _ :: _, 0, _, _, h, h2 => by simp at h h2; subst h h2; rfl
  | _ :: xs, _ :: ys, i + 1, _, _, h, h2 => by
    have := dZip_get (xs := xs) (ys := ys) (i := i) (by simpa using h) (by simpa using h2)
    simpa [dZip] using this
theorem dZip_len : ∀ {xs ys : List D}, (dZip xs ys).length = min xs.length ys.length
  | [], _ => by simp [dZip]
  | _ :: _, [] => by simp [dZip]
  | _ :: xs, _ :: ys => by simp [dZip, dZip_len (xs := xs) (ys := ys), Nat.succ_min_succ]
theorem itr_zipT {I : Hp} {a b : Addr} {vs ws : List V} {ds es : List D} (h : SqT K I a vs) (r : Rps K I vs ds) (h2 : SqT K I b ws) (r2 : Rps K I ws es) : ItR K I (ItzF K a b) (dZip ds es) where
  go := fun i I' H' e1 e2 hi => by
    rw [dZip_len] at hi
    obtain ⟨v, hv, _⟩ := r.got (List.getElem?_eq_getElem (show i < ds.length by omega))
    obtain ⟨w, hw, _⟩ := r2.got (List.getElem?_eq_getElem (show i < es.length by omega))
    exact ⟨vs, ws, v, w, Same.sqt e2 (Same.sqt e1 h), Same.sqt e2 (Same.sqt e1 h2), hv, hw⟩
  stop := fun i I' H' e1 e2 hi => by
    rw [dZip_len] at hi
    refine ⟨vs, ws, Same.sqt e2 (Same.sqt e1 h), Same.sqt e2 (Same.sqt e1 h2), ?_⟩
    rw [r.length, r2.length]
    omega
  yld := fun i x I' H' H'' e1 e2 hi y => by
    obtain ⟨T, u, z, ob, rfl, oc, od, h0, rfl, y1, y2⟩ := y
    obtain ⟨d, hd, q⟩ := r.get (y1 vs (Same.sqt e2 (Same.sqt e1 h)))
    obtain ⟨d2, hd2, q2⟩ := r2.get (y2 ws (Same.sqt e2 (Same.sqt e1 h2)))
    have g := Gr.new (m := none) (o := .frz ob (.tup [u, z])) e2 h0
    exact ⟨_, .tuple [d, d2], g, dZip_get hd hd2, .tup (PlT.new oc od) (.cons (Rp.mono (e1.trans g.ii) _ _ q) (.cons (Rp.mono (e1.trans g.ii) _ _ q2) .nil))⟩
def diL (a : T2E) : T2I := fun env Q => a env fun d => match d with | .list ds => Q ds | _ => False
def diT (a : T2E) : T2I := fun env Q => a env fun d => match d with | .tuple ds => Q ds | _ => False
def diR1 (t : T2A) : T2I := fun env Q => t env fun ds => match ds with | [.int j] => -1000000 ≤ j ∧ j ≤ 1000000 ∧ Q (dRange 0 j.toNat) | _ => False
def diR2 (t : T2A) : T2I := fun env Q => t env fun ds => match ds with | [.int i, .int j] => (-1000000 ≤ i ∧ i ≤ 1000000) ∧ (-1000000 ≤ j ∧ j ≤ 1000000) ∧ Q (dRange i (j - i).toNat) | _ => False
theorem si_range1 {n : Nat} {t : TA} {u : T2A} (h : SA K n t u) : SI K (iRng1 t) (diR1 u) := by
  intro p env σ I H Q2 R rl q k
  refine h p env σ I H _ _ rl q fun ds vs I1 H1 q1 hl s1 h1 => ?_
  split at q1
  · obtain ⟨v, rfl, h2⟩ := h1.one
    cases h2
    exact ⟨_, rfl, by omega, by omega, k _ _ _ _ q1.2.2 s1 (itr_range _ _)⟩
  · exact q1.elim
def diZip (t : T2A) : T2I := fun env Q => t env fun ds => match ds with | [.tuple xs, .tuple ys] => Q (dZip xs ys) | _ => False
theorem si_zip {n : Nat} {t : TA} {u : T2A} (h : SA K n t u) : SI K (iZipF K t) (diZip u) := by
  intro p env σ I H Q2 R rl q k
  refine h p env σ I H _ _ rl q fun ds vs I1 H1 q1 hl s1 h1 => ?_
  split at q1
  · obtain ⟨v, w, rfl, h2, h3⟩ := h1.two
    cases h2 with
    | tup h4 h5 =>
      cases h3 with
      | tup h6 h7 => exact ⟨_, _, _, _, rfl, Same.sqt s1.ih h4.sqt, Same.sqt s1.ih h6.sqt, k _ _ _ _ q1 s1 (itr_zipT h4.sqt h5 h6.sqt h7)⟩
  · exact q1.elim
end
/-! ### comprehensions -/
def lcD (g : T2G) (tt : T2T) (te : T2E) (env : Ev) : List D → (List D → Prop) → Prop
  | [], Q => Q []
  | d :: ds, Q => g d env fun env1 => tt env1 fun b => if b = true then te env1 fun y => lcD g tt te env ds fun ys => Q (y :: ys) else lcD g tt te env ds Q
def dLc (ti : T2I) (g : T2G) (tt : T2T) (te : T2E) (vs : List Nat) : T2A := fun env Q => ti env fun ds => ds.length ≤ 1000000 ∧ lcD g tt te (wipeE env vs) ds Q
section
variable {K : Fg}
theorem so_lc {wi : TI} {g : TG} {tt : TT} {te : TE} {ti : T2I} {g2 : T2G} {tt2 : T2T} {te2 : T2E} {vs : List Nat} (hi : SI K wi ti) (hg : SG K vs g g2) (ht : ST K tt tt2) (he : SE K te te2) : SO K (tLc wi g tt te vs) (dLc ti g2 tt2 te2 vs) := by
  intro p env σ I H Q2 Q rl q k
  refine hi p env σ I H _ _ rl q fun ds J I1 H1 ⟨hlen, q1⟩ s1 it => ?_
  intro D hD
  have rl1 := rl.stp s1
  have hD0 : p.H0 D = none := by
    cases e : p.H0 D with
    | none => rfl
    | some o => exact absurd hD (rl1.r.gr.th D (by rw [e]; exact fun z => nomatch z))
  have hDI : I1 D = none := Same.free s1.ih hD
  have hDH : H D = none := by
    cases e : H D with
    | none => rfl
    | some o => exact absurd hD (s1.gr.th D (by rw [e]; exact fun z => nomatch z))
  have hm : p.m ≠ some D := fun e => (rl1.r.st D e).1 hD0
  have hown : ∀ (j : Nat) (x : List PyData), env[j]? = some (some (Sl.own x)) → σ[j]? ≠ some (some (V.ref D)) := fun j x e z => by
    obtain ⟨v, hv, a, ws, rfl, _, _, e4, _⟩ := rl1.r.sl j _ e
    rw [hv] at z
    cases z
    rw [hD] at e4; cases e4
  refine ⟨fun i m H' => m = ds.length - i ∧ i ≤ ds.length ∧ ∃ I' acc ys, RelL K p env σ I' H' ∧ Stp p I1 H1 I' H' ∧ I' D = none ∧ H' D = some (.lst acc) ∧ Rps K I' acc ys ∧ acc.length ≤ i ∧ lcD g2 tt2 te2 (wipeE env vs) (ds.drop i) fun zs => Q2 (ys ++ zs),
    ⟨ds.length, by simp, Nat.zero_le _, I1, [], [], rl1.beside hD0 hDI (fun _ _ z => by rw [hD] at z; cases z) (fun _ z => by rw [hD] at z; cases z) (rl1.freshCell (.refl rl1.same) hD) hown, Stp.fresh s1.ih hD, hDI, upd_same, .nil, Nat.le_refl _, q1⟩, ?_⟩
  rintro i m H' ⟨rfl, hi', I', acc, ys, r', st', hDI', hDH', rp, hacc, q'⟩
  by_cases hlt : i < ds.length
  · refine .inr ⟨it.go i I' H' st'.ii st'.ih hlt, fun H'' => ∃ I'' acc ys, RelL K p env σ I'' H'' ∧ Stp p I1 H1 I'' H'' ∧ I'' D = none ∧ H'' D = some (.lst acc) ∧ Rps K I'' acc ys ∧ acc.length ≤ i + 1 ∧ lcD g2 tt2 te2 (wipeE env vs) (ds.drop (i + 1)) fun zs => Q2 (ys ++ zs),
      fun H'' z => ⟨ds.length - (i + 1), by omega, rfl, by omega, z⟩, fun x H2 y => ?_⟩
    obtain ⟨I2, d, g1, hd, rd⟩ := it.yld i x I' H' H2 st'.ii st'.ih hlt y
    have hdrop : ds.drop i = d :: ds.drop (i + 1) := by
      have hdd : ds[i] = d := Option.some.inj ((List.getElem?_eq_getElem hlt).symm.trans hd)
      rw [List.drop_eq_getElem_cons hlt, hdd]
    rw [hdrop] at q'
    have st2 := st'.trans (Stp.of (p := p) g1)
    have r2 := r'.grow' g1
    have q2 : g2 d (wipeE env vs) (fun env1 => tt2 env1 fun b => if b = true then te2 env1 fun y => lcD g2 tt2 te2 (wipeE env vs) (ds.drop (i + 1)) fun zs => Q2 (ys ++ (y :: zs)) else lcD g2 tt2 te2 (wipeE env vs) (ds.drop (i + 1)) fun zs => Q2 (ys ++ zs)) := q'
    have keepD : ∀ {I3 H3 I4 H4}, Stp p I3 H3 I4 H4 → I3 D = none → H3 D = some (.lst acc) → I4 D = none ∧ H4 D = some (.lst acc) := fun s a b =>
      ⟨s.gr.fr D a (by rw [b]; exact fun z => nomatch z), s.gr.hh D _ b hm⟩
    obtain ⟨d2, d3⟩ := keepD (Stp.of (p := p) g1) hDI' hDH'
    refine hg p (wipeE env vs) (L2.wipe σ vs) I2 H2 x d _ _ (r2.wipe vs) rd q2 fun env1 σ1 I3 H3 q3 r3 s3 w3 => ⟨by rw [w3]; exact wipe_wipe σ vs, ?_⟩
    obtain ⟨d4, d5⟩ := keepD s3 d2 d3
    refine ht p env1 σ1 I3 H3 _ _ r3 q3 fun b I4 H4 q4 s4 => ?_
    obtain ⟨d6, d7⟩ := keepD s4 d4 d5
    have s34 := s3.trans s4
    cases b with
    | false =>
      rw [if_neg Bool.false_ne_true] at q4 ⊢
      exact ⟨I4, acc, ys, r2.stp s34, st2.trans s34, d6, d7, Rps.mono (g1.ii.trans s34.ii) _ _ rp, by omega, q4⟩
    | true =>
      rw [if_pos rfl] at q4 ⊢
      refine he p env1 σ1 I4 H4 _ _ (r3.stp s4) q4 fun e v I5 H5 q5 s5 r5 => ?_
      obtain ⟨d8, d9⟩ := keepD s5 d6 d7
      have s35 := s34.trans s5
      have st5 := st2.trans s35
      have r6 := (r2.stp s35)
      refine ⟨acc, d9, Nat.lt_of_le_of_lt hacc (Nat.lt_of_lt_of_le hlt (le_line hlen)), I5, acc ++ [v], ys ++ [e], r6.beside hD0 d8 (fun _ _ z => by rw [d9] at z; exact nomatch z) (fun _ z => by rw [d9] at z; exact nomatch z) (rl1.freshCell st5 hD) hown, ⟨⟨st5.ii, fun b o z => by rw [upd_ne (ne_of_none z d8)]; exact st5.ih b o z, fun b o z n => ?_, st5.gr.fr, fun b z => ?_⟩, fun s e1 e2 => ?_⟩, d8, upd_same,
        Rps.append (Rps.mono (g1.ii.trans s35.ii) _ _ rp) (.cons r5 .nil), by rw [List.length_append, List.length_singleton]; omega, ?_⟩
      · have hb : b ≠ D := fun w => by rw [w, hD] at z; cases z
        rw [upd_ne hb]; exact st5.gr.hh b o z n
      · have hb : b ≠ D := fun w => z (by rw [w]; exact hD)
        rw [upd_ne hb]; exact st5.gr.th b z
      · obtain ⟨f0, l, c, n, ns, f1, f2, f3⟩ := st5.st s e1 e2
        have hs : s ≠ D := fun w => hm (by rw [e1, w])
        exact ⟨f0, l, c, n, ns, by rw [upd_ne hs]; exact f1, f2, f3⟩
      · have ee : ∀ zs : List PyData, (ys ++ [e]) ++ zs = ys ++ (e :: zs) := fun zs => by rw [List.append_assoc]; rfl
        simp only [ee]
        exact q5
  · have hi2 : i = ds.length := by omega
    subst hi2
    rw [List.drop_length] at q'
    have q' : Q2 (ys ++ []) := q'
    rw [List.append_nil] at q'
    exact .inl ⟨it.stop _ I' H' st'.ii st'.ih rfl, k ys D acc I' H' q' (s1.trans st') hDH hDI' hDH' rp⟩
end
end Z2
namespace Z2
open PySem PySem.Spec PyProof.Rows L2
def dSeq (t u : T2S) : T2S := fun E env => t { E with nx := u E } env
def dNext : T2S := fun E env => E.nx env
def dAsg (t : T2E) (g : T2G) : T2S := fun E env => t env fun d => g d env E.nx
def dAsgO (t : T2A) (i : Nat) : T2S := fun E env => t env fun ds => E.nx (env.set i (some (.own ds)))
def dDrop (t : T2E) : T2S := fun E env => t env fun _ => E.nx env
def dRet (t : T2E) : T2S := fun E env => t env E.rt
def dRetN : T2S := fun E _ => E.rt .none
def dIfS (c : T2T) (t u : T2S) : T2S := fun E env => c env fun b => if b = true then t E env else u E env
def dNever : T2S := fun _ _ => False
def dBreak : T2S := fun E env => E.bk env
def dCont : T2S := fun E env => E.ct env
def forD (g : T2G) (tb : T2S) (E : Ends2) : List D → Ev → Prop
  | [] => E.nx
  | d :: ds => fun env => g d env fun env1 => tb { E with nx := forD g tb E ds, ct := forD g tb E ds, bk := E.nx } env1
def dFor (ti : T2I) (g : T2G) (tb : T2S) : T2S := fun E env => ti env fun ds => forD g tb E ds env
def dFrz (i : Nat) (t : T2S) : T2S := fun E env => match env[i]? with | some (some (.own ds)) => t E (env.set i (some (.dat (.list ds)))) | some (some (.dat _)) => t E env | _ => False
def dApp (i : Nat) (t : T2E) : T2S := fun E env => match env[i]? with | some (some (.own ds)) => t env fun d => ds.length < 1000000 ∧ E.nx (env.set i (some (.own (ds ++ [d])))) | _ => False
def dExt (i : Nat) (t : T2E) : T2S := fun E env => match env[i]? with | some (some (.own ds)) => t env fun d => (match d with | .list es => ds.length + es.length ≤ 1000000 ∧ E.nx (env.set i (some (.own (ds ++ es)))) | _ => False) | _ => False
def dSetIx (i : Nat) (t u : T2E) : T2S := fun E env => match env[i]? with
  | some (some (.own ds)) => t env fun d => u env fun k => (match k with | .int j => (match ixN ds.length j with | some n => E.nx (env.set i (some (.own (ds.set n d)))) | none => False) | _ => False)
  | _ => False
section
variable {K : Fg} {ts us : TS} {t u : T2S} {te tf : TE} {t2 u2 : T2E}
theorem ss_seq (h1 : SS K ts t) (h2 : SS K us u) : SS K (tSeq ts us) (dSeq t u) := fun p env σ I H D2 E r q e =>
  h1 p env σ I H _ _ r q ⟨fun env' σ' I' H' q' r' => h2 p env' σ' I' H' _ _ r' q' e, e.rt, e.bk, e.ct, e.rd, e.re, e.rv⟩
theorem ss_next : SS K tNext dNext := fun p env σ I H D2 E r q e => e.nx _ _ _ _ q r
theorem ss_never : SS K tNever dNever := fun p env σ I H D2 E r q e => q.elim
theorem ss_asg {vs : List Nat} {g : TG} {g2 : T2G} (h : SE K te t2) (hg : SG K vs g g2) : SS K (tAsg te g) (dAsg t2 g2) := fun p env σ I H D2 E r q e =>
  h p env σ I H _ _ r q fun d v I' H' q' s rp => hg p env σ I' H' v d _ _ (r.stp s) rp q' fun env' σ' I2 H2 q2 r2 _ _ => e.nx _ _ _ _ q2 r2
theorem ss_set {i : Nat} (h : SE K te t2) : SS K (tAsg te (gName i)) (dAsg t2 (gN i)) := ss_asg (vs := [i]) h (sg_name i (List.mem_singleton.mpr rfl))
theorem ss_asgO {i : Nat} {a : T2A} (h : SO K te a) : SS K (tAsg te (gName i)) (dAsgO a i) := fun p env σ I H D2 E r q e =>
  h p env σ I H _ _ r q fun ds l vs I' H' q' s h0 h1 h2 h3 => by
    have r' := r.stp s
    refine e.nx _ _ _ _ q' (r'.setOwn ?_ h1 h2 h3 (fun j x e z => ?_) ?_ i)
    · cases e0 : p.H0 l with
      | none => rfl
      | some o => exact absurd h0 (r.r.gr.th l (by rw [e0]; exact fun z => nomatch z))
    · obtain ⟨v, hv, a, ws, rfl, _, _, e4, _⟩ := r.r.sl j _ e
      rw [hv] at z
      cases z
      rw [h0] at e4; cases e4
    · exact r.freshCell s h0
theorem ss_drop (h : SE K te t2) : SS K (tDrop te) (dDrop t2) := fun p env σ I H D2 E r q e =>
  h p env σ I H _ _ r q fun d v I' H' q' s rp => e.nx _ _ _ _ q' (r.stp s)
theorem ss_ret (h : SE K te t2) : SS K (tRet te) (dRet t2) := fun p env σ I H D2 E r q e =>
  h p env σ I H _ _ r q fun d v I' H' q' s rp => e.rt d v I' H' q' (r.r.gr.trans s.gr) (fun a ea => s.st a ea (r.r.st a ea).2) rp
theorem ss_if {c : TT} {c2 : T2T} (h : ST K c c2) (h1 : SS K ts t) (h2 : SS K us u) : SS K (tIfS c ts us) (dIfS c2 t u) := by
  intro p env σ I H D2 E r q e
  refine h p env σ I H _ _ r q fun b I' H' q' s => ?_
  cases b with
  | true =>
    rw [if_pos rfl] at q' ⊢
    exact h1 p env σ I' H' _ _ (r.stp s) q' e
  | false =>
    rw [if_neg Bool.false_ne_true] at q' ⊢
    exact h2 p env σ I' H' _ _ (r.stp s) q' e
theorem ss_frz (i : Nat) (h : SS K ts t) : SS K ts (dFrz i t) := by
  intro p env σ I H D2 E r q e
  unfold dFrz at q
  split at q
  · rename_i ds e2
    obtain ⟨I', _, r'⟩ := r.freeze e2
    exact h p _ σ I' H _ _ r' q e
  · exact h p _ σ I H _ _ r q e
  · exact q.elim
theorem ss_for {wi : TI} {g : TG} {ti : T2I} {g2 : T2G} {vs : List Nat} (hi : SI K wi ti) (hg : SG K vs g g2) (hb : SS K ts t) : SS K (tFor wi g ts) (dFor ti g2 t) := by
  intro p env σ I H D2 E r q e
  refine hi p env σ I H _ _ r q fun ds J I1 H1 q1 s1 it => ?_
  refine ⟨fun i m σ' H' => m = ds.length - i ∧ i ≤ ds.length ∧ ∃ env' I', RelL K p env' σ' I' H' ∧ Same I1 I' ∧ forD g2 t D2 (ds.drop i) env', ⟨ds.length, by simp, Nat.zero_le _, env, I1, r.stp s1, Same.refl _, q1⟩, ?_⟩
  rintro i m σ' H' ⟨rfl, hi', env', I', r', ii, q'⟩
  by_cases hlt : i < ds.length
  · refine .inr ⟨it.go i I' H' ii r'.same hlt, fun σ2 H2 => ∃ env2 I2, RelL K p env2 σ2 I2 H2 ∧ Same I1 I2 ∧ forD g2 t D2 (ds.drop (i + 1)) env2, fun σ2 H2 z => ⟨ds.length - (i + 1), by omega, rfl, by omega, z⟩, fun x H2 y => ?_⟩
    obtain ⟨I2, d, g1, hd, rd⟩ := it.yld i x I' H' H2 ii r'.same hlt y
    have hdrop : ds.drop i = d :: ds.drop (i + 1) := by
      have hdd : ds[i] = d := Option.some.inj ((List.getElem?_eq_getElem hlt).symm.trans hd)
      rw [List.drop_eq_getElem_cons hlt, hdd]
    rw [hdrop] at q'
    refine hg p env' σ' I2 H2 x d _ _ (r'.grow' g1) rd q' fun env3 σ3 I3 H3 q3 r3 s3 _ => ?_
    have i3 := (ii.trans g1.ii).trans s3.ii
    have back : ∀ {env σ I H}, RelL K { p with B := I1 } env σ I H → RelL K p env σ I H ∧ Same I1 I := fun {env σ I H} z => ⟨z.rebase ((r.stp s1).r.bs.trans z.r.bs), z.r.bs⟩
    exact hb { p with B := I1 } env3 σ3 I3 H3 _ _ (r3.rebase i3) q3 ⟨fun env4 σ4 I4 H4 q4 r4 => ⟨env4, I4, (back r4).1, (back r4).2, q4⟩, e.rt, fun env4 σ4 I4 H4 q4 r4 => e.nx _ _ _ _ q4 (back r4).1,
      fun env4 σ4 I4 H4 q4 r4 => ⟨env4, I4, (back r4).1, (back r4).2, q4⟩, e.rd, fun env4 σ4 I4 H4 d v q4 r4 rp => e.re _ _ _ _ _ _ q4 (back r4).1 rp, fun env4 σ4 I4 H4 i v q4 r4 hv => e.rv _ _ _ _ _ _ q4 (back r4).1 hv⟩
  · have hi2 : i = ds.length := by omega
    subst hi2
    rw [List.drop_length] at q'
    exact .inl ⟨it.stop _ I' H' ii r'.same rfl, e.nx _ _ _ _ q' r'⟩
/-! own lists that change -/
theorem ss_app (i : Nat) (h : SE K te t2) : SS K (tDrop (tBM K "list" rAppend (tVar i) (tCons te tNil))) (dApp i t2) := by
  intro p env σ I H D2 E r q e
  unfold dApp at q
  split at q
  · rename_i ds e2
    obtain ⟨v, hv, a, vs, rfl, _, _, e4, e5⟩ := r.r.sl i _ e2
    refine ⟨_, hv, .inl ⟨rfl, _, SqL.of e4⟩, h p env σ I H _ _ r q fun d v I1 H1 ⟨hl, q1⟩ s1 r1 => ?_⟩
    have r' := r.stp s1
    obtain ⟨v', hv', a', ws, rfl, _, _, f4, f5⟩ := r'.r.sl i _ e2
    rw [hv] at hv'; cases hv'
    refine ⟨a, ws, v, rfl, rfl, f4, lt_line (by rw [f5.length]; exact hl), ?_⟩
    exact e.nx _ _ _ _ q1 (r'.mutOwn e2 hv (Rps.append f5 (.cons r1 .nil)))
  · exact q.elim
theorem ss_ext (i : Nat) (h : SE K te t2) : SS K (tDrop (tBM K "list" rExtend (tVar i) (tCons te tNil))) (dExt i t2) := by
  intro p env σ I H D2 E r q e
  unfold dExt at q
  split at q
  · rename_i ds e2
    obtain ⟨v, hv, a, vs, rfl, _, _, e4, e5⟩ := r.r.sl i _ e2
    refine ⟨_, hv, .inl ⟨rfl, _, SqL.of e4⟩, h p env σ I H _ _ r q fun d v I1 H1 q1 s1 r1 => ?_⟩
    have r' := r.stp s1
    obtain ⟨v', hv', a', ws, rfl, _, _, f4, f5⟩ := r'.r.sl i _ e2
    rw [hv] at hv'; cases hv'
    split at q1
    · obtain ⟨hl, q1⟩ := q1
      cases r1 with
      | lst g1 g2 =>
        refine ⟨a, _, ws, _, rfl, rfl, f4, s1.ih _ _ g1, le_line (by rw [f5.length, g2.length]; exact hl), ?_⟩
        exact e.nx _ _ _ _ q1 (r'.mutOwn e2 hv (Rps.append f5 g2))
    · exact q1.elim
  · exact q.elim
theorem ss_setIx (i : Nat) (h : SE K te t2) (h2 : SE K tf u2) : SS K (tAsg te (gSub (tVar i) tf rSetL)) (dSetIx i t2 u2) := by
  intro p env σ I H D2 E r q e
  unfold dSetIx at q
  split at q
  · rename_i ds e2
    refine h p env σ I H _ _ r q fun d v I1 H1 q1 s1 r1 => ?_
    obtain ⟨w, hw, a, vs, rfl, _, _, e4, e5⟩ := r.r.sl i _ e2
    refine ⟨_, hw, h2 p env σ I1 H1 _ _ (r.stp s1) q1 fun k u I2 H2 q2 s2 rk => ?_⟩
    have r' := (r.stp s1).stp s2
    obtain ⟨v', hv', a', ws, rfl, _, _, f4, f5⟩ := r'.r.sl i _ e2
    rw [hw] at hv'; cases hv'
    split at q2
    · split at q2
      · rename_i j _ n e3
        cases rk
        refine ⟨a, ws, _, n, rfl, rfl, f4, by rw [f5.length]; exact e3, ?_⟩
        exact e.nx _ _ _ _ q2 (r'.mutOwn e2 hw (Rps.set (Rp.mono s2.ii _ _ r1) n f5))
      · exact q2.elim
    · exact q2.elim
  · exact q.elim
end
/-! ### calls, promises -/
/-- a def over data: n arguments, what it does -/
def spD (K : Fg) (n : Nat) (f : RCD) : Sp := fun vs H Q _ => ∃ (I : Hp) (ds : List D) (Q2 : D → Prop), vs.length = n ∧ Same I H ∧ Rps K I vs ds ∧ f ds Q2 ∧ ∀ d v I' H', Q2 d → Gr none I H I' H' → Rp K I' v d → Q v H'
/-- .. whose first argument is the draws' list -/
def spS (K : Fg) (n : Nat) (f : RCD) : Sp := fun vs H Q _ => ∃ (I : Hp) (a : Addr) (ws : List V) (ds : List D) (Q2 : D → Prop), vs = .ref a :: ws ∧ ws.length = n ∧ Same I H ∧ Strm I H a ∧ Rps K I ws ds ∧ f ds Q2 ∧
  ∀ d v I' H', Q2 d → Gr (some a) I H I' H' → Strm I' H' a → Rp K I' v d → Q v H'
def dCallS (i : Nat) (f : RCD) (t : T2A) : T2E := fun env Q => (match env[i]? with | some (some .strm) => True | _ => False) ∧ t env fun ds => f ds Q
section
variable {K : Fg} {n : Nat} {f : RCD} {E : XK} {ta : TA} {t : T2A}
theorem se_call (h : SA K n ta t) : SE K (tCall (spD K n f) [] E ta) (dCB f t) := by
  intro p env σ I H Q2 Q rl q k
  refine h p env σ I H _ _ rl q fun ds vs I1 H1 q1 hl s1 h1 => ?_
  rw [List.append_nil]
  exact ⟨I1, ds, Q2, hl, s1.ih, h1, q1, fun d v I' H' q' g r' => k d v I' H' q' (s1.trans (.of g)) r'⟩
theorem se_callS (i : Nat) (h : SA K n ta t) : SE K (tCall (spS K n f) [] E (tCons (tVar i) ta)) (dCallS i f t) := by
  intro p env σ I H Q2 Q rl q k
  obtain ⟨q0, q⟩ := q
  split at q0
  · rename_i e2
    obtain ⟨v, hv, a, rfl, ha⟩ := rl.r.sl i _ e2
    refine ⟨_, hv, h p env σ I H _ _ rl q fun ds vs I1 H1 q1 hl s1 h1 => ?_⟩
    show spS K n f ((V.ref a :: vs) ++ []) H1 Q E
    rw [List.append_nil]
    have r1 := rl.stp s1
    exact ⟨I1, a, vs, ds, Q2, rfl, hl, s1.ih, (r1.r.st a ha).2, h1, q1, fun d v I' H' q' g st r' => k d v I' H' q' (s1.trans ⟨by rw [ha]; exact g, fun s es _ => by rw [ha] at es; cases es; exact st⟩) r'⟩
  · exact q0.elim
end
def envD (N n : Nat) (ds : List D) : Ev := ds.map (fun d => some (.dat d)) ++ List.replicate (N - n) none
def bodyD (N n : Nat) (t : T2S) : RCD := fun ds Q => ds.length = n ∧ t { nx := fun _ => Q .none, rt := Q } (envD N n ds)
def bodyS (N n : Nat) (t : T2S) : RCD := fun ds Q => ds.length = n ∧ t { nx := fun _ => Q .none, rt := Q } (some .strm :: envD N n ds)
theorem env_get {N n : Nat} {ds : List D} {i : Nat} {x : Sl} (h : (envD N n ds)[i]? = some (some x)) : ∃ d, x = .dat d ∧ ds[i]? = some d := by
  unfold envD at h
  by_cases hi : i < ds.length
  · rw [List.getElem?_append_left (by rw [List.length_map]; exact hi), List.getElem?_map] at h
    cases e : ds[i]? with
    | none => rw [e] at h; cases h
    | some d => rw [e] at h; cases h; exact ⟨d, rfl, rfl⟩
  · rw [List.getElem?_append_right (by rw [List.length_map]; omega), List.getElem?_replicate] at h
    split at h <;> cases h
theorem start_get {N : List Str} {vs : List V} {i : Nat} {v : V} (h : vs[i]? = some v) : (L2.start N vs)[i]? = some (some v) := by
  unfold L2.start
  have hi := (List.getElem?_eq_some_iff.mp h).1
  rw [List.getElem?_append_left (by rw [List.length_map]; exact hi), List.getElem?_map, h]
  rfl
theorem body_ok {K : Fg} {N : List Str} {n : Nat} {ts : TS} {t : T2S} (h : SS K ts t) {vs : List V} {H : Hp} {Q : VK} {E : XK} (q : spD K n (bodyD N.length n t) vs H Q E) : ts { nx := fun _ H' => Q .non H', rt := Q } (L2.start N vs) H := by
  obtain ⟨I, ds, Q2, hl, e, r, ⟨hd, q⟩, k⟩ := q
  refine h ⟨none, I, H, I⟩ _ (L2.start N vs) I H _ _ ⟨⟨.refl e, fun i x z => ?_, fun i j x y a _ z _ _ => ?_, (fun s z => nomatch z), Same.refl _, fun i j w w' x y a _ z _ _ => (by obtain ⟨d, z, _⟩ := env_get z; cases z), fun i j x y u v c _ hm z1 z2 _ _ _ => by
      obtain ⟨d1, z1, _⟩ := env_get z1
      obtain ⟨d2, z2, _⟩ := env_get z2
      cases z1
      cases z2
      cases hm⟩, ?_⟩ q ⟨fun env σ I' H' q' r' => k _ _ _ _ q' r'.r.gr .non, fun d v I' H' q' g _ r' => k _ _ _ _ q' g r', fun _ _ _ _ z => z.elim, fun _ _ _ _ z => z.elim, fun _ _ _ _ _ _ z => z.elim, fun _ _ _ _ _ _ z => z.elim, fun _ _ _ _ _ _ z => z.elim⟩
  · obtain ⟨d, rfl, hd⟩ := env_get z
    obtain ⟨v, hv, rv⟩ := r.got hd
    exact ⟨v, start_get hv, rv⟩
  · obtain ⟨d, z, _⟩ := env_get z
    cases z
  · unfold envD L2.start
    rw [List.length_append, List.length_append, List.length_map, List.length_map, List.length_replicate, List.length_replicate, hl, hd]
theorem body_okS {K : Fg} {N : List Str} {n : Nat} {ts : TS} {t : T2S} (h : SS K ts t) {vs : List V} {H : Hp} {Q : VK} {E : XK} (q : spS K n (bodyS (N.length - 1) n t) vs H Q E) (hN : 1 ≤ N.length) : ts { nx := fun _ H' => Q .non H', rt := Q } (L2.start N vs) H := by
  obtain ⟨I, a, ws, ds, Q2, rfl, hl, e, st, r, ⟨hd, q⟩, k⟩ := q
  have hs : L2.start N (V.ref a :: ws) = some (V.ref a) :: (ws.map some ++ List.replicate (N.length - 1 - ws.length) none) := by
    unfold L2.start
    rw [List.map_cons, List.cons_append, List.length_cons, Nat.sub_add_eq, Nat.sub_right_comm]
  rw [hs]
  have hH : H a ≠ none := by
    obtain ⟨_, _, _, _, _, z, _⟩ := st
    rw [z]; exact fun w => nomatch w
  refine h ⟨some a, I, H, I⟩ _ _ I H _ _ ⟨⟨.refl e, fun i x z => ?_, fun i j x y b _ z _ _ => ?_, fun s z => by cases z; exact ⟨hH, st⟩, Same.refl _, fun i j w w' x y b _ z _ _ => (by
      cases i with
      | zero => rw [List.getElem?_cons_zero] at z; cases z
      | succ i => rw [List.getElem?_cons_succ] at z; obtain ⟨d, z, _⟩ := env_get z; cases z), fun i j x y u v c _ hm z1 z2 _ _ _ => by
      have k : ∀ (i : Nat) (x : Sl), (some Sl.strm :: envD (N.length - 1) n ds)[i]? = some (some x) → isMat x = false := fun i x z => by
        cases i with
        | zero => rw [List.getElem?_cons_zero] at z; cases z; rfl
        | succ i => rw [List.getElem?_cons_succ] at z; obtain ⟨d, z, _⟩ := env_get z; cases z; rfl
      rw [k i x z1, k j y z2] at hm
      cases hm⟩, ?_⟩ q
    ⟨fun env σ I' H' q' r' => k _ _ _ _ q' r'.r.gr (r'.r.st a rfl).2 .non, fun d v I' H' q' g s r' => k _ _ _ _ q' g (s a rfl) r', fun _ _ _ _ z => z.elim, fun _ _ _ _ z => z.elim, fun _ _ _ _ _ _ z => z.elim, fun _ _ _ _ _ _ z => z.elim, fun _ _ _ _ _ _ z => z.elim⟩
  · cases i with
    | zero =>
      rw [List.getElem?_cons_zero] at z ⊢
      cases z
      exact ⟨_, rfl, a, rfl, rfl⟩
    | succ i =>
      rw [List.getElem?_cons_succ] at z ⊢
      obtain ⟨d, rfl, hd⟩ := env_get z
      obtain ⟨v, hv, rv⟩ := r.got hd
      refine ⟨v, ?_, rv⟩
      have hi := (List.getElem?_eq_some_iff.mp hv).1
      rw [List.getElem?_append_left (by rw [List.length_map]; exact hi), List.getElem?_map, hv]
      rfl
  · cases i with
    | zero => rw [List.getElem?_cons_zero] at z; cases z
    | succ i =>
      rw [List.getElem?_cons_succ] at z
      obtain ⟨d, z, _⟩ := env_get z
      cases z
  · unfold envD
    rw [List.length_cons, List.length_cons, List.length_append, List.length_append, List.length_map, List.length_map, List.length_replicate, List.length_replicate, hl, hd]
section
variable {P : Program} {w : World} {K : Fg} {mg : Str → Option Value} {base : Heap}
theorem fn_ok {x qual : Str} {st : Stmt} {f : Addr} {fd : FuncData} {N ps : List Str} {k n : Nat} {t : T2S} (F : Fun K x qual st f fd) (S : FnScope N ps (defScope st)) (hn : ps.length = n)
    (hb : ∀ (cdv : Value) (A : Around) (outer : List Env) (s : Shared) (H : Hp) (Q : VK) (E : XK), Room k (A.deeper (envOfC qual (defScope st) s.heap.objs.size f cdv)) →
      ∃ ts, PSs (cxOf CX0 P w K mg base N qual (defScope st) f cdv A outer s H E).nox (defBody st) ts ∧ SS K ts t) : FnOk P w K mg base CX0 (k + 1) f fd ps (spD K n (bodyD N.length n t)) := by
  refine F.ok S (fun vs H Q E h => ?_) fun cdv A outer s H vs Q E hr h => ?_
  · obtain ⟨_, _, _, hl, _⟩ := h
    rw [hl, hn]
  · obtain ⟨ts, h1, h2⟩ := hb cdv A outer s H Q E hr
    exact ⟨ts, h1, body_ok h2 h⟩
theorem fn_okS {x qual : Str} {st : Stmt} {f : Addr} {fd : FuncData} {N ps : List Str} {k n : Nat} {t : T2S} (F : Fun K x qual st f fd) (S : FnScope N ps (defScope st)) (hn : ps.length = n + 1) (hN : 1 ≤ N.length)
    (hb : ∀ (cdv : Value) (A : Around) (outer : List Env) (s : Shared) (H : Hp) (Q : VK) (E : XK), Room k (A.deeper (envOfC qual (defScope st) s.heap.objs.size f cdv)) →
      ∃ ts, PSs (cxOf CX0 P w K mg base N qual (defScope st) f cdv A outer s H E).nox (defBody st) ts ∧ SS K ts t) : FnOk P w K mg base CX0 (k + 1) f fd ps (spS K n (bodyS (N.length - 1) n t)) := by
  refine F.ok S (fun vs H Q E h => ?_) fun cdv A outer s H vs Q E hr h => ?_
  · obtain ⟨_, _, ws, _, _, rfl, hl, _⟩ := h
    rw [List.length_cons, hl, hn]
  · obtain ⟨ts, h1, h2⟩ := hb cdv A outer s H Q E hr
    exact ⟨ts, h1, body_okS h2 h hN⟩
end
end Z2
namespace Z2
open PySem PySem.Spec PyProof.Rows L2
/-! ### operators of several kinds -/
section
variable {K : Fg}
theorem Sim2O.sim {r : R2} {r2 : D → D → (List D → Prop) → Prop} (h : Sim2O K r r2) : Sim2 K r (fun x y Q => r2 x y fun ds => Q (.list ds)) := fun I H x y dx dy Q2 Q e hx hy q k =>
  h I H x y dx dy _ Q e hx hy q fun es a ws q' h0 r' => k _ _ _ _ q' (Gr.new e h0) (.lst upd_same (Rps.mono (Gr.new (m := none) (o := .lst ws) e h0).ii _ _ r'))
def dAdd : R2D := fun x y Q => match x, y with
  | .int i, .int j => Q (.int (i + j)) | .tuple xs, .tuple ys => xs.length + ys.length ≤ 1000000 ∧ Q (.tuple (xs ++ ys)) | .list xs, .list ys => xs.length + ys.length ≤ 1000000 ∧ Q (.list (xs ++ ys)) | _, _ => False
abbrev rAddA (K : Fg) : R2 := fun x y H Q => (rI0 (fun i j => V.int (i + j)) x y H Q ∨ rCatF K x y H Q) ∨ rCat x y H Q
theorem op_addA {X : Cx} : OpR X (binaryOp .Add) (rAddA X.K) := OpR.or (OpR.or op_add op_catF) op_cat
theorem s2_add : Sim2 K (rAddA K) dAdd := by
  intro I H x y dx dy Q2 Q e hx hy q k
  unfold dAdd at q
  split at q
  · exact .inl (.inl (s2_int (g := fun i j => i + j) I H x y _ _ Q2 Q e hx hy q k))
  · exact .inl (.inr (s2_catT I H x y _ _ Q2 Q e hx hy q k))
  · exact .inr (s2_catL.sim I H x y _ _ Q2 Q e hx hy q k)
  · exact q.elim
def dMul : R2D := fun x y Q => match x, y with
  | .int i, .int j => CMul i j ∧ Q (.int (i * j)) | .list xs, .int n => -1000000 ≤ n ∧ n ≤ 1000000 ∧ xs.length * n.toNat ≤ 1000000 ∧ Q (.list (List.replicate n.toNat xs).flatten)
  | .tuple xs, .int n => xs ≠ [] ∧ 2 ≤ n ∧ n ≤ 1000 ∧ xs.length ≤ 1000 ∧ Q (.tuple (List.replicate n.toNat xs).flatten) | _, _ => False
abbrev rMulA (K : Fg) : R2 := fun x y H Q => (rI CMul (fun i j => V.int (i * j)) x y H Q ∨ rRepF K x y H Q) ∨ rRep x y H Q
theorem op_mulA {X : Cx} : OpR X (binaryOp .Mult) (rMulA X.K) := OpR.or (OpR.or op_mul op_repF) op_rep
theorem s2_mul : Sim2 K (rMulA K) dMul := by
  intro I H x y dx dy Q2 Q e hx hy q k
  unfold dMul at q
  split at q
  · exact .inl (.inl (s2_intC (C := CMul) (g := fun i j => i * j) I H x y _ _ Q2 Q e hx hy q k))
  · exact .inr (s2_repL.sim I H x y _ _ Q2 Q e hx hy q k)
  · exact .inl (.inr (s2_repT I H x y _ _ Q2 Q e hx hy q k))
  · exact q.elim
def dSub : R2D := d2I fun i j => .int (i - j)
def dDiv : R2D := d2IC CDiv fun i j => .int (i / j)
def dMod : R2D := d2IC (fun _ j => 0 < j) fun i j => .int (i % j)
def dPow : R2D := d2IC CPow fun i j => .int (i ^ j.toNat)
def dLt : R2D := d2I fun i j => .bool (decide (i < j))
def dLe : R2D := d2I fun i j => .bool (decide (i ≤ j))
def dGt : R2D := d2I fun i j => .bool (decide (j < i))
def dGe : R2D := d2I fun i j => .bool (decide (j ≤ i))
theorem s2_sub : Sim2 K (rI0 fun i j => .int (i - j)) dSub := s2_int (g := fun i j => i - j)
theorem s2_lt : Sim2 K (rI0 fun i j => .bl (decide (i < j))) dLt := s2_bool (g := fun i j => decide (i < j))
theorem s2_le : Sim2 K (rI0 fun i j => .bl (decide (i ≤ j))) dLe := s2_bool (g := fun i j => decide (i ≤ j))
theorem s2_gt : Sim2 K (rI0 fun i j => .bl (decide (j < i))) dGt := s2_bool (g := fun i j => decide (j < i))
def dNeg : R1D := fun x Q => match x with | .int i => Q (.int (-i)) | _ => False
theorem s1_neg : Sim1 K (rU fun i => .int (-i)) dNeg := by
  intro I H x dx Q2 Q e hx q k
  unfold dNeg at q
  split at q
  · cases hx; exact ⟨_, rfl, k _ _ I H q (.refl e) (.int _)⟩
  · exact q.elim
/-- a slice -/
def dSl (a : T2E) (l u : T2O) : T2E := fun env Q => a env fun x => l env fun lo => u env fun hi => match x with | .tuple ds => Q (.tuple (cutD ds lo hi)) | .list ds => Q (.list (cutD ds lo hi)) | _ => False
abbrev rSlAny (K : Fg) : V → Option Int → Option Int → Hp → VK → Prop := fun x lo hi H Q => rSlF K x lo hi H Q ∨ rSlL K x lo hi H Q
theorem sl_any {X : Cx} : L2.SlR X (rSlAny X.K) := L2.SlR.or sl_tupF sl_list
theorem se_sl {ta : TE} {a : T2E} {tl tu : TO} {l u : T2O} (ha : SE K ta a) (hl : SOp K tl l) (hu : SOp K tu u) : SE K (tSl (rSlAny K) ta tl tu) (dSl a l u) := by
  intro p env σ I H Q2 Q rl q k
  refine ha p env σ I H _ _ rl q fun d v I1 H1 q1 s1 h1 => ?_
  refine hl p env σ I1 H1 _ _ (rl.stp s1) q1 fun lo I2 H2 q2 s2 => ?_
  refine hu p env σ I2 H2 _ _ (rl.stp (s1.trans s2)) q2 fun hi I3 H3 q3 s3 => ?_
  have s := (s1.trans s2).trans s3
  have h := Rp.mono (s2.trans s3).ii d v h1
  cases d <;> first | exact q3.elim | skip
  · cases h with
    | lst e1 e2 =>
      rename_i ds a vs
      refine .inr ⟨a, vs, rfl, SqL.of (s3.ih _ _ e1), fun l h0 => ?_⟩
      have g := Gr.new (m := none) (o := .lst (cutV vs lo hi)) s3.ih h0
      exact k _ _ _ _ q3 (s.trans (.of g)) (.lst upd_same (Rps.cut (Rps.mono g.ii _ _ e2) _ _))
  · cases h with
    | tup e1 e2 =>
      rename_i ds a vs
      refine .inl ⟨a, vs, rfl, Same.sqt s3.ih e1.sqt, fun w => ?_, fun w l ob hc hd h0 => ?_⟩
      · refine k _ _ I3 H3 q3 s (.tup e1 ?_)
        have z : cutD ds lo hi = ds := by unfold cutD; rw [e2.length] at w; exact cut_whole w
        rw [z]; exact e2
      · have g := Gr.new (m := none) (o := .frz ob (.tup (cutV vs lo hi))) s3.ih h0
        exact k _ _ _ _ q3 (s.trans (.of g)) (.tup (PlT.new hc hd) (Rps.cut (Rps.mono g.ii _ _ e2) _ _))
/-- truth -/
def dTru (a : T2E) : T2T := fun env Q => a env fun d => match d with
  | .bool b => Q b | .none => Q false | .int i => Q (i != 0) | .list ds => Q (!ds.isEmpty) | .tuple ds => Q (!ds.isEmpty) | .str x => x.length ≤ 1000000 ∧ Q ((x.length : Int) != 0) | _ => False
theorem Rps.isEmpty {I : Hp} {vs : List V} {ds : List D} (h : Rps K I vs ds) : vs.isEmpty = ds.isEmpty := by cases h <;> rfl
theorem st_truth {ta : TE} {a : T2E} (ha : SE K ta a) : ST K (fun σ H Q => ta σ H fun x H' => ∃ k, TruV K x H' k ∧ Q k H') (dTru a) := by
  intro p env σ I H Q2 Q rl q k
  refine ha p env σ I H _ _ rl q fun d v I1 H1 q1 s1 h1 => ?_
  cases h1 with
  | non => exact ⟨_, rfl, k _ _ _ q1 s1⟩
  | bl b => exact ⟨_, rfl, k _ _ _ q1 s1⟩
  | int b => exact ⟨_, rfl, k _ _ _ q1 s1⟩
  | str b => exact ⟨_, ⟨le_line q1.1, rfl⟩, k _ _ _ q1.2 s1⟩
  | lst e1 e2 => exact ⟨_, .inl ⟨_, SqL.of (s1.ih _ _ e1), rfl⟩, by rw [e2.isEmpty]; exact k _ _ _ q1 s1⟩
  | tup e1 e2 => exact ⟨_, .inr (.inl ⟨_, Same.sqt s1.ih e1.sqt, rfl⟩), by rw [e2.isEmpty]; exact k _ _ _ q1 s1⟩
  | dic _ _ => exact q1.elim
/-- a list or a tuple, walked -/
def iSeq (K : Fg) (tl : TE) : TI := fun σ H R => tl σ H fun x H1 => (∃ a xs, x = .ref a ∧ SqL K H1 a xs ∧ R (Itl K a) H1) ∨ ∃ a xs, x = .ref a ∧ SqT K H1 a xs ∧ R (Itt K a) H1
def diS (a : T2E) : T2I := fun env Q => a env fun d => match d with | .list ds => Q ds | .tuple ds => Q ds | _ => False
theorem si_seq {ta : TE} {a : T2E} (ha : SE K ta a) : SI K (iSeq K ta) (diS a) := by
  intro p env σ I H Q2 R rl q k
  refine ha p env σ I H _ _ rl q fun d v I1 H1 q1 s1 h1 => ?_
  cases d <;> first | exact q1.elim | skip
  · cases h1 with
    | lst h2 h3 => exact .inl ⟨_, _, rfl, SqL.of (s1.ih _ _ h2), k _ _ _ _ q1 s1 (itr_list h2 h3)⟩
  · cases h1 with
    | tup h2 h3 => exact .inr ⟨_, _, rfl, Same.sqt s1.ih h2.sqt, k _ _ _ _ q1 s1 (itr_tup h2.sqt h3)⟩
end
theorem pi_seq {X : Cx} {tg l : Expr} {tl : TE} (hl : PE X l tl) : PI X tg l (iSeq X.K tl) := ⟨fun pins s σ H R I h =>
  thn (hl.run pins s σ H _ I h) fun v s1 ⟨x, H1, I1, r1, q1⟩ => by
    have fp : ∀ b ∈ [s1.heap.objs.size], FpOk X pins H1 b := fun b hb => by
      rw [List.mem_singleton.mp hb]; exact I1.fpOk (Nat.le_refl _) (I1.hok.fresh (Nat.le_refl _))
    rcases q1 with ⟨a, xs, rfl, hq, q⟩ | ⟨a, xs, rfl, hq, q⟩
    · cases r1
      obtain ⟨its, rv, pl, _⟩ := I1.list hq
      exact wpAny_pyIter_list pl.isList ⟨_, [s1.heap.objs.size], _, _, H1, rfl, I1.kept (t' := s1.toks) fun b o e => Heap.get?_push_of_some _ e, turn_list a _, ⟨_, Heap.get?_push_size _ rfl, rfl, rfl⟩, fp, q⟩
    · cases r1
      obtain ⟨its, rv, pl, _⟩ := I1.tuple hq
      exact wpAny_pyIter_tuple (show s1.heap.IsTuple a its.toArray from pl) ⟨_, [s1.heap.objs.size], _, _, H1, rfl, I1.kept (t' := s1.toks) fun b o e => Heap.get?_push_of_some _ e, turn_tuple a _, ⟨_, Heap.get?_push_size _ rfl, rfl, rfl⟩, fp, q⟩⟩
/-! ### the text's own names -/
theorem pe_gint {X : Cx} {x : Str} {n : Int} {pos : Pos} (h : ∃ t, X.mg x = some (.int n t)) (hg : Gl X x) (hd : (x == ("__debug__" : Str)) = false := by decide) : PE X (.Name x pos) (tC (.int n)) := by
  obtain ⟨t, h⟩ := h
  exact pe_glob hg h ⟨t, rfl⟩ hd
/-- a def of the text's top -/
def Df (K : Fg) (mg : Str → Option Value) (x : Str) (st : Stmt) : Prop := ∃ f fd, Fun K x x st f fd ∧ mg x = some (.ref f)
/-- a def that keeps its promise -/
structure Fx (P : Program) (w : World) (K : Fg) (mg : Str → Option Value) (base : Heap) (k : Nat) (x : Str) (ps : List Str) (sp : Sp) : Prop where
  ex : ∃ f fd, FnOk P w K mg base CX0 k f fd ps sp ∧ mg x = some (.ref f) ∧ PySem.W.keepIn K (.ref f) = true ∧ Binds K fd ps []
section
variable {P : Program} {w : World} {K : Fg} {mg : Str → Option Value} {base : Heap} {x : Str} {ps : List Str} {sp : Sp}
theorem pe_fx {X : Cx} {k : Nat} {p pos : Pos} {e : Expr} {es : List Expr} {t : TA} (G : Fx X.prog X.w X.K X.mg X.base k x ps sp) (hr : Room k X.A) (hg : Gl X x) (ha : PA X (e :: es) t) (hdb : (x == ("__debug__" : Str)) = false := by decide)
    (he : starEach (e :: es) X.env = (false, eval e X.env) :: starEach es X.env := by rfl) (hpl : (backTo pos (starEach es X.env)).any (·.1) = false := by rfl) : PE X (.Call (.Name x p) (e :: es) [] pos) (tCall sp [] E0 t) := by
  obtain ⟨f, fd, F, hm, hk, hb⟩ := G.ex
  exact pe_call F hr hg hm hk hb .nil pass0 ha hdb he hpl
/-- how a def of the top binds -/
def BindsBy (x : Str) (st : Stmt) (ps : List Str) : Prop := ∀ (kV doc pm : Value) (an : Option Addr) (cdv ct : Value) (us : List Value), us.length = ps.length → bindArgs (PySem.W.fnOf x x (defArgs st) (defBody st) (defScope st) .none kV doc pm an cdv ct) ⟨us, []⟩ = pure (ps.zip us)
theorem fx_of {st : Stmt} {N : List Str} {k n : Nat} {t : T2S} (d : Df K mg x st) (S : FnScope N ps (defScope st)) (bb : BindsBy x st ps) (hn : ps.length = n)
    (hb : ∀ (f : Addr) (cdv : Value) (A : Around) (outer : List Env) (s : Shared) (H : Hp) (Q : VK) (E : XK), Room k (A.deeper (envOfC x (defScope st) s.heap.objs.size f cdv)) →
      ∃ ts, PSs (cxOf CX0 P w K mg base N x (defScope st) f cdv A outer s H E).nox (defBody st) ts ∧ SS K ts t) : Fx P w K mg base (k + 1) x ps (spD K n (bodyD N.length n t)) := by
  obtain ⟨f, fd, F, hm⟩ := d
  exact ⟨f, fd, fn_ok F S hn (hb f), hm, F.kp, F.binds bb⟩
theorem fx_ofS {st : Stmt} {N : List Str} {k n : Nat} {t : T2S} (d : Df K mg x st) (S : FnScope N ps (defScope st)) (bb : BindsBy x st ps) (hn : ps.length = n + 1) (hN : 1 ≤ N.length)
    (hb : ∀ (f : Addr) (cdv : Value) (A : Around) (outer : List Env) (s : Shared) (H : Hp) (Q : VK) (E : XK), Room k (A.deeper (envOfC x (defScope st) s.heap.objs.size f cdv)) →
      ∃ ts, PSs (cxOf CX0 P w K mg base N x (defScope st) f cdv A outer s H E).nox (defBody st) ts ∧ SS K ts t) : Fx P w K mg base (k + 1) x ps (spS K n (bodyS (N.length - 1) n t)) := by
  obtain ⟨f, fd, F, hm⟩ := d
  exact ⟨f, fd, fn_okS F S hn hN (hb f), hm, F.kp, F.binds bb⟩
theorem Fx.imp {k : Nat} {sp' : Sp} (G : Fx P w K mg base k x ps sp) (h : ∀ vs H Q E, sp' vs H Q E → sp vs H Q E) : Fx P w K mg base k x ps sp' := by
  obtain ⟨f, fd, F, hm, hk, hb⟩ := G.ex
  exact ⟨f, fd, F.imp h, hm, hk, hb⟩
end
/-! ### classes as values -/
theorem ty_tuple {K : Fg} : tyTab K "tuple" := ⟨kit_ty (by decide +kernel), kit_ty (by decide +kernel), kit_ty (by decide +kernel), kit_ty (by decide +kernel), kit_ty (by decide +kernel), kit_ty (by decide +kernel), kit_ty (by decide +kernel)⟩
theorem ty_int {K : Fg} : tyTab K "int" := ⟨kit_ty (by decide +kernel), kit_ty (by decide +kernel), kit_ty (by decide +kernel), kit_ty (by decide +kernel), kit_ty (by decide +kernel), kit_ty (by decide +kernel), kit_ty (by decide +kernel)⟩
theorem ty_bool {K : Fg} : tyTab K "bool" := ⟨kit_ty (by decide +kernel), kit_ty (by decide +kernel), kit_ty (by decide +kernel), kit_ty (by decide +kernel), kit_ty (by decide +kernel), kit_ty (by decide +kernel), kit_ty (by decide +kernel)⟩
theorem ty_str {K : Fg} : tyTab K "str" := ⟨kit_ty (by decide +kernel), kit_ty (by decide +kernel), kit_ty (by decide +kernel), kit_ty (by decide +kernel), kit_ty (by decide +kernel), kit_ty (by decide +kernel), kit_ty (by decide +kernel)⟩
theorem bt_isi : bootBuiltins ("isinstance" : Str) = some (.builtin "isinstance") := by decide +kernel
theorem bt_all : bootBuiltins ("all" : Str) = some (.builtin "all") := by decide +kernel
theorem bt_sum : bootBuiltins ("sum" : Str) = some (.builtin "sum") := by decide +kernel
theorem bt_abs : bootBuiltins ("abs" : Str) = some (.builtin "abs") := by decide +kernel
theorem bt_sorted : bootBuiltins ("sorted" : Str) = some (.builtin "sorted") := by decide +kernel
theorem bt_tuple : bootBuiltins ("tuple" : Str) = some (.type "tuple") := by decide +kernel
theorem bt_list : bootBuiltins ("list" : Str) = some (.type "list") := by decide +kernel
theorem bt_int : bootBuiltins ("int" : Str) = some (.type "int") := by decide +kernel
theorem bt_bool : bootBuiltins ("bool" : Str) = some (.type "bool") := by decide +kernel
theorem bt_str : bootBuiltins ("str" : Str) = some (.type "str") := by decide +kernel
/-! ### the draws -/
def spStream (K : Fg) : Sp := fun vs H Q _ => ∃ (a : Addr) (ns : List Int), vs = [.ref a] ∧ SqL K H a (ns.map V.int) ∧
  ∀ p l H', H' p = some (.lst [.ref l, .int 0, .int 0]) → H' l = some (.lst (ns.map V.int)) → p ≠ l → Q (.ref p) H'
def f_next : RCD := fun ds Q => ∃ n : Int, ds = [.int n] ∧ 0 < n ∧ n < 1073741824 ∧ ∀ d : Int, 0 ≤ d → d < n → Q (.int d)
def rInt : List V → Hp → VK → Prop := fun xs H Q => (∃ i, xs = [.int i] ∧ Q (.int i) H) ∨ ∃ k, xs = [.bl k] ∧ Q (.int (if k then 1 else 0)) H
def rAbs : List V → Hp → VK → Prop := fun xs H Q => ∃ i, xs = [.int i] ∧ Q (.int (if i < 0 then -i else i)) H
def rLenQ (K : Fg) : List V → Hp → VK → Prop := fun xs H Q => ∃ p ys, xs = [.ref p] ∧ (SqL K H p ys ∨ SqT K H p ys) ∧ Q (.int ys.length) H
abbrev iAdd (a b : TE) : TE := tOp (rI0 fun i j => .int (i + j)) a b
abbrev iMul (a b : TE) : TE := tOp (rI CMul fun i j => .int (i * j)) a b
abbrev iMod (a b : TE) : TE := tOp (rI (fun _ j => 0 < j) fun i j => .int (i % j)) a b
abbrev iDiv (a b : TE) : TE := tOp (rI CDiv fun i j => .int (i / j)) a b
abbrev iPow (a b : TE) : TE := tOp (rI CPow fun i j => .int (i ^ j.toNat)) a b
abbrev iLt (a b : TE) : TE := tOp (rI0 fun i j => .bl (decide (i < j))) a b
abbrev iAt (K : Fg) (a b : TE) : TE := tOp (rIxL K) a b
abbrev iInt (a : TE) : TE := tCB rInt (tCons a tNil)
/-- the cell is made anew -/
def t_refill (K : Fg) : TS :=
  tSeq (tAsg (iAt K (tVar 0) (tC (.int 2))) (gName 2)) (tSeq (tAsg (iAdd (tC (.int 7)) (tVar 2)) (gName 3))
    (tSeq (tIfS (tTest (iLt (tVar 2) (tCB (rLenQ K) (tCons (iAt K (tVar 0) (tC (.int 0))) tNil)))) (tAsg (tCB rAbs (tCons (iAt K (iAt K (tVar 0) (tC (.int 0))) (tVar 2)) tNil)) (gName 3)) tNext)
    (tSeq (tIfS (tTest (iLt (tVar 3) (iPow (tC (.int 10)) (tC (.int 18)))))
        (tSeq (tAsg (iMod (iInt (iAdd (iAdd (iMul (tVar 3) (tC (.int 48271))) (iMul (tVar 2) (tC (.int 69621)))) (tC (.int 11)))) (tC (.int 2147483647))) (gName 3))
          (tAsg (iAdd (iMul (iMod (iInt (iAdd (iMul (tVar 3) (tC (.int 16807))) (tC (.int 13)))) (tC (.int 2147483647))) (tC (.int 65537))) (tVar 3)) (gName 3))) tNext)
    (tSeq (tAsg (tVar 3) (gSub (tVar 0) (tC (.int 1)) rSetL)) (tAsg (iAdd (tVar 2) (tC (.int 1))) (gSub (tVar 0) (tC (.int 2)) rSetL))))))
def t_next (K : Fg) : TS :=
  tSeq (tIfS (tTest (tOp rEq (iAt K (tVar 0) (tC (.int 1))) (tC (.int 0)))) (t_refill K) tNext)
    (tSeq (tAsg (iMod (iInt (iAt K (tVar 0) (tC (.int 1)))) (tVar 1)) (gName 4)) (tSeq (tAsg (iDiv (iAt K (tVar 0) (tC (.int 1))) (tVar 1)) (gSub (tVar 0) (tC (.int 1)) rSetL)) (tRet (tVar 4))))
/-- the stream's list in any state -/
structure Drw (I H H' : Hp) (a l : Addr) (ns : List Int) : Prop where
  il : I l = some (.lst (ns.map V.int))
  ia : I a = none
  hh : ∀ b o, H b = some o → b ≠ a → H' b = some o
  th : ∀ b, H b ≠ none → H' b ≠ none
  ih : Same I H'
theorem Drw.put {I H H' : Hp} {a l : Addr} {ns : List Int} (d : Drw I H H' a l ns) (o : HO) : Drw I H (upd H' a o) a l ns :=
  ⟨d.il, d.ia, fun b u q n => by rw [upd_ne n]; exact d.hh b u q n, fun b q => by
    by_cases hb : b = a
    · rw [hb, upd_same]; exact fun z => nomatch z
    · rw [upd_ne hb]; exact d.th b q, fun b u q => by rw [upd_ne (ne_of_none q d.ia)]; exact d.ih b u q⟩
theorem next_ok {K : Fg} {s1 s2 s3 s4 s5 : Str} {vs : List V} {H : Hp} {Q : VK} {E : XK} (q : spS K 1 f_next vs H Q E) : t_next K { nx := fun _ H' => Q .non H', rt := Q } (L2.start [s1, s2, s3, s4, s5] vs) H := by
  obtain ⟨I, a, ws, ds, Q2, rfl, hl, e, ⟨ia, l, c, k, ns, ha, il, hk⟩, r, ⟨n, rfl, n0, n1, q⟩, post⟩ := q
  obtain ⟨v, rfl, rv⟩ := r.one
  cases rv
  have d0 : Drw I H H a l ns := ⟨il, ia, fun _ _ h _ => h, fun _ h => h, e⟩
  -- behind the first statement
  have tail : ∀ (c k : Int) (H' : Hp) (o2 o3 : Option V), Drw I H H' a l ns → H' a = some (.lst [.ref l, .int c, .int k]) → 0 ≤ k →
      tSeq (tAsg (iMod (iInt (iAt K (tVar 0) (tC (.int 1)))) (tVar 1)) (gName 4)) (tSeq (tAsg (iDiv (iAt K (tVar 0) (tC (.int 1))) (tVar 1)) (gSub (tVar 0) (tC (.int 1)) rSetL)) (tRet (tVar 4)))
        { nx := fun _ H' => Q .non H', rt := Q } [some (.ref a), some (.int n), o2, o3, none] H' := by
    intro c k H' o2 o3 d h hk
    refine ⟨_, rfl, a, _, 1, .int c, rfl, rfl, SqL.of h, rfl, .inl ⟨c, rfl, ?_⟩⟩
    refine ⟨_, rfl, c, n, rfl, rfl, n0, ?_⟩
    refine ⟨_, rfl, a, _, 1, .int c, rfl, rfl, SqL.of h, rfl, _, rfl, c, n, rfl, rfl, ⟨n0, n1⟩, ?_⟩
    refine ⟨_, rfl, a, _, 1, 1, rfl, rfl, h, rfl, ?_⟩
    refine ⟨_, rfl, ?_⟩
    have d2 := d.put (.lst ([V.ref l, .int c, .int k].set 1 (.int (c / n))))
    refine post _ _ I _ (q _ (Int.emod_nonneg _ (by omega)) (Int.emod_lt_of_pos _ n0)) ⟨Same.refl _, d2.ih, fun b o z m => d2.hh b o z (fun w => m (by rw [w])), fun b z _ => z, d2.th⟩ ⟨ia, l, c / n, k, ns, upd_same, il, hk⟩ (.int _)
  refine ⟨_, rfl, a, _, 1, .int c, rfl, rfl, SqL.of ha, rfl, rfl, _, rfl, ?_⟩
  refine ite2 (fun _ => ?_) (fun _ => tail c k H none none d0 ha hk)
  have hL : H l = some (.lst (ns.map V.int)) := e _ _ il
  refine ⟨_, rfl, a, _, 2, .int k, rfl, rfl, SqL.of ha, rfl, ?_⟩
  refine ⟨_, rfl, 7, k, rfl, rfl, ?_⟩
  refine ⟨_, rfl, _, rfl, a, _, 0, .ref l, rfl, rfl, SqL.of ha, rfl, l, _, rfl, .inl (SqL.of hL), k, _, rfl, rfl, _, rfl, ?_⟩
  have rest : ∀ cell : Int, tSeq (tIfS (tTest (iLt (tVar 3) (iPow (tC (.int 10)) (tC (.int 18)))))
        (tSeq (tAsg (iMod (iInt (iAdd (iAdd (iMul (tVar 3) (tC (.int 48271))) (iMul (tVar 2) (tC (.int 69621)))) (tC (.int 11)))) (tC (.int 2147483647))) (gName 3))
          (tAsg (iAdd (iMul (iMod (iInt (iAdd (iMul (tVar 3) (tC (.int 16807))) (tC (.int 13)))) (tC (.int 2147483647))) (tC (.int 65537))) (tVar 3)) (gName 3))) tNext)
      (tSeq (tAsg (tVar 3) (gSub (tVar 0) (tC (.int 1)) rSetL)) (tAsg (iAdd (tVar 2) (tC (.int 1))) (gSub (tVar 0) (tC (.int 2)) rSetL)))
      { nx := (tSeq (tAsg (iMod (iInt (iAt K (tVar 0) (tC (.int 1)))) (tVar 1)) (gName 4)) (tSeq (tAsg (iDiv (iAt K (tVar 0) (tC (.int 1))) (tVar 1)) (gSub (tVar 0) (tC (.int 1)) rSetL)) (tRet (tVar 4)))) { nx := fun _ H' => Q .non H', rt := Q }, rt := Q }
      [some (.ref a), some (.int n), some (.int k), some (.int cell), none] H := by
    intro cell
    have fin : ∀ cell : Int, tSeq (tAsg (tVar 3) (gSub (tVar 0) (tC (.int 1)) rSetL)) (tAsg (iAdd (tVar 2) (tC (.int 1))) (gSub (tVar 0) (tC (.int 2)) rSetL))
        { nx := (tSeq (tAsg (iMod (iInt (iAt K (tVar 0) (tC (.int 1)))) (tVar 1)) (gName 4)) (tSeq (tAsg (iDiv (iAt K (tVar 0) (tC (.int 1))) (tVar 1)) (gSub (tVar 0) (tC (.int 1)) rSetL)) (tRet (tVar 4)))) { nx := fun _ H' => Q .non H', rt := Q }, rt := Q }
        [some (.ref a), some (.int n), some (.int k), some (.int cell), none] H := by
      intro cell
      refine ⟨_, rfl, _, rfl, a, _, 1, 1, rfl, rfl, ha, rfl, ?_⟩
      refine ⟨_, rfl, k, 1, rfl, rfl, _, rfl, a, _, 2, 2, rfl, rfl, upd_same, rfl, ?_⟩
      exact tail cell (k + 1) _ _ _ ((d0.put _).put _) upd_same (by omega)
    refine ⟨_, rfl, 10, 18, rfl, rfl, ⟨by decide, by decide, by decide⟩, cell, _, rfl, rfl, _, rfl, ?_⟩
    refine ite2 (fun _ => ?_) (fun _ => fin cell)
    refine ⟨_, rfl, cell, 48271, rfl, rfl, .inr ⟨by decide, by decide⟩, _, rfl, k, 69621, rfl, rfl, .inr ⟨by decide, by decide⟩, _, _, rfl, rfl, _, 11, rfl, rfl, .inl ⟨_, rfl, _, 2147483647, rfl, rfl, (by show (0 : Int) < 2147483647; decide), ?_⟩⟩
    refine ⟨_, rfl, _, 16807, rfl, rfl, .inr ⟨by decide, by decide⟩, _, 13, rfl, rfl, .inl ⟨_, rfl, _, 2147483647, rfl, rfl, (by show (0 : Int) < 2147483647; decide), ?_⟩⟩
    exact ⟨_, 65537, rfl, rfl, .inr ⟨by decide, by decide⟩, _, rfl, _, _, rfl, rfl, fin _⟩
  refine ite2 (fun hlt => ?_) (fun _ => rest _)
  have hlt := of_decide_eq_true hlt
  have hb : k.toNat < ns.length := by rw [List.length_map] at hlt; omega
  have hat : atI (ns.map V.int) k = some (V.int ns[k.toNat]) := at_of (j := k.toNat) (by omega) (by rw [List.getElem?_map, List.getElem?_eq_getElem hb]; rfl)
  exact ⟨_, rfl, a, _, 0, .ref l, rfl, rfl, SqL.of ha, rfl, _, rfl, l, _, k, _, rfl, rfl, SqL.of hL, hat, _, rfl, rest _⟩
end Z2
namespace Z2
open PySem PySem.Spec PyProof.Rows L2
section
variable {P : Program} {w : World} {K : Fg} {mg : Str → Option Value} {base : Heap} {x : Str} {st : Stmt}
def rListOf (K : Fg) : List V → Hp → VK → Prop := fun xs H Q => ∃ p ys, xs = [.ref p] ∧ (SqL K H p ys ∨ SqT K H p ys) ∧ ∀ l, H l = none → Q (.ref l) (upd H l (.lst ys))
def t_stream (K : Fg) : TS := tRet (tLst (tCons (tCB (rListOf K) (tCons (tVar 0) tNil)) (tCons (tC (.int 0)) (tCons (tC (.int 0)) tNil))))
theorem fx_stream {s1 : Str} (d : Df K mg x st) (S : FnScope [s1] [s1] (defScope st)) (bb : BindsBy x st [s1])
    (hb : ∀ (f : Addr) (cdv : Value) (A : Around) (outer : List Env) (s : Shared) (H : Hp) (Q : VK) (E : XK), Room 0 (A.deeper (envOfC x (defScope st) s.heap.objs.size f cdv)) →
      PSs (cxOf CX0 P w K mg base [s1] x (defScope st) f cdv A outer s H E).nox (defBody st) (t_stream K)) : Fx P w K mg base 1 x [s1] (spStream K) := by
  obtain ⟨f, fd, F, hm⟩ := d
  refine ⟨f, fd, F.ok S (fun vs H Q E h => ?_) (fun cdv A outer s H vs Q E hr h => ⟨t_stream K, hb f cdv A outer s H Q E hr, ?_⟩), hm, F.kp, F.binds bb⟩
  · obtain ⟨a, ns, rfl, _⟩ := h
    rfl
  · obtain ⟨a, ns, rfl, hS, k⟩ := h
    refine ⟨_, rfl, a, _, rfl, .inl hS, fun l hl => ⟨by show 3 ≤ sizeLine; exact le_line (by decide), fun p hp => ?_⟩⟩
    have npl : p ≠ l := fun e => by rw [e, upd_same] at hp; cases hp
    exact k p l _ upd_same (by rw [upd_ne npl.symm]; exact upd_same) npl
theorem fx_next {s1 s2 s3 s4 s5 : Str} (d : Df K mg x st) (S : FnScope [s1, s2, s3, s4, s5] [s1, s2] (defScope st)) (bb : BindsBy x st [s1, s2])
    (hb : ∀ (f : Addr) (cdv : Value) (A : Around) (outer : List Env) (s : Shared) (H : Hp) (Q : VK) (E : XK), Room 0 (A.deeper (envOfC x (defScope st) s.heap.objs.size f cdv)) →
      PSs (cxOf CX0 P w K mg base [s1, s2, s3, s4, s5] x (defScope st) f cdv A outer s H E).nox (defBody st) (t_next K)) : Fx P w K mg base 1 x [s1, s2] (spS K 1 f_next) := by
  obtain ⟨f, fd, F, hm⟩ := d
  refine ⟨f, fd, F.ok S (fun vs H Q E h => ?_) (fun cdv A outer s H vs Q E hr h => ⟨t_next K, hb f cdv A outer s H Q E hr, next_ok h⟩), hm, F.kp, F.binds bb⟩
  obtain ⟨_, _, ws, _, _, rfl, hl, _⟩ := h
  rw [List.length_cons, hl]; rfl
/-! ### the law -/
def spLaw (K : Fg) : Sp := fun vs H Q _ => ∃ (a : Addr) (ns : List Int), vs = [.ref a] ∧ SqL K H a (ns.map V.int) ∧ ns.length ≤ 63 ∧ ∀ H', Q (.bl true) H'
theorem law_of {s1 : Str} {N : List Str} {k : Nat} {t : T2S} {f : Addr} {fd : FuncData} (F : Fun K "law" "law" st f fd) (S : FnScope N [s1] (defScope st)) (hN : 2 ≤ N.length)
    (pure : t { nx := fun _ => False, rt := fun d => d = .bool true } (none :: some .strm :: List.replicate (N.length - 2) none))
    (hb : ∀ (cdv : Value) (A : Around) (outer : List Env) (s : Shared) (H : Hp) (Q : VK) (E : XK), Room k (A.deeper (envOfC "law" (defScope st) s.heap.objs.size f cdv)) →
      ∃ ts, PSs (cxOf CX0 P w K mg base N "law" (defScope st) f cdv A outer s H E).nox (defBody st) (tSeq (tAsg (tCall (spStream K) [] E0 (tCons (tVar 0) tNil)) (gName 1)) ts) ∧ SS K ts t) : FnOk P w K mg base CX0 (k + 1) f fd [s1] (spLaw K) := by
  refine F.ok S (fun vs H Q E h => ?_) (fun cdv A outer s H vs Q E hr h => ?_)
  · obtain ⟨a, ns, rfl, _⟩ := h
    rfl
  · obtain ⟨ts, h1, h2⟩ := hb cdv A outer s H Q E hr
    refine ⟨_, h1, ?_⟩
    obtain ⟨a, ns, rfl, hS, _, k⟩ := h
    obtain ⟨m, hm⟩ : ∃ m, N.length = m + 2 := ⟨N.length - 2, by omega⟩
    have e0 : L2.start N [.ref a] = some (.ref a) :: none :: List.replicate m none := by
      unfold L2.start
      rw [hm]
      rfl
    rw [e0]
    refine ⟨_, rfl, a, ns, rfl, hS, fun p l H' hp hl npl => ?_⟩
    let I : Hp := fun b => if b = l then H' l else none
    have Il : I l = some (.lst (ns.map V.int)) := by show (if l = l then H' l else none) = _; rw [if_pos rfl]; exact hl
    have Ip : I p = none := if_neg npl
    have IH : Same I H' := fun b o q => by
      by_cases e : b = l
      · subst e
        rw [Il] at q
        rw [hl]; exact q
      · have z : I b = none := if_neg e
        rw [z] at q; cases q
    have em : N.length - 2 = m := by omega
    rw [em] at pure
    have hnone : ∀ {α : Type} (i : Nat) (x : α), (List.replicate m (none : Option α))[i]? ≠ some (some x) := fun {α} i x q => by
      rw [List.getElem?_replicate] at q
      split at q <;> cases q
    refine h2 ⟨some p, I, H', I⟩ _ _ I H' _ _ ⟨⟨.refl IH, fun i x q => ?_, fun i j x y b _ q _ _ => ?_, fun s es => ?_, .refl _, fun i j w w' x y b _ q _ _ => (by
      match i, q with
      | 0, q => cases q
      | 1, q => cases q
      | i + 2, q => exact absurd q (hnone i _)), fun i j x y u v c _ hm z1 z2 _ _ _ => by
      have k : ∀ (i : Nat) (x : Sl), (none :: some Sl.strm :: List.replicate m none)[i]? = some (some x) → isMat x = false := fun i x q => by
        match i, q with
        | 0, q => cases q
        | 1, q => cases q; rfl
        | i + 2, q => exact absurd q (hnone i _)
      rw [k i x z1, k j y z2] at hm
      cases hm⟩, ?_⟩ pure ⟨fun _ _ _ _ z => z.elim, fun d v I' H2 q _ _ r => ?_, fun _ _ _ _ z => z.elim, fun _ _ _ _ z => z.elim, fun _ _ _ _ _ _ z => z.elim, fun _ _ _ _ _ _ z => z.elim, fun _ _ _ _ _ _ z => z.elim⟩
    · match i, q with
      | 0, q => cases q
      | 1, q => cases q; exact ⟨.ref p, rfl, p, rfl, rfl⟩
      | i + 2, q => exact absurd q (hnone i x)
    · match i, q with
      | 0, q => cases q
      | 1, q => cases q
      | i + 2, q => exact absurd q (hnone i _)
    · cases es
      exact ⟨by show H' p ≠ none; rw [hp]; exact fun z => (by cases z), Ip, l, 0, 0, ns, hp, Il, Int.le_refl _⟩
    · show _ = (List.set (some (V.ref a) :: none :: List.replicate m none) 1 _).length
      rw [List.length_set]
      simp
    · have q : d = .bool true := q
      subst q
      cases r
      exact k H2
/-! ### the law's own equality -/
mutual
def sq : D → D → Bool
  | .none, d => (match d with | .none => true | _ => false)
  | .bool a, d => (match d with | .bool b => a == b | _ => false)
  | .int a, d => (match d with | .int b => a == b | _ => false)
  | .str a, d => (match d with | .str b => a == b | _ => false)
  | .list a, d => (match d with | .list b => sqs a b | _ => false)
  | .tuple a, d => (match d with | .tuple b => sqs a b | _ => false)
  | .dict _, _ => false
def sqs : List D → List D → Bool
  | [], ds => (match ds with | [] => true | _ => false)
  | x :: xs, ds => (match ds with | y :: ys => sq x y && sqs xs ys | [] => false)
end
def okD : Nat → D → Bool
  | 0, _ => false
  | n + 1, .list ds => decide (ds.length ≤ 1000000) && ds.all (okD n)
  | n + 1, .tuple ds => decide (ds.length ≤ 1000000) && ds.all (okD n)
  | _ + 1, .dict _ => false
  | _ + 1, _ => true
def f_equal (n : Nat) : RCD := fun ds Q => match ds with | [a, d] => okD n d = true ∧ PyData.canLay0 a = true ∧ PyData.canLay0 d = true ∧ Q (.bool (sq a d)) | _ => False
end
end Z2
namespace Z2
open PySem PySem.Spec PyProof.Rows L2
theorem seq_gen {t u : T2S} {E : Ends2} {env : Ev} (h : ∀ N, N = u E → t { E with nx := N } env) : dSeq t u E env := h _ rfl
/-! ### plain data: lemmas -/
def isI : D → Bool | .int _ => true | .bool _ => true | _ => false
def isB : D → Bool | .bool _ => true | _ => false
def isS : D → Bool | .str _ => true | _ => false
def isTu : D → Bool | .tuple _ => true | _ => false
def isLi : D → Bool | .list _ => true | _ => false
theorem isT_int (d : D) : isT "int" d = isI d := by cases d <;> first | rfl | decide
theorem isT_bool (d : D) : isT "bool" d = isB d := by cases d <;> first | rfl | decide
theorem isT_str (d : D) : isT "str" d = isS d := by cases d <;> first | rfl | decide
theorem isT_tuple (d : D) : isT "tuple" d = isTu d := by cases d <;> first | rfl | decide
inductive F2 {α β : Type} (P : α → β → Prop) : List α → List β → Prop
  | nil : F2 P [] []
  | cons {a : α} {b : β} {as : List α} {bs : List β} : P a b → F2 P as bs → F2 P (a :: as) (b :: bs)
theorem F2.length {α β : Type} {P : α → β → Prop} : ∀ {as : List α} {bs : List β}, F2 P as bs → as.length = bs.length
  | _, _, .nil => rfl
  | _, _, .cons _ t => by rw [List.length_cons, List.length_cons, F2.length t]
theorem F2.mapEq {α β : Type} {f : α → β} : ∀ {as : List α} {bs : List β}, F2 (fun a b => b = f a) as bs → bs = as.map f
  | _, _, .nil => rfl
  | _, _, .cons h t => by rw [List.map_cons, h, F2.mapEq t]
theorem F2.all {α β : Type} {P : α → β → Prop} {R : β → Prop} (h : ∀ a b, P a b → R b) : ∀ {as : List α} {bs : List β}, F2 P as bs → ∀ b ∈ bs, R b
  | _, _, .nil, b, hb => absurd hb (by simp)
  | _, _, .cons q t, b, hb => by
    rcases List.mem_cons.mp hb with rfl | hb
    · exact h _ _ q
    · exact F2.all h t b hb
/-- a comprehension, whatever its element draws -/
theorem lc_gen {g : T2G} {tt : T2T} {te : T2E} {env : Ev} (keep : D → Bool) (P : D → D → Prop) : ∀ {ds : List D} {Q : List D → Prop},
    (∀ d ∈ ds, ∀ (R : D → Prop) (N : Prop), (keep d = true → ∀ y, P d y → R y) → (keep d = false → N) → g d env fun env1 => tt env1 fun b => if b = true then te env1 R else N) →
    (∀ ys, F2 P (ds.filter keep) ys → Q ys) → lcD g tt te env ds Q
  | [], Q, h, q => q [] .nil
  | d :: ds, Q, h, q => by
    refine h d List.mem_cons_self _ _ (fun hk y hy => ?_) (fun hk => ?_)
    · refine lc_gen keep P (fun e he => h e (List.mem_cons_of_mem _ he)) fun ys hys => q (y :: ys) ?_
      rw [List.filter_cons_of_pos hk]
      exact .cons hy hys
    · refine lc_gen keep P (fun e he => h e (List.mem_cons_of_mem _ he)) fun ys hys => q ys ?_
      rw [List.filter_cons_of_neg (by rw [hk]; exact Bool.false_ne_true)]
      exact hys
theorem lc_all {g : T2G} {te : T2E} {env : Ev} {ds : List D} {Q : List D → Prop} (P : D → D → Prop) (h : ∀ d ∈ ds, ∀ R : D → Prop, (∀ y, P d y → R y) → g d env fun env1 => te env1 R) (q : ∀ ys, F2 P ds ys → Q ys) :
    lcD g (fun _ Q => Q true) te env ds Q :=
  lc_gen (fun _ => true) P (fun d hd R N h1 _ => h d hd R (h1 rfl)) fun ys hys => q ys (by rw [List.filter_eq_self.mpr (fun _ _ => rfl)] at hys; exact hys)
theorem lc_map {g : T2G} {te : T2E} {env : Ev} {ds : List D} {Q : List D → Prop} (f : D → D) (h : ∀ d ∈ ds, ∀ R : D → Prop, R (f d) → g d env fun env1 => te env1 R) (q : Q (ds.map f)) :
    lcD g (fun _ Q => Q true) te env ds Q :=
  lc_all (fun d y => y = f d) (fun d hd R hR => h d hd R (hR _ rfl)) fun ys hys => by rw [hys.mapEq]; exact q
theorem allBool_map {α : Type} (f : α → Bool) : ∀ xs : List α, allBool (xs.map fun x => PyData.bool (f x)) = some (xs.map f)
  | [] => rfl
  | x :: xs => by rw [List.map_cons, List.map_cons]; unfold allBool; rw [allBool_map f xs]; rfl
theorem allInt_map {α : Type} (f : α → Int) : ∀ xs : List α, allInt (xs.map fun x => PyData.int (f x)) = some (xs.map f)
  | [] => rfl
  | x :: xs => by rw [List.map_cons, List.map_cons]; unfold allInt; rw [allInt_map f xs]; rfl
theorem mem_dRange {lo : Int} {n : Nat} {d : D} (h : d ∈ dRange lo n) : ∃ i : Nat, i < n ∧ d = .int (lo + i) := by
  unfold dRange at h
  obtain ⟨i, hi, rfl⟩ := List.mem_map.mp h
  exact ⟨i, List.mem_range.mp hi, rfl⟩
theorem dRange_length (lo : Int) (n : Nat) : (dRange lo n).length = n := by unfold dRange; rw [List.length_map, List.length_range]
theorem atI_int {α : Type} {xs : List α} {i : Int} {x : α} (h0 : 0 ≤ i) (h : xs[i.toNat]? = some x) : atI xs i = some x := by
  have := atI_nat h
  rwa [Int.toNat_of_nonneg h0] at this
/-- a loop by its invariant -/
theorem for_inv {g : T2G} {tb : T2S} {E : Ends2} {ds : List D} (Inv : Nat → Ev → Prop)
    (hs : ∀ i d env, ds[i]? = some d → Inv i env → ∀ N : Ev → Prop, (∀ env', Inv (i + 1) env' → N env') → g d env fun env1 => tb { E with nx := N, ct := N, bk := E.nx } env1)
    (hd : ∀ env, Inv ds.length env → E.nx env) {env : Ev} (h0 : Inv 0 env) : forD g tb E ds env := by
  have key : ∀ (k : Nat) (env : Ev), k ≤ ds.length → Inv (ds.length - k) env → forD g tb E (ds.drop (ds.length - k)) env := by
    intro k
    induction k with
    | zero =>
      intro env _ h
      rw [Nat.sub_zero] at h ⊢
      rw [List.drop_length]
      exact hd env h
    | succ k ih =>
      intro env hk h
      have hlt : ds.length - (k + 1) < ds.length := by omega
      have e : ds.drop (ds.length - (k + 1)) = ds[ds.length - (k + 1)] :: ds.drop (ds.length - k) := by
        rw [List.drop_eq_getElem_cons hlt]
        congr 2
        omega
      rw [e]
      refine hs _ _ env (List.getElem?_eq_getElem hlt) h _ fun env' h' => ih env' (by omega) ?_
      have z : ds.length - (k + 1) + 1 = ds.length - k := by omega
      rw [z] at h'
      exact h'
  have := key ds.length env (Nat.le_refl _) (by rw [Nat.sub_self]; exact h0)
  rw [Nat.sub_self, List.drop_zero] at this
  exact this
theorem shaped_int (i : Int) : SeqAt.shaped (.int i) = true := by first | rfl | decide
theorem shaped_str {i : Str} (h : PyData.canLay0 (.str i) = true) : SeqAt.shaped (.str i) = true := by
  unfold SeqAt.shaped
  rw [h]
  simp [PyData.depth]
theorem canLayAll_mem : ∀ {ds : List D}, PyData.canLayAll0 ds = true → ∀ d ∈ ds, PyData.canLay0 d = true
  | [], _, d, hd => absurd hd (by simp)
  | x :: xs, h, d, hd => by
    unfold PyData.canLayAll0 at h
    rw [Bool.and_eq_true] at h
    rcases List.mem_cons.mp hd with rfl | hd
    · exact h.1
    · exact canLayAll_mem h.2 d hd
theorem canLayAll_of : ∀ {ds : List D}, (∀ d ∈ ds, PyData.canLay0 d = true) → PyData.canLayAll0 ds = true
  | [], _ => by unfold PyData.canLayAll0; rfl
  | x :: xs, h => by
    unfold PyData.canLayAll0
    rw [Bool.and_eq_true]
    exact ⟨h x List.mem_cons_self, canLayAll_of fun d hd => h d (List.mem_cons_of_mem _ hd)⟩
mutual
theorem sq_refl : ∀ {d : D}, PyData.canLay0 d = true → sq d d = true
  | .none, _ => by simp [sq]
  | .bool _, _ => by simp [sq]
  | .int _, _ => by simp [sq]
  | .str _, _ => by simp [sq]
  | .list ds, h => by
    unfold PyData.canLay0 at h
    unfold sq
    exact sqs_refl h
  | .tuple ds, h => by
    unfold PyData.canLay0 at h
    unfold sq
    exact sqs_refl h
  | .dict _, h => by simp [PyData.canLay0] at h
theorem sqs_refl : ∀ {ds : List D}, PyData.canLayAll0 ds = true → sqs ds ds = true
  | [], _ => by simp [sqs]
  | x :: xs, h => by
    unfold PyData.canLayAll0 at h
    rw [Bool.and_eq_true] at h
    unfold sqs
    dsimp only
    rw [Bool.and_eq_true]
    exact ⟨sq_refl h.1, sqs_refl h.2⟩
end
end Z2
namespace Z2
open PySem PySem.Spec PyProof.Rows L2
/-! ### enumerate of a tuple -/
abbrev tItr (t : Addr) : Obj := { cls := .type "tuple_iterator", data := .fields #[.ref t, .int 0 0] }
abbrev enO (i : Addr) : Obj := { cls := .type "enumerate", data := .fields #[.none, .bool false, .ref i, rawInt 0, .none, .none] }
open Sem (wp) in
open AutoSeq1 (wpAny_loadPart') in
theorem newT (t : Addr) (its : Array Value) (k : Nat) (dd : Option Addr) (sl : Array (Option Value)) :
    Meets (Builtin.«enumerate.__new__» ⟨[.type "enumerate", .ref t], []⟩) (fun _ R s => s.heap.get? t = some { cls := .type "tuple", dict := dd, data := .seq its k, slots := sl } ∧
      R (.ok (.ret (.ref (s.heap.push (tItr t)).objs.size))) { s with heap := (s.heap.push (tItr t)).push (enO s.heap.objs.size) }) :=
  .of_wp fun prog w A R s hh => by
    obtain ⟨hp, gs, dr, tk, os⟩ := s
    obtain ⟨ht, hh⟩ := hh
    have subE := sub_enumerate
    have isT : Heap.IsTuple (Shared.heap ⟨hp, gs, dr, tk, os⟩) t its := ⟨_, ht, rfl, k, rfl⟩
    wp_walk using wpAny_loadPart' ht
    refine wpAny_stack_any fun st => wpAny_pure ?_
    split
    · rename_i c _ _ _ _ _
      cases (c == Value.type "enumerate") <;> (wp_walk using wpAny_loadPart' ht, wpAny_pyIter_tuple isT; exact ⟨_, rfl, hh⟩)
    · wp_walk using wpAny_loadPart' ht, wpAny_pyIter_tuple isT
      exact ⟨_, rfl, hh⟩
theorem callT {prog : Program} {w : World} {A : Around} {E : Value → Shared → Prop} {s : Shared} {t : Addr} {its : Array Value} {Q : Value → Shared → Prop} (ht : s.heap.IsTuple t its)
    (h : ∀ h', IsEnum h' (s.heap.objs.size + 1) s.heap.objs.size 0 .none → h'.IsTupleIter s.heap.objs.size t 0 → (∀ b o, s.heap.get? b = some o → h'.get? b = some o) → Q (.ref (s.heap.objs.size + 1)) { s with heap := h' }) :
    wpAny (model prog w) A (call (.type "enumerate") [.ref t]) Q E s := by
  obtain ⟨⟨cl, dd, dt, sl⟩, e1, e2, k, e3⟩ := ht
  cases (show cl = .type "tuple" from e2)
  cases (show dt = .seq its k from e3)
  have sz : (s.heap.push (tItr t)).objs.size = s.heap.objs.size + 1 := Heap.size_push ..
  refine callType_new F.called_enumerate (by decide) (F.typeCall_enumerate_1 _) (F.newCall_enumerate_1 _) (fun obj => F.args_object_init_2 obj _) F.entry_enumerate_new (newT t its k dd sl) ⟨e1, ?_⟩
  show _ ∧ _
  rw [sz]
  have en : IsEnum ((s.heap.push (tItr t)).push (enO s.heap.objs.size)) (s.heap.objs.size + 1) s.heap.objs.size 0 .none := by
    have z := Heap.get?_push_size (s.heap.push (tItr t)) (o := enO s.heap.objs.size) rfl
    rw [sz] at z
    exact z
  exact ⟨⟨_, en, rfl⟩, h _ en ⟨_, Heap.get?_push_of_some _ (Heap.get?_push_size _ rfl), rfl, rfl⟩ fun b o x => Heap.get?_push_of_some _ (Heap.get?_push_of_some _ x)⟩
/-- each item of the tuple at a in a new pair -/
def IteT (K : Fg) (a : Addr) : It :=
  ⟨fun i H => ∃ (xs : List V) (x : V), SqT K H a xs ∧ xs[i]? = some x, fun i H v H' => ∃ T x o, v = .ref T ∧ o.cls = .type "tuple" ∧ o.dict = none ∧ H T = none ∧ H' = upd H T (.frz o (.tup [.int (i : Nat), x])) ∧ ∀ xs, SqT K H a xs → xs[i]? = some x, fun i H => ∃ xs : List V, SqT K H a xs ∧ xs.length = i⟩
theorem turnT {P : Program} {w : World} {K : Fg} {elts : List Expr} {kk : Nat} {tpos : Pos} (a e it : Addr) :
    Turn P w K (.Tuple elts kk tpos) (IteT K a) [e, it] e (fun i h => (∃ old, IsEnum h e it ((i : Nat) : Int) old) ∧ h.IsTupleIter it a i ∧ e ≠ it) where
  mem := List.mem_cons_self
  obj := fun i h ⟨⟨old, he⟩, ⟨o, ho, hc, hd⟩, _⟩ b hb => by
    rcases (show b = e ∨ b = it by simpa using hb) with rfl | rfl
    · exact ⟨_, he, fun v q => nomatch q⟩
    · exact ⟨o, ho, fun v q => by rw [hd] at q; cases q⟩
  keep := fun i h h' ⟨⟨old, he⟩, hi, hne⟩ k => ⟨⟨old, k e (by simp) _ he⟩, hi.at fun o q => k it (by simp) o q, hne⟩
  item := by
    rintro X rfl rfl rfl hc i pins s σ H E I hf ⟨⟨old, he⟩, hit, hne⟩ ⟨xs, x, hq, hx⟩
    obtain ⟨its, rv, p, hz⟩ := I.tuple hq
    obtain ⟨u, hu, ru⟩ := rv.get hx
    have hel : e < s.heap.objs.size := Heap.lt_size he
    have hil : it < s.heap.objs.size := by obtain ⟨_, q, _⟩ := hit; exact Heap.lt_size q
    have neT : a ≠ it := fun z => by
      obtain ⟨o1, g1, c1, _⟩ := hit
      obtain ⟨o2, g2, c2, _⟩ := p
      rw [z, g1] at g2
      cases g2
      rw [c1] at c2
      exact absurd c2 (by decide)
    have neE : e ≠ a := fun z => by
      obtain ⟨o2, g2, c2, _⟩ := p
      rw [← z, he] at g2
      cases g2
      exact absurd (show (Value.type "enumerate") = .type "tuple" from c2) (by decide)
    have hi : i < its.toArray.size := by
      have q := (List.getElem?_eq_some_iff.mp hu).1
      simpa using q
    have Dr := PySem.Draws.tuple (prog := X.prog) (w := X.w) (A := X.A.in1) (I.ok.hd hc) it a neT its.toArray
    refine wpAny_pyNext_enum_itemD Dr he ⟨hit, p⟩ hi hne (by simp only [List.mem_cons, List.not_mem_nil, or_false, not_or]; exact ⟨hne, neE⟩) fun y h' tk hy ho st' hT hsz hk => ?_
    obtain rfl : y = u := by
      have z : its.toArray[i]? = some u := by simpa using hu
      rw [z] at hy
      exact (Option.some.inj hy).symm
    refine ⟨_, rfl, wpAny_letOwnedTupleGo_enum (s := { s with heap := h', toks := tk + 1 }) ho fun h'' he' sb => ?_⟩
    have hT2 : h''.get? s.heap.objs.size = some { cls := .type "tuple", data := .seq #[.int i tk, y] } := (sb.2 _ (Nat.ne_of_gt hel)).trans hT
    have new : ObjOk X.prog X.w (upd H s.heap.objs.size (.frz (tO [.int i tk, y]) (.tup [.int (i : Nat), x]))) h'' s.heap.objs.size (.frz (tO [.int i tk, y]) (.tup [.int (i : Nat), x])) :=
      ⟨hT2, le_line (by show 2 ≤ 1000000; decide), [.int i tk, y], .cons ⟨_, rfl⟩ (.cons ru .nil), ⟨_, hT2, rfl, _, rfl⟩⟩
    have I1 : Inv X pins σ (upd H s.heap.objs.size (.frz (tO [.int i tk, y]) (.tup [.int (i : Nat), x]))) { s with heap := h'', toks := tk + 1 } :=
      I.turnedNew (ch := [e, it]) (fun b ob hb q => by
        have n1 : b ≠ e := fun z => hb (by simp [z])
        have n2 : b ≠ it := fun z => hb (by simp [z])
        exact (sb.2 b n1).trans (hk b ob n1 n2 q)) hf (Nat.le_refl _) new
    have e1 : ((i + 1 : Nat) : Int) = (i : Int) + 1 := by omega
    refine ⟨.ref s.heap.objs.size, _, I1, rfl, ⟨_, x, tO [.int i tk, y], rfl, rfl, rfl, I.hok.fresh (Nat.le_refl _), rfl, fun ys hy => by rw [I.tuple_inj hy hq]; exact hx⟩, ⟨⟨y, by rw [e1]; exact he'⟩, st'.1.at fun o q => (sb.2 it (Ne.symm hne)).trans q, hne⟩, fun b hb => ?_⟩
    have hb' : b < s.heap.objs.size := by
      rcases (show b = e ∨ b = it by simpa using hb) with rfl | rfl
      · exact hel
      · exact hil
    rw [upd_ne (Nat.ne_of_lt hb')]
    exact (hf b hb).1
  done := by
    rintro X rfl rfl rfl hc i pins s σ H E I hf ⟨⟨old, he⟩, hit, hne⟩ ⟨xs, hq, hx⟩
    obtain ⟨its, rv, p, hz⟩ := I.tuple hq
    have neT : a ≠ it := fun z => by
      obtain ⟨o1, g1, c1, _⟩ := hit
      obtain ⟨o2, g2, c2, _⟩ := p
      rw [z, g1] at g2
      cases g2
      rw [c1] at c2
      exact absurd c2 (by decide)
    obtain ⟨f0, f1, f2, f3, f4, f5⟩ := hf it (by simp)
    have hl : i = its.toArray.size := by rw [List.size_toArray, ← rv.length]; exact hx.symm
    subst hl
    have Dr := PySem.Draws.tuple (prog := X.prog) (w := X.w) (A := X.A.in1) (I.ok.hd hc) it a neT its.toArray
    exact wpAny_pyNext_enum_endD Dr he ⟨hit, p⟩ fun h' eb => ⟨rfl, I.turned (t' := s.toks) (fun b o hb q => eb b o hb q) f0 f1 f3 f4 f5⟩
  self := fun A i s Q E ⟨⟨_, he⟩, _⟩ h => wpAny_pyIter_enum he h
def iEnumA (K : Fg) (ta : TA) : TI := fun σ H R => ta σ H fun vs H1 => ∃ a xs, vs = [.ref a] ∧ SqT K H1 a xs ∧ R (IteT K a) H1
theorem pi_enumA {X : Cx} {e : Expr} {ta : TA} {p pos tpos : Pos} {elts : List Expr} {kk : Nat} (hg : Gl X "enumerate") (hm : X.mg "enumerate" = none) (ha : PA X [e] ta) (hs : starEach [e] X.env = [(false, eval e X.env)] := by rfl) :
    PI X (.Tuple elts kk tpos) (.Call (.Name "enumerate" p) [e] [] pos) (iEnumA X.K ta) := ⟨fun pins s σ H R I h => by
  refine Call_ (ld_blt I hg hm boot_enumerate (callWith_type1 (thn (ha.run pos pins s σ H _ I h) fun us s1 ⟨vs, H1, I1, r1, a, xs, ex, q⟩ => ?_) hs rfl))
  subst ex
  cases r1 with
  | cons r rr =>
    cases rr
    cases r
    have fp : ∀ b ∈ [s1.heap.objs.size + 1, s1.heap.objs.size], FpOk X pins H1 b := fun b hb => by
      have hle : s1.heap.objs.size ≤ b := by
        rcases (show b = s1.heap.objs.size + 1 ∨ b = s1.heap.objs.size by simpa using hb) with rfl | rfl
        · exact Nat.le_add_right _ _
        · exact Nat.le_refl _
      exact I1.fpOk hle (I1.hok.fresh hle)
    obtain ⟨hq, q⟩ := q
    obtain ⟨its, rv, pl, _⟩ := I1.tuple hq
    exact callT pl fun h' he hit hk => wpAny_pyIter_enum he ⟨_, [s1.heap.objs.size + 1, s1.heap.objs.size], _, _, H1, rfl, I1.kept (t' := s1.toks) hk, turnT a _ _, ⟨⟨.none, he⟩, hit, Nat.succ_ne_self _⟩, fp, q⟩⟩
section
variable {K : Fg}
theorem itr_enumT {I : Hp} {a : Addr} {vs : List V} {ds : List D} (h : SqT K I a vs) (r : Rps K I vs ds) : ItR K I (IteT K a) (dEnum ds) where
  go := fun i I' H' e1 e2 hi => by
    unfold dEnum at hi
    rw [List.length_map, List.length_range] at hi
    obtain ⟨v, hv, _⟩ := r.got (List.getElem?_eq_getElem hi)
    exact ⟨vs, v, Same.sqt e2 (Same.sqt e1 h), hv⟩
  stop := fun i I' H' e1 e2 hi => by
    unfold dEnum at hi
    rw [List.length_map, List.length_range] at hi
    exact ⟨vs, Same.sqt e2 (Same.sqt e1 h), by rw [r.length]; exact hi.symm⟩
  yld := fun i x I' H' H'' e1 e2 hi y => by
    obtain ⟨T, u, ob, rfl, oc, od, h0, rfl, y⟩ := y
    obtain ⟨d, hd, q⟩ := r.get (y vs (Same.sqt e2 (Same.sqt e1 h)))
    have g := Gr.new (m := none) (o := .frz ob (.tup [.int (i : Nat), u])) e2 h0
    refine ⟨_, .tuple [.int (i : Nat), d], g, ?_, .tup (PlT.new oc od) (.cons (.int _) (.cons (Rp.mono (e1.trans g.ii) _ _ q) .nil))⟩
    unfold dEnum at hi ⊢
    rw [List.length_map, List.length_range] at hi
    rw [List.getElem?_map, List.getElem?_range hi]
    simp [List.getD_eq_getElem?_getD, hd]
def diEnumA (t : T2A) : T2I := fun env Q => t env fun ds => match ds with | [.tuple xs] => Q (dEnum xs) | _ => False
theorem si_enumA {n : Nat} {t : TA} {u : T2A} (h : SA K n t u) : SI K (iEnumA K t) (diEnumA u) := by
  intro p env σ I H Q2 R rl q k
  refine h p env σ I H _ _ rl q fun ds vs I1 H1 q1 hl s1 h1 => ?_
  split at q1
  · obtain ⟨v, rfl, h2⟩ := h1.one
    cases h2 with
    | tup h3 h4 => exact ⟨_, _, rfl, Same.sqt s1.ih h3.sqt, k _ _ _ _ q1 s1 (itr_enumT h3.sqt h4)⟩
  · exact q1.elim
end
end Z2
namespace Z2
open PySem PySem.Spec PyProof.Rows L2
/-! ### xs[::-1] -/
section
variable {prog : Program} {w : World} {A : Around} {E : Value → Shared → Prop} {s : Shared}
end
/-- t[::-1], xs[::-1]: a new thing -/
def rRev (K : Fg) : V → Hp → VK → Prop := fun x H Q => ∃ a xs, x = .ref a ∧ ((SqT K H a xs ∧ ∀ p, H p = none → Q (.ref p) (upd H p (.tup xs.reverse))) ∨ (SqL K H a xs ∧ ∀ p, H p = none → Q (.ref p) (upd H p (.lst xs.reverse))))
def tRev (K : Fg) (te : TE) (ts : TO) : TE := fun σ H Q => te σ H fun x H1 => ts σ H1 fun l H2 => l = some (-1) ∧ rRev K x H2 Q
def dRev (a : T2E) (l : T2O) : T2E := fun env Q => a env fun x => l env fun st => st = some (-1) ∧ match x with | .tuple ds => Q (.tuple ds.reverse) | .list ds => Q (.list ds.reverse) | _ => False
/-! ### max, min of a list of ints, of two ints -/
def maxD : List Int → Int
  | [] => 0
  | x :: xs => xs.foldl max x
def minD : List Int → Int
  | [] => 0
  | x :: xs => xs.foldl min x
def dMaxL : RCD := fun ds Q => match ds with | [.list xs] => (match allInt xs with | some bs => 0 < bs.length ∧ Q (.int (maxD bs)) | none => False) | _ => False
def dMinL : RCD := fun ds Q => match ds with | [.list xs] => (match allInt xs with | some bs => 0 < bs.length ∧ Q (.int (minD bs)) | none => False) | _ => False
end Z2
namespace Z2
open PySem PySem.Spec PyProof.Rows L2
/-! ### return tuple([left.pop(..) for ..]) -/
def popD (i : Nat) (g : T2G) (te : T2E) (vs : List Nat) : Ev → List D → (List D → Prop) → Prop
  | _, [], Q => Q []
  | env, d :: ds, Q => match env[i]? with
    | some (some (.own xs)) => g d (wipeE env vs) fun env1 => te env1 fun k => match k with
      | .int j => (match ixN xs.length j with | some m => (match xs[m]? with | some y => -(2 ^ 63) ≤ j ∧ j < 2 ^ 63 ∧ popD i g te vs (env.set i (some (.own (xs.eraseIdx m)))) ds fun ys => Q (y :: ys) | none => False) | none => False)
      | _ => False
    | _ => False
def dRetPop (i : Nat) (ti : T2I) (g : T2G) (te : T2E) (vs : List Nat) : T2S := fun E env => ti env fun ds => ds.length ≤ 1000000 ∧ popD i g te vs env ds fun ys => E.rt (.tuple ys)
abbrev rTupOf (K : Fg) : List V → Hp → VK → Prop := rTupF K
theorem wipe_get {i : Nat} : ∀ {vs : List Nat} {σ : L2.St}, i ∉ vs → (L2.wipe σ vs)[i]? = σ[i]?
  | [], _, _ => rfl
  | v :: vs, σ, h => by
    unfold L2.wipe
    have h1 : v ≠ i := fun e => h (by rw [e]; exact List.mem_cons_self)
    rw [List.getElem?_set_ne h1]
    exact wipe_get fun z => h (List.mem_cons_of_mem _ z)
theorem Rps.erase {K : Fg} {I : Hp} : ∀ {vs : List V} {ds : List D} (n : Nat), Rps K I vs ds → Rps K I (vs.eraseIdx n) (ds.eraseIdx n)
  | _, _, _, .nil => .nil
  | _, _, 0, .cons _ t => t
  | _, _, n + 1, .cons h t => .cons h (Rps.erase n t)
theorem ss_retPop {K : Fg} {wi : TI} {g : TG} {tt : TT} {te : TE} {ti : T2I} {g2 : T2G} {te2 : T2E} {vs : List Nat} (i : Nat) (hiv : i ∉ vs) (hi : SI K wi ti) (hg : SG K vs g g2) (ht : ST K tt fun _ Q => Q true) (he : SE K te te2) :
    SS K (tRet (tCB (rTupOf K) (tCons (tLc wi g tt (tBM K "list" rPopAt (tVar i) (tCons te tNil)) vs) tNil))) (dRetPop i ti g2 te2 vs) := by
  intro p env σ I H D2 E rl q e
  refine hi p env σ I H _ _ rl q fun ds J I1 H1 ⟨hlen, q1⟩ s1 it => ?_
  intro D hD
  have rl1 := rl.stp s1
  have hD0 : p.H0 D = none := by
    cases e : p.H0 D with
    | none => rfl
    | some o => exact absurd hD (rl1.r.gr.th D (by rw [e]; exact fun z => nomatch z))
  have hDI : I1 D = none := Same.free s1.ih hD
  have hm : p.m ≠ some D := fun e => (rl1.r.st D e).1 hD0
  have hown : ∀ (j : Nat) (x : List PyData), env[j]? = some (some (Sl.own x)) → σ[j]? ≠ some (some (V.ref D)) := fun j x e z => by
    obtain ⟨v, hv, a, ws, rfl, _, _, e4, _⟩ := rl1.r.sl j _ e
    rw [hv] at z
    cases z
    rw [hD] at e4; cases e4
  refine ⟨fun n m H' => m = ds.length - n ∧ n ≤ ds.length ∧ ∃ I' acc ys env', RelL K p env' σ I' H' ∧ Same I1 I' ∧ I' D = none ∧ H' D = some (.lst acc) ∧ Rps K I' acc ys ∧ acc.length ≤ n ∧ ((∀ (j : Nat) (x : List PyData), env'[j]? = some (some (Sl.own x)) → σ[j]? ≠ some (some (V.ref D))) ∧ ∀ (j : Nat) (x : Sl) (v : V), env'[j]? = some (some x) → isMat x = true → σ[j]? = some (some v) → ¬ Cell x v H' D) ∧ popD i g2 te2 vs env' (ds.drop n) fun zs => D2.rt (.tuple (ys ++ zs)),
    ⟨ds.length, by simp, Nat.zero_le _, I1, [], [], env, rl1.beside hD0 hDI (fun _ _ z => by rw [hD] at z; cases z) (fun _ z => by rw [hD] at z; cases z) (rl1.freshCell (.refl rl1.same) hD) hown, Same.refl _, hDI, upd_same, .nil, Nat.le_refl _, ⟨hown, rl1.freshCellU hD⟩, q1⟩, ?_⟩
  rintro n m H' ⟨rfl, hn', I', acc, ys, env', r', sI, hDI', hDH', rp, hacc, ⟨ho, hoM⟩, q'⟩
  by_cases hlt : n < ds.length
  · refine .inr ⟨it.go n I' H' sI r'.same hlt, fun H'' => ∃ I'' acc ys env'', RelL K p env'' σ I'' H'' ∧ Same I1 I'' ∧ I'' D = none ∧ H'' D = some (.lst acc) ∧ Rps K I'' acc ys ∧ acc.length ≤ n + 1 ∧ ((∀ (j : Nat) (x : List PyData), env''[j]? = some (some (Sl.own x)) → σ[j]? ≠ some (some (V.ref D))) ∧ ∀ (j : Nat) (x : Sl) (v : V), env''[j]? = some (some x) → isMat x = true → σ[j]? = some (some v) → ¬ Cell x v H'' D) ∧ popD i g2 te2 vs env'' (ds.drop (n + 1)) fun zs => D2.rt (.tuple (ys ++ zs)),
      fun H'' z => ⟨ds.length - (n + 1), by omega, rfl, by omega, z⟩, fun x H2 y => ?_⟩
    obtain ⟨I2, d, g1, hd, rd⟩ := it.yld n x I' H' H2 sI r'.same hlt y
    have hdrop : ds.drop n = d :: ds.drop (n + 1) := by
      have hdd : ds[n] = d := Option.some.inj ((List.getElem?_eq_getElem hlt).symm.trans hd)
      rw [List.drop_eq_getElem_cons hlt, hdd]
    rw [hdrop] at q'
    unfold popD at q'
    split at q'
    · rename_i xs exs
      have r2 := r'.grow' g1
      have keepD : ∀ {I3 H3 I4 H4}, Stp p I3 H3 I4 H4 → I3 D = none → H3 D = some (.lst acc) → I4 D = none ∧ H4 D = some (.lst acc) := fun s a b =>
        ⟨s.gr.fr D a (by rw [b]; exact fun z => nomatch z), s.gr.hh D _ b hm⟩
      obtain ⟨d2, d3⟩ := keepD (Stp.of (p := p) g1) hDI' hDH'
      refine hg p (wipeE env' vs) (L2.wipe σ vs) I2 H2 x d _ _ (r2.wipe vs) rd q' fun env1 σ1 I3 H3 q3 r3 s3 w3 => ⟨by rw [w3]; exact wipe_wipe σ vs, ?_⟩
      obtain ⟨d4, d5⟩ := keepD s3 d2 d3
      refine ht p env1 σ1 I3 H3 (fun b => b = true) _ r3 rfl fun b I4 H4 q4 s4 => ?_
      subst q4
      rw [if_pos rfl]
      obtain ⟨d6, d7⟩ := keepD s4 d4 d5
      have s34 := s3.trans s4
      obtain ⟨v, hv, a, ws, rfl, _, _, e4, e5⟩ := (r2.stp s34).r.sl i _ exs
      have hv1 : σ1[i]? = some (some (.ref a)) := by
        have z := wipe_get (σ := σ1) hiv
        rw [← z, w3, wipe_get hiv, wipe_get hiv]
        exact hv
      refine ⟨_, hv1, .inl ⟨rfl, _, SqL.of e4⟩, he p env1 σ1 I4 H4 _ _ (r3.stp s4) q3 fun k kv I5 H5 q5 s5 r5 => ?_⟩
      split at q5
      · rename_i jj
        split at q5
        · rename_i m em
          split at q5
          · rename_i y' ey
            obtain ⟨j0, j1, q5⟩ := q5
            cases r5
            have s35 := s34.trans s5
            have r6 := r2.stp s35
            obtain ⟨v', hv', a', ws', e1', f2, f3, f4, f5⟩ := r6.r.sl i _ exs
            subst e1'
            rw [hv] at hv'
            cases hv'
            obtain ⟨d8, d9⟩ := keepD s5 d6 d7
            obtain ⟨yv, hyv, ryv⟩ := f5.got ey
            have hseq := (ixN_seq em).1
            rw [← f5.length] at hseq
            refine ⟨a, ws', jj, m, yv, rfl, rfl, f4, j0, j1, hseq, hyv, ?_⟩
            have r7 := r6.mutOwn exs hv (Rps.erase m f5)
            have hDa : D ≠ a := fun w => ho i xs exs (by rw [w]; exact hv)
            have stA : Stp p I' H' I5 H5 := (Stp.of (p := p) g1).trans s35
            have hmat7 : ∀ (j : Nat) (x : Sl) (v : V), (env'.set i (some (.own (xs.eraseIdx m))))[j]? = some (some x) → isMat x = true → σ[j]? = some (some v) → ¬ Cell x v (upd H5 a (.lst (ws'.eraseIdx m))) D := by
              intro j x v ex mx sv c
              rcases getSet ex with ⟨rfl, w, _⟩ | ⟨nj, ex⟩
              · cases w; cases mx
              · have c5 : Cell x v H5 D := cell_to (fun mt b eb => upd_ne fun w => by
                  subst w
                  refine r6.r.sm i j (.own xs) x (.ref b) v b nj (by rw [mx]; simp [isMat]) exs ex hv sv rfl ?_
                  cases x <;> first | (cases mt) | skip
                  exact .inl eb) c
                exact hoM j x v ex mx sv (r'.cellBack stA ex sv c5)
            refine ⟨acc, by rw [upd_ne hDa]; exact d9, Nat.lt_of_le_of_lt hacc (Nat.lt_of_lt_of_le hlt (le_line hlen)), I5, acc ++ [yv], ys ++ [y'], env'.set i (some (.own (xs.eraseIdx m))), ?_, sI.trans (g1.ii.trans s35.ii), d8, upd_same, ?_, ?_, ?_, ?_⟩
            · refine r7.beside hD0 d8 (fun _ _ z => by rw [upd_ne hDa, d9] at z; exact nomatch z) (fun _ z => by rw [upd_ne hDa, d9] at z; exact nomatch z) hmat7 fun j x ex z => ?_
              rcases getSet ex with ⟨rfl, _, _⟩ | ⟨_, ex⟩
              · exact ho _ _ exs z
              · exact ho _ _ ex z
            · exact Rps.append (Rps.mono (g1.ii.trans s35.ii) _ _ rp) (.cons ryv .nil)
            · rw [List.length_append, List.length_singleton]; omega
            · refine ⟨fun j x ex z => ?_, fun j x v ex mx sv c => hmat7 j x v ex mx sv (cell_to (fun m' b eb => upd_ne fun w => hmat7 j x v ex mx sv (by
                subst w
                cases x <;> first | (cases m') | skip
                exact .inl eb)) c)⟩
              rcases getSet ex with ⟨rfl, _, _⟩ | ⟨_, ex⟩
              · exact ho _ _ exs z
              · exact ho _ _ ex z
            · have ee : ∀ zs : List PyData, (ys ++ [y']) ++ zs = ys ++ (y' :: zs) := fun zs => by rw [List.append_assoc]; rfl
              simp only [ee]
              exact q5
          · exact q5.elim
        · exact q5.elim
      · exact q5.elim
    · exact q'.elim
  · have hn2 : n = ds.length := by omega
    subst hn2
    rw [List.drop_length] at q'
    have q' : D2.rt (.tuple (ys ++ [])) := q'
    rw [List.append_nil] at q'
    refine .inl ⟨it.stop _ I' H' sI r'.same rfl, D, acc, rfl, .inl ⟨SqL.of hDH', fun l ob oc od h0 => ?_⟩⟩
    have gn := Gr.new (m := none) (o := .frz ob (.tup acc)) r'.same h0
    exact e.rt _ _ _ _ q' (r'.r.gr.trans gn.weak) (fun s es => (r'.r.st s es).2.grow gn) (.tup (PlT.new oc od) (Rps.mono gn.ii _ _ rp))
/-! ### list(range(n)), len of a list of one's own -/
def dLstRg (a : T2E) : T2A := fun env Q => a env fun d => match d with | .int j => 0 ≤ j ∧ j ≤ 1000000 ∧ Q (dRange 0 j.toNat) | _ => False
theorem rg_rps {K : Fg} {I : Hp} (n : Nat) : Rps K I (rgV 0 (n : Int)) (dRange 0 n) := by
  have e1 : rgV 0 (n : Int) = (((List.range n).map fun i => (0 : Int) + (i : Nat))).map V.int := by
    unfold rgV
    rw [Int.sub_zero, Int.toNat_natCast, List.map_map]
    rfl
  have e2 : dRange 0 n = (((List.range n).map fun i => (0 : Int) + (i : Nat))).map PyData.int := by
    unfold dRange
    rw [List.map_map]
    rfl
  rw [e1, e2]
  exact Rps.ofInts _
theorem so_listRg {K : Fg} {ta : TE} {a : T2E} (ha : SE K ta a) : SO K (tLstRg (tRg1 ta)) (dLstRg a) := by
  intro p env σ I H Q2 Q rl q k
  refine ha p env σ I H _ _ rl q fun d v I1 H1 q1 s1 h1 => ?_
  cases d <;> first | exact q1.elim | skip
  rename_i j
  obtain ⟨j0, j1, q1⟩ := q1
  cases h1
  refine ⟨j, rfl, RgOk.of_le (by decide) (by omega) (by decide) j0, fun l h0 => ?_⟩
  have hl0 : H l = none := by
    cases e : H l with
    | none => rfl
    | some o => exact absurd h0 (s1.gr.th l (by rw [e]; exact fun z => nomatch z))
  have ej : (j.toNat : Int) = j := Int.toNat_of_nonneg j0
  refine k _ l (rgV 0 j) I1 (upd H1 l (.lst (rgV 0 j))) q1 (s1.trans (Stp.fresh s1.ih h0)) hl0 (Same.free s1.ih h0) upd_same ?_
  have := rg_rps (K := K) (I := I1) j.toNat
  rw [ej] at this
  exact this
def dLenOwn (i : Nat) : T2E := fun env Q => match env[i]? with | some (some (.own ds)) => Q (.int (ds.length : Nat)) | _ => False
theorem se_lenOwn {K : Fg} (i : Nat) : SE K (tCB (fun xs H Q => ∃ p ys, xs = [.ref p] ∧ (SqL K H p ys ∨ SqT K H p ys) ∧ Q (.int ys.length) H) (tCons (tVar i) tNil)) (dLenOwn i) := by
  intro p env σ I H Q2 Q r q k
  unfold dLenOwn at q
  split at q
  · rename_i ds e2
    obtain ⟨v, hv, a, vs, rfl, _, _, e4, e5⟩ := r.r.sl i _ e2
    refine ⟨_, hv, a, vs, rfl, .inl (SqL.of e4), ?_⟩
    rw [e5.length]
    exact k _ _ I H q (.refl r.same) (.int _)
  · exact q.elim
end Z2
namespace Z2
open PySem PySem.Spec PyProof.Rows L2
/-! ### dicts of one's own: keys are tuples of ints and texts -/
section
variable {X : Cx} {pins : List (Addr × Obj)} {σ : L2.St} {H : Hp} {s : Shared} {a b : Addr} {xs : List (List Key × Addr × Value)} {k : List Key}
end
def tDNew (w : World) : TE := fun _ H Q => ∀ p, H p = none → Q (.ref p) (upd H p (dctO w p []))
def tDG (K : Fg) (w : World) (td ty : TE) : TE := fun σ H Q => td σ H fun x H1 => ty σ H1 fun y H2 => ∃ a xs b k p v, x = .ref a ∧ y = .ref b ∧ H2 a = some (dctO w a xs) ∧ (∀ x ∈ xs, SqT K H2 x.2.1 (x.1.map kV)) ∧ SqT K H2 b (k.map kV) ∧ atKey xs k = some p ∧ RelV v p.2 ∧ Q v H2
def tDPut (K : Fg) (w : World) (td ty tv : TE) : TS := fun D σ H => tv σ H fun v H1 => td σ H1 fun x H2 => ty σ H2 fun y H3 => ∃ a xs b k, x = .ref a ∧ y = .ref b ∧ H3 a = some (dctO w a xs) ∧ (∀ x ∈ xs, SqT K H3 x.2.1 (x.1.map kV)) ∧ SqT K H3 b (k.map kV) ∧ xs.length < sizeLine ∧ ∀ u, RelV v u → D.nx σ (upd H3 a (dctO w a (storedH xs k b u)))
/-! over data -/
def keyD1 : D → Option Key | .int i => some (.inl i) | .str x => some (.inr x) | _ => none
def keyDs : List D → Option (List Key)
  | [] => some []
  | d :: ds => match keyD1 d, keyDs ds with | some k, some ks => some (k :: ks) | _, _ => none
def keyD : D → Option (List Key) | .tuple ds => keyDs ds | _ => none
def valD (ks : List (List Key × D)) (k : List Key) : Option D := (ks.find? fun x => decide (x.1 = k)).map (·.2)
def putD (ks : List (List Key × D)) (k : List Key) (d : D) : List (List Key × D) := if (valD ks k).isSome then ks.map fun x => if x.1 = k then (x.1, d) else x else ks ++ [(k, d)]
section
variable {K : Fg} {I : Hp}
theorem KD.keys : ∀ {xs : List (List Key × Addr × Value)} {ks : List (List Key × D)}, KD K I xs ks → ∀ x ∈ xs, SqT K I x.2.1 (x.1.map kV)
  | _, _, .nil, x, hx => absurd hx List.not_mem_nil
  | _, _, .cons h1 h2 h3 t, x, hx => by
    rcases List.mem_cons.mp hx with rfl | hx
    · exact h1
    · exact KD.keys t x hx
theorem KD.length : ∀ {xs : List (List Key × Addr × Value)} {ks : List (List Key × D)}, KD K I xs ks → xs.length = ks.length
  | _, _, .nil => rfl
  | _, _, .cons _ _ _ t => by rw [List.length_cons, List.length_cons, KD.length t]
theorem KD.val : ∀ {xs : List (List Key × Addr × Value)} {ks : List (List Key × D)}, KD K I xs ks → ∀ k, (valD ks k = none ∧ atKey xs k = none) ∨ ∃ d p v, valD ks k = some d ∧ atKey xs k = some p ∧ RelV v p.2 ∧ Rp K I v d
  | _, _, .nil, k => .inl ⟨rfl, rfl⟩
  | _, _, .cons (k := k1) (b := b) (u := u) (v := v) (d := d) (xs := xs) (ks := ks) h1 h2 h3 t, k => by
    by_cases c : k1 = k
    · refine .inr ⟨d, (b, u), v, ?_, ?_, h2, h3⟩
      · unfold valD; rw [List.find?_cons, decide_eq_true c]; rfl
      · unfold atKey; rw [List.find?_cons, decide_eq_true c]; rfl
    · have e1 : valD ((k1, d) :: ks) k = valD ks k := by unfold valD; rw [List.find?_cons, decide_eq_false c]
      have e2 : atKey ((k1, b, u) :: xs) k = atKey xs k := by unfold atKey; rw [List.find?_cons, decide_eq_false c]
      rw [e1, e2]
      exact KD.val t k
theorem KD.repl {k : List Key} {u : Value} {v : V} {d : D} (h2 : RelV v u) (h3 : Rp K I v d) : ∀ {xs : List (List Key × Addr × Value)} {ks : List (List Key × D)}, KD K I xs ks → KD K I (xs.map (putAt k u)) (ks.map fun x => if x.1 = k then (x.1, d) else x)
  | _, _, .nil => .nil
  | _, _, .cons (k := k1) (b := b) (u := u1) (v := v1) (d := d1) (xs := xs) (ks := ks) g1 g2 g3 t => by
    rw [List.map_cons, List.map_cons]
    unfold putAt
    by_cases c : k1 = k
    · dsimp only
      rw [if_pos c, if_pos c]
      exact .cons g1 h2 h3 (KD.repl h2 h3 t)
    · dsimp only
      rw [if_neg c, if_neg c]
      exact .cons g1 g2 g3 (KD.repl h2 h3 t)
theorem KD.snoc {k : List Key} {b : Addr} {u : Value} {v : V} {d : D} (h1 : SqT K I b (k.map kV)) (h2 : RelV v u) (h3 : Rp K I v d) : ∀ {xs : List (List Key × Addr × Value)} {ks : List (List Key × D)}, KD K I xs ks → KD K I (xs ++ [(k, b, u)]) (ks ++ [(k, d)])
  | _, _, .nil => .cons h1 h2 h3 .nil
  | _, _, .cons g1 g2 g3 t => .cons g1 g2 g3 (KD.snoc h1 h2 h3 t)
theorem KD.put {k : List Key} {b : Addr} {u : Value} {v : V} {d : D} (h1 : SqT K I b (k.map kV)) (h2 : RelV v u) (h3 : Rp K I v d) {xs : List (List Key × Addr × Value)} {ks : List (List Key × D)} (h : KD K I xs ks) : KD K I (storedH xs k b u) (putD ks k d) := by
  unfold storedH putD
  rcases h.val k with ⟨e1, e2⟩ | ⟨d0, p, v0, e1, e2, _, _⟩
  · rw [e1, e2]
    exact KD.snoc h1 h2 h3 h
  · rw [e1, e2]
    exact KD.repl h2 h3 h
end
section
variable {K : Fg} {p : P0} {env : Ev} {σ : L2.St} {I H I' H' : Hp}
end
def dNewD (w : World) (i : Nat) : T2S := fun E env => E.nx (env.set i (some (.dct w [])))
def dPutD (w : World) (i : Nat) (tk tv : T2E) : T2S := fun E env => tv env fun v => match env[i]? with
  | some (some (.dct w' ks)) => w' = w ∧ ks.length < 1000000 ∧ tk env fun kd => (match keyD kd with | some k => E.nx (env.set i (some (.dct w (putD ks k v)))) | none => False)
  | _ => False
def dGetD (w : World) (i : Nat) (tk : T2E) : T2E := fun env Q => match env[i]? with
  | some (some (.dct w' ks)) => w' = w ∧ tk env fun kd => (match keyD kd with | some k => (match valD ks k with | some d => Q d | none => False) | none => False)
  | _ => False
section
variable {K : Fg}
end
end Z2
namespace Z2
open PySem PySem.Spec PyProof.Rows L2
/-! ### is not of bools; a reversed list of one's own -/
def dNotBl : R2D := fun x y Q => match x, y with | .bool a, .bool b => Q (.bool (!decide (a = b))) | _, _ => False
def dRevO (a : T2E) (l : T2O) : T2A := fun env Q => a env fun x => l env fun st => st = some (-1) ∧ match x with | .list ds => Q ds.reverse | _ => False
end Z2
namespace Z2
open PySem PySem.Spec PyProof.Rows L2
/-! ### tables: lists of rows of one's own -/
section
variable {K : Fg} {H0 I H : Hp}
theorem MR.length {bs : List Addr} {rows : List (List D)} (m : MR K H0 I H bs rows) : bs.length = rows.length := by
  induction m with
  | nil => rfl
  | cons _ _ _ _ _ _ ih => rw [List.length_cons, List.length_cons, ih]
theorem MR.get {bs : List Addr} {rows : List (List D)} (m : MR K H0 I H bs rows) : ∀ (k : Nat) (ds : List D), rows[k]? = some ds → ∃ b vs, bs[k]? = some b ∧ H b = some (.lst vs) ∧ Rps K I vs ds := by
  induction m with
  | nil => intro k ds h; rw [List.getElem?_nil] at h; cases h
  | @cons b vs ds bs rows h1 h2 h3 h4 h5 t ih =>
    intro k es h
    cases k with
    | zero =>
      rw [List.getElem?_cons_zero] at h
      cases h
      exact ⟨b, vs, rfl, h3, h4⟩
    | succ k =>
      rw [List.getElem?_cons_succ] at h
      obtain ⟨c, ws, g1, g2, g3⟩ := ih k es h
      exact ⟨c, ws, by rw [List.getElem?_cons_succ]; exact g1, g2, g3⟩
theorem MR.set {bs : List Addr} {rows : List (List D)} (m : MR K H0 I H bs rows) : ∀ (k : Nat) (b : Addr) (vs' : List V) (ds' : List D), bs[k]? = some b → Rps K I vs' ds' → MR K H0 I (upd H b (.lst vs')) bs (rows.set k ds') := by
  induction m with
  | nil => intro k b vs' ds' h; rw [List.getElem?_nil] at h; cases h
  | @cons c vs ds bs rows h1 h2 h3 h4 h5 t ih =>
    intro k b vs' ds' h r
    cases k with
    | zero =>
      rw [List.getElem?_cons_zero] at h
      cases h
      rw [List.set_cons_zero]
      refine .cons h1 h2 upd_same r h5 (t.stays (Same.refl _) fun d hd z1 z2 z3 => ⟨z2, upd_ne fun w => ?_⟩)
      exact h5 (by rw [← w]; exact hd)
    | succ k =>
      rw [List.getElem?_cons_succ] at h
      rw [List.set_cons_succ]
      have hb : b ∈ bs := List.mem_of_getElem? h
      exact .cons h1 h2 (by rw [upd_ne fun w => h5 (by rw [w]; exact hb)]; exact h3) h4 h5 (ih k b vs' ds' h r)
theorem MR.snoc {bs : List Addr} {rows : List (List D)} {l : Addr} {vs : List V} {ds : List D} (m : MR K H0 I H bs rows) (g1 : H0 l = none) (g2 : I l = none) (g3 : H l = some (.lst vs)) (g4 : Rps K I vs ds) (g5 : l ∉ bs) : MR K H0 I H (bs ++ [l]) (rows ++ [ds]) := by
  induction m with
  | nil => exact .cons g1 g2 g3 g4 List.not_mem_nil .nil
  | @cons c vs' ds' bs rows h1 h2 h3 h4 h5 t ih =>
    refine .cons h1 h2 h3 h4 (fun z => ?_) (ih fun z => g5 (List.mem_cons_of_mem _ z))
    rcases List.mem_append.mp z with z | z
    · exact h5 z
    · rw [List.mem_singleton.mp z] at g5
      exact g5 List.mem_cons_self
end
section
variable {K : Fg} {p : P0} {env : Ev} {σ : L2.St} {I H I' H' : Hp}
end
/-- the row, the place that an index names -/
def atRow {α : Type} (rows : List α) (x : D) (f : Nat → α → Prop) : Prop := match x with | .int k => (match ixN rows.length k with | some k' => (match rows[k']? with | some row => f k' row | none => False) | none => False) | _ => False
/-- rows[a][b] -/
def dMIx (i : Nat) (t1 t2 : T2E) : T2E := fun env Q => match env[i]? with
  | some (some (.mat rows)) => t1 env fun x => atRow rows x fun _ row => t2 env fun y => atRow row y fun _ d => Q d
  | _ => False
/-- rows[a][b] = v -/
def dMSet (i : Nat) (t1 t2 tv : T2E) : T2S := fun E env => tv env fun v => match env[i]? with
  | some (some (.mat rows)) => t1 env fun x => atRow rows x fun k row => t2 env fun y => atRow row y fun j _ => E.nx (env.set i (some (.mat (rows.set k (row.set j v)))))
  | _ => False
section
variable {K : Fg} {ta tb tv : TE} {t1 t2 v2 : T2E}
end
section
variable {K : Fg} {p : P0} {env : Ev} {σ : L2.St} {I H I' H' : Hp}
end
def lcM (g : T2G) (te : T2A) (env : Ev) : List D → (List (List D) → Prop) → Prop
  | [], Q => Q []
  | d :: ds, Q => g d env fun env1 => te env1 fun row => lcM g te env ds fun rs => Q (row :: rs)
/-- rows = [[..] for ..]: a table of one's own -/
def dNewM (i : Nat) (ti : T2I) (g : T2G) (te : T2A) (vs : List Nat) : T2S := fun E env => ti env fun ds => ds.length ≤ 1000000 ∧ lcM g te (wipeE env vs) ds fun rows => E.nx (env.set i (some (.mat rows)))
theorem MR.low {K : Fg} {H0 H1 I H : Hp} {bs : List Addr} {rows : List (List D)} (m : MR K H0 I H bs rows) (h : ∀ c, H0 c = none → H1 c = none) : MR K H1 I H bs rows := by
  induction m with
  | nil => exact .nil
  | @cons b vs ds bs rows h1 h2 h3 h4 h5 t ih => exact .cons (h b h1) h2 h3 h4 h5 ih
section
variable {K : Fg} {p : P0} {env : Ev} {σ : L2.St} {I H I' H' : Hp}
end
def dFrzM (i : Nat) (t : T2S) : T2S := fun E env => match env[i]? with | some (some (.mat rows)) => t E (env.set i (some (.dat (.list (rows.map PyData.list))))) | some (some (.dat _)) => t E env | _ => False
/-! ### a, b = x, y -/
def dPar (i j : Nat) (t : T2A) : T2S := fun E env => t env fun ds => match ds with | [d, e] => E.nx ((env.set i (some (.dat d))).set j (some (.dat e))) | _ => False
end Z2
namespace Z2
open PySem PySem.Spec PyProof.Rows L2
section
variable {prog : Program} {w : World} {A : Around} {E : Value → Shared → Prop} {s : Shared}
end
abbrev rmaxDf (K : Fg) : List V → List V → Hp → VK → Prop := fun xs zs H Q => ∃ (p : Addr) (ns : List Int) (z : V), xs = [.ref p] ∧ zs = [z] ∧ SqL K H p (ns.map V.int) ∧ (ns = [] → Q z H) ∧ (ns ≠ [] → Q (.int (maxD ns)) H)
section
variable {prog : Program} {w : World} {A : Around} {E : Value → Shared → Prop} {s : Shared}
end
abbrev rminDf (K : Fg) : List V → List V → Hp → VK → Prop := fun xs zs H Q => ∃ (p : Addr) (ns : List Int) (z : V), xs = [.ref p] ∧ zs = [z] ∧ SqL K H p (ns.map V.int) ∧ (ns = [] → Q z H) ∧ (ns ≠ [] → Q (.int (minD ns)) H)
/-! ### while -/
def whileD (c : T2T) (tb : T2S) (E : Ends2) : Nat → Ev → Prop
  | 0, _ => False
  | n + 1, env => c env fun b => if b = true then tb { E with nx := whileD c tb E n, ct := whileD c tb E n, bk := E.nx } env else E.nx env
def dWhile (c : T2T) (tb : T2S) : T2S := fun E env => ∃ n, whileD c tb E n env
/-! ### len(set(xs)) of different ints -/
def dLenSet (a : T2E) : T2E := fun env Q => a env fun d => match d with | .list xs => (match allInt xs with | some ns => ns.Nodup ∧ ns.length ≤ 4000 ∧ Q (.int (ns.length : Nat)) | none => False) | _ => False
/-! ### pop and remove of one's own list -/
def dPop (i : Nat) (t : T2E) : T2S := fun E env => match env[i]? with
  | some (some (.own ds)) => t env fun k => (match k with | .int j => (match ixN ds.length j with | some m => -(2 ^ 63) ≤ j ∧ j < 2 ^ 63 ∧ E.nx (env.set i (some (.own (ds.eraseIdx m)))) | none => False) | _ => False)
  | _ => False
def dPopA (i k : Nat) (t : T2E) : T2S := fun E env => match env[i]? with
  | some (some (.own ds)) => t env fun x => (match x with | .int j => (match ixN ds.length j with | some m => (match ds[m]? with | some y => -(2 ^ 63) ≤ j ∧ j < 2 ^ 63 ∧ E.nx ((env.set i (some (.own (ds.eraseIdx m)))).set k (some (.dat y))) | none => False) | none => False) | _ => False)
  | _ => False
/-- left.remove(x), of ints -/
def dRem (i : Nat) (t : T2E) : T2S := fun E env => match env[i]? with
  | some (some (.own ds)) => t env fun x => (match x with | .int k => (match allInt ds with | some ns => k ∈ ns ∧ E.nx (env.set i (some (.own ((ns.erase k).map PyData.int)))) | none => False) | _ => False)
  | _ => False
section
variable {K : Fg} {te : TE} {t2 : T2E}
end
/-! ### one's own list, read where it is -/
def ownD (i : Nat) (env : Ev) : Option (List D) := match env[i]? with | some (some (.own ds)) => some ds | some (some (.dat (.list ds))) => some ds | some (some (.dat (.tuple ds))) => some ds | _ => none
def dOLen (i : Nat) : T2E := fun env Q => match ownD i env with | some ds => Q (.int (ds.length : Nat)) | none => False
def dOTru (i : Nat) : T2T := fun env Q => match ownD i env with | some ds => Q (!ds.isEmpty) | none => False
def dOIx (i : Nat) (t : T2E) : T2E := fun env Q => match ownD i env with | some ds => t env fun x => (match x with | .int k => (match atI ds k with | some d => Q d | none => False) | _ => False) | none => False
section
variable {K : Fg} {ta : TE} {t2 : T2E}
theorem own_cell {p : P0} {env : Ev} {σ : L2.St} {I H : Hp} {i : Nat} {ds : List D} (r : RelL K p env σ I H) (e : ownD i env = some ds) :
    ∃ (a : Addr) (vs : List V), σ[i]? = some (some (.ref a)) ∧ Rps K I vs ds ∧ ((∀ I' H', Stp p I H I' H' → SqL K H' a vs) ∨ (∀ I' H', Stp p I H I' H' → SqT K H' a vs)) := by
  unfold ownD at e
  split at e
  · rename_i ds' e2
    cases e
    obtain ⟨v, hv, a, vs, rfl, f2, _, e4, e5⟩ := r.r.sl i _ e2
    exact ⟨a, vs, hv, e5, .inl fun I' H' s => SqL.of (s.gr.hh a _ e4 fun q => (r.r.st a q).1 f2)⟩
  · rename_i ds' e2
    cases e
    obtain ⟨v, hv, h⟩ := r.r.sl i _ e2
    have h : Rp K I v (.list ds) := h
    cases h with
    | lst h1 h2 => exact ⟨_, _, hv, h2, .inl fun I' H' s => SqL.of (s.ih _ _ (s.ii _ _ h1))⟩
  · rename_i ds' e2
    cases e
    obtain ⟨v, hv, h⟩ := r.r.sl i _ e2
    have h : Rp K I v (.tuple ds) := h
    cases h with
    | tup h1 h2 => exact ⟨_, _, hv, h2, .inr fun I' H' s => Same.sqt s.ih (Same.sqt s.ii h1.sqt)⟩
  · cases e
theorem se_oIx (i : Nat) (ha : SE K ta t2) : SE K (tOp (rIx K) (tVar i) ta) (dOIx i t2) := by
  intro p env σ I H Q2 Q r q k
  unfold dOIx at q
  split at q
  · rename_i ds e
    obtain ⟨a, vs, h1, h2, h3⟩ := own_cell r e
    refine ⟨_, h1, ha p env σ I H _ _ r q fun d v I1 H1 q1 s1 r1 => ?_⟩
    split at q1
    · rename_i j
      split at q1
      · rename_i d' ed
        cases r1
        obtain ⟨u, hu, ru⟩ := atI_rp (Rps.mono s1.ii _ _ h2) ed
        rcases h3 with g | g
        · exact .inl ⟨a, vs, j, u, rfl, rfl, g _ _ s1, hu, k _ _ I1 H1 q1 s1 ru⟩
        · exact .inr (.inl ⟨a, vs, j, u, rfl, rfl, g _ _ s1, hu, k _ _ I1 H1 q1 s1 ru⟩)
      · exact q1.elim
    · exact q1.elim
  · exact q.elim
structure ItRs (K : Fg) (p : P0) (I H : Hp) (J : It) (ds : List D) : Prop where
  go : ∀ i I' H', Stp p I H I' H' → i < ds.length → J.go i H'
  stop : ∀ i I' H', Stp p I H I' H' → i = ds.length → J.stop i H'
  yld : ∀ i x I' H' H'', Stp p I H I' H' → i < ds.length → J.yld i H' x H'' → ∃ I'' d, Gr none I' H' I'' H'' ∧ ds[i]? = some d ∧ Rp K I'' x d
def SIs (K : Fg) (wi : TI) (t : T2I) : Prop := ∀ (p : P0) (env : Ev) (σ : L2.St) (I H : Hp) (Q2 : List D → Prop) (R : It → Hp → Prop), RelL K p env σ I H → t env Q2 →
  (∀ ds J I' H', Q2 ds → Stp p I H I' H' → ItRs K p I' H' J ds → R J H') → wi σ H R
def diOwn (i : Nat) : T2I := fun env Q => match ownD i env with | some ds => Q ds | none => False
end
section
variable {P : Program} {w : World} {K : Fg} {mg : Str → Option Value} {base : Heap}
/-- a function that calls itself, so many deep -/
def frec (NL m : Nat) (tb : RCD → T2S) : Nat → RCD
  | 0 => fun _ _ => False
  | n + 1 => bodyD NL m (tb (frec NL m tb n))
end
section
variable {K : Fg}
def dCBK (r : List D → List D → (D → Prop) → Prop) (a k : T2A) : T2E := fun env Q => a env fun ds => k env fun es => r ds es Q
def SimCK (K : Fg) (r : List V → List V → Hp → VK → Prop) (r2 : List D → List D → (D → Prop) → Prop) : Prop := ∀ (I H : Hp) (vs ws : List V) (ds es : List D) (Q2 : D → Prop) (Q : VK), Same I H → Rps K I vs ds → Rps K I ws es → r2 ds es Q2 →
  (∀ d v I' H', Q2 d → Gr none I H I' H' → Rp K I' v d → Q v H') → r vs ws H Q
def dmaxDf : List D → List D → (D → Prop) → Prop := fun ds es Q => match ds, es with | [.list xs], [z] => (match allInt xs with | some ns => (ns = [] → Q z) ∧ (ns ≠ [] → Q (.int (maxD ns))) | none => False) | _, _ => False
def dminDf : List D → List D → (D → Prop) → Prop := fun ds es Q => match ds, es with | [.list xs], [z] => (match allInt xs with | some ns => (ns = [] → Q z) ∧ (ns ≠ [] → Q (.int (minD ns))) | none => False) | _, _ => False
end
end Z2
namespace Z2
open PySem PySem.Spec PyProof.Rows L2
/-! ### base lemmas of plain data -/
/-- a loop whose body is not looked into -/
theorem for_gen {ti : T2I} {g : T2G} {tb : T2S} {E : Ends2} {env : Ev} (h : ∀ B, B = tb → dFor ti g B E env) : dFor ti g tb E env := h _ rfl
theorem ite_t {c : Prop} [Decidable c] {a b : Prop} (h : c) (q : a) : ite c a b := by rw [if_pos h]; exact q
theorem ite_f {c : Prop} [Decidable c] {a b : Prop} (h : ¬ c) (q : b) : ite c a b := by rw [if_neg h]; exact q
def inI (v : D) (l g : Int) : Bool := match v with | .int i => decide (l ≤ i) && decide (i ≤ g) | _ => false
def whI : D → Bool | .int _ => true | _ => false
theorem inI_int {v : D} {l g : Int} (h : inI v l g = true) : ∃ i : Int, v = .int i ∧ l ≤ i ∧ i ≤ g := by
  unfold inI at h
  split at h
  · rw [Bool.and_eq_true] at h
    exact ⟨_, rfl, of_decide_eq_true h.1, of_decide_eq_true h.2⟩
  · cases h
theorem inI_good {i l g : Int} (h0 : l ≤ i) (h1 : i ≤ g) : inI (.int i) l g = true := by
  simp only [inI, decide_eq_true h0, decide_eq_true h1, Bool.and_true]
theorem eqv_intD (a b : Int) : PyData.eqv (.int a) (.int b) = decide (a = b) := by
  unfold PyData.eqv
  by_cases h : a = b
  · subst h; simp
  · rw [decide_eq_false h]; exact beq_eq_false_iff_ne.mpr h
theorem eqv_str (a b : Str) : PyData.eqv (.str a) (.str b) = decide (a = b) := by
  show (a == b) = decide (a = b)
  by_cases c : a = b
  · rw [decide_eq_true c, c]
    exact beq_self_eq_true b
  · rw [decide_eq_false c]
    exact beq_eq_false_iff_ne.mpr c
theorem eqv_boolD (a b : Bool) : PyData.eqv (.bool a) (.bool b) = decide (a = b) := by cases a <;> cases b <;> rfl
theorem getD_some {α : Type} {xs : List α} {k : Nat} {x y : α} (h : xs[k]? = some x) : xs.getD k y = x := by
  rw [List.getD_eq_getElem?_getD, h]
  rfl
/-- data without dicts, so many deep -/
structure okN (n : Nat) (d : D) : Prop where
  lay : PyData.canLay0 d = true
  dep : d.depth ≤ n
theorem okN.mono {n m : Nat} {d : D} (h : okN n d) (k : n ≤ m) : okN m d := ⟨h.lay, Nat.le_trans h.dep k⟩
theorem okN.int (n : Nat) (i : Int) : okN n (.int i) := ⟨rfl, Nat.zero_le _⟩
theorem okN.bool (n : Nat) (i : Bool) : okN n (.bool i) := ⟨rfl, Nat.zero_le _⟩
theorem okN.none (n : Nat) : okN n .none := ⟨rfl, Nat.zero_le _⟩
theorem okN.str {x : Str} (n : Nat) (h : PyData.canLay0 (.str x) = true) : okN n (.str x) := ⟨h, Nat.zero_le _⟩
theorem depthAll_le : ∀ {ds : List D} {n : Nat}, (∀ d ∈ ds, d.depth ≤ n) → PyData.depthAll ds ≤ n
  | [], _, _ => Nat.zero_le _
  | x :: xs, n, h => by
    unfold PyData.depthAll
    have h1 := h x List.mem_cons_self
    have h2 := depthAll_le (ds := xs) (n := n) fun d hd => h d (List.mem_cons_of_mem _ hd)
    first | exact Nat.max_le.mpr ⟨h1, h2⟩ | omega
theorem okN.tup {n : Nat} {ds : List D} (h : ∀ d ∈ ds, okN n d) : okN (n + 1) (.tuple ds) := by
  refine ⟨?_, ?_⟩
  · unfold PyData.canLay0
    exact canLayAll_of fun d hd => (h d hd).lay
  · unfold PyData.depth
    have := depthAll_le fun d hd => (h d hd).dep
    omega
theorem okN.list {n : Nat} {ds : List D} (h : ∀ d ∈ ds, okN n d) : okN (n + 1) (.list ds) := by
  refine ⟨?_, ?_⟩
  · unfold PyData.canLay0
    exact canLayAll_of fun d hd => (h d hd).lay
  · unfold PyData.depth
    have := depthAll_le fun d hd => (h d hd).dep
    omega
theorem okN.shaped {n : Nat} {d : D} (h : okN n d) (k : n ≤ 64 := by decide) : SeqAt.shaped d = true := by
  unfold SeqAt.shaped
  rw [h.lay, decide_eq_true (Nat.le_trans h.dep k)]
  rfl
mutual
theorem eqv_same : ∀ {d : D}, PyData.canLay0 d = true → PyData.eqv d d = true
  | .none, _ => rfl
  | .bool b, _ => by rw [eqv_boolD]; exact decide_eq_true rfl
  | .int b, _ => by rw [eqv_intD]; exact decide_eq_true rfl
  | .str b, _ => by rw [eqv_str]; exact decide_eq_true rfl
  | .list ds, h => by
    unfold PyData.canLay0 at h
    unfold PyData.eqv
    exact eqvAll_same h
  | .tuple ds, h => by
    unfold PyData.canLay0 at h
    unfold PyData.eqv
    exact eqvAll_same h
  | .dict _, h => by simp [PyData.canLay0] at h
theorem eqvAll_same : ∀ {ds : List D}, PyData.canLayAll0 ds = true → PyData.eqvAll ds ds = true
  | [], _ => rfl
  | x :: xs, h => by
    unfold PyData.canLayAll0 at h
    rw [Bool.and_eq_true] at h
    unfold PyData.eqvAll
    rw [eqv_same h.1, eqvAll_same h.2]
    rfl
end
theorem next_mk {n : Int} {Q : D → Prop} (h0 : 0 < n) (h1 : n < 1073741824) (q : ∀ d : Int, 0 ≤ d → d < n → Q (.int d)) : f_next [.int n] Q := ⟨n, rfl, h0, h1, q⟩
theorem atI_0 {α : Type} {x : α} {xs : List α} : atI (x :: xs) 0 = some x := atI_nat (j := 0) rfl
theorem atI_1 {α : Type} {x y : α} {xs : List α} : atI (x :: y :: xs) 1 = some y := atI_nat (j := 1) rfl
theorem atI_2 {α : Type} {x y z : α} {xs : List α} : atI (x :: y :: z :: xs) 2 = some z := atI_nat (j := 2) rfl
end Z2
namespace Z2
open PySem PySem.Spec PyProof.Rows L2
/-! `in` and `not in` of a list of data of any depth, also of an own list read in place -/
def dInD (neg : Bool) : R2D := fun x y Q => match y with | .list ds => SeqAt.shaped x = true ∧ SeqAt.shaped (.list ds) = true ∧ Q (.bool (if neg then !(ds.any fun d => PyData.eqv d x) else ds.any fun d => PyData.eqv d x)) | _ => False
section
variable {K : Fg} {ta : TE} {t2 : T2E}
/-- x in own list i -/
def dOInD (neg : Bool) (i : Nat) (t : T2E) : T2E := fun env Q => match env[i]? with
  | some (some (.own ds)) => t env fun x => SeqAt.shaped x = true ∧ SeqAt.shaped (.list ds) = true ∧ Q (.bool (if neg then !(ds.any fun d => PyData.eqv d x) else ds.any fun d => PyData.eqv d x))
  | some (some (.dat (.list ds))) => t env fun x => SeqAt.shaped x = true ∧ SeqAt.shaped (.list ds) = true ∧ Q (.bool (if neg then !(ds.any fun d => PyData.eqv d x) else ds.any fun d => PyData.eqv d x))
  | _ => False
end
end Z2
namespace Z2
open PySem PySem.Spec PyProof.Rows L2
theorem kI_inj : ∀ {ns ms : List Int}, kI ns = kI ms → ns = ms
  | [], [], _ => rfl
  | [], _ :: _, h => nomatch h
  | _ :: _, [], h => nomatch h
  | n :: ns, m :: ms, h => by
    have h : (Sum.inl n :: kI ns : List Key) = Sum.inl m :: kI ms := h
    injection h with h1 h2
    injection h1 with h1
    rw [h1, kI_inj h2]
def IKeys (K : Fg) (H : Hp) (xs : List (List Key × Addr × Value)) : Prop := ∀ x ∈ xs, ∃ ns, x.1 = kI ns ∧ SqT K H x.2.1 (ns.map V.int)
def rFG (K : Fg) : R2 := fun x y H Q => ∃ a w xs b ns p v, x = .ref a ∧ y = .ref b ∧ H a = some (dctO w a xs) ∧ IKeys K H xs ∧ SqT K H b (ns.map V.int) ∧ atKey xs (kI ns) = some p ∧ RelV v p.2 ∧ Q v H
def rFIn (K : Fg) (neg : Bool) : R2 := fun x y H Q => ∃ a w xs b ns, x = .ref b ∧ y = .ref a ∧ H a = some (dctO w a xs) ∧ IKeys K H xs ∧ SqT K H b (ns.map V.int) ∧ Q (.bl (if neg then !(atKey xs (kI ns)).isSome else (atKey xs (kI ns)).isSome)) H
/-! over data -/
def keyIs : List D → Option (List Int)
  | [] => some []
  | .int i :: ds => (keyIs ds).map (i :: ·)
  | _ => none
def keyI : D → Option (List Int) | .tuple ds => keyIs ds | _ => none
def getF (kvs : List (D × D)) (k : List Int) : Option D := (kvs.find? fun p => decide (keyI p.1 = some k)).map (·.2)
def dGetF : R2D := fun x y Q => match x with | .dict kvs => (match keyI y with | some k => (match getF kvs k with | some d => Q d | none => False) | none => False) | _ => False
def dInF (neg : Bool) : R2D := fun x y Q => match y with | .dict kvs => (match keyI x with | some k => Q (.bool (if neg then !(getF kvs k).isSome else (getF kvs k).isSome)) | none => False) | _ => False
def dInO (neg : Bool) (i : Nat) (t : T2E) : T2E := fun env Q => match env[i]? with
  | some (some (.dct _ ks)) => t env fun x => (match keyI x with | some k => (∀ y ∈ ks, ∃ ms, y.1 = kI ms) ∧ Q (.bool (if neg then !(valD ks (kI k)).isSome else (valD ks (kI k)).isSome)) | none => False)
  | some (some (.dat (.dict kvs))) => t env fun x => (match keyI x with | some k => Q (.bool (if neg then !(getF kvs k).isSome else (getF kvs k).isSome)) | none => False)
  | _ => False
theorem keyIs_ints : ∀ ns : List Int, keyIs (ns.map PyData.int) = some ns
  | [] => rfl
  | n :: ns => by
    show (keyIs (ns.map PyData.int)).map (n :: ·) = _
    rw [keyIs_ints ns]
    rfl
theorem keyI_ints (ns : List Int) : keyI (.tuple (ns.map PyData.int)) = some ns := keyIs_ints ns
section
variable {K : Fg} {I : Hp}
theorem KF.keys : ∀ {xs : List (List Key × Addr × Value)} {kvs : List (D × D)}, KF K I xs kvs → IKeys K I xs
  | _, _, .nil, x, hx => absurd hx List.not_mem_nil
  | _, _, .cons h1 h2 h3 t, x, hx => by
    rcases List.mem_cons.mp hx with rfl | hx
    · exact ⟨_, rfl, h1⟩
    · exact KF.keys t x hx
theorem KF.val : ∀ {xs : List (List Key × Addr × Value)} {kvs : List (D × D)}, KF K I xs kvs → ∀ k, (getF kvs k = none ∧ atKey xs (kI k) = none) ∨ ∃ d p v, getF kvs k = some d ∧ atKey xs (kI k) = some p ∧ RelV v p.2 ∧ R0 v d
  | _, _, .nil, k => .inl ⟨rfl, rfl⟩
  | _, _, .cons (ns := ns) (b := b) (u := u) (v := v) (d := d) (xs := xs) (kvs := kvs) h1 h2 h3 t, k => by
    by_cases c : ns = k
    · subst c
      refine .inr ⟨d, (b, u), v, ?_, ?_, h2, h3⟩
      · unfold getF; rw [List.find?_cons, keyI_ints, decide_eq_true rfl]; rfl
      · unfold atKey; rw [List.find?_cons, decide_eq_true rfl]; rfl
    · have e1 : getF ((.tuple (ns.map PyData.int), d) :: kvs) k = getF kvs k := by unfold getF; rw [List.find?_cons, keyI_ints, decide_eq_false (fun z => c (Option.some.inj z))]
      have e2 : atKey ((kI ns, b, u) :: xs) (kI k) = atKey xs (kI k) := by unfold atKey; rw [List.find?_cons, decide_eq_false (fun z => c (kI_inj z))]
      rw [e1, e2]
      exact KF.val t k
theorem IKeys.mono {H H' : Hp} {xs : List (List Key × Addr × Value)} (e : Same H H') (h : IKeys K H xs) : IKeys K H' xs := fun x hx => by
  obtain ⟨ns, e1, e2⟩ := h x hx
  exact ⟨ns, e1, Same.sqt e e2⟩
end
section
variable {K : Fg} {ta : TE} {t2 : T2E}
end
/-! ### an own dict becomes data -/
def scal : D → Bool | .none => true | .bool _ => true | .int _ => true | _ => false
def ksOf (is : List (List Int × D)) : List (List Key × D) := is.map fun q => (kI q.1, q.2)
def dicD (is : List (List Int × D)) : D := .dict (is.map fun q => (.tuple (q.1.map PyData.int), q.2))
def dFrzD (i : Nat) (t : T2S) : T2S := fun E env => match env[i]? with
  | some (some (.dct _ ks)) => ∃ is, ks = ksOf is ∧ (∀ q ∈ is, scal q.2 = true) ∧ t E (env.set i (some (.dat (dicD is))))
  | some (some (.dat _)) => t E env | _ => False
end Z2
namespace Z2
open PySem PySem.Spec PyProof.Rows L2
/-! ### x += an int, and an append of what is popped -/
def dAugA (i : Nat) (t : T2E) : T2S := fun E env => match env[i]? with
  | some (some (.dat (.int a))) => t env fun d => (match d with | .int b => E.nx (env.set i (some (.dat (.int (a + b))))) | _ => False)
  | _ => False
/-- xs.append(ys.pop(t)), i for xs, j for ys -/
def dAppPop (i j : Nat) (t : T2E) : T2S := fun E env => match env[i]? with
  | some (some (.own _)) => (match env[j]? with
    | some (some (.own es)) => t env fun x => (match x with
      | .int k => (match ixN es.length k with
        | some m => (match es[m]? with
          | some y => -(2 ^ 63) ≤ k ∧ k < 2 ^ 63 ∧ (match (env.set j (some (.own (es.eraseIdx m))))[i]? with
            | some (some (.own ds)) => ds.length < 1000000 ∧ E.nx ((env.set j (some (.own (es.eraseIdx m)))).set i (some (.own (ds ++ [y]))))
            | _ => False)
          | none => False)
        | none => False)
      | _ => False)
    | _ => False)
  | _ => False
section
variable {K : Fg} {te : TE} {t2 : T2E}
end
end Z2
namespace Z2
open PySem PySem.Spec PyProof.Rows L2
/-! ### list(range(a, b)) -/
def dLstRg2 (a b : T2E) : T2A := fun env Q => a env fun d => b env fun e => match d, e with
  | .int i, .int j => -1000000 ≤ i ∧ i ≤ 1000000 ∧ -1000000 ≤ j ∧ j ≤ 1000000 ∧ Q (dRange i (j - i).toNat)
  | _, _ => False
end Z2
namespace Z2
open PySem PySem.Spec PyProof.Rows L2
/-! ### dicts of one's own whose keys are ints -/
def valI (ks : List (Int × D)) (k : Int) : Option D := (ks.find? fun x => decide (x.1 = k)).map (·.2)
def putI (ks : List (Int × D)) (k : Int) (d : D) : List (Int × D) := if (ks.any fun x => decide (x.1 = k)) = true then ks.map (fun x => if x.1 = k then (x.1, d) else x) else ks ++ [(k, d)]
def noK : Option Sl → Bool | some (.dki _) => false | _ => true
section
variable {K : Fg} {I : Hp}
theorem KDI.length : ∀ {xs : List (Key × V)} {ks : List (Int × D)}, KDI K I xs ks → xs.length = ks.length
  | _, _, .nil => rfl
  | _, _, .cons _ t => by rw [List.length_cons, List.length_cons, KDI.length t]
theorem KDI.val : ∀ {xs : List (Key × V)} {ks : List (Int × D)}, KDI K I xs ks → ∀ k : Int, (valI ks k = none ∧ valV xs (Sum.inl k) = none) ∨ ∃ d v, valI ks k = some d ∧ valV xs (Sum.inl k) = some v ∧ Rp K I v d
  | _, _, .nil, k => .inl ⟨rfl, rfl⟩
  | _, _, .cons (i := i) (v := v) (d := d) (xs := xs) (ks := ks) h t, k => by
    by_cases c : i = k
    · subst c
      refine .inr ⟨d, v, ?_, valV_pos rfl, h⟩
      unfold valI
      rw [List.find?_cons, decide_eq_true rfl]
      rfl
    · have e1 : valI ((i, d) :: ks) k = valI ks k := by unfold valI; rw [List.find?_cons, decide_eq_false c]
      have e2 : valV (((Sum.inl i : Key), v) :: xs) (Sum.inl k) = valV xs (Sum.inl k) := valV_neg fun z => c (Sum.inl.inj z)
      rw [e1, e2]
      exact KDI.val t k
theorem KDI.any : ∀ {xs : List (Key × V)} {ks : List (Int × D)}, KDI K I xs ks → ∀ k : Int, (xs.any fun kv => decide (kv.1 = (Sum.inl k : Key))) = ks.any fun x => decide (x.1 = k)
  | _, _, .nil, k => rfl
  | _, _, .cons (i := i) h t, k => by
    rw [List.any_cons, List.any_cons, KDI.any t k]
    congr 1
    rw [Bool.eq_iff_iff, decide_eq_true_iff, decide_eq_true_iff]
    exact ⟨fun z => Sum.inl.inj z, fun z => by rw [show i = k from z]⟩
theorem KDI.repl {k : Int} {v : V} {d : D} (h1 : Rp K I v d) : ∀ {xs : List (Key × V)} {ks : List (Int × D)}, KDI K I xs ks → KDI K I (xs.map fun kv => if kv.1 = (Sum.inl k : Key) then (kv.1, v) else kv) (ks.map fun x => if x.1 = k then (x.1, d) else x)
  | _, _, .nil => .nil
  | _, _, .cons (i := i) (v := v1) (d := d1) h t => by
    rw [List.map_cons, List.map_cons]
    by_cases c : i = k
    · subst c
      rw [if_pos rfl, if_pos rfl]
      exact .cons h1 (KDI.repl h1 t)
    · rw [if_neg (fun z => c (Sum.inl.inj z)), if_neg c]
      exact .cons h (KDI.repl h1 t)
theorem KDI.snoc {k : Int} {v : V} {d : D} (h1 : Rp K I v d) : ∀ {xs : List (Key × V)} {ks : List (Int × D)}, KDI K I xs ks → KDI K I (xs ++ [(Sum.inl k, v)]) (ks ++ [(k, d)])
  | _, _, .nil => .cons h1 .nil
  | _, _, .cons h t => .cons h (KDI.snoc h1 t)
theorem KDI.put {k : Int} {v : V} {d : D} (h1 : Rp K I v d) {xs : List (Key × V)} {ks : List (Int × D)} (h : KDI K I xs ks) : KDI K I (putK xs (Sum.inl k) v) (putI ks k d) := by
  unfold putK putI
  rw [h.any k]
  split
  · exact KDI.repl h1 h
  · exact KDI.snoc h1 h
end
section
variable {K : Fg} {p : P0} {env : Ev} {σ : L2.St} {I H I' H' : Hp}
end
def dNewK (i : Nat) : T2S := fun E env => E.nx (env.set i (some (.dki [])))
def dPutK (i : Nat) (tk tv : T2E) : T2S := fun E env => tv env fun v => match env[i]? with
  | some (some (.dki ks)) => ks.length < 1000000 ∧ (env.set i none).all noK = true ∧ tk env fun kd => (match kd with | .int k => E.nx (env.set i (some (.dki (putI ks k v)))) | _ => False)
  | _ => False
def dGetK (i : Nat) (tk : T2E) : T2E := fun env Q => match env[i]? with
  | some (some (.dki ks)) => tk env fun kd => (match kd with | .int k => (match valI ks k with | some d => Q d | none => False) | _ => False)
  | _ => False
def dInK (neg : Bool) (i : Nat) (tk : T2E) : T2E := fun env Q => match env[i]? with
  | some (some (.dki ks)) => tk env fun kd => (match kd with | .int k => Q (.bool (if neg then !(valI ks k).isSome else (valI ks k).isSome)) | _ => False)
  | _ => False
def rKIn (neg : Bool) : R2 := fun x y H Q => ∃ a o, y = .ref a ∧ DGet H a x o ∧ Q (.bl (if neg then !o.isSome else o.isSome)) H
section
variable {K : Fg}
end
end Z2
namespace Z2
open PySem PySem.Spec PyProof.Rows L2
/-! ### .get(key, other) and the truth of dicts whose keys are ints -/
def dGet2K (i : Nat) (tk td : T2E) : T2E := fun env Q => match env[i]? with
  | some (some (.dki ks)) => tk env fun kd => td env fun dv => (match kd with | .int k => Q ((valI ks k).getD dv) | _ => False)
  | _ => False
def dTruK (i : Nat) : T2T := fun env Q => match env[i]? with | some (some (.dki ks)) => Q (!ks.isEmpty) | _ => False
section
variable {K : Fg}
end
end Z2
namespace Z2
open PySem PySem.Spec PyProof.Rows L2
/-! ### exceptions of the text's classes, as data: the class's number, what its one field holds -/
def xname : Nat → Str
  | 0 => "BadValue" | 1 => "NotPossible" | 2 => "TooLarge" | _ => "BideError"
def xfld : Nat → Str
  | 0 => "name" | 1 => "why" | _ => "what"
abbrev T2X := Ev → Nat → D → Prop
abbrev RCX := List D → (D → Prop) → (Nat → D → Prop) → Prop
/-- in the air -/
def RX (K : Fg) (mg : Str → Option Value) (I H : Hp) (c : Nat) (d : D) (cls : Value) (dx : Option Addr) : Prop :=
  ∃ (C a : Addr) (v : V), mg (xname c) = some (.ref C) ∧ cls = .ref C ∧ dx = some a ∧ H a = some (.xd [(xfld c, v)]) ∧ Rp K I v d
/-- a def that may raise -/
def spDX (K : Fg) (mg : Str → Option Value) (n : Nat) (f : RCX) : Sp := fun vs H Q E => ∃ (I : Hp) (ds : List D) (Q2 : D → Prop) (X2 : Nat → D → Prop), vs.length = n ∧ Same I H ∧ Rps K I vs ds ∧ f ds Q2 X2 ∧
  (∀ d v I' H', Q2 d → Gr none I H I' H' → Rp K I' v d → Q v H') ∧ ∀ c e cls dx I' H', X2 c e → Gr none I H I' H' → RX K mg I' H' c e cls dx → E cls dx H'
def HX (K : Fg) (mg : Str → Option Value) (p : P0) (W : WX) (x : T2X) : Prop := ∀ env σ I H c e cls dx, RelL K p env σ I H → x env c e → RX K mg I H c e cls dx → W cls dx σ H
/-- readings under a condition on the state that steps keep -/
abbrev Cnd := P0 → L2.St → Hp → Hp → Prop
def SEG (K : Fg) (C : Cnd) (te : TE) (t : T2E) : Prop := ∀ (p : P0) (env : Ev) (σ : L2.St) (I H : Hp) (Q2 : D → Prop) (Q : VK), RelL K p env σ I H → C p σ I H → t env Q2 →
  (∀ d v I' H', Q2 d → Stp p I H I' H' → Rp K I' v d → Q v H') → te σ H Q
def SAG (K : Fg) (C : Cnd) (n : Nat) (ta : TA) (t : T2A) : Prop := ∀ (p : P0) (env : Ev) (σ : L2.St) (I H : Hp) (Q2 : List D → Prop) (Q : List V → Hp → Prop), RelL K p env σ I H → C p σ I H → t env Q2 →
  (∀ ds vs I' H', Q2 ds → vs.length = n → Stp p I H I' H' → Rps K I' vs ds → Q vs H') → ta σ H Q
def STG (K : Fg) (C : Cnd) (tt : TT) (t : T2T) : Prop := ∀ (p : P0) (env : Ev) (σ : L2.St) (I H : Hp) (Q2 : Bool → Prop) (Q : Bool → Hp → Prop), RelL K p env σ I H → C p σ I H → t env Q2 →
  (∀ b I' H', Q2 b → Stp p I H I' H' → Q b H') → tt σ H Q
def SSG (K : Fg) (C : Cnd) (ts : TS) (t : T2S) : Prop := ∀ (p : P0) (env : Ev) (σ : L2.St) (I H : Hp) (D2 : Ends2) (E : Ends), RelL K p env σ I H → C p σ I H → t D2 env → EndsR K p D2 E → ts E σ H
/-- steps keep it -/
def Kept (K : Fg) (C : Cnd) : Prop := ∀ p env σ I H I' H', RelL K p env σ I H → C p σ I H → Stp p I H I' H' → C p σ I' H'
section
variable {K : Fg} {C : Cnd} {te tf : TE} {t2 u2 : T2E} {ta : TA} {a2 : T2A} {ts us : TS} {t u : T2S} {n : Nat}
theorem seg_of (h : SE K te t2) : SEG K C te t2 := fun p env σ I H Q2 Q r _ q k => h p env σ I H Q2 Q r q k
theorem sag_of (h : SA K n ta a2) : SAG K C n ta a2 := fun p env σ I H Q2 Q r _ q k => h p env σ I H Q2 Q r q k
theorem stg_of {tt : TT} {c2 : T2T} (h : ST K tt c2) : STG K C tt c2 := fun p env σ I H Q2 Q r _ q k => h p env σ I H Q2 Q r q k
theorem ssg_of (h : SS K ts t) : SSG K C ts t := fun p env σ I H D2 E r _ q e => h p env σ I H D2 E r q e
theorem sag_nil : SAG K C 0 tNil dNil := sag_of sa_nil
theorem sag_cons (hk : Kept K C) (h : SEG K C te t2) (h2 : SAG K C n ta a2) : SAG K C (n + 1) (tCons te ta) (dCons t2 a2) := by
  intro p env σ I H Q2 Q rl hx q k
  refine h p env σ I H _ _ rl hx q fun d v I1 H1 q1 s1 r1 => ?_
  refine h2 p env σ I1 H1 _ _ (rl.stp s1) (hk _ _ _ _ _ _ _ rl hx s1) q1 fun ds vs I2 H2 q2 hl s2 r2 => ?_
  exact k _ _ _ _ q2 (by rw [List.length_cons, hl]) (s1.trans s2) (.cons (Rp.mono s2.ii _ _ r1) r2)
theorem seg_op {r : R2} {r2 : R2D} (hk : Kept K C) (hs : Sim2 K r r2) (ha : SEG K C te t2) (hb : SEG K C tf u2) : SEG K C (tOp r te tf) (dOp r2 t2 u2) := by
  intro p env σ I H Q2 Q rl hx q k
  refine ha p env σ I H _ _ rl hx q fun d v I1 H1 q1 s1 h1 => ?_
  refine hb p env σ I1 H1 _ _ (rl.stp s1) (hk _ _ _ _ _ _ _ rl hx s1) q1 fun e w I3 H3 q3 s3 h3 => ?_
  exact hs I3 H3 v w d e Q2 Q s3.ih (Rp.mono s3.ii d v h1) h3 q3 fun d' v' I' H' q' g r' => k d' v' I' H' q' ((s1.trans s3).trans (.of g)) r'
theorem ssg_seqC (hc : ∀ p σ I H σ' I' H', C p σ I H → C p σ' I' H') (h1 : SSG K C ts t) (h2 : SSG K C us u) : SSG K C (tSeq ts us) (dSeq t u) := fun p env σ I H D2 E r hx q e =>
  h1 p env σ I H _ _ r hx q ⟨fun env' σ' I' H' q' r' => h2 p env' σ' I' H' _ _ r' (hc _ _ _ _ _ _ _ hx) q' e, e.rt, e.bk, e.ct, e.rd, e.re, e.rv⟩
theorem ssg_if {c : TT} {c2 : T2T} (hk : Kept K C) (h : STG K C c c2) (h1 : SSG K C ts t) (h2 : SSG K C us u) : SSG K C (tIfS c ts us) (dIfS c2 t u) := by
  intro p env σ I H D2 E r hx q e
  refine h p env σ I H _ _ r hx q fun b I' H' q' s => ?_
  cases b with
  | true =>
    rw [if_pos rfl] at q' ⊢
    exact h1 p env σ I' H' _ _ (r.stp s) (hk _ _ _ _ _ _ _ r hx s) q' e
  | false =>
    rw [if_neg Bool.false_ne_true] at q' ⊢
    exact h2 p env σ I' H' _ _ (r.stp s) (hk _ _ _ _ _ _ _ r hx s) q' e
theorem ssg_drop (h : SEG K C te t2) : SSG K C (tDrop te) (dDrop t2) := fun p env σ I H D2 E r hx q e =>
  h p env σ I H _ _ r hx q fun d v I' H' q' s rp => e.nx _ _ _ _ q' (r.stp s)
theorem ssg_ret (h : SEG K C te t2) : SSG K C (tRet te) (dRet t2) := fun p env σ I H D2 E r hx q e =>
  h p env σ I H _ _ r hx q fun d v I' H' q' s rp => e.rt d v I' H' q' (r.r.gr.trans s.gr) (fun a ea => s.st a ea (r.r.st a ea).2) rp
end
/-! ### a def that may raise: its body -/
abbrev CX1 (K : Fg) (mg : Str → Option Value) (W : WX) (x : T2X) : Cnd := fun p _ _ _ => HX K mg p W x
def dCBX (f : RCX) (x : T2X) (t : T2A) : T2E := fun env Q => t env fun ds => f ds Q (x env)
/-- raise C(..) -/
def dRaise (x : T2X) (c : Nat) (t : T2E) : T2S := fun _ env => t env fun d => x env c d
section
variable {K : Fg} {mg : Str → Option Value} {W : WX} {x : T2X} {te tf : TE} {t2 u2 : T2E} {ta : TA} {a2 : T2A} {n : Nat}
theorem cx1_kept : Kept K (CX1 K mg W x) := fun p env σ I H I' H' _ h _ => h
theorem cx1_hx {p : P0} {env : Ev} {σ σ' : L2.St} {I H I' H' : Hp} (h : CX1 K mg W x p σ' I' H') {c : Nat} {e : D} {cls : Value} {dx : Option Addr} (r : RelL K p env σ I H) (q : x env c e) (z : RX K mg I H c e cls dx) : W cls dx σ H :=
  h env σ I H c e cls dx r q z
theorem cx1_base : ∀ p σ I H σ' I' H' B, CX1 K mg W x p σ I H → Same p.B B → CX1 K mg W x { p with B := B } σ' I' H' := fun p σ I H σ' I' H' B h e env τ J G c d cls dx r q z =>
  h env τ J G c d cls dx (r.rebase (e.trans r.r.bs)) q z
theorem seg_callX {f : RCX} (h : SAG K (CX1 K mg W x) n ta a2) : SEG K (CX1 K mg W x) (tCallS (spDX K mg n f) (WE W) ta) (dCBX f x a2) := by
  intro p env σ I H Q2 Q rl hx q k
  refine h p env σ I H _ _ rl hx q fun ds vs I1 H1 q1 hl s1 h1 => ?_
  exact ⟨I1, ds, Q2, x env, hl, s1.ih, h1, q1, fun d v I' H' q' g r' => k d v I' H' q' (s1.trans (.of g)) r',
    fun c e cls dx I' H' q' g r' => cx1_hx hx (rl.stp (s1.trans (.of g))) q' r'⟩
end
/-! ### C's own __init__: one field -/
def spI (K : Fg) (f : Str) : Sp := fun vs H Q _ => ∃ (a C : Addr) (v : V), vs = [.ref a, v] ∧ OexC K C ∧ PySem.W.findIn K (.ref C) f = some none ∧ H a = some (exo a C none) ∧
  ∀ dx, H dx = none → dx ≠ a → Q .non (upd (upd H dx (exd dx [(f, v)])) a (exo a C (some dx)))
theorem upd_del {H : Hp} {a d : Addr} {o o' u u' : HO} (hn : H a = none) (hne : d ≠ a) : upd (del (upd (upd (upd H a o) d o') a u) a) d u' = upd H d u' := by
  funext b
  by_cases hd : b = d
  · subst hd; rw [upd_same, upd_same]
  · rw [upd_ne hd, upd_ne hd]
    by_cases ha : b = a
    · subst ha; rw [del_same, hn]
    · rw [del_ne ha, upd_ne ha, upd_ne hd, upd_ne ha]
/-- what the text says of the class number c -/
structure XC (P : Program) (w : World) (K : Fg) (mg : Str → Option Value) (base : Heap) (c : Nat) (C : Addr) : Prop where
  gC : mg (xname c) = some (.ref C)
  oc : OexC K C
  no : PySem.W.findIn K (.ref C) (xfld c) = some none
  xf : XfC K C
  ini : ∃ (fI : Addr) (fd : FuncData), PySem.W.findIn K (.ref C) "__init__" = some (some (.ref fI)) ∧ PySem.W.typeIn K (.ref fI) = some (.type "function") ∧ FnOk P w K mg base CX0 1 fI fd ["self", xfld c] (spI K (xfld c)) ∧ Binds K fd ["self", xfld c] []
theorem ini_ok {P : Program} {w : World} {K : Fg} {mg : Str → Option Value} {base : Heap} {qual : Str} {st : Stmt} {fI : Addr} {fd : FuncData} {f : Str} {p1 p2 p3 pos : Pos} (F : Fun K "__init__" qual st fI fd) (S : FnScope ["self", f] ["self", f] (defScope st))
    (hb : defBody st = [.Assign [.Attribute (.Name "self" p1) f p2] (.Name f p3) pos]) (hf : (f == ("__debug__" : Str)) = false)
    (hp : ∀ (cdv : Value) (A : Around) (outer : List Env) (s : Shared) (H : Hp) (Q : VK) (E : XK), PE (cxOf CX0 P w K mg base ["self", f] qual (defScope st) fI cdv A outer s H E).nox (.Name "self" p1) (tVar 0) ∧ PE (cxOf CX0 P w K mg base ["self", f] qual (defScope st) fI cdv A outer s H E).nox (.Name f p3) (tVar 1) ∧
      swapsWith (.Name f p3) (some (.Attribute (.Name "self" p1) f p2)) pos.line (cxOf CX0 P w K mg base ["self", f] qual (defScope st) fI cdv A outer s H E).nox.env = pure false) : FnOk P w K mg base CX0 1 fI fd ["self", f] (spI K f) := by
  refine F.ok S (fun vs H Q E h => ?_) fun cdv A outer s H vs Q E hr h => ⟨tSeq (tOst K f (tVar 0) (tVar 1)) tNext, ?_, ?_⟩
  · obtain ⟨_, _, _, rfl, _⟩ := h; rfl
  · rw [hb]
    obtain ⟨h1, h2, h3⟩ := hp cdv A outer s H Q E
    exact pss_cons (ps_ost h1 h2 h3) pss_nil
  · obtain ⟨a, C, v, rfl, T, hno, ea, k⟩ := h
    exact ⟨v, rfl, .ref a, rfl, a, C, rfl, T, hno, .inl ⟨ea, fun dx n ne => k dx n ne⟩⟩
/-- raise C(e) -/
def tRz (K : Fg) (W : WX) (C : Addr) (f : Str) (te : TE) : TS := fun _ σ H => tMkO C (spI K f) [] (tCons te tNil) σ H fun cls d H' => W cls d σ H'
theorem ssg_raise {P : Program} {w : World} {K : Fg} {mg : Str → Option Value} {base : Heap} {W : WX} {x : T2X} {te : TE} {t2 : T2E} {c : Nat} {C : Addr} (T : XC P w K mg base c C) (h : SE K te t2) : SSG K (CX1 K mg W x) (tRz K W C (xfld c) te) (dRaise x c t2) := by
  intro p env σ I H D2 E rl hx q e
  refine h p env σ I H _ _ rl q fun d v I1 H1 q1 s1 r1 => ⟨by show 1 ≤ 1000; decide, fun a ha => ⟨a, C, v, rfl, T.oc, T.no, upd_same, fun dx hd hne => ⟨rfl, dx, [(xfld c, v)], upd_same, ?_, ?_, ?_⟩⟩⟩
  · rw [upd_ne hne, upd_same]
  · rw [upd_ne hne] at hd; exact hd
  · rw [upd_ne hne] at hd
    rw [upd_del ha hne]
    have r' := rl.stp s1
    have i1 : I1 dx = none := Same.free s1.ih hd
    have g : Gr none I1 H1 I1 (upd H1 dx (.xd [(xfld c, v)])) := ⟨Same.refl _, fun b o z => by
        rw [upd_ne (ne_of_none z i1)]; exact s1.ih _ _ z, fun b o z _ => by rw [upd_ne (ne_of_none z hd)]; exact z, fun b z _ => z, fun b z => by
        by_cases hb : b = dx
        · subst hb; rw [upd_same]; exact fun w => nomatch w
        · rw [upd_ne hb]; exact z⟩
    exact cx1_hx hx (r'.stp (.of g)) q1 ⟨C, dx, v, T.gC, rfl, rfl, upd_same, r1⟩
theorem ps_raise1 {X : Cx} {W : WX} {c : Nat} {C : Addr} {e : Expr} {te : TE} {p pos pos2 : Pos} (T : XC X.prog X.w X.K X.mg X.base c C) (hc : X.calm = true) (tk : Takes X W) (hr : Room 2 X.A) (hg : Gl X (xname c)) (he : PE X.nox e te)
    (hdb : (xname c == ("__debug__" : Str)) = false := by decide) (hs : starEach [e] X.env = (false, eval e X.env) :: starEach [] X.env := by rfl) (hpl : (backTo pos (starEach [] X.env)).any (·.1) = false := by rfl) :
    PS X (.Raise (some (.Call (.Name (xname c) p) [e] [] pos)) none pos2) (tRz X.K W C (xfld c) te) := by
  obtain ⟨fI, fd, h1, h2, h3, h4⟩ := T.ini
  exact ps_raise hc tk (pmk_oex (he := hs) (hpl := hpl) T.oc h1 h2 h3 hr h4 .nil pass0 hg T.gC (pa_cons he.nox pa_nil (hs := hs)) hdb)
/-! ### defs that keep such a promise -/
def orX (f : RCD) (g : RCX) : RCX := fun ds Q X => f ds Q ∨ g ds Q X
/-- by the plain reading, or by the one with raises -/
structure FxX (P : Program) (w : World) (K : Fg) (mg : Str → Option Value) (base : Heap) (k : Nat) (x : Str) (ps : List Str) (n : Nat) (f : RCD) (g : RCX) : Prop where
  pl : Fx P w K mg base k x ps (spD K n f)
  ex : ∃ f fd, FnOk P w K mg base (L2.CX P w) k f fd ps (spDX K mg n g) ∧ mg x = some (.ref f) ∧ PySem.W.keepIn K (.ref f) = true ∧ Binds K fd ps []
def bodyX (N n : Nat) (t : T2X → T2S) : RCX := fun ds Q X => ds.length = n ∧ t (fun _ => X) { nx := fun _ => Q .none, rt := Q } (envD N n ds)
section
variable {P : Program} {w : World} {K : Fg} {mg : Str → Option Value} {base : Heap} {x : Str} {ps : List Str} {sp : Sp}
theorem pe_fxX {X : Cx} {k n : Nat} {W : WX} {f0 : RCD} {g0 : RCX} {p pos : Pos} {e : Expr} {es : List Expr} {t : TA} (G : FxX X.prog X.w K mg X.base k x ps n f0 g0) (hK : X.K = K) (hM : X.mg = mg) (hr : Room k X.A) (hg : Gl X x) (tk : Takes X W) (ha : PA X (e :: es) t)
    (hdb : (x == ("__debug__" : Str)) = false := by decide) (hse : starEach (e :: es) X.env = (false, eval e X.env) :: starEach es X.env := by rfl) (hbk : (backTo pos (starEach es X.env)).any (·.1) = false := by rfl) :
    PE X (.Call (.Name x p) (e :: es) [] pos) (tCallS (spDX K mg n (orX f0 g0)) (WE W) t) := by
  subst hK hM
  obtain ⟨fa, fd, F, hm, hk, hb⟩ := G.ex
  obtain ⟨fa0, fd0, F0, hm0, _, hb0⟩ := G.pl.ex
  rw [hm] at hm0
  cases hm0
  constructor
  intro pins s σ H Q I h
  apply wpAny_Call_Name_kw
  refine ld_glob I hg hm (PySem.W.callWith_K (h₀ := X.base) I.ok.mod.kin hk ?_ hse hbk) hdb
  refine thn (ha.run pos pins s σ H _ I h) fun us s1 z => ?_
  obtain ⟨vs, H1, I1, r, J, ds, Q2, X2, hl, e1, r1, q, k1, k2⟩ := z
  refine ⟨I1.kIn, ?_⟩
  rcases q with q | q
  · exact run_fn (E := E0) F0 hr hb0 .nil pass0 I1 r (by rw [List.append_nil]; exact ⟨J, ds, Q2, hl, e1, r1, q, k1⟩)
  · exact run_fnS F hr hb (passAt tk σ) I1 r ⟨J, ds, Q2, X2, hl, e1, r1, q, k1, k2⟩
theorem bodyX_ok {N : List Str} {n : Nat} {E : XK} {t : T2X → T2S} {ts : TS} (h : ∀ x, SSG K (CX1 K mg (fun cls d _ H => E cls d H) x) ts (t x)) {vs : List V} {H : Hp} {Q : VK} (q : spDX K mg n (bodyX N.length n t) vs H Q E) : ts { nx := fun _ H' => Q .non H', rt := Q } (L2.start N vs) H := by
  obtain ⟨I, ds, Q2, X2, hl, e, r, ⟨hd, q⟩, k, kx⟩ := q
  refine h (fun _ => X2) ⟨none, I, H, I⟩ _ (L2.start N vs) I H _ _ ⟨⟨.refl e, fun i x z => ?_, fun i j x y a _ z _ _ => ?_, (fun s z => nomatch z), Same.refl _, fun i j w w' x y a _ z _ _ => (by obtain ⟨d, z, _⟩ := env_get z; cases z), fun i j x y u v c _ hm z1 z2 _ _ _ => by
      obtain ⟨d1, z1, _⟩ := env_get z1
      obtain ⟨d2, z2, _⟩ := env_get z2
      cases z1
      cases z2
      cases hm⟩, ?_⟩ (fun env σ I' H' c e cls dx r' qx z => kx c e cls dx I' H' qx r'.r.gr z) q ⟨fun env σ I' H' q' r' => k _ _ _ _ q' r'.r.gr .non, fun d v I' H' q' g _ r' => k _ _ _ _ q' g r', fun _ _ _ _ z => z.elim, fun _ _ _ _ z => z.elim, fun _ _ _ _ _ _ z => z.elim, fun _ _ _ _ _ _ z => z.elim, fun _ _ _ _ _ _ z => z.elim⟩
  · obtain ⟨d, rfl, hd⟩ := env_get z
    obtain ⟨v, hv, rv⟩ := r.got hd
    exact ⟨v, start_get hv, rv⟩
  · obtain ⟨d, z, _⟩ := env_get z
    cases z
  · unfold envD L2.start
    rw [List.length_append, List.length_append, List.length_map, List.length_map, List.length_replicate, List.length_replicate, hl, hd]
theorem fx_ofX {st : Stmt} {N : List Str} {k n : Nat} {f : RCD} {t : T2X → T2S} (G : Fx P w K mg base (k + 1) x ps (spD K n f)) (d : Df K mg x st) (S : FnScope N ps (defScope st)) (bb : BindsBy x st ps) (hn : ps.length = n)
    (hb : ∀ (f : Addr) (cdv : Value) (A : Around) (outer : List Env) (s : Shared) (H : Hp) (E : XK), Room k (A.deeper (envOfC x (defScope st) s.heap.objs.size f cdv)) →
      ∃ ts, PSs (cxOf (L2.CX P w) P w K mg base N x (defScope st) f cdv A outer s H E) (defBody st) ts ∧ ∀ y, SSG K (CX1 K mg (fun cls d _ H => E cls d H) y) ts (t y)) : FxX P w K mg base (k + 1) x ps n f (bodyX N.length n t) := by
  obtain ⟨fa', fd', F, hm⟩ := d
  refine ⟨G, fa', fd', F.okX S (fun vs H Q E h => ?_) (fun cdv A outer s H vs Q E hr h => ?_), hm, F.kp, F.binds bb⟩
  · obtain ⟨_, _, _, _, hl, _⟩ := h
    rw [hl, hn]
  · obtain ⟨ts, h1, h2⟩ := hb fa' cdv A outer s H E hr
    exact ⟨ts, h1, bodyX_ok h2 h⟩
end
/-! ### try: .. except C as e: .. (several) -/
def endsU (i : Nat) (D : Ends) : Ends := { nx := fun σ H => D.nx (σ.set i none) H, rt := D.rt, bk := fun σ H => D.bk (σ.set i none) H, ct := fun σ H => D.ct (σ.set i none) H }
structure Hnd where
  cv : Value
  i : Nat
  ts : Addr → Value → Option Addr → TS
def wHs (K : Fg) (Wout : WX) (D : Ends) : List Hnd → WX
  | [] => Wout
  | h :: r => fun cls d σ H => ∃ b, PySem.W.exmOne K cls h.cv = some b ∧ (b = true → ∀ a, H a = none → h.ts a cls d (endsU h.i D) (σ.set h.i (some (.ref a))) H) ∧ (b = false → wHs K Wout D r cls d σ H)
inductive HsOk (X : Cx) : List ExceptHandler → List Hnd → Prop
  | nil : HsOk X [] []
  | cons {x n : Str} {h : Hnd} {b₀ : Stmt} {suite : List Stmt} {np pos' : Pos} {hds : List ExceptHandler} {l : List Hnd} (hc : Names X x h.cv) (hi : X.N[h.i]? = some n) (hl : X.env.kindOf n = some .local)
      (hsu : ∀ (a : Addr) (oe : Obj) (cls : Value) (d : Option Addr) (pn : List (Addr × Obj)), Zc cls d oe → (∃ vs, oe.data = .fields vs) → PSs (X.suite a ((a, oe) :: pn)) (b₀ :: suite) (h.ts a cls d)) (r : HsOk X hds l) :
      HsOk X (.ExceptHandler (some (.Name x np)) (some n) (b₀ :: suite) pos' :: hds) (h :: l)
section
variable {X : Cx} {pins : List (Addr × Obj)} {H : Hp} {σ : L2.St}
/-- the clauses, one after the other; the exception at a lies on the ground -/
theorem hs_run {M : Unit} {B : Heap} {a : Addr} {cls : Value} {d : Option Addr} {sI sg : Shared} {D : Ends} {Wout : WX} (ok : X.Ok) (hst : X.stack = X.env :: X.outer) (hfr : X.env.frame = some X.env.locals) (hN : X.N.Nodup) (tk : Takes X Wout)
    (J : Inv X pins σ H sI) (nb : ∀ b o, sI.heap.get? b = some o → b ∉ frs X.stack → B.get? b = some o) (fl : HandSPX.FlyingZ B (X.env :: X.outer) a (Zc cls d) sg.heap) (up : sI.heap.UpToSlots sg.heap) (na : H a = none) (os : sg.os = sI.os) (ag : AllBare sg.gens) :
    ∀ {hds : List ExceptHandler} {l : List Hnd}, HsOk X hds l → wHs X.K Wout D l cls d σ H → wpAny (model X.prog X.w) X.A (handleBy (.ref a) X.env hds) (SP X pins D) X.xe sg := by
  have frameless : ∀ {h : Heap} {o : Obj} {vs : Array Value}, h.FunFrames B (X.env :: X.outer) → h.get? a = some o → o.data = .fields vs → a ∉ frs (X.env :: X.outer) := by
    intro h o vs ff e dd hm
    obtain ⟨_, o', e', hnf⟩ := ff.mem hm
    rw [e] at e'
    cases e'
    exact hnf _ dd
  obtain ⟨oe, vs, he, hz, hd⟩ := fl.there
  have nfr := frameless fl.2.2.1 he hd
  have nL : a ≠ X.env.locals := by
    intro z
    exact nfr (List.mem_filterMap.mpr ⟨X.env, List.mem_cons_self, by rw [hfr, z]⟩)
  have nF : a ∉ X.fs := by
    intro hm
    obtain ⟨e, h1, q⟩ := List.mem_filterMap.mp hm
    exact nfr (List.mem_filterMap.mpr ⟨e, List.mem_cons_of_mem _ h1, q⟩)
  have Jg : Inv X pins σ H sg := by
    have z := J.landed (s' := sg) nb fl.1 up os ag
    exact z
  have Sg := Jg.suite he hd na nL nF
  intro hds l hk
  induction hk with
  | nil =>
    intro w
    apply wpAny_handleBy_nil
    obtain ⟨k1, k2, k3, oe', vs', T, oT, ts', he', hz', hd', h1', hr'⟩ := id fl
    unfold PySem.passOn
    refine wpAny_bind (wpAny_field he' hd' h1' ?_)
    have hb : ¬ ((Value.ref T == Value.none) = true) := by simp
    rw [if_neg hb]
    have out : wpAny (model X.prog X.w) X.A (setFlight (.ref a) X.env.frame) (fun _ s4 => wpAny (model X.prog X.w) X.A (throw (.ref a) : Sem Flow) (SP X pins D) X.xe s4) X.xe sg := by
      rw [hfr]
      refine HandSPX.setFlight_upZ fl fun h4 hh4 up4 => ?_
      refine wpAny_throw (tk _ _ ⟨a, B, sI, pins, σ, H, cls, d, rfl, J, nb, up.trans up4, .inr (.inr ?_), na, os, ag, w⟩)
      rw [hst]
      exact hh4
    first | exact wpAny_bind (wpAny_pure (wpAny_bind out)) | exact wpAny_bind out
  | @cons x n h b₀ suite np pos' hds2 l2 hc hi hl hsu r ih =>
    intro w
    obtain ⟨b, hb1, hyes, hno⟩ := w
    refine wpAny_handleBy_cons (codeAny_handlers_test ?_) (fun q => nomatch q)
    have LT : PySem.W.Looks (model X.prog X.w) sg.heap (typeOf (.ref a)) cls := by
      intro A Q E s k q
      exact wpAny_typeOf_ref (k _ _ he) (by rw [hz.1]; exact q)
    have LM := PySem.W.exm_one (M := model X.prog X.w) Jg.kIn LT hb1
    have named : ∀ {Q : Value → Shared → Prop} {E : Value → Shared → Prop}, Q h.cv sg → wpAny (model X.prog X.w) (X.A.mark (some (.ref a))) (eval (.Name x np) X.env) Q E sg := by
      intro Q E q
      obtain ⟨hg, hdbg, hm | ⟨hm, hv, hnn⟩⟩ := hc
      · exact ld_glob (X := X.suite a ((a, oe) :: (X.pn ++ pins))) Sg hg hm q hdbg
      · exact ld_blt (X := X.suite a ((a, oe) :: (X.pn ++ pins))) Sg hg hm hv q hnn hdbg
    refine named (LM.here ?_)
    cases b with
    | true =>
      refine codeAny_handlers_suite_as (HandSPX.lands_againZ fl fun h4 fl4 up4 => ?_)
      have J4 : Inv X pins σ H { sg with heap := h4 } := by
        have z := J.landed (s' := { sg with heap := h4 }) nb fl4.1 (up.trans up4) os ag
        exact z
      obtain ⟨oe4, vs4, he4, hz4, hd4⟩ := fl4.there
      have S4 := J4.suite he4 hd4 na nL nF
      refine store_ok (X := X.suite a ((a, oe4) :: (X.pn ++ pins))) (v := .ref a) S4 hN hi (.inl hl) rfl (fun s5 S5 => ?_) (.inr hl)
      have body := (hsu a oe4 cls d (X.pn ++ pins) hz4 ⟨_, hd4⟩).run [] s5 _ H _ S5 (hyes rfl a na)
      have gone : ∀ {s6 : Shared} {σ6 : L2.St} {H6 : Hp} {Q : Shared → Prop}, Inv (X.suite a ((a, oe4) :: (X.pn ++ pins))) [] σ6 H6 s6 → (∀ s7, Inv X pins (σ6.set h.i none) H6 s7 → Q s7) →
          wpAny (model X.prog X.w) X.A (do bindName X.env n .none; unbindBehindTheSuite X.env n pos') (fun _ s7 => Q s7) X.xe s6 := by
        intro s6 σ6 H6 Q S6 hq
        exact gone_ok (S6.unsuite ok) hN hi hl hq
      refine wpAny_mono body (fun f s6 hsp => ?_) (fun _ _ z => False.elim z)
      cases f with
      | next => obtain ⟨σ6, H6, S6, q6⟩ := hsp; exact gone S6 fun s7 J7 => ⟨_, _, J7, q6⟩
      | brk => obtain ⟨σ6, H6, S6, q6⟩ := hsp; exact gone S6 fun s7 J7 => ⟨_, _, J7, q6⟩
      | cont => obtain ⟨σ6, H6, S6, q6⟩ := hsp; exact gone S6 fun s7 J7 => ⟨_, _, J7, q6⟩
      | ret u => obtain ⟨v6, σ6, H6, S6, r6, q6⟩ := hsp; exact gone S6 fun s7 J7 => ⟨_, _, _, J7, r6, q6⟩
    | false => exact ih (hno rfl)
theorem ps_tryH {body : List Stmt} {h₀ : ExceptHandler} {hds : List ExceptHandler} {l : List Hnd} {pos : Pos} {tb : WX → TS} {Wout : WX} (hst : X.stack = X.env :: X.outer) (hfr : X.env.frame = some X.env.locals) (hN : X.N.Nodup) (tk : Takes X Wout)
    (hb : ∀ (W : WX) (pn : List (Addr × Obj)) (xe : Value → Shared → Prop), Takes (X.tr pn xe) W → PassesOwn (model X.prog X.w) X.A X.env xe → PSs (X.tr pn xe) body (tb W))
    (hh : HsOk X (h₀ :: hds) l) : PS X (.Try body (h₀ :: hds) [] [] pos) (fun D σ H => tb (wHs X.K Wout D l) D σ H) := by
  constructor
  intro pins s σ H D I h
  have ok := I.ok
  have frm : X.A.frames = some (X.env :: X.outer) := by rw [ok.frames, hst]
  apply wpAny_Try_except
  refine wpAny_mono ((hb (wHs X.K Wout D l) (X.pn ++ pins) _ ?_ PassesOwn.looking).run [] s σ H D (I.toTry _) h) (fun f s1 hsp => ?_) (fun e s1 he => he)
  · intro u s' xx
    obtain ⟨a, B, sI, pins', σ', H', cls, d, eu, J', nb, up, sky, na, os, ag, w⟩ := xx
    subst eu
    have J : Inv X pins σ' H' sI := J'.ofTry ok
    have sky' : Sky B (X.env :: X.outer) a (Zc cls d) X.env.locals s'.heap := by
      rw [← hst]
      exact sky
    exact Sky.land Zc.steady frm hfr sky' fun h3 fl3 up3 => hs_run (M := ()) (sg := { s' with heap := h3 }) ok hst hfr hN tk J nb fl3 (up.trans up3) na os ag hh w
  · cases f with
    | next => obtain ⟨σ', H', J', q⟩ := hsp; exact wpAny_execs_nil ⟨σ', H', J'.ofTry ok, q⟩
    | brk => obtain ⟨σ', H', J', q⟩ := hsp; exact ⟨σ', H', J'.ofTry ok, q⟩
    | cont => obtain ⟨σ', H', J', q⟩ := hsp; exact ⟨σ', H', J'.ofTry ok, q⟩
    | ret u => obtain ⟨v, σ', H', J', r, q⟩ := hsp; exact ⟨v, σ', H', J'.ofTry ok, r, q⟩
end
/-! ### .. as data -/
structure H2 where
  cb : List (Option Bool)
  i : Nat
  u : Nat → D → T2S
def endsU2 (i : Nat) (E : Ends2) : Ends2 := { nx := fun env => env[i]? = some none ∧ E.nx env, rt := E.rt, bk := fun env => env[i]? = some none ∧ E.bk env, ct := fun env => env[i]? = some none ∧ E.ct env, rd := E.rd, re := fun env d => env[i]? = some none ∧ E.re env d, rv := fun env j => (env[i]? = some none ∧ j ≠ i) ∧ E.rv env j }
def dHs (E : Ends2) (env : Ev) (c : Nat) (e : D) : List H2 → Prop
  | [] => False
  | h :: r => match h.cb[c]? with
    | some (some true) => env[h.i]? = some none ∧ h.u c e (endsU2 h.i E) env
    | some (some false) => dHs E env c e r
    | _ => False
def dTry (l : List H2) (tb : T2X → T2S) : T2S := fun E env => tb (fun env' c e => dHs E env' c e l) E env
/-- what holds in a suite -/
abbrev CH (K : Fg) (mg : Str → Option Value) (i : Nat) (a : Addr) (cls : Value) (dx : Option Addr) (c : Nat) (e : D) : Cnd := fun _ σ I H => σ[i]? = some (some (.ref a)) ∧ RX K mg I H c e cls dx
structure HR (K : Fg) (mg : Str → Option Value) (h : Hnd) (h2 : H2) : Prop where
  i : h.i = h2.i
  ex : ∀ c b C, h2.cb[c]? = some (some b) → mg (xname c) = some (.ref C) → PySem.W.exmOne K (.ref C) h.cv = some b
  su : ∀ a cls dx c e, SSG K (CH K mg h.i a cls dx c e) (h.ts a cls dx) (h2.u c e)
inductive HRs (K : Fg) (mg : Str → Option Value) : List Hnd → List H2 → Prop
  | nil : HRs K mg [] []
  | cons {h : Hnd} {h2 : H2} {l : List Hnd} {l2 : List H2} : HR K mg h h2 → HRs K mg l l2 → HRs K mg (h :: l) (h2 :: l2)
section
variable {K : Fg} {mg : Str → Option Value}
theorem RelL.hole {p : P0} {env : Ev} {σ : L2.St} {I H : Hp} (r : RelL K p env σ I H) {i : Nat} (h : env[i]? = some none) (v : Option V) : RelL K p env (σ.set i v) I H := by
  have ne : ∀ {j : Nat} {x : Sl}, env[j]? = some (some x) → i ≠ j := fun {j x} e z => by
    rw [z, e] at h; cases h
  have gt : ∀ {j : Nat} {x : Sl}, env[j]? = some (some x) → (σ.set i v)[j]? = σ[j]? := fun {j x} e => List.getElem?_set_ne (ne e)
  refine ⟨⟨r.r.gr, fun j x e => ?_, fun j k x y a n e1 e2 e3 => ?_, r.r.st, r.r.bs, fun j k w w' x y a n e1 e2 e3 => ?_, fun j k x y u u' c n hm e1 e2 e3 e4 => ?_⟩, by rw [List.length_set]; exact r.len⟩
  · rw [gt e]; exact r.r.sl j x e
  · rw [gt e1] at e3; rw [gt e2]; exact r.r.sep j k x y a n e1 e2 e3
  · rw [gt e1] at e3; rw [gt e2]; exact r.r.sd j k w w' x y a n e1 e2 e3
  · rw [gt e1] at e3; rw [gt e2] at e4; exact r.r.sm j k x y u u' c n hm e1 e2 e3 e4
theorem RX.stp {p : P0} {env : Ev} {σ : L2.St} {I H I' H' : Hp} {c : Nat} {e : D} {cls : Value} {dx : Option Addr} (r : RelL K p env σ I H) (s : Stp p I H I' H') (h : RX K mg I H c e cls dx) : RX K mg I' H' c e cls dx := by
  obtain ⟨C, a, v, h1, h2, h3, h4, h5⟩ := h
  refine ⟨C, a, v, h1, h2, h3, s.gr.hh a _ h4 fun z => ?_, Rp.mono s.ii _ _ h5⟩
  obtain ⟨_, _, l, x, k, ns, g, _⟩ := r.r.st a z
  rw [h4] at g
  cases g
theorem ch_kept {i : Nat} {a : Addr} {cls : Value} {dx : Option Addr} {c : Nat} {e : D} : Kept K (CH K mg i a cls dx c e) := fun p env σ I H I' H' r h s => ⟨h.1, h.2.stp r s⟩
theorem ss_try {l : List Hnd} {l2 : List H2} {tb : WX → TS} {tb2 : T2X → T2S} (hb : ∀ W x, SSG K (CX1 K mg W x) (tb W) (tb2 x)) (hl : HRs K mg l l2) : SS K (fun D σ H => tb (wHs K (fun _ _ _ _ => False) D l) D σ H) (dTry l2 tb2) := by
  intro p env σ I H D2 E r q e
  refine hb _ (fun env' c d => dHs D2 env' c d l2) p env σ I H D2 E r ?_ q e
  intro env' σ' I' H' c d cls dx r' qx z
  clear q hb
  revert qx
  induction hl with
  | nil => intro qx; exact qx.elim
  | @cons h h2 l l2 hh hl ih =>
    intro qx
    unfold dHs at qx
    have z' := z
    obtain ⟨C, a, v, h1, rfl, h3, h4, h5⟩ := z'
    split at qx
    · rename_i hcb
      refine ⟨true, hh.ex c true C hcb h1, fun _ a' na => ?_, (fun w => nomatch w)⟩
      obtain ⟨h0, qx⟩ := qx
      have rr := r'.hole h0 (some (.ref a'))
      have hlen : h2.i < σ'.length := by rw [← r'.len]; exact (List.getElem?_eq_some_iff.mp h0).1
      rw [hh.i]
      refine hh.su a' (.ref C) dx c d p env' _ I' H' _ _ rr ⟨by rw [hh.i]; exact List.getElem?_set_self hlen, z⟩ qx ⟨?_, e.rt, ?_, ?_, e.rd, fun env3 σ3 I3 H3 d v ⟨g0, g⟩ r3 rp => e.re _ _ _ _ _ _ g (r3.hole g0 none) rp, fun env3 σ3 I3 H3 j v ⟨⟨g0, gj⟩, g⟩ r3 hv => e.rv _ _ _ _ _ _ g (r3.hole g0 none) (by rw [List.getElem?_set_ne (Ne.symm gj)]; exact hv)⟩
      · intro env3 σ3 I3 H3 ⟨g0, g⟩ r3; exact e.nx _ _ _ _ g (r3.hole g0 none)
      · intro env3 σ3 I3 H3 ⟨g0, g⟩ r3; exact e.bk _ _ _ _ g (r3.hole g0 none)
      · intro env3 σ3 I3 H3 ⟨g0, g⟩ r3; exact e.ct _ _ _ _ g (r3.hole g0 none)
    · rename_i hcb
      exact ⟨false, hh.ex c false C hcb h1, (fun w => nomatch w), fun _ => ih qx⟩
    · exact qx.elim
/-- e.f in a suite -/
def dXf (c c0 : Nat) (e : D) : T2E := fun _ Q => c = c0 ∧ Q e
theorem seg_xf {i : Nat} {a C0 : Addr} {cls : Value} {dx : Option Addr} {c c0 : Nat} {e : D} (hC : mg (xname c0) = some (.ref C0)) : SEG K (CH K mg i a cls dx c e) (tXf a cls dx C0 (xfld c0) (tVar i)) (dXf c c0 e) := by
  intro p env σ I H Q2 Q r hx q k
  obtain ⟨h0, C, dd, v, h1, h2, h3, h4, h5⟩ := hx
  obtain ⟨rfl, q⟩ := q
  rw [hC] at h1
  cases h1
  exact ⟨_, h0, rfl, h2, dd, _, v, h3, h4, by simp [List.lookup], k _ _ _ _ q (.of (Gr.refl r.same)) h5⟩
end
theorem ps_nox {X : Cx} {st : Stmt} {t : TS} (h : PS X.nox st t) : PS X st t := by
  constructor
  intro pins s σ H D I hw
  refine wpAny_mono (h.run pins s σ H D (I.wish _) hw) (fun _ _ q => q.unwish) ?_
  intro _ _ z
  exact False.elim z
/-- what a clause's class says of the text's exceptions -/
def ExF (K : Fg) (mg : Str → Option Value) (Ch : Addr) (cb : List (Option Bool)) : Prop := ∀ c b C, cb[c]? = some (some b) → mg (xname c) = some (.ref C) → PySem.W.exmOne K (.ref C) (.ref Ch) = some b
/-- the first def of a class -/
def clsInit : Stmt → Stmt
  | .ClassDef _ _ _ b _ _ _ _ _ _ _ => b.getD 0 (.Pass ⟨0, 0, 0, 0⟩)
  | s => s
end Z2
namespace Z2
open PySem PySem.Spec PyProof.Rows L2
/-! ### isinstance of a caught one; its class number c is known -/
/-- isinstance(e, c), e at a with its own dict -/
def rIsX (K : Fg) (a : Addr) (cls : Value) (dx : Option Addr) : List V → Hp → VK → Prop := fun xs H Q => ∃ (c : V) (cv : Value) (b : Bool) (Dc dd : Addr) (fs : List (Str × V)), xs = [.ref a, c] ∧ cls = .ref Dc ∧ dx = some dd ∧ H dd = some (.xd fs) ∧ ExcC K Dc ∧
  (∀ u, RelV c u → u = cv) ∧ PySem.W.kitOne K (.ref Dc) cv = some b ∧ Q (.bl b) H
theorem call_isX {X : Cx} {a : Addr} {cls : Value} {dx : Option Addr} {oe : Obj} {pn : List (Addr × Obj)} (hz : Zc cls dx oe) (hf : ∃ vs, oe.data = .fields vs) : CallR (X.suite a ((a, oe) :: pn)) (.builtin "isinstance") (rIsX X.K a cls dx) := by
  intro pins s σ H xs us Q I r h
  obtain ⟨c, cv, b, Dc, dd, fs, rfl, rfl, rfl, ed, C, hcv, e, q⟩ := h
  cases r with
  | cons rx rr =>
    cases rr with
    | cons rt rr =>
      cases rr
      cases rx
      cases hcv _ rt
      have hget := (I.pin (a, oe) (List.mem_append.mpr (.inl List.mem_cons_self))).1
      obtain ⟨vs, hv⟩ := hf
      have hx : ObjOk X.prog X.w H s.heap dd (.xd fs) := I.hok dd _ ed
      obtain ⟨mA, hns, hr⟩ := hx
      obtain ⟨od, ho, hl⟩ := lookIn_ns hns
      have J : PySem.W.InstAt s.heap a oe Dc (some od) := ⟨hget, hz.1, by unfold PySem.W.notCls; rw [hv] <;> rfl, by rw [hz.2]; exact ho⟩
      have hcl : (PySem.W.clsIn X.K Dc).isSome = true := by
        obtain ⟨cd, hc, _⟩ := PySem.W.any_some C.hd
        rw [hc]; rfl
      exact PySem.W.kia_one (PySem.W.kitx_exc hcl C.hg C.hk C.hs C.ha C.hn C.ht C.hm) I.kIn J e (fun z => nomatch z) fun tk => ⟨.bl b, H, I.kept (t' := tk) fun _ _ z => z, rfl, q⟩
def dIsX (cb : List (Option Bool)) (c : Nat) : T2E := fun _ Q => ∃ b, cb[c]? = some (some b) ∧ Q (.bool b)
/-- what isinstance answers of the text's exceptions for the class cv -/
def KitF (K : Fg) (mg : Str → Option Value) (cv : Value) (cb : List (Option Bool)) : Prop := ∀ c b C, cb[c]? = some (some b) → mg (xname c) = some (.ref C) → PySem.W.kitOne K (.ref C) cv = some b ∧ ExcC K C
def SIG (K : Fg) (C : Cnd) (wi : TI) (t : T2I) : Prop := ∀ (p : P0) (env : Ev) (σ : L2.St) (I H : Hp) (Q2 : List D → Prop) (R : It → Hp → Prop), RelL K p env σ I H → C p σ I H → t env Q2 →
  (∀ ds J I' H', Q2 ds → Stp p I H I' H' → ItR K I' J ds → R J H') → wi σ H R
def SOG (K : Fg) (C : Cnd) (te : TE) (t : T2A) : Prop := ∀ (p : P0) (env : Ev) (σ : L2.St) (I H : Hp) (Q2 : List D → Prop) (Q : VK), RelL K p env σ I H → C p σ I H → t env Q2 →
  (∀ ds a vs I' H', Q2 ds → Stp p I H I' H' → H a = none → I' a = none → H' a = some (.lst vs) → Rps K I' vs ds → Q (.ref a) H') → te σ H Q
section
variable {K : Fg} {mg : Str → Option Value} {C : Cnd} {te tf : TE} {t2 u2 : T2E} {ts us : TS} {t u : T2S} {t1 t1' : TT} {c2 c2' : T2T}
theorem seg_isX {i : Nat} {a : Addr} {cls : Value} {dx : Option Addr} {c : Nat} {e : D} {cv : Value} {v : V} {cb : List (Option Bool)} (F : KitF K mg cv cb) (hv : ∀ u, RelV v u → u = cv) :
    SEG K (CH K mg i a cls dx c e) (tCB (rIsX K a cls dx) (tCons (tVar i) (tCons (tC v) tNil))) (dIsX cb c) := by
  intro p env σ I H Q2 Q r hx q k
  obtain ⟨h0, Cc, dd, w, h1, h2, h3, h4, h5⟩ := hx
  obtain ⟨b, hb, q⟩ := q
  obtain ⟨f1, f2⟩ := F c b Cc hb h1
  exact ⟨_, h0, v, cv, b, Cc, dd, _, rfl, h2, h3, h4, f2, hv, f1, k _ _ _ _ q (.of (Gr.refl r.same)) (.bl b)⟩
theorem stg_and (hk : Kept K C) (h1 : STG K C t1 c2) (h2 : STG K C t1' c2') : STG K C (tAnd t1 t1') (dAnd c2 c2') := by
  intro p env σ I H Q2 Q rl hx q k
  refine h1 p env σ I H _ _ rl hx q fun c I1 H1 q1 s1 => ?_
  cases c with
  | true =>
    rw [if_pos rfl] at q1 ⊢
    exact h2 p env σ I1 H1 _ _ (rl.stp s1) (hk _ _ _ _ _ _ _ rl hx s1) q1 fun c I2 H2 q2 s2 => k c I2 H2 q2 (s1.trans s2)
  | false =>
    rw [if_neg Bool.false_ne_true] at q1 ⊢
    exact k _ _ _ q1 s1
theorem stg_truth (ha : SEG K C te t2) : STG K C (fun σ H Q => te σ H fun x H' => ∃ k, TruV K x H' k ∧ Q k H') (dTru t2) := by
  intro p env σ I H Q2 Q rl hx q k
  refine ha p env σ I H _ _ rl hx q fun d v I1 H1 q1 s1 h1 => ?_
  cases h1 with
  | non => exact ⟨_, rfl, k _ _ _ q1 s1⟩
  | bl b => exact ⟨_, rfl, k _ _ _ q1 s1⟩
  | int b => exact ⟨_, rfl, k _ _ _ q1 s1⟩
  | str b => exact ⟨_, ⟨le_line q1.1, rfl⟩, k _ _ _ q1.2 s1⟩
  | lst e1 e2 => exact ⟨_, .inl ⟨_, SqL.of (s1.ih _ _ e1), rfl⟩, by rw [e2.isEmpty]; exact k _ _ _ q1 s1⟩
  | tup e1 e2 => exact ⟨_, .inr (.inl ⟨_, Same.sqt s1.ih e1.sqt, rfl⟩), by rw [e2.isEmpty]; exact k _ _ _ q1 s1⟩
  | dic _ _ => exact q1.elim
theorem seg_if (hk : Kept K C) (h1 : STG K C t1 c2) (ha : SEG K C te t2) (hb : SEG K C tf u2) : SEG K C (tIf t1 te tf) (dIf c2 t2 u2) := by
  intro p env σ I H Q2 Q rl hx q k
  refine h1 p env σ I H _ _ rl hx q fun c I1 H1 q1 s1 => ?_
  cases c with
  | true =>
    rw [if_pos rfl] at q1 ⊢
    exact ha p env σ I1 H1 _ _ (rl.stp s1) (hk _ _ _ _ _ _ _ rl hx s1) q1 fun d v I2 H2 q2 s2 h2 => k d v I2 H2 q2 (s1.trans s2) h2
  | false =>
    rw [if_neg Bool.false_ne_true] at q1 ⊢
    exact hb p env σ I1 H1 _ _ (rl.stp s1) (hk _ _ _ _ _ _ _ rl hx s1) q1 fun d v I2 H2 q2 s2 h2 => k d v I2 H2 q2 (s1.trans s2) h2
theorem sig_enumA {n : Nat} {ta : TA} {a2 : T2A} (h : SAG K C n ta a2) : SIG K C (iEnumA K ta) (diEnumA a2) := by
  intro p env σ I H Q2 R rl hx q k
  refine h p env σ I H _ _ rl hx q fun ds vs I1 H1 q1 hl s1 h1 => ?_
  split at q1
  · obtain ⟨v, rfl, h2⟩ := h1.one
    cases h2 with
    | tup h3 h4 => exact ⟨_, _, rfl, Same.sqt s1.ih h3.sqt, k _ _ _ _ q1 s1 (itr_enumT h3.sqt h4)⟩
  · exact q1.elim
theorem ssg_forG {wi : TI} {g : TG} {ti : T2I} {g2 : T2G} {vs : List Nat} (hc : ∀ p σ I H σ' I' H' B, C p σ I H → Same p.B B → C { p with B := B } σ' I' H') (hi : SIG K C wi ti) (hg : SG K vs g g2) (hb : SSG K C ts t) : SSG K C (tFor wi g ts) (dFor ti g2 t) := by
  intro p env σ I H D2 E r hx q e
  refine hi p env σ I H _ _ r hx q fun ds J I1 H1 q1 s1 it => ?_
  refine ⟨fun i m σ' H' => m = ds.length - i ∧ i ≤ ds.length ∧ ∃ env' I', RelL K p env' σ' I' H' ∧ Same I1 I' ∧ forD g2 t D2 (ds.drop i) env', ⟨ds.length, by simp, Nat.zero_le _, env, I1, r.stp s1, Same.refl _, q1⟩, ?_⟩
  rintro i m σ' H' ⟨rfl, hi', env', I', r', ii, q'⟩
  by_cases hlt : i < ds.length
  · refine .inr ⟨it.go i I' H' ii r'.same hlt, fun σ2 H2 => ∃ env2 I2, RelL K p env2 σ2 I2 H2 ∧ Same I1 I2 ∧ forD g2 t D2 (ds.drop (i + 1)) env2, fun σ2 H2 z => ⟨ds.length - (i + 1), by omega, rfl, by omega, z⟩, fun x H2 y => ?_⟩
    obtain ⟨I2, d, g1, hd, rd⟩ := it.yld i x I' H' H2 ii r'.same hlt y
    have hdrop : ds.drop i = d :: ds.drop (i + 1) := by
      have hdd : ds[i] = d := Option.some.inj ((List.getElem?_eq_getElem hlt).symm.trans hd)
      rw [List.drop_eq_getElem_cons hlt, hdd]
    rw [hdrop] at q'
    refine hg p env' σ' I2 H2 x d _ _ (r'.grow' g1) rd q' fun env3 σ3 I3 H3 q3 r3 s3 _ => ?_
    have i3 := (ii.trans g1.ii).trans s3.ii
    have back : ∀ {env σ I H}, RelL K { p with B := I1 } env σ I H → RelL K p env σ I H ∧ Same I1 I := fun {env σ I H} z => ⟨z.rebase ((r.stp s1).r.bs.trans z.r.bs), z.r.bs⟩
    exact hb { p with B := I1 } env3 σ3 I3 H3 _ _ (r3.rebase i3) (hc _ _ _ _ _ _ _ _ hx (r.stp s1).r.bs) q3 ⟨fun env4 σ4 I4 H4 q4 r4 => ⟨env4, I4, (back r4).1, (back r4).2, q4⟩, e.rt, fun env4 σ4 I4 H4 q4 r4 => e.nx _ _ _ _ q4 (back r4).1,
      fun env4 σ4 I4 H4 q4 r4 => ⟨env4, I4, (back r4).1, (back r4).2, q4⟩, e.rd, fun env4 σ4 I4 H4 d v q4 r4 rp => e.re _ _ _ _ _ _ q4 (back r4).1 rp, fun env4 σ4 I4 H4 i v q4 r4 hv => e.rv _ _ _ _ _ _ q4 (back r4).1 hv⟩
  · have hi2 : i = ds.length := by omega
    subst hi2
    rw [List.drop_length] at q'
    exact .inl ⟨it.stop _ I' H' ii r'.same rfl, e.nx _ _ _ _ q' r'⟩
end
theorem kit_self {K : Fg} {C : Addr} (h : OexC K C) : PySem.W.subIn K (.ref C) (.ref C) = some true := by
  obtain ⟨nm, q, N, bs, bm, sn, sub, ab, col, dd, k0, k1, k2, k3, k5, hC, hb⟩ := h.cls
  show PySem.W.mroIn K C (.ref C) = some true
  unfold PySem.W.mroIn PySem.W.clsIn
  rw [hC]
  show (if (Value.ref C :: bm).isEmpty = true then none else some ((Value.ref C :: bm).contains (.ref C))) = some true
  simp
theorem kit_ref {K : Fg} {C Ch : Addr} {b : Bool} (hd : PySem.W.hasDictIn K Ch = true) (ht : PySem.W.typeIn K (.ref Ch) = some (.type "type")) (hs : PySem.W.subIn K (.ref C) (.ref Ch) = some b) (h : OexC K C) : PySem.W.kitOne K (.ref C) (.ref Ch) = some b := by
  unfold PySem.W.kitOne
  by_cases e : C = Ch
  · subst e
    rw [kit_self h] at hs
    cases hs
    simp
  · have n : ¬ ((Value.ref C == Value.ref Ch) = true) := fun z => e (Value.ref.inj (beq_iff_eq.mp z))
    rw [if_neg n]
    obtain ⟨cd, hc, _⟩ := PySem.W.any_some hd
    have y : ((PySem.W.clsIn K Ch).isSome && PySem.W.typeIn K (.ref Ch) == some (.type "type")) = true := by rw [hc, ht] <;> rfl
    show (if ((PySem.W.clsIn K Ch).isSome && PySem.W.typeIn K (.ref Ch) == some (.type "type")) = true then PySem.W.subIn K (.ref C) (.ref Ch) else none) = some b
    rw [if_pos y]
    exact hs
theorem kit_ve {K : Fg} {C : Addr} (h : PySem.W.subIn K (.ref C) (.type "ValueError") = some true) : PySem.W.kitOne K (.ref C) (.type "ValueError") = some true := by
  have n : ¬ ((Value.ref C == Value.type "ValueError") = true) := by simp
  unfold PySem.W.kitOne
  rw [if_neg n]
  have y : PySem.W.kitMeta "ValueError" = true := by decide +kernel
  show (if PySem.W.kitMeta "ValueError" = true then PySem.W.subIn K (.ref C) (.type "ValueError") else none) = some true
  rw [if_pos y]
  exact h
theorem bt_VE : bootBuiltins ("ValueError" : Str) = some (.type "ValueError") := by decide +kernel
abbrev tTruK (K : Fg) (te : TE) : TT := fun σ H Q => te σ H fun x H' => ∃ k, TruV K x H' k ∧ Q k H'
theorem pt_truthK {X : Cx} {K : Fg} {a : Expr} {ta : TE} (ha : PE X a ta) (hK : X.K = K) (he : ∀ whole, isTrue a X.env whole = (do let v ← whole; standAt a.pos; holding [v] (truthy v))) :
    PT X a (tTruK K ta) := by
  subst hK
  exact pt_truth ha he
end Z2
namespace Z2
open PySem PySem.Spec PyProof.Rows L2
/-! ### .index of a tuple of ints -/
def tIdxT (to : TE) (t : TA) : TE := fun σ H Q => to σ H fun x H1 => ∃ (a : Addr) (ns : List Int), x = .ref a ∧ PlT H1 a (ns.map V.int) ∧ t σ H1 fun zs H2 => ∃ k : Int, zs = [.int k] ∧ PlT H2 a (ns.map V.int) ∧ k ∈ ns ∧ Q (.int (ns.idxOf k : Nat)) H2
theorem ints_are : ∀ {ns : List Int} {its : List Value}, Vals (ns.map V.int) its → IntsAre its ns
  | [], [], _ => .nil
  | n :: ns, u :: us, .cons h t => by
    obtain ⟨tk, rfl⟩ := h
    exact .cons n tk (ints_are t)
section
variable {X : Cx} {o e : Expr} {to : TE} {t : TA} {apos cpos : Pos}
theorem pe_idxT (ho : PE X o to) (ha : PA X [e] t) (hbase : attributeBase o "index" X.env (eval o X.env) = eval o X.env := by rfl)
    (hfew : ((backTo cpos (starEach [e] X.env)).all (fun x => !x.1) && (backToKw cpos (keywordEach [] X.env)).all (fun x => x.1.isSome) && decide (([e] : List Expr).length + ([] : List Keyword).length + (if ([] : List Keyword).isEmpty then 0 else 1) < 30)) = true := by rfl)
    (hline : (apos.endLine == cpos.line) = true := by rfl) (hs : starEach [e] X.env = (false, eval e X.env) :: starEach [] X.env := by rfl) (hpl : (backTo cpos (starEach [] X.env)).any (·.1) = false := by rfl) :
    PE X (.Call (.Attribute o "index" apos) [e] [] cpos) (tIdxT to t) := by
  constructor
  intro pins s σ H Q I h
  refine wpAny_Call_method_late hbase hfew hline rfl ?_
  refine thn (ho.run pins s σ H _ I h) fun v s1 z => ?_
  obtain ⟨x, H1, I1, r1, a, ns, rfl, hq, q1⟩ := z
  cases r1
  obtain ⟨its, rv, p, _⟩ := I1.tuple hq.sqt
  have nd : ∃ ob, s1.heap.get? a = some ob ∧ ob.dict = none := by
    obtain ⟨ob, hf, _, hd⟩ := hq
    exact ⟨ob, (I1.hok a _ hf).1, hd⟩
  refine ⟨"tuple", "tuple.index", PySem.F.plainAttrs_tuple, PySem.F.slot_tuple_index, PySem.F.type_tuple_index, p.typeIs, fun b eb => ?_, ?_⟩
  · cases eb
    exact nd
  · have hA := ha.run cpos pins s1 σ H1 _ I1 q1
    rw [hs] at hA ⊢
    refine Calls.callWith_builtin (by show (false || (backTo cpos (starEach [] X.env)).any (·.1)) = false; rw [hpl] <;> rfl) (Calls.evalArgs_plain (thn hA fun us s2 z => ?_))
    obtain ⟨vs, H2, I2, r2, k, rfl, hq2, hk, q2⟩ := z
    cases r2 with
    | cons rk rr =>
      cases rr
      obtain ⟨tk, rfl⟩ := rk
      obtain ⟨its2, rv2, p2, _⟩ := I2.tuple hq2.sqt
      refine PySem.SeqAt.tuple_index_ints p2 (ints_are rv2) hk ?_
      exact ⟨.int (ns.idxOf k : Nat), H2, I2.tok _, ⟨_, rfl⟩, q2⟩
end
def intsD : List D → Option (List Int)
  | [] => some []
  | .int i :: ds => (intsD ds).map (i :: ·)
  | _ :: _ => none
theorem intsD_of : ∀ {ds : List D} {ns : List Int}, intsD ds = some ns → ds = ns.map PyData.int
  | [], ns, h => by cases h; rfl
  | d :: ds, ns, h => by
    cases d <;> first | (cases h; done) | skip
    unfold intsD at h
    obtain ⟨ms, h1, rfl⟩ := Option.map_eq_some_iff.mp h
    rw [List.map_cons, ← intsD_of h1]
theorem intsD_ints : ∀ ns : List Int, intsD (ns.map PyData.int) = some ns
  | [] => rfl
  | n :: ns => by
    show (intsD (ns.map PyData.int)).map (n :: ·) = _
    rw [intsD_ints ns]
    rfl
def dIdxT (a : T2E) (t : T2A) : T2E := fun env Q => a env fun d => match d with | .tuple ds => ∃ ns, intsD ds = some ns ∧ t env fun xs => (match xs with | [.int k] => k ∈ ns ∧ Q (.int (ns.idxOf k : Nat)) | _ => False) | _ => False
section
variable {K : Fg}
theorem se_idxT {n : Nat} {ta : TE} {a : T2E} {t : TA} {u : T2A} (ha : SE K ta a) (ht : SA K n t u) : SE K (tIdxT ta t) (dIdxT a u) := by
  intro p env σ I H Q2 Q rl q k
  refine ha p env σ I H _ _ rl q fun d v I1 H1 q1 s1 h1 => ?_
  cases d <;> first | exact q1.elim | skip
  cases h1 with
  | tup e1 e2 =>
    rename_i ds b vs
    obtain ⟨ns, hd, q1⟩ := q1
    have e3 := intsD_of hd
    subst e3
    have e4 := Rps.ints e2
    subst e4
    refine ⟨b, ns, rfl, e1.mono s1.ih, ?_⟩
    refine ht p env σ I1 H1 _ _ (rl.stp s1) q1 fun xs ws I2 H2 q2 hl s2 h2 => ?_
    split at q2
    · obtain ⟨w, rfl, h3⟩ := h2.one
      cases h3
      obtain ⟨hk, q3⟩ := q2
      exact ⟨_, rfl, (e1.mono s2.ii).mono s2.ih, hk, k _ _ I2 H2 q3 (s1.trans s2) (.int _)⟩
    · exact q2.elim
end
section
variable {prog : Program} {w : World} {A : Around} {E : Value → Shared → Prop} {s : Shared}
/-- sorted of a list or tuple at l: a copy of its items at B, then the copy is sorted -/
theorem sort_copy {l : Addr} {T : String} {o : Obj} {its : List Value} {n : Nat} {Q : Value → Shared → Prop} (hT : T = "list" ∨ T = "tuple") (ho : s.heap.get? l = some o) (hc : o.cls = .type T) (hd : o.data = .seq its.toArray n) (hz : its.length ≤ sizeLine)
    (h : ∀ (h1 : Heap) (B : Addr), (∀ b u, s.heap.get? b = some u → h1.get? b = some u) → s.heap.get? B = none → h1.get? B = some (seqObj "list" its.toArray 0) →
      wpAny (model prog w) A.in1.in1 (Builtin.«list.sort» ⟨[.ref B], []⟩) (fun f s' => f = .done (.ret .none) ∧ Q (.ref B) s') E { s with heap := h1 }) :
    wpAny (model prog w) A (call (.builtin "sorted") [.ref l]) Q E s := by
  refine Calls.call_function_entry kind_sorted plain_sorted entry_sorted (args_sorted1 _) ?_
  have hcol : ∀ R : List Value → Shared → Prop, (∀ h0 : Heap, (∀ b u, s.heap.get? b = some u → h0.get? b = some u) → R its { s with heap := h0 }) → wpAny (model prog w) A.in1 (collect (.ref l)) R E s := fun R hR =>
    wpAny_collect_seq l hT ho hc hd (fun h0 k0 => hR h0 k0) (by rw [List.size_toArray]; exact hz)
  unfold Builtin.«sorted»
  refine wpAny_bind (m := checkCount "sorted" 1 1 _) (wpAny_pure (wpAny_bind (hcol _ fun h0 k0 => wpAny_bind (wpAny_newList ?_ hz))))
  have eB : (h0.push (seqObj "list" its.toArray 0)).get? h0.objs.size = some (seqObj "list" its.toArray 0) := Heap.get?_push_size _ rfl
  have nB : s.heap.get? h0.objs.size = none := by
    cases hn : s.heap.get? h0.objs.size with
    | none => rfl
    | some u => exact absurd (Heap.lt_size (k0 _ _ hn)) (Nat.lt_irrefl _)
  have hs := h _ h0.objs.size (fun b u e => Heap.get?_push_of_some _ (k0 b u e)) nB eB
  refine wpAny_bind (wpAny_holding (wpAny_call_entry slot_list_sort ⟨_, eB, rfl⟩ entry_list_sort (wpAny_mono hs (fun f s' hq => ?_) fun _ _ z => z) (args_list_sort _)))
  obtain ⟨rfl, hq⟩ := hq
  exact ⟨_, rfl, wpAny_pure ⟨_, rfl, hq⟩⟩
end
/-! ### sorted of a tuple of ints -/
section
variable {X : Cx}
def rSortedIT (K : Fg) : List V → Hp → VK → Prop := fun vs H Q => ∃ (a : Addr) (ns : List Int), vs = [V.ref a] ∧ SqT K H a (ns.map V.int) ∧
  ∀ (ns' : List Int) (p : Addr), ns'.Perm ns → ns'.Pairwise (· ≤ ·) → H p = none → Q (.ref p) (upd H p (.lst (ns'.map V.int)))
theorem cr_sortedIT : CallR X (.builtin "sorted") (rSortedIT X.K) := by
  rintro pins s σ H vs us Q I r ⟨a, ns, rfl, hs, q⟩
  have rf : us = [Value.ref a] := by cases r with | cons r0 t0 => cases t0; cases r0; rfl
  subst rf
  obtain ⟨its, rv, ⟨o, ho, hc, n, hd⟩, hz⟩ := I.tuple hs
  have hzi : its.length ≤ sizeLine := by rw [← rv.length]; exact hz
  refine sort_copy (.inr rfl) ho hc hd hzi fun h1 B kp nB eB => ?_
  have hi := rv.ints
  refine SrtO.list_sort_ord (s := { s with heap := h1 }) SrtO.swo_int eB hzi (fun h2 => SrtO.ints_sortable hi h2) fun out o1 o2 => ⟨rfl, ?_⟩
  obtain ⟨k1, k2, k3⟩ := SrtO.ints_out hi o1 o2
  obtain ⟨ep, he'⟩ := PyProof.Rows.sortedHeap_at (vs := its) (out := out.toArray) eB
  have hlen : ((out.map SrtO.iv).map V.int).length ≤ sizeLine := by
    rw [List.length_map, k2.length_eq]
    rw [List.length_map] at hz
    exact hz
  have hn : H B = none := I.hok.gone nB
  have kept : ∀ b u, s.heap.get? b = some u → (sortedHeap h1 B its out.toArray).get? b = some u := fun b u e => by
    have hb : b ≠ B := fun z => by rw [z, nB] at e; cases e
    rw [PyProof.Rows.sortedHeap_old hb (Heap.lt_size (kp b u e))]
    exact kp b u e
  have I2 := I.laidN (t' := s.toks) kept nB hn (o := .lst ((out.map SrtO.iv).map V.int)) ⟨hlen, out, ep, vals_of_ints k1, he'⟩
  exact ⟨.ref B, _, I2, rfl, q _ B k2 k3 hn⟩
end
def dSortIT : List D → (List D → Prop) → Prop := fun ds Q => match ds with
  | [.tuple xs] => (match allInt xs with | some ns => ∀ ns' : List Int, ns'.Perm ns → ns'.Pairwise (· ≤ ·) → Q (ns'.map PyData.int) | none => False) | _ => False
theorem sc_sortIT {K : Fg} : SimCO K (rSortedIT K) dSortIT := by
  intro I H vs ds Q2 Q e h q k
  unfold dSortIT at q
  split at q
  · split at q
    · rename_i xs bs e2
      obtain ⟨v, rfl, h1⟩ := h.one
      cases h1 with
      | tup h3 h4 =>
        rename_i a ws
        obtain rfl := allInt_of e2
        obtain rfl := h4.ints
        exact ⟨a, bs, rfl, Same.sqt e h3.sqt, fun ns' l hp hw h0 => k _ l _ (q ns' hp hw) h0 (Rps.ofInts _)⟩
    · exact q.elim
  · exact q.elim
theorem dSortIT_ints {ns : List Int} {Q : List D → Prop} (q : ∀ ns' : List Int, ns'.Perm ns → ns'.Pairwise (· ≤ ·) → Q (ns'.map PyData.int)) : dSortIT [.tuple (ns.map PyData.int)] Q := by
  have e : allInt (ns.map PyData.int) = some ns := by
    have := allInt_map (fun x : Int => x) ns
    rw [List.map_id'] at this
    exact this
  unfold dSortIT
  dsimp only
  rw [e]
  exact q
end Z2
namespace Law
open PySem PySem.Spec PyProof.Rows L2 Z2
def top (i : Nat) : Stmt := PySem.Challenge.pw_allbide_k07_refusals_of_nets.main.body.getD i (.Pass ⟨0, 0, 0, 0⟩)
abbrev N_L_stream : List Str := ["script"]
theorem sc_L_stream : FnScope N_L_stream ["script"] (defScope (top 40)) := ⟨rfl, rfl, rfl, by decide +kernel, rfl, by decide +kernel, by decide +kernel⟩
theorem bb_L_stream : BindsBy "_law_stream" (top 40) ["script"] := fun _ _ _ _ _ _ us hl => match us, hl with | [_], _ => rfl
abbrev N_L_next : List Str := ["stream", "many", "k", "cell", "digit"]
theorem sc_L_next : FnScope N_L_next ["stream", "many"] (defScope (top 41)) := ⟨rfl, rfl, rfl, by decide +kernel, rfl, by decide +kernel, by decide +kernel⟩
theorem bb_L_next : BindsBy "_law_next" (top 41) ["stream", "many"] := fun _ _ _ _ _ _ us hl => match us, hl with | [_, _], _ => rfl
abbrev N_L_times : List Str := ["stream", "size", "far", "event"]
theorem sc_L_times : FnScope N_L_times ["stream", "size", "far"] (defScope (top 45)) := ⟨rfl, rfl, rfl, by decide +kernel, rfl, by decide +kernel, by decide +kernel⟩
theorem bb_L_times : BindsBy "_law_times" (top 45) ["stream", "size", "far"] := fun _ _ _ _ _ _ us hl => match us, hl with | [_, _, _], _ => rfl
def t_L_times : T2S :=
  (dRet (dCB dTupOf (dCons (tList (dLc (diR1 (dCons (dVar 1) dNil)) (gN 3) (fun _ Q => Q true) (dOp dSub (dCallS 0 f_next (dCons (dOp dAdd (dOp dMul (dC (.int (2))) (dVar 2)) (dC (.int (1)))) dNil)) (dVar 2)) [3])) dNil)))
def f_L_times : RCD := bodyS (N_L_times.length - 1) 2 t_L_times
abbrev N_L_pick : List Str := ["stream", "rows"]
theorem sc_L_pick : FnScope N_L_pick ["stream", "rows"] (defScope (top 42)) := ⟨rfl, rfl, rfl, by decide +kernel, rfl, by decide +kernel, by decide +kernel⟩
theorem bb_L_pick : BindsBy "_law_pick" (top 42) ["stream", "rows"] := fun _ _ _ _ _ _ us hl => match us, hl with | [_, _], _ => rfl
def t_L_pick : T2S :=
  (dRet (dOp dIx (dVar 1) (dCallS 0 f_next (dCons (dCB dLen (dCons (dVar 1) dNil)) dNil))))
def f_L_pick : RCD := bodyS (N_L_pick.length - 1) 1 t_L_pick
abbrev N_L_edges : List Str := ["net", "found", "k", "start", "end", "low", "high"]
theorem sc_L_edges : FnScope N_L_edges ["net"] (defScope (top 46)) := ⟨rfl, rfl, rfl, by decide +kernel, rfl, by decide +kernel, by decide +kernel⟩
theorem bb_L_edges : BindsBy "_law_edges" (top 46) ["net"] := fun _ _ _ _ _ _ us hl => match us, hl with | [_], _ => rfl
def t_L_edges : T2S :=
  (dSeq (dAsgO dNil 1)
  (dSeq (dFor (diR1 (dCons (dCB dLen (dCons (dOp dIx (dVar 0) (dC (.int (1)))) dNil)) dNil)) (gN 2)
  (dSeq (dAsg (dOp dIx (dOp dIx (dVar 0) (dC (.int (1)))) (dVar 2)) (gT 4 (gsCons (gN 3) (gsCons (gN 4) (gsCons (gN 5) (gsCons (gN 6) gsNil))))))
  (dSeq (dExt 1 (dOp dMul (tList (dCons (dTup (dCons (dTup (dCons (dVar 2) (dCons (dC (.str "high")) dNil))) (dCons (dVar 3) (dCons (dVar 4) (dCons (dVar 6) dNil))))) dNil)) (dCB dIntOf (dCons (dOp dNotN (dVar 6) (dC .none)) dNil))))
  (dExt 1 (dIf (dB (dOp dNotN (dVar 5) (dC .none))) (tList (dCons (dTup (dCons (dTup (dCons (dVar 2) (dCons (dC (.str "low")) dNil))) (dCons (dVar 4) (dCons (dVar 3) (dCons (dOp dSub (dC (.int (0))) (dVar 5)) dNil))))) dNil)) (tList dNil))))))
  (dFrz 1 (dRet (dVar 1)))))
def f_L_edges : RCD := bodyD N_L_edges.length 1 t_L_edges
theorem o_L_edges {a0 : D} {Q : D → Prop} (h : t_L_edges { nx := fun _ => Q .none, rt := Q } [some (.dat a0), none, none, none, none, none, none]) : f_L_edges [a0] Q := ⟨rfl, h⟩
abbrev N_L_drawn_walk : List Str := ["stream", "net", "start", "most", "walk", "here", "turn", "going", "edge", "near", "far", "weight"]
theorem sc_L_drawn_walk : FnScope N_L_drawn_walk ["stream", "net", "start", "most"] (defScope (top 47)) := ⟨rfl, rfl, rfl, by decide +kernel, rfl, by decide +kernel, by decide +kernel⟩
theorem bb_L_drawn_walk : BindsBy "_law_drawn_walk" (top 47) ["stream", "net", "start", "most"] := fun _ _ _ _ _ _ us hl => match us, hl with | [_, _, _, _], _ => rfl
def t_L_drawn_walk : T2S :=
  (dSeq (dAsgO dNil 4)
  (dSeq (dAsg (dVar 2) (gN 5))
  (dSeq (dFor (diR1 (dCons (dCallS 0 f_next (dCons (dOp dAdd (dVar 3) (dC (.int (1)))) dNil)) dNil)) (gN 6)
  (dSeq (dAsg (tList (dLc (diS (dCB f_L_edges (dCons (dVar 1) dNil))) (gT 4 (gsCons (gN 8) (gsCons (gN 9) (gsCons (gN 10) (gsCons (gN 11) gsNil))))) (dB (dOp dEq (dVar 9) (dVar 5))) (dTup (dCons (dVar 8) (dCons (dVar 10) dNil))) [8, 9, 10, 11])) (gN 7))
  (dIfS (dTru (dVar 7))
  (dSeq (dAsg (dCallS 0 f_L_pick (dCons (dVar 7) dNil)) (gT 2 (gsCons (gN 8) (gsCons (gN 5) gsNil))))
  (dApp 4 (dVar 8)))
  dNext)))
  (dFrz 4 (dRet (dCB dTupOf (dCons (dVar 4) dNil)))))))
def f_L_drawn_walk : RCD := bodyS (N_L_drawn_walk.length - 1) 3 t_L_drawn_walk
theorem o_L_drawn_walk {a0 a1 a2 : D} {Q : D → Prop} (h : t_L_drawn_walk { nx := fun _ => Q .none, rt := Q } [some .strm, some (.dat a0), some (.dat a1), some (.dat a2), none, none, none, none, none, none, none, none]) : f_L_drawn_walk [a0, a1, a2] Q := ⟨rfl, h⟩
abbrev N_L_order : List Str := ["stream", "many", "left", "k"]
theorem sc_L_order : FnScope N_L_order ["stream", "many"] (defScope (top 43)) := ⟨rfl, rfl, rfl, by decide +kernel, rfl, by decide +kernel, by decide +kernel⟩
theorem bb_L_order : BindsBy "_law_order" (top 43) ["stream", "many"] := fun _ _ _ _ _ _ us hl => match us, hl with | [_, _], _ => rfl
def t_L_order : T2S :=
  (dSeq (dAsgO (dLstRg (dVar 1)) 2)
  (dRetPop 2 (diR1 (dCons (dVar 1) dNil)) (gN 3) (dCallS 0 f_next (dCons (dLenOwn 2) dNil)) [3]))
def f_L_order : RCD := bodyS (N_L_order.length - 1) 1 t_L_order
theorem o_L_order {a0 : D} {Q : D → Prop} (h : t_L_order { nx := fun _ => Q .none, rt := Q } [some .strm, some (.dat a0), none, none]) : f_L_order [a0] Q := ⟨rfl, h⟩
abbrev N_is_whole : List Str := ["value"]
theorem sc_is_whole : FnScope N_is_whole ["value"] (defScope (top 9)) := ⟨rfl, rfl, rfl, by decide +kernel, rfl, by decide +kernel, by decide +kernel⟩
theorem bb_is_whole : BindsBy "is_whole" (top 9) ["value"] := fun _ _ _ _ _ _ us hl => match us, hl with | [_], _ => rfl
def t_is_whole : T2S :=
  (dRet (dAndV (dIsi "int" (dVar 0)) (dNotV (dIsi "bool" (dVar 0)))))
def f_is_whole : RCD := bodyD N_is_whole.length 1 t_is_whole
abbrev N_is_integer : List Str := ["value", "least", "greatest"]
theorem sc_is_integer : FnScope N_is_integer ["value", "least", "greatest"] (defScope (top 10)) := ⟨rfl, rfl, rfl, by decide +kernel, rfl, by decide +kernel, by decide +kernel⟩
theorem bb_is_integer : BindsBy "is_integer" (top 10) ["value", "least", "greatest"] := fun _ _ _ _ _ _ us hl => match us, hl with | [_, _, _], _ => rfl
def t_is_integer : T2S :=
  (dRet (dAndV (dCB f_is_whole (dCons (dVar 0) dNil)) (dChain dLe dLe (dVar 1) (dVar 0) (dVar 2))))
def f_is_integer : RCD := bodyD N_is_integer.length 3 t_is_integer
abbrev N_is_side : List Str := ["value"]
theorem sc_is_side : FnScope N_is_side ["value"] (defScope (top 12)) := ⟨rfl, rfl, rfl, by decide +kernel, rfl, by decide +kernel, by decide +kernel⟩
theorem bb_is_side : BindsBy "is_side" (top 12) ["value"] := fun _ _ _ _ _ _ us hl => match us, hl with | [_], _ => rfl
def t_is_side : T2S :=
  (dRet (dOrV (dOp dIsN (dVar 0) (dC .none)) (dCB f_is_integer (dCons (dVar 0) (dCons (dUn dNeg (dC (.int (100)))) (dCons (dC (.int (100))) dNil))))))
def f_is_side : RCD := bodyD N_is_side.length 1 t_is_side
abbrev N_is_event : List Str := ["value", "size"]
theorem sc_is_event : FnScope N_is_event ["value", "size"] (defScope (top 11)) := ⟨rfl, rfl, rfl, by decide +kernel, rfl, by decide +kernel, by decide +kernel⟩
theorem bb_is_event : BindsBy "is_event" (top 11) ["value", "size"] := fun _ _ _ _ _ _ us hl => match us, hl with | [_, _], _ => rfl
def t_is_event : T2S :=
  (dRet (dCB f_is_integer (dCons (dVar 0) (dCons (dC (.int (0))) (dCons (dOp dSub (dVar 1) (dC (.int (1)))) dNil)))))
def f_is_event : RCD := bodyD N_is_event.length 2 t_is_event
abbrev N_is_rule : List Str := ["value", "size", "start", "end", "low", "high"]
theorem sc_is_rule : FnScope N_is_rule ["value", "size"] (defScope (top 13)) := ⟨rfl, rfl, rfl, by decide +kernel, rfl, by decide +kernel, by decide +kernel⟩
theorem bb_is_rule : BindsBy "is_rule" (top 13) ["value", "size"] := fun _ _ _ _ _ _ us hl => match us, hl with | [_, _], _ => rfl
def t_is_rule : T2S :=
  (dSeq (dIfS (dOr (dNot (dTru (dIsi "tuple" (dVar 0)))) (dB (dOp dNe (dCB dLen (dCons (dVar 0) dNil)) (dC (.int (4))))))
  (dRet (dC (.bool false)))
  dNext)
  (dSeq (dAsg (dVar 0) (gT 4 (gsCons (gN 2) (gsCons (gN 3) (gsCons (gN 4) (gsCons (gN 5) gsNil))))))
  (dSeq (dIfS (dOr (dNot (dTru (dCB f_is_event (dCons (dVar 2) (dCons (dVar 1) dNil))))) (dOr (dNot (dTru (dCB f_is_event (dCons (dVar 3) (dCons (dVar 1) dNil))))) (dB (dOp dEq (dVar 2) (dVar 3)))))
  (dRet (dC (.bool false)))
  dNext)
  (dSeq (dIfS (dAnd (dB (dOp dIsN (dVar 4) (dC .none))) (dB (dOp dIsN (dVar 5) (dC .none))))
  (dRet (dC (.bool false)))
  dNext)
  (dRet (dAndV (dCB f_is_side (dCons (dVar 4) dNil)) (dCB f_is_side (dCons (dVar 5) dNil))))))))
def f_is_rule : RCD := bodyD N_is_rule.length 2 t_is_rule
abbrev N_is_net : List Str := ["value", "size", "rules", "rule"]
theorem sc_is_net : FnScope N_is_net ["value"] (defScope (top 14)) := ⟨rfl, rfl, rfl, by decide +kernel, rfl, by decide +kernel, by decide +kernel⟩
theorem bb_is_net : BindsBy "is_net" (top 14) ["value"] := fun _ _ _ _ _ _ us hl => match us, hl with | [_], _ => rfl
def t_is_net : T2S :=
  (dSeq (dIfS (dOr (dNot (dTru (dIsi "tuple" (dVar 0)))) (dB (dOp dNe (dCB dLen (dCons (dVar 0) dNil)) (dC (.int (2))))))
  (dRet (dC (.bool false)))
  dNext)
  (dSeq (dAsg (dVar 0) (gT 2 (gsCons (gN 1) (gsCons (gN 2) gsNil))))
  (dSeq (dIfS (dNot (dTru (dCB f_is_integer (dCons (dVar 1) (dCons (dC (.int (1))) (dCons (dC (.int (6))) dNil))))))
  (dRet (dC (.bool false)))
  dNext)
  (dSeq (dIfS (dOr (dNot (dTru (dIsi "tuple" (dVar 2)))) (dB (dOp dGt (dCB dLen (dCons (dVar 2) dNil)) (dC (.int (12))))))
  (dRet (dC (.bool false)))
  dNext)
  (dRet (dCB (dBools fun bs => bs.all id) (dCons (tList (dLc (diS (dVar 2)) (gN 3) (fun _ Q => Q true) (dCB f_is_rule (dCons (dVar 3) (dCons (dVar 1) dNil))) [3])) dNil)))))))
def f_is_net : RCD := bodyD N_is_net.length 1 t_is_net
abbrev N_check_net : List Str := ["net"]
theorem sc_check_net : FnScope N_check_net ["net"] (defScope (top 16)) := ⟨rfl, rfl, rfl, by decide +kernel, rfl, by decide +kernel, by decide +kernel⟩
theorem bb_check_net : BindsBy "check_net" (top 16) ["net"] := fun _ _ _ _ _ _ us hl => match us, hl with | [_], _ => rfl
def t_check_net : T2S :=
  (dIfS (dNot (dTru (dCB f_is_net (dCons (dVar 0) dNil))))
  dNever
  dNext)
def f_check_net : RCD := bodyD N_check_net.length 1 t_check_net
def tX_check_net (x : T2X) : T2S :=
  (dIfS (dNot (dTru (dCB f_is_net (dCons (dVar 0) dNil))))
  (dRaise x 0 (dC (.str "net")))
  dNext)
def fX_check_net : RCX := bodyX N_check_net.length 1 (tX_check_net)
theorem oX_check_net {a0 : D} {Q : D → Prop} {X : Nat → D → Prop} (h : tX_check_net (fun _ => X) { nx := fun _ => Q .none, rt := Q } [some (.dat a0)]) : fX_check_net [a0] Q X := ⟨rfl, h⟩
theorem o_check_net {a0 : D} {Q : D → Prop} (h : t_check_net { nx := fun _ => Q .none, rt := Q } [some (.dat a0)]) : f_check_net [a0] Q := ⟨rfl, h⟩
abbrev N_is_times : List Str := ["value", "net", "time"]
theorem sc_is_times : FnScope N_is_times ["value", "net"] (defScope (top 15)) := ⟨rfl, rfl, rfl, by decide +kernel, rfl, by decide +kernel, by decide +kernel⟩
theorem bb_is_times : BindsBy "is_times" (top 15) ["value", "net"] := fun _ _ _ _ _ _ us hl => match us, hl with | [_, _], _ => rfl
def t_is_times : T2S :=
  (dSeq (dIfS (dOr (dNot (dTru (dIsi "tuple" (dVar 0)))) (dB (dOp dNe (dCB dLen (dCons (dVar 0) dNil)) (dOp dIx (dVar 1) (dC (.int (0)))))))
  (dRet (dC (.bool false)))
  dNext)
  (dRet (dCB (dBools fun bs => bs.all id) (dCons (tList (dLc (diS (dVar 0)) (gN 2) (fun _ Q => Q true) (dCB f_is_integer (dCons (dVar 2) (dCons (dUn dNeg (dC (.int (1000)))) (dCons (dC (.int (1000))) dNil)))) [2])) dNil))))
def f_is_times : RCD := bodyD N_is_times.length 2 t_is_times
abbrev N_check_times : List Str := ["net", "times"]
theorem sc_check_times : FnScope N_check_times ["net", "times"] (defScope (top 17)) := ⟨rfl, rfl, rfl, by decide +kernel, rfl, by decide +kernel, by decide +kernel⟩
theorem bb_check_times : BindsBy "check_times" (top 17) ["net", "times"] := fun _ _ _ _ _ _ us hl => match us, hl with | [_, _], _ => rfl
def t_check_times : T2S :=
  (dIfS (dNot (dTru (dCB f_is_times (dCons (dVar 1) (dCons (dVar 0) dNil)))))
  dNever
  dNext)
def f_check_times : RCD := bodyD N_check_times.length 2 t_check_times
def tX_check_times (x : T2X) : T2S :=
  (dIfS (dNot (dTru (dCB f_is_times (dCons (dVar 1) (dCons (dVar 0) dNil)))))
  (dRaise x 0 (dC (.str "times")))
  dNext)
def fX_check_times : RCX := bodyX N_check_times.length 2 (tX_check_times)
theorem oX_check_times {a0 a1 : D} {Q : D → Prop} {X : Nat → D → Prop} (h : tX_check_times (fun _ => X) { nx := fun _ => Q .none, rt := Q } [some (.dat a0), some (.dat a1)]) : fX_check_times [a0, a1] Q X := ⟨rfl, h⟩
theorem o_check_times {a0 a1 : D} {Q : D → Prop} (h : t_check_times { nx := fun _ => Q .none, rt := Q } [some (.dat a0), some (.dat a1)]) : f_check_times [a0, a1] Q := ⟨rfl, h⟩
abbrev N_rule_excess : List Str := ["rule", "times", "difference", "start", "end", "low", "high"]
theorem sc_rule_excess : FnScope N_rule_excess ["rule", "times"] (defScope (top 19)) := ⟨rfl, rfl, rfl, by decide +kernel, rfl, by decide +kernel, by decide +kernel⟩
theorem bb_rule_excess : BindsBy "rule_excess" (top 19) ["rule", "times"] := fun _ _ _ _ _ _ us hl => match us, hl with | [_, _], _ => rfl
def t_rule_excess : T2S :=
  (dSeq (dAsg (dVar 0) (gT 4 (gsCons (gN 3) (gsCons (gN 4) (gsCons (gN 5) (gsCons (gN 6) gsNil))))))
  (dSeq (dAsg (dOp dSub (dOp dIx (dVar 1) (dVar 4)) (dOp dIx (dVar 1) (dVar 3))) (gN 2))
  (dSeq (dIfS (dAnd (dB (dOp dNotN (dVar 5) (dC .none))) (dB (dOp dLt (dVar 2) (dVar 5))))
  (dRet (dOp dSub (dVar 2) (dVar 5)))
  dNext)
  (dSeq (dIfS (dAnd (dB (dOp dNotN (dVar 6) (dC .none))) (dB (dOp dGt (dVar 2) (dVar 6))))
  (dRet (dOp dSub (dVar 2) (dVar 6)))
  dNext)
  (dRet (dC (.int (0))))))))
def f_rule_excess : RCD := bodyD N_rule_excess.length 2 t_rule_excess
theorem o_rule_excess {a0 a1 : D} {Q : D → Prop} (h : t_rule_excess { nx := fun _ => Q .none, rt := Q } [some (.dat a0), some (.dat a1), none, none, none, none, none]) : f_rule_excess [a0, a1] Q := ⟨rfl, h⟩
abbrev N_rule_excesses : List Str := ["net", "times", "rule"]
theorem sc_rule_excesses : FnScope N_rule_excesses ["net", "times"] (defScope (top 20)) := ⟨rfl, rfl, rfl, by decide +kernel, rfl, by decide +kernel, by decide +kernel⟩
theorem bb_rule_excesses : BindsBy "rule_excesses" (top 20) ["net", "times"] := fun _ _ _ _ _ _ us hl => match us, hl with | [_, _], _ => rfl
def t_rule_excesses : T2S :=
  (dRet (dCB dTupOf (dCons (tList (dLc (diS (dOp dIx (dVar 0) (dC (.int (1))))) (gN 2) (fun _ Q => Q true) (dCB f_rule_excess (dCons (dVar 2) (dCons (dVar 1) dNil))) [2])) dNil)))
def f_rule_excesses : RCD := bodyD N_rule_excesses.length 2 t_rule_excesses
theorem o_rule_excesses {a0 a1 : D} {Q : D → Prop} (h : t_rule_excesses { nx := fun _ => Q .none, rt := Q } [some (.dat a0), some (.dat a1), none]) : f_rule_excesses [a0, a1] Q := ⟨rfl, h⟩
abbrev N_excess : List Str := ["net", "times"]
theorem sc_excess : FnScope N_excess ["net", "times"] (defScope (top 21)) := ⟨rfl, rfl, rfl, by decide +kernel, rfl, by decide +kernel, by decide +kernel⟩
theorem bb_excess : BindsBy "excess" (top 21) ["net", "times"] := fun _ _ _ _ _ _ us hl => match us, hl with | [_, _], _ => rfl
def t_excess : T2S :=
  (dSeq (dDrop (dCB f_check_net (dCons (dVar 0) dNil)))
  (dSeq (dDrop (dCB f_check_times (dCons (dVar 0) (dCons (dVar 1) dNil))))
  (dRet (dCB f_rule_excesses (dCons (dVar 0) (dCons (dVar 1) dNil))))))
def f_excess : RCD := bodyD N_excess.length 2 t_excess
def tX_excess (x : T2X) : T2S :=
  (dSeq (dDrop (dCBX (orX f_check_net fX_check_net) x (dCons (dVar 0) dNil)))
  (dSeq (dDrop (dCBX (orX f_check_times fX_check_times) x (dCons (dVar 0) (dCons (dVar 1) dNil))))
  (dRet (dCB f_rule_excesses (dCons (dVar 0) (dCons (dVar 1) dNil))))))
def fX_excess : RCX := bodyX N_excess.length 2 (tX_excess)
theorem oX_excess {a0 a1 : D} {Q : D → Prop} {X : Nat → D → Prop} (h : tX_excess (fun _ => X) { nx := fun _ => Q .none, rt := Q } [some (.dat a0), some (.dat a1)]) : fX_excess [a0, a1] Q X := ⟨rfl, h⟩
theorem o_excess {a0 a1 : D} {Q : D → Prop} (h : t_excess { nx := fun _ => Q .none, rt := Q } [some (.dat a0), some (.dat a1)]) : f_excess [a0, a1] Q := ⟨rfl, h⟩
abbrev N_first_broken : List Str := ["net", "times", "index", "missed"]
theorem sc_first_broken : FnScope N_first_broken ["net", "times"] (defScope (top 22)) := ⟨rfl, rfl, rfl, by decide +kernel, rfl, by decide +kernel, by decide +kernel⟩
theorem bb_first_broken : BindsBy "first_broken" (top 22) ["net", "times"] := fun _ _ _ _ _ _ us hl => match us, hl with | [_, _], _ => rfl
def t_first_broken : T2S :=
  (dSeq (dFor (diEnumA (dCons (dCB f_excess (dCons (dVar 0) (dCons (dVar 1) dNil))) dNil)) (gT 2 (gsCons (gN 2) (gsCons (gN 3) gsNil)))
  (dIfS (dB (dOp dNe (dVar 3) (dC (.int (0)))))
  (dRet (dVar 2))
  dNext))
  (dRet (dC .none)))
def f_first_broken : RCD := bodyD N_first_broken.length 2 t_first_broken
def tX_first_broken (x : T2X) : T2S :=
  (dSeq (dFor (diEnumA (dCons (dCBX (orX f_excess fX_excess) x (dCons (dVar 0) (dCons (dVar 1) dNil))) dNil)) (gT 2 (gsCons (gN 2) (gsCons (gN 3) gsNil)))
  (dIfS (dB (dOp dNe (dVar 3) (dC (.int (0)))))
  (dRet (dVar 2))
  dNext))
  (dRet (dC .none)))
def fX_first_broken : RCX := bodyX N_first_broken.length 2 (tX_first_broken)
theorem oX_first_broken {a0 a1 : D} {Q : D → Prop} {X : Nat → D → Prop} (h : tX_first_broken (fun _ => X) { nx := fun _ => Q .none, rt := Q } [some (.dat a0), some (.dat a1), none, none]) : fX_first_broken [a0, a1] Q X := ⟨rfl, h⟩
theorem o_first_broken {a0 a1 : D} {Q : D → Prop} (h : t_first_broken { nx := fun _ => Q .none, rt := Q } [some (.dat a0), some (.dat a1), none, none]) : f_first_broken [a0, a1] Q := ⟨rfl, h⟩
abbrev N_keeps : List Str := ["net", "times"]
theorem sc_keeps : FnScope N_keeps ["net", "times"] (defScope (top 23)) := ⟨rfl, rfl, rfl, by decide +kernel, rfl, by decide +kernel, by decide +kernel⟩
theorem bb_keeps : BindsBy "keeps" (top 23) ["net", "times"] := fun _ _ _ _ _ _ us hl => match us, hl with | [_, _], _ => rfl
def t_keeps : T2S :=
  (dRet (dOp dIsN (dCB f_first_broken (dCons (dVar 0) (dCons (dVar 1) dNil))) (dC .none)))
def f_keeps : RCD := bodyD N_keeps.length 2 t_keeps
def tX_keeps (x : T2X) : T2S :=
  (dRet (dOp dIsN (dCBX (orX f_first_broken fX_first_broken) x (dCons (dVar 0) (dCons (dVar 1) dNil))) (dC .none)))
def fX_keeps : RCX := bodyX N_keeps.length 2 (tX_keeps)
theorem oX_keeps {a0 a1 : D} {Q : D → Prop} {X : Nat → D → Prop} (h : tX_keeps (fun _ => X) { nx := fun _ => Q .none, rt := Q } [some (.dat a0), some (.dat a1)]) : fX_keeps [a0, a1] Q X := ⟨rfl, h⟩
theorem o_keeps {a0 a1 : D} {Q : D → Prop} (h : t_keeps { nx := fun _ => Q .none, rt := Q } [some (.dat a0), some (.dat a1)]) : f_keeps [a0, a1] Q := ⟨rfl, h⟩
abbrev N_edge_course : List Str := ["net", "value", "index", "side", "start", "end", "low", "high"]
theorem sc_edge_course : FnScope N_edge_course ["net", "value"] (defScope (top 24)) := ⟨rfl, rfl, rfl, by decide +kernel, rfl, by decide +kernel, by decide +kernel⟩
theorem bb_edge_course : BindsBy "edge_course" (top 24) ["net", "value"] := fun _ _ _ _ _ _ us hl => match us, hl with | [_, _], _ => rfl
def t_edge_course : T2S :=
  (dSeq (dIfS (dOr (dNot (dTru (dIsi "tuple" (dVar 1)))) (dB (dOp dNe (dCB dLen (dCons (dVar 1) dNil)) (dC (.int (2))))))
  (dRet (dC .none))
  dNext)
  (dSeq (dAsg (dVar 1) (gT 2 (gsCons (gN 2) (gsCons (gN 3) gsNil))))
  (dSeq (dIfS (dOr (dNot (dTru (dCB f_is_integer (dCons (dVar 2) (dCons (dC (.int (0))) (dCons (dOp dSub (dCB dLen (dCons (dOp dIx (dVar 0) (dC (.int (1)))) dNil)) (dC (.int (1)))) dNil)))))) (dNot (dTru (dIsi "str" (dVar 3)))))
  (dRet (dC .none))
  dNext)
  (dSeq (dAsg (dOp dIx (dOp dIx (dVar 0) (dC (.int (1)))) (dVar 2)) (gT 4 (gsCons (gN 4) (gsCons (gN 5) (gsCons (gN 6) (gsCons (gN 7) gsNil))))))
  (dSeq (dIfS (dAnd (dB (dOp dEq (dVar 3) (dC (.str "high")))) (dB (dOp dNotN (dVar 7) (dC .none))))
  (dRet (dTup (dCons (dVar 4) (dCons (dVar 5) (dCons (dVar 7) dNil)))))
  dNext)
  (dSeq (dIfS (dAnd (dB (dOp dEq (dVar 3) (dC (.str "low")))) (dB (dOp dNotN (dVar 6) (dC .none))))
  (dRet (dTup (dCons (dVar 5) (dCons (dVar 4) (dCons (dUn dNeg (dVar 6)) dNil)))))
  dNext)
  (dRet (dC .none))))))))
def f_edge_course : RCD := bodyD N_edge_course.length 2 t_edge_course
theorem o_edge_course {a0 a1 : D} {Q : D → Prop} (h : t_edge_course { nx := fun _ => Q .none, rt := Q } [some (.dat a0), some (.dat a1), none, none, none, none, none, none]) : f_edge_course [a0, a1] Q := ⟨rfl, h⟩
abbrev N_all_edges : List Str := ["net", "found", "index", "edge", "course", "start", "end", "weight"]
theorem sc_all_edges : FnScope N_all_edges ["net"] (defScope (top 25)) := ⟨rfl, rfl, rfl, by decide +kernel, rfl, by decide +kernel, by decide +kernel⟩
theorem bb_all_edges : BindsBy "all_edges" (top 25) ["net"] := fun _ _ _ _ _ _ us hl => match us, hl with | [_], _ => rfl
def t_all_edges : T2S :=
  (dSeq (dAsgO dNil 1)
  (dSeq (dFor (diR1 (dCons (dCB dLen (dCons (dOp dIx (dVar 0) (dC (.int (1)))) dNil)) dNil)) (gN 2)
  (dFor (diS (dTup (dCons (dTup (dCons (dVar 2) (dCons (dC (.str "high")) dNil))) (dCons (dTup (dCons (dVar 2) (dCons (dC (.str "low")) dNil))) dNil)))) (gN 3)
  (dSeq (dAsg (dCB f_edge_course (dCons (dVar 0) (dCons (dVar 3) dNil))) (gN 4))
  (dIfS (dB (dOp dNotN (dVar 4) (dC .none)))
  (dSeq (dAsg (dVar 4) (gT 3 (gsCons (gN 5) (gsCons (gN 6) (gsCons (gN 7) gsNil)))))
  (dApp 1 (dTup (dCons (dVar 3) (dCons (dVar 5) (dCons (dVar 6) (dCons (dVar 7) dNil)))))))
  dNext))))
  (dFrz 1 (dRet (dCB dTupOf (dCons (dVar 1) dNil))))))
def f_all_edges : RCD := bodyD N_all_edges.length 1 t_all_edges
theorem o_all_edges {a0 : D} {Q : D → Prop} (h : t_all_edges { nx := fun _ => Q .none, rt := Q } [some (.dat a0), none, none, none, none, none, none, none]) : f_all_edges [a0] Q := ⟨rfl, h⟩
abbrev N_edges : List Str := ["net"]
theorem sc_edges : FnScope N_edges ["net"] (defScope (top 26)) := ⟨rfl, rfl, rfl, by decide +kernel, rfl, by decide +kernel, by decide +kernel⟩
theorem bb_edges : BindsBy "edges" (top 26) ["net"] := fun _ _ _ _ _ _ us hl => match us, hl with | [_], _ => rfl
def t_edges : T2S :=
  (dSeq (dDrop (dCB f_check_net (dCons (dVar 0) dNil)))
  (dRet (dCB f_all_edges (dCons (dVar 0) dNil))))
def f_edges : RCD := bodyD N_edges.length 1 t_edges
def tX_edges (x : T2X) : T2S :=
  (dSeq (dDrop (dCBX (orX f_check_net fX_check_net) x (dCons (dVar 0) dNil)))
  (dRet (dCB f_all_edges (dCons (dVar 0) dNil))))
def fX_edges : RCX := bodyX N_edges.length 1 (tX_edges)
theorem oX_edges {a0 : D} {Q : D → Prop} {X : Nat → D → Prop} (h : tX_edges (fun _ => X) { nx := fun _ => Q .none, rt := Q } [some (.dat a0)]) : fX_edges [a0] Q X := ⟨rfl, h⟩
theorem o_edges {a0 : D} {Q : D → Prop} (h : t_edges { nx := fun _ => Q .none, rt := Q } [some (.dat a0)]) : f_edges [a0] Q := ⟨rfl, h⟩
abbrev N_check_event : List Str := ["net", "name", "event"]
theorem sc_check_event : FnScope N_check_event ["net", "name", "event"] (defScope (top 18)) := ⟨rfl, rfl, rfl, by decide +kernel, rfl, by decide +kernel, by decide +kernel⟩
theorem bb_check_event : BindsBy "check_event" (top 18) ["net", "name", "event"] := fun _ _ _ _ _ _ us hl => match us, hl with | [_, _, _], _ => rfl
def t_check_event : T2S :=
  (dIfS (dNot (dTru (dCB f_is_event (dCons (dVar 2) (dCons (dOp dIx (dVar 0) (dC (.int (0)))) dNil)))))
  dNever
  dNext)
def f_check_event : RCD := bodyD N_check_event.length 3 t_check_event
def tX_check_event (x : T2X) : T2S :=
  (dIfS (dNot (dTru (dCB f_is_event (dCons (dVar 2) (dCons (dOp dIx (dVar 0) (dC (.int (0)))) dNil)))))
  (dRaise x 0 (dVar 1))
  dNext)
def fX_check_event : RCX := bodyX N_check_event.length 3 (tX_check_event)
theorem oX_check_event {a0 a1 a2 : D} {Q : D → Prop} {X : Nat → D → Prop} (h : tX_check_event (fun _ => X) { nx := fun _ => Q .none, rt := Q } [some (.dat a0), some (.dat a1), some (.dat a2)]) : fX_check_event [a0, a1, a2] Q X := ⟨rfl, h⟩
theorem o_check_event {a0 a1 a2 : D} {Q : D → Prop} (h : t_check_event { nx := fun _ => Q .none, rt := Q } [some (.dat a0), some (.dat a1), some (.dat a2)]) : f_check_event [a0, a1, a2] Q := ⟨rfl, h⟩
abbrev N_walk_end : List Str := ["net", "start", "value", "place", "edge", "course"]
theorem sc_walk_end : FnScope N_walk_end ["net", "start", "value"] (defScope (top 27)) := ⟨rfl, rfl, rfl, by decide +kernel, rfl, by decide +kernel, by decide +kernel⟩
theorem bb_walk_end : BindsBy "walk_end" (top 27) ["net", "start", "value"] := fun _ _ _ _ _ _ us hl => match us, hl with | [_, _, _], _ => rfl
def t_walk_end : T2S :=
  (dSeq (dIfS (dNot (dTru (dIsi "tuple" (dVar 2))))
  (dRet (dC .none))
  dNext)
  (dSeq (dAsg (dVar 1) (gN 3))
  (dSeq (dFor (diS (dVar 2)) (gN 4)
  (dSeq (dAsg (dCB f_edge_course (dCons (dVar 0) (dCons (dVar 4) dNil))) (gN 5))
  (dSeq (dIfS (dOr (dB (dOp dIsN (dVar 5) (dC .none))) (dB (dOp dNe (dOp dIx (dVar 5) (dC (.int (0)))) (dVar 3))))
  (dRet (dC .none))
  dNext)
  (dAsg (dOp dIx (dVar 5) (dC (.int (1)))) (gN 3)))))
  (dRet (dVar 3)))))
def f_walk_end : RCD := bodyD N_walk_end.length 3 t_walk_end
theorem o_walk_end {a0 a1 a2 : D} {Q : D → Prop} (h : t_walk_end { nx := fun _ => Q .none, rt := Q } [some (.dat a0), some (.dat a1), some (.dat a2), none, none, none]) : f_walk_end [a0, a1, a2] Q := ⟨rfl, h⟩
abbrev N_is_walk : List Str := ["net", "start", "end", "value"]
theorem sc_is_walk : FnScope N_is_walk ["net", "start", "end", "value"] (defScope (top 29)) := ⟨rfl, rfl, rfl, by decide +kernel, rfl, by decide +kernel, by decide +kernel⟩
theorem bb_is_walk : BindsBy "is_walk" (top 29) ["net", "start", "end", "value"] := fun _ _ _ _ _ _ us hl => match us, hl with | [_, _, _, _], _ => rfl
def t_is_walk : T2S :=
  (dSeq (dDrop (dCB f_check_net (dCons (dVar 0) dNil)))
  (dSeq (dDrop (dCB f_check_event (dCons (dVar 0) (dCons (dC (.str "start")) (dCons (dVar 1) dNil)))))
  (dSeq (dDrop (dCB f_check_event (dCons (dVar 0) (dCons (dC (.str "end")) (dCons (dVar 2) dNil)))))
  (dRet (dOp dEq (dCB f_walk_end (dCons (dVar 0) (dCons (dVar 1) (dCons (dVar 3) dNil)))) (dVar 2))))))
def f_is_walk : RCD := bodyD N_is_walk.length 4 t_is_walk
def tX_is_walk (x : T2X) : T2S :=
  (dSeq (dDrop (dCBX (orX f_check_net fX_check_net) x (dCons (dVar 0) dNil)))
  (dSeq (dDrop (dCBX (orX f_check_event fX_check_event) x (dCons (dVar 0) (dCons (dC (.str "start")) (dCons (dVar 1) dNil)))))
  (dSeq (dDrop (dCBX (orX f_check_event fX_check_event) x (dCons (dVar 0) (dCons (dC (.str "end")) (dCons (dVar 2) dNil)))))
  (dRet (dOp dEq (dCB f_walk_end (dCons (dVar 0) (dCons (dVar 1) (dCons (dVar 3) dNil)))) (dVar 2))))))
def fX_is_walk : RCX := bodyX N_is_walk.length 4 (tX_is_walk)
theorem oX_is_walk {a0 a1 a2 a3 : D} {Q : D → Prop} {X : Nat → D → Prop} (h : tX_is_walk (fun _ => X) { nx := fun _ => Q .none, rt := Q } [some (.dat a0), some (.dat a1), some (.dat a2), some (.dat a3)]) : fX_is_walk [a0, a1, a2, a3] Q X := ⟨rfl, h⟩
theorem o_is_walk {a0 a1 a2 a3 : D} {Q : D → Prop} (h : t_is_walk { nx := fun _ => Q .none, rt := Q } [some (.dat a0), some (.dat a1), some (.dat a2), some (.dat a3)]) : f_is_walk [a0, a1, a2, a3] Q := ⟨rfl, h⟩
abbrev N_weight_sum : List Str := ["net", "walk", "edge"]
theorem sc_weight_sum : FnScope N_weight_sum ["net", "walk"] (defScope (top 28)) := ⟨rfl, rfl, rfl, by decide +kernel, rfl, by decide +kernel, by decide +kernel⟩
theorem bb_weight_sum : BindsBy "weight_sum" (top 28) ["net", "walk"] := fun _ _ _ _ _ _ us hl => match us, hl with | [_, _], _ => rfl
def t_weight_sum : T2S :=
  (dRet (dCB dSum (dCons (tList (dLc (diS (dVar 1)) (gN 2) (fun _ Q => Q true) (dOp dIx (dCB f_edge_course (dCons (dVar 0) (dCons (dVar 2) dNil))) (dC (.int (2)))) [2])) dNil)))
def f_weight_sum : RCD := bodyD N_weight_sum.length 2 t_weight_sum
theorem o_weight_sum {a0 a1 : D} {Q : D → Prop} (h : t_weight_sum { nx := fun _ => Q .none, rt := Q } [some (.dat a0), some (.dat a1), none]) : f_weight_sum [a0, a1] Q := ⟨rfl, h⟩
abbrev N_walk_length : List Str := ["net", "walk", "ends", "event", "end"]
theorem sc_walk_length : FnScope N_walk_length ["net", "walk"] (defScope (top 30)) := ⟨rfl, rfl, rfl, by decide +kernel, rfl, by decide +kernel, by decide +kernel⟩
theorem bb_walk_length : BindsBy "walk_length" (top 30) ["net", "walk"] := fun _ _ _ _ _ _ us hl => match us, hl with | [_, _], _ => rfl
def t_walk_length : T2S :=
  (dSeq (dDrop (dCB f_check_net (dCons (dVar 0) dNil)))
  (dSeq (dAsg (tList (dLc (diR1 (dCons (dOp dIx (dVar 0) (dC (.int (0)))) dNil)) (gN 3) (fun _ Q => Q true) (dCB f_walk_end (dCons (dVar 0) (dCons (dVar 3) (dCons (dVar 1) dNil)))) [3])) (gN 2))
  (dSeq (dIfS (dTru (dCB (dBools fun bs => bs.all id) (dCons (tList (dLc (diS (dVar 2)) (gN 4) (fun _ Q => Q true) (dOp dIsN (dVar 4) (dC .none)) [4])) dNil)))
  dNever
  dNext)
  (dRet (dCB f_weight_sum (dCons (dVar 0) (dCons (dVar 1) dNil)))))))
def f_walk_length : RCD := bodyD N_walk_length.length 2 t_walk_length
def tX_walk_length (x : T2X) : T2S :=
  (dSeq (dDrop (dCBX (orX f_check_net fX_check_net) x (dCons (dVar 0) dNil)))
  (dSeq (dAsg (tList (dLc (diR1 (dCons (dOp dIx (dVar 0) (dC (.int (0)))) dNil)) (gN 3) (fun _ Q => Q true) (dCB f_walk_end (dCons (dVar 0) (dCons (dVar 3) (dCons (dVar 1) dNil)))) [3])) (gN 2))
  (dSeq (dIfS (dTru (dCB (dBools fun bs => bs.all id) (dCons (tList (dLc (diS (dVar 2)) (gN 4) (fun _ Q => Q true) (dOp dIsN (dVar 4) (dC .none)) [4])) dNil)))
  (dRaise x 0 (dC (.str "walk")))
  dNext)
  (dRet (dCB f_weight_sum (dCons (dVar 0) (dCons (dVar 1) dNil)))))))
def fX_walk_length : RCX := bodyX N_walk_length.length 2 (tX_walk_length)
theorem oX_walk_length {a0 a1 : D} {Q : D → Prop} {X : Nat → D → Prop} (h : tX_walk_length (fun _ => X) { nx := fun _ => Q .none, rt := Q } [some (.dat a0), some (.dat a1), none, none, none]) : fX_walk_length [a0, a1] Q X := ⟨rfl, h⟩
theorem o_walk_length {a0 a1 : D} {Q : D → Prop} (h : t_walk_length { nx := fun _ => Q .none, rt := Q } [some (.dat a0), some (.dat a1), none, none, none]) : f_walk_length [a0, a1] Q := ⟨rfl, h⟩
abbrev N_turned : List Str := ["net", "size", "rules", "start", "end", "low", "high"]
theorem sc_turned : FnScope N_turned ["net"] (defScope (top 35)) := ⟨rfl, rfl, rfl, by decide +kernel, rfl, by decide +kernel, by decide +kernel⟩
theorem bb_turned : BindsBy "turned" (top 35) ["net"] := fun _ _ _ _ _ _ us hl => match us, hl with | [_], _ => rfl
def t_turned : T2S :=
  (dSeq (dDrop (dCB f_check_net (dCons (dVar 0) dNil)))
  (dSeq (dAsg (dVar 0) (gT 2 (gsCons (gN 1) (gsCons (gN 2) gsNil))))
  (dRet (dTup (dCons (dVar 1) (dCons (dCB dTupOf (dCons (tList (dLc (diS (dVar 2)) (gT 4 (gsCons (gN 3) (gsCons (gN 4) (gsCons (gN 5) (gsCons (gN 6) gsNil))))) (fun _ Q => Q true) (dTup (dCons (dVar 4) (dCons (dVar 3) (dCons (dVar 5) (dCons (dVar 6) dNil))))) [3, 4, 5, 6])) dNil)) dNil))))))
def f_turned : RCD := bodyD N_turned.length 1 t_turned
def tX_turned (x : T2X) : T2S :=
  (dSeq (dDrop (dCBX (orX f_check_net fX_check_net) x (dCons (dVar 0) dNil)))
  (dSeq (dAsg (dVar 0) (gT 2 (gsCons (gN 1) (gsCons (gN 2) gsNil))))
  (dRet (dTup (dCons (dVar 1) (dCons (dCB dTupOf (dCons (tList (dLc (diS (dVar 2)) (gT 4 (gsCons (gN 3) (gsCons (gN 4) (gsCons (gN 5) (gsCons (gN 6) gsNil))))) (fun _ Q => Q true) (dTup (dCons (dVar 4) (dCons (dVar 3) (dCons (dVar 5) (dCons (dVar 6) dNil))))) [3, 4, 5, 6])) dNil)) dNil))))))
def fX_turned : RCX := bodyX N_turned.length 1 (tX_turned)
theorem oX_turned {a0 : D} {Q : D → Prop} {X : Nat → D → Prop} (h : tX_turned (fun _ => X) { nx := fun _ => Q .none, rt := Q } [some (.dat a0), none, none, none, none, none, none]) : fX_turned [a0] Q X := ⟨rfl, h⟩
theorem o_turned {a0 : D} {Q : D → Prop} (h : t_turned { nx := fun _ => Q .none, rt := Q } [some (.dat a0), none, none, none, none, none, none]) : f_turned [a0] Q := ⟨rfl, h⟩
abbrev N_are_events : List Str := ["value", "size", "event"]
theorem sc_are_events : FnScope N_are_events ["value", "size"] (defScope (top 32)) := ⟨rfl, rfl, rfl, by decide +kernel, rfl, by decide +kernel, by decide +kernel⟩
theorem bb_are_events : BindsBy "are_events" (top 32) ["value", "size"] := fun _ _ _ _ _ _ us hl => match us, hl with | [_, _], _ => rfl
def t_are_events : T2S :=
  (dRet (dAndV (dIsi "tuple" (dVar 0)) (dCB (dBools fun bs => bs.all id) (dCons (tList (dLc (diS (dVar 0)) (gN 2) (fun _ Q => Q true) (dCB f_is_event (dCons (dVar 2) (dCons (dVar 1) dNil))) [2])) dNil))))
def f_are_events : RCD := bodyD N_are_events.length 2 t_are_events
theorem o_are_events {a0 a1 : D} {Q : D → Prop} (h : t_are_events { nx := fun _ => Q .none, rt := Q } [some (.dat a0), some (.dat a1), none]) : f_are_events [a0, a1] Q := ⟨rfl, h⟩
abbrev N_is_order : List Str := ["value", "size"]
theorem sc_is_order : FnScope N_is_order ["value", "size"] (defScope (top 33)) := ⟨rfl, rfl, rfl, by decide +kernel, rfl, by decide +kernel, by decide +kernel⟩
theorem bb_is_order : BindsBy "is_order" (top 33) ["value", "size"] := fun _ _ _ _ _ _ us hl => match us, hl with | [_, _], _ => rfl
def t_is_order : T2S :=
  (dRet (dAndV (dCB f_are_events (dCons (dVar 0) (dCons (dVar 1) dNil))) (dOp dEq (tList (dCBO dSortIT (dCons (dVar 0) dNil))) (tList (dLstRg (dVar 1))))))
def f_is_order : RCD := bodyD N_is_order.length 2 t_is_order
theorem o_is_order {a0 a1 : D} {Q : D → Prop} (h : t_is_order { nx := fun _ => Q .none, rt := Q } [some (.dat a0), some (.dat a1)]) : f_is_order [a0, a1] Q := ⟨rfl, h⟩
abbrev N_renamed : List Str := ["net", "order", "size", "rules", "start", "end", "low", "high"]
theorem sc_renamed : FnScope N_renamed ["net", "order"] (defScope (top 36)) := ⟨rfl, rfl, rfl, by decide +kernel, rfl, by decide +kernel, by decide +kernel⟩
theorem bb_renamed : BindsBy "renamed" (top 36) ["net", "order"] := fun _ _ _ _ _ _ us hl => match us, hl with | [_, _], _ => rfl
def t_renamed : T2S :=
  (dSeq (dDrop (dCB f_check_net (dCons (dVar 0) dNil)))
  (dSeq (dAsg (dVar 0) (gT 2 (gsCons (gN 2) (gsCons (gN 3) gsNil))))
  (dSeq (dIfS (dNot (dTru (dCB f_is_order (dCons (dVar 1) (dCons (dVar 2) dNil)))))
  dNever
  dNext)
  (dRet (dTup (dCons (dVar 2) (dCons (dCB dTupOf (dCons (tList (dLc (diS (dVar 3)) (gT 4 (gsCons (gN 4) (gsCons (gN 5) (gsCons (gN 6) (gsCons (gN 7) gsNil))))) (fun _ Q => Q true) (dTup (dCons (dOp dIx (dVar 1) (dVar 4)) (dCons (dOp dIx (dVar 1) (dVar 5)) (dCons (dVar 6) (dCons (dVar 7) dNil))))) [4, 5, 6, 7])) dNil)) dNil)))))))
def f_renamed : RCD := bodyD N_renamed.length 2 t_renamed
def tX_renamed (x : T2X) : T2S :=
  (dSeq (dDrop (dCBX (orX f_check_net fX_check_net) x (dCons (dVar 0) dNil)))
  (dSeq (dAsg (dVar 0) (gT 2 (gsCons (gN 2) (gsCons (gN 3) gsNil))))
  (dSeq (dIfS (dNot (dTru (dCB f_is_order (dCons (dVar 1) (dCons (dVar 2) dNil)))))
  (dRaise x 0 (dC (.str "order")))
  dNext)
  (dRet (dTup (dCons (dVar 2) (dCons (dCB dTupOf (dCons (tList (dLc (diS (dVar 3)) (gT 4 (gsCons (gN 4) (gsCons (gN 5) (gsCons (gN 6) (gsCons (gN 7) gsNil))))) (fun _ Q => Q true) (dTup (dCons (dOp dIx (dVar 1) (dVar 4)) (dCons (dOp dIx (dVar 1) (dVar 5)) (dCons (dVar 6) (dCons (dVar 7) dNil))))) [4, 5, 6, 7])) dNil)) dNil)))))))
def fX_renamed : RCX := bodyX N_renamed.length 2 (tX_renamed)
theorem oX_renamed {a0 a1 : D} {Q : D → Prop} {X : Nat → D → Prop} (h : tX_renamed (fun _ => X) { nx := fun _ => Q .none, rt := Q } [some (.dat a0), some (.dat a1), none, none, none, none, none, none]) : fX_renamed [a0, a1] Q X := ⟨rfl, h⟩
theorem o_renamed {a0 a1 : D} {Q : D → Prop} (h : t_renamed { nx := fun _ => Q .none, rt := Q } [some (.dat a0), some (.dat a1), none, none, none, none, none, none]) : f_renamed [a0, a1] Q := ⟨rfl, h⟩
abbrev N_is_choice : List Str := ["value", "size", "before", "after"]
theorem sc_is_choice : FnScope N_is_choice ["value", "size"] (defScope (top 34)) := ⟨rfl, rfl, rfl, by decide +kernel, rfl, by decide +kernel, by decide +kernel⟩
theorem bb_is_choice : BindsBy "is_choice" (top 34) ["value", "size"] := fun _ _ _ _ _ _ us hl => match us, hl with | [_, _], _ => rfl
def t_is_choice : T2S :=
  (dSeq (dIfS (dOr (dNot (dTru (dCB f_are_events (dCons (dVar 0) (dCons (dVar 1) dNil))))) (dB (dOp dEq (dCB dLen (dCons (dVar 0) dNil)) (dC (.int (0))))))
  (dRet (dC (.bool false)))
  dNext)
  (dRet (dCB (dBools fun bs => bs.all id) (dCons (tList (dLc (diZip (dCons (dVar 0) (dCons (dSl (dVar 0) (dPart (dC (.int (1)))) dNoPart) dNil))) (gT 2 (gsCons (gN 2) (gsCons (gN 3) gsNil))) (fun _ Q => Q true) (dOp dLt (dVar 2) (dVar 3)) [2, 3])) dNil))))
def f_is_choice : RCD := bodyD N_is_choice.length 2 t_is_choice
theorem o_is_choice {a0 a1 : D} {Q : D → Prop} (h : t_is_choice { nx := fun _ => Q .none, rt := Q } [some (.dat a0), some (.dat a1), none, none]) : f_is_choice [a0, a1] Q := ⟨rfl, h⟩
abbrev N_part : List Str := ["net", "chosen", "kept", "size", "rules", "start", "end", "low", "high"]
theorem sc_part : FnScope N_part ["net", "chosen"] (defScope (top 37)) := ⟨rfl, rfl, rfl, by decide +kernel, rfl, by decide +kernel, by decide +kernel⟩
theorem bb_part : BindsBy "part" (top 37) ["net", "chosen"] := fun _ _ _ _ _ _ us hl => match us, hl with | [_, _], _ => rfl
def t_part : T2S :=
  (dSeq (dDrop (dCB f_check_net (dCons (dVar 0) dNil)))
  (dSeq (dAsg (dVar 0) (gT 2 (gsCons (gN 3) (gsCons (gN 4) gsNil))))
  (dSeq (dIfS (dNot (dTru (dCB f_is_choice (dCons (dVar 1) (dCons (dVar 3) dNil)))))
  dNever
  dNext)
  (dSeq (dAsgO dNil 2)
  (dSeq (dFor (diS (dVar 4)) (gT 4 (gsCons (gN 5) (gsCons (gN 6) (gsCons (gN 7) (gsCons (gN 8) gsNil)))))
  (dIfS (dAnd (dB (dOp (dIn false) (dVar 5) (dVar 1))) (dB (dOp (dIn false) (dVar 6) (dVar 1))))
  (dApp 2 (dTup (dCons (dIdxT (dVar 1) (dCons (dVar 5) dNil)) (dCons (dIdxT (dVar 1) (dCons (dVar 6) dNil)) (dCons (dVar 7) (dCons (dVar 8) dNil))))))
  dNext))
  (dFrz 2 (dRet (dTup (dCons (dCB dLen (dCons (dVar 1) dNil)) (dCons (dCB dTupOf (dCons (dVar 2) dNil)) dNil))))))))))
def f_part : RCD := bodyD N_part.length 2 t_part
def tX_part (x : T2X) : T2S :=
  (dSeq (dDrop (dCBX (orX f_check_net fX_check_net) x (dCons (dVar 0) dNil)))
  (dSeq (dAsg (dVar 0) (gT 2 (gsCons (gN 3) (gsCons (gN 4) gsNil))))
  (dSeq (dIfS (dNot (dTru (dCB f_is_choice (dCons (dVar 1) (dCons (dVar 3) dNil)))))
  (dRaise x 0 (dC (.str "chosen")))
  dNext)
  (dSeq (dAsgO dNil 2)
  (dSeq (dFor (diS (dVar 4)) (gT 4 (gsCons (gN 5) (gsCons (gN 6) (gsCons (gN 7) (gsCons (gN 8) gsNil)))))
  (dIfS (dAnd (dB (dOp (dIn false) (dVar 5) (dVar 1))) (dB (dOp (dIn false) (dVar 6) (dVar 1))))
  (dApp 2 (dTup (dCons (dIdxT (dVar 1) (dCons (dVar 5) dNil)) (dCons (dIdxT (dVar 1) (dCons (dVar 6) dNil)) (dCons (dVar 7) (dCons (dVar 8) dNil))))))
  dNext))
  (dFrz 2 (dRet (dTup (dCons (dCB dLen (dCons (dVar 1) dNil)) (dCons (dCB dTupOf (dCons (dVar 2) dNil)) dNil))))))))))
def fX_part : RCX := bodyX N_part.length 2 (tX_part)
theorem oX_part {a0 a1 : D} {Q : D → Prop} {X : Nat → D → Prop} (h : tX_part (fun _ => X) { nx := fun _ => Q .none, rt := Q } [some (.dat a0), some (.dat a1), none, none, none, none, none, none, none]) : fX_part [a0, a1] Q X := ⟨rfl, h⟩
theorem o_part {a0 a1 : D} {Q : D → Prop} (h : t_part { nx := fun _ => Q .none, rt := Q } [some (.dat a0), some (.dat a1), none, none, none, none, none, none, none]) : f_part [a0, a1] Q := ⟨rfl, h⟩
abbrev N_with_rule : List Str := ["net", "rule", "size", "rules"]
theorem sc_with_rule : FnScope N_with_rule ["net", "rule"] (defScope (top 38)) := ⟨rfl, rfl, rfl, by decide +kernel, rfl, by decide +kernel, by decide +kernel⟩
theorem bb_with_rule : BindsBy "with_rule" (top 38) ["net", "rule"] := fun _ _ _ _ _ _ us hl => match us, hl with | [_, _], _ => rfl
def t_with_rule : T2S :=
  (dSeq (dDrop (dCB f_check_net (dCons (dVar 0) dNil)))
  (dSeq (dAsg (dVar 0) (gT 2 (gsCons (gN 2) (gsCons (gN 3) gsNil))))
  (dSeq (dIfS (dNot (dTru (dCB f_is_rule (dCons (dVar 1) (dCons (dVar 2) dNil)))))
  dNever
  dNext)
  (dSeq (dIfS (dB (dOp dEq (dCB dLen (dCons (dVar 3) dNil)) (dC (.int (12)))))
  dNever
  dNext)
  (dRet (dTup (dCons (dVar 2) (dCons (dOp dAdd (dVar 3) (dTup (dCons (dVar 1) dNil))) dNil))))))))
def f_with_rule : RCD := bodyD N_with_rule.length 2 t_with_rule
def tX_with_rule (x : T2X) : T2S :=
  (dSeq (dDrop (dCBX (orX f_check_net fX_check_net) x (dCons (dVar 0) dNil)))
  (dSeq (dAsg (dVar 0) (gT 2 (gsCons (gN 2) (gsCons (gN 3) gsNil))))
  (dSeq (dIfS (dNot (dTru (dCB f_is_rule (dCons (dVar 1) (dCons (dVar 2) dNil)))))
  (dRaise x 0 (dC (.str "rule")))
  dNext)
  (dSeq (dIfS (dB (dOp dEq (dCB dLen (dCons (dVar 3) dNil)) (dC (.int (12)))))
  (dRaise x 2 (dC (.str "rules")))
  dNext)
  (dRet (dTup (dCons (dVar 2) (dCons (dOp dAdd (dVar 3) (dTup (dCons (dVar 1) dNil))) dNil))))))))
def fX_with_rule : RCX := bodyX N_with_rule.length 2 (tX_with_rule)
theorem oX_with_rule {a0 a1 : D} {Q : D → Prop} {X : Nat → D → Prop} (h : tX_with_rule (fun _ => X) { nx := fun _ => Q .none, rt := Q } [some (.dat a0), some (.dat a1), none, none]) : fX_with_rule [a0, a1] Q X := ⟨rfl, h⟩
theorem o_with_rule {a0 a1 : D} {Q : D → Prop} (h : t_with_rule { nx := fun _ => Q .none, rt := Q } [some (.dat a0), some (.dat a1), none, none]) : f_with_rule [a0, a1] Q := ⟨rfl, h⟩
abbrev N_L_told : List Str := ["word", "parts", "problem"]
theorem sc_L_told : FnScope N_L_told ["word", "parts"] (defScope (top 48)) := ⟨rfl, rfl, rfl, by decide +kernel, rfl, by decide +kernel, by decide +kernel⟩
theorem bb_L_told : BindsBy "_law_told" (top 48) ["word", "parts"] := fun _ _ _ _ _ _ us hl => match us, hl with | [_, _], _ => rfl
def t_L_told : T2S :=
  (dSeq (dTry [⟨[some true, none, some false], 2, fun c e => (dRet (dIf (dAnd (dTru (dIsX [some true, none, some true] c)) (dTru (dIsX [some true, none, some true] c))) (dXf c 0 e) (dC .none)))⟩] (fun x => (dIfS (dB (dOp dEq (dVar 0) (dC (.str "keeps"))))
  (dDrop (dCBX (orX f_keeps fX_keeps) x (dCons (dOp dIx (dVar 1) (dC (.int (0)))) (dCons (dOp dIx (dVar 1) (dC (.int (1)))) dNil))))
  (dIfS (dB (dOp dEq (dVar 0) (dC (.str "excess"))))
  (dDrop (dCBX (orX f_excess fX_excess) x (dCons (dOp dIx (dVar 1) (dC (.int (0)))) (dCons (dOp dIx (dVar 1) (dC (.int (1)))) dNil))))
  (dIfS (dB (dOp dEq (dVar 0) (dC (.str "first"))))
  (dDrop (dCBX (orX f_first_broken fX_first_broken) x (dCons (dOp dIx (dVar 1) (dC (.int (0)))) (dCons (dOp dIx (dVar 1) (dC (.int (1)))) dNil))))
  (dIfS (dB (dOp dEq (dVar 0) (dC (.str "edges"))))
  (dDrop (dCBX (orX f_edges fX_edges) x (dCons (dOp dIx (dVar 1) (dC (.int (0)))) dNil)))
  (dIfS (dB (dOp dEq (dVar 0) (dC (.str "walk"))))
  (dDrop (dCBX (orX f_is_walk fX_is_walk) x (dCons (dOp dIx (dVar 1) (dC (.int (0)))) (dCons (dOp dIx (dVar 1) (dC (.int (1)))) (dCons (dOp dIx (dVar 1) (dC (.int (2)))) (dCons (dC .none) dNil))))))
  (dIfS (dB (dOp dEq (dVar 0) (dC (.str "length"))))
  (dDrop (dCBX (orX f_walk_length fX_walk_length) x (dCons (dOp dIx (dVar 1) (dC (.int (0)))) (dCons (dOp dIx (dVar 1) (dC (.int (1)))) dNil))))
  (dIfS (dB (dOp dEq (dVar 0) (dC (.str "turned"))))
  (dDrop (dCBX (orX f_turned fX_turned) x (dCons (dOp dIx (dVar 1) (dC (.int (0)))) dNil)))
  (dIfS (dB (dOp dEq (dVar 0) (dC (.str "renamed"))))
  (dDrop (dCBX (orX f_renamed fX_renamed) x (dCons (dOp dIx (dVar 1) (dC (.int (0)))) (dCons (dOp dIx (dVar 1) (dC (.int (1)))) dNil))))
  (dIfS (dB (dOp dEq (dVar 0) (dC (.str "part"))))
  (dDrop (dCBX (orX f_part fX_part) x (dCons (dOp dIx (dVar 1) (dC (.int (0)))) (dCons (dOp dIx (dVar 1) (dC (.int (1)))) dNil))))
  (dDrop (dCBX (orX f_with_rule fX_with_rule) x (dCons (dOp dIx (dVar 1) (dC (.int (0)))) (dCons (dOp dIx (dVar 1) (dC (.int (1)))) dNil)))))))))))))))
  (dRet (dC (.str ""))))
def f_L_told : RCD := bodyD N_L_told.length 2 t_L_told
theorem o_L_told {a0 a1 : D} {Q : D → Prop} (h : t_L_told { nx := fun _ => Q .none, rt := Q } [some (.dat a0), some (.dat a1), none]) : f_L_told [a0, a1] Q := ⟨rfl, h⟩
abbrev N_L_rule : List Str := ["stream", "size", "far", "start", "end", "sides", "pick", "event"]
theorem sc_L_rule : FnScope N_L_rule ["stream", "size", "far"] (defScope (top 44)) := ⟨rfl, rfl, rfl, by decide +kernel, rfl, by decide +kernel, by decide +kernel⟩
theorem bb_L_rule : BindsBy "_law_rule" (top 44) ["stream", "size", "far"] := fun _ _ _ _ _ _ us hl => match us, hl with | [_, _, _], _ => rfl
def t_L_rule : T2S :=
  (dSeq (dAsg (dCallS 0 f_next (dCons (dVar 1) dNil)) (gN 3))
  (dSeq (dAsg (dCallS 0 f_L_pick (dCons (tList (dLc (diR1 (dCons (dVar 1) dNil)) (gN 7) (dB (dOp dNe (dVar 7) (dVar 3))) (dVar 7) [7])) dNil)) (gN 4))
  (dSeq (dAsgO (dCons (dOp dSub (dCallS 0 f_next (dCons (dOp dAdd (dOp dMul (dC (.int (2))) (dVar 2)) (dC (.int (1)))) dNil)) (dVar 2)) (dCons (dOp dSub (dCallS 0 f_next (dCons (dOp dAdd (dOp dMul (dC (.int (2))) (dVar 2)) (dC (.int (1)))) dNil)) (dVar 2)) dNil)) 5)
  (dSeq (dIfS (dB (dOp dGt (dCallS 0 f_next (dCons (dC (.int (3))) dNil)) (dC (.int (0)))))
  (dFrz 5 (dAsgO (dCBO dSorted (dCons (dVar 5) dNil)) 5))
  dNext)
  (dSeq (dAsg (dCallS 0 f_next (dCons (dC (.int (5))) dNil)) (gN 6))
  (dSeq (dIfS (dB (dOp dLt (dVar 6) (dC (.int (2)))))
  (dSetIx 5 (dC .none) (dVar 6))
  dNext)
  (dRet (dTup (dCons (dVar 3) (dCons (dVar 4) (dCons (dOIx 5 (dC (.int (0)))) (dCons (dOIx 5 (dC (.int (1)))) dNil))))))))))))
def f_L_rule : RCD := bodyS (N_L_rule.length - 1) 2 t_L_rule
abbrev N_law : List Str := ["script", "stream", "size", "net", "times", "at", "walk", "order", "bad_net", "bad_times", "bad_event", "bad_walk", "bad_order", "bad_chosen", "bad_rule", "rows", "word", "good", "bad", "names", "k", "name", "wrong", "alone", "odd", "options"]
theorem sc_law : FnScope N_law ["script"] (defScope (top 49)) := ⟨rfl, rfl, rfl, by decide +kernel, rfl, by decide +kernel, by decide +kernel⟩
def t_law : T2S :=
  (dSeq (dAsg (dOp dAdd (dC (.int (2))) (dCallS 1 f_next (dCons (dC (.int (5))) dNil))) (gN 2))
  (dSeq (dAsg (dTup (dCons (dVar 2) (dCons (dCB dTupOf (dCons (tList (dLc (diR1 (dCons (dCallS 1 f_next (dCons (dC (.int (12))) dNil)) dNil)) (gN 20) (fun _ Q => Q true) (dCallS 1 f_L_rule (dCons (dVar 2) (dCons (dC (.int (100))) dNil))) [20])) dNil)) dNil))) (gN 3))
  (dSeq (dAsg (dCallS 1 f_L_times (dCons (dVar 2) (dCons (dC (.int (1000))) dNil))) (gN 4))
  (dSeq (dAsg (dCallS 1 f_next (dCons (dVar 2) dNil)) (gN 5))
  (dSeq (dAsg (dCallS 1 f_L_drawn_walk (dCons (dVar 3) (dCons (dVar 5) (dCons (dC (.int (5))) dNil)))) (gN 6))
  (dSeq (dAsg (dCallS 1 f_L_order (dCons (dVar 2) dNil)) (gN 7))
  (dSeq (dAsg (tList (dCons (dC .none) (dCons (dTup (dCons (dVar 2) dNil)) (dCons (tList (dCBO dListOf (dCons (dVar 3) dNil))) (dCons (dTup (dCons (dC (.int (0))) (dCons (dTup dNil) dNil))) (dCons (dTup (dCons (dC (.int (7))) (dCons (dTup dNil) dNil))) (dCons (dTup (dCons (dVar 2) (dCons (dTup (dCons (dTup (dCons (dC (.int (0))) (dCons (dC (.int (0))) (dCons (dC (.int (1))) (dCons (dC (.int (2))) dNil))))) dNil)) dNil))) (dCons (dTup (dCons (dVar 2) (dCons (dTup (dCons (dTup (dCons (dC (.int (0))) (dCons (dC (.int (1))) (dCons (dC .none) (dCons (dC .none) dNil))))) dNil)) dNil))) (dCons (dTup (dCons (dVar 2) (dCons (dTup (dCons (dTup (dCons (dC (.int (0))) (dCons (dVar 2) (dCons (dC (.int (1))) (dCons (dC (.int (2))) dNil))))) dNil)) dNil))) (dCons (dTup (dCons (dVar 2) (dCons (dTup (dCons (dTup (dCons (dC (.int (0))) (dCons (dC (.int (1))) (dCons (dC (.int (101))) (dCons (dC .none) dNil))))) dNil)) dNil))) (dCons (dTup (dCons (dVar 2) (dCons (tList (dCons (dTup (dCons (dC (.int (0))) (dCons (dC (.int (1))) (dCons (dC (.int (1))) (dCons (dC (.int (2))) dNil))))) dNil)) dNil))) (dCons (dTup (dCons (dVar 2) (dCons (dOp dMul (dTup (dCons (dTup (dCons (dC (.int (0))) (dCons (dC (.int (1))) (dCons (dC (.int (1))) (dCons (dC (.int (2))) dNil))))) dNil)) (dC (.int (13)))) dNil))) (dCons (dTup (dCons (dVar 2) (dCons (dOp dAdd (dSl (dOp dIx (dVar 3) (dC (.int (1)))) dNoPart (dPart (dC (.int (11))))) (dTup (dCons (dC .none) dNil))) dNil))) dNil))))))))))))) (gN 8))
  (dSeq (dAsg (dOp dAdd (tList (dCons (dC .none) (dCons (tList (dCBO dListOf (dCons (dVar 4) dNil))) (dCons (dSl (dVar 4) (dPart (dC (.int (1)))) dNoPart) (dCons (dOp dAdd (dVar 4) (dTup (dCons (dC (.int (0))) dNil))) dNil))))) (tList (dLc (diS (tList (dCons (dC (.int (1001))) (dCons (dUn dNeg (dC (.int (1001)))) (dCons (dC .none) (dCons (dC (.bool true)) (dCons (dC (.str "0")) dNil))))))) (gN 24) (fun _ Q => Q true) (dOp dAdd (dOp dAdd (dSl (dVar 4) dNoPart (dPart (dVar 5))) (dTup (dCons (dVar 24) dNil))) (dSl (dVar 4) (dPart (dOp dAdd (dVar 5) (dC (.int (1))))) dNoPart)) [24]))) (gN 9))
  (dSeq (dAsg (tList (dCons (dUn dNeg (dC (.int (1)))) (dCons (dVar 2) (dCons (dC .none) (dCons (dC (.bool true)) (dCons (dC (.str "0")) (dCons (dC (.int (6))) dNil))))))) (gN 10))
  (dSeq (dAsg (tList (dCons (dC .none) (dCons (tList (dCBO dListOf (dCons (dVar 6) dNil))) (dCons (dTup (dCons (dTup (dCons (dC (.int (12))) (dCons (dC (.str "high")) dNil))) dNil)) (dCons (dOp dAdd (dVar 6) (dTup (dCons (dTup (dCons (dC (.int (0))) (dCons (dC (.str "up")) dNil))) dNil))) (dCons (dOp dAdd (dVar 6) (dTup (dCons (dC .none) dNil))) (dCons (dOp dAdd (dVar 6) (dTup (dCons (dTup (dCons (dUn dNeg (dC (.int (1)))) (dCons (dC (.str "low")) dNil))) dNil))) (dCons (dC (.str "")) (dCons (dIf (dTru (dVar 6)) (dTup (dCons (dVar 6) dNil)) (dC (.int (7)))) (dCons (dTup (dCons (dTup (dCons (dC (.bool true)) (dCons (dC (.str "high")) dNil))) dNil)) dNil)))))))))) (gN 11))
  (dSeq (dAsg (tList (dCons (dC .none) (dCons (tList (dCBO dListOf (dCons (dVar 7) dNil))) (dCons (dSl (dVar 7) (dPart (dC (.int (1)))) dNoPart) (dCons (dOp dAdd (dVar 7) (dTup (dCons (dVar 2) dNil))) (dCons (dOp dAdd (dSl (dVar 7) dNoPart (dPart (dC (.int (1))))) (dSl (dVar 7) dNoPart (dPart (dUn dNeg (dC (.int (1))))))) (dCons (dOp dMul (dTup (dCons (dC (.bool true)) dNil)) (dVar 2)) (dCons (dTup dNil) dNil)))))))) (gN 12))
  (dSeq (dAsg (tList (dCons (dC .none) (dCons (dTup dNil) (dCons (tList (dCons (dC (.int (0))) dNil)) (dCons (dTup (dCons (dVar 2) dNil)) (dCons (dTup (dCons (dC (.int (1))) (dCons (dC (.int (0))) dNil))) (dCons (dTup (dCons (dC (.int (0))) (dCons (dC (.int (0))) dNil))) (dCons (dTup (dCons (dUn dNeg (dC (.int (1)))) dNil)) (dCons (dTup (dCons (dC .none) dNil)) (dCons (dTup (dCons (dC (.bool false)) dNil)) dNil)))))))))) (gN 13))
  (dSeq (dAsg (tList (dCons (dC .none) (dCons (tList (dCons (dC (.int (0))) (dCons (dC (.int (1))) (dCons (dC (.int (1))) (dCons (dC (.int (2))) dNil))))) (dCons (dTup (dCons (dC (.int (0))) (dCons (dC (.int (0))) (dCons (dC (.int (1))) (dCons (dC (.int (2))) dNil))))) (dCons (dTup (dCons (dC (.int (0))) (dCons (dVar 2) (dCons (dC (.int (1))) (dCons (dC (.int (2))) dNil))))) (dCons (dTup (dCons (dC (.int (0))) (dCons (dC (.int (1))) (dCons (dC .none) (dCons (dC .none) dNil))))) (dCons (dTup (dCons (dC (.int (0))) (dCons (dC (.int (1))) (dCons (dUn dNeg (dC (.int (101)))) (dCons (dC (.int (2))) dNil))))) (dCons (dTup (dCons (dC (.int (0))) (dCons (dC (.int (1))) (dCons (dC (.int (1))) (dCons (dC (.int (101))) dNil))))) (dCons (dTup (dCons (dC (.int (0))) (dCons (dC (.int (1))) (dCons (dC (.bool true)) (dCons (dC (.int (2))) dNil))))) (dCons (dTup (dCons (dC (.int (0))) (dCons (dC (.int (1))) (dCons (dC (.int (1))) dNil)))) dNil)))))))))) (gN 14))
  (dSeq (dAsgO (dLc (diS (tList (dCons (dC (.str "keeps")) (dCons (dC (.str "excess")) (dCons (dC (.str "first")) dNil))))) (gN 21) (fun _ Q => Q true) (dTup (dCons (dVar 21) (dCons (tList (dCons (dVar 3) (dCons (dVar 4) dNil))) (dCons (tList (dCons (dVar 8) (dCons (dVar 9) dNil))) (dCons (tList (dCons (dC (.str "net")) (dCons (dC (.str "times")) dNil))) dNil))))) [21]) 15)
  (dSeq (dExt 15 (tList (dLc (diS (tList (dCons (dC (.str "edges")) (dCons (dC (.str "turned")) dNil)))) (gN 21) (fun _ Q => Q true) (dTup (dCons (dVar 21) (dCons (tList (dCons (dVar 3) dNil)) (dCons (tList (dCons (dVar 8) dNil)) (dCons (tList (dCons (dC (.str "net")) dNil)) dNil))))) [21])))
  (dSeq (dApp 15 (dTup (dCons (dC (.str "walk")) (dCons (tList (dCons (dVar 3) (dCons (dVar 5) (dCons (dOp dIx (dVar 7) (dC (.int (0)))) dNil)))) (dCons (tList (dCons (dVar 8) (dCons (dVar 10) (dCons (dVar 10) dNil)))) (dCons (tList (dCons (dC (.str "net")) (dCons (dC (.str "start")) (dCons (dC (.str "end")) dNil)))) dNil))))))
  (dSeq (dApp 15 (dTup (dCons (dC (.str "length")) (dCons (tList (dCons (dVar 3) (dCons (dVar 6) dNil))) (dCons (tList (dCons (dVar 8) (dCons (dVar 11) dNil))) (dCons (tList (dCons (dC (.str "net")) (dCons (dC (.str "walk")) dNil))) dNil))))))
  (dSeq (dApp 15 (dTup (dCons (dC (.str "renamed")) (dCons (tList (dCons (dVar 3) (dCons (dVar 7) dNil))) (dCons (tList (dCons (dVar 8) (dCons (dVar 12) dNil))) (dCons (tList (dCons (dC (.str "net")) (dCons (dC (.str "order")) dNil))) dNil))))))
  (dSeq (dApp 15 (dTup (dCons (dC (.str "part")) (dCons (tList (dCons (dVar 3) (dCons (dCB dTupOf (dCons (tList (dCBO dSortIT (dCons (dSl (dVar 7) dNoPart (dPart (dOp dAdd (dC (.int (1))) (dVar 5)))) dNil))) dNil)) dNil))) (dCons (tList (dCons (dVar 8) (dCons (dVar 13) dNil))) (dCons (tList (dCons (dC (.str "net")) (dCons (dC (.str "chosen")) dNil))) dNil))))))
  (dSeq (dApp 15 (dTup (dCons (dC (.str "rule")) (dCons (tList (dCons (dVar 3) (dCons (dTup (dCons (dC (.int (0))) (dCons (dOp dSub (dVar 2) (dC (.int (1)))) (dCons (dUn dNeg (dC (.int (100)))) (dCons (dC .none) dNil))))) dNil))) (dCons (tList (dCons (dVar 8) (dCons (dVar 14) dNil))) (dCons (tList (dCons (dC (.str "net")) (dCons (dC (.str "rule")) dNil))) dNil))))))
  (dSeq (dFrz 15 (dFor (diS (dVar 15)) (gT 4 (gsCons (gN 16) (gsCons (gN 17) (gsCons (gN 18) (gsCons (gN 19) gsNil)))))
  (dSeq (dIfS (dB (dOp dNe (dCB f_L_told (dCons (dVar 16) (dCons (dVar 17) dNil))) (dC (.str ""))))
  (dRet (dC (.bool false)))
  dNext)
  (dFor (diR1 (dCons (dCB dLen (dCons (dVar 17) dNil)) dNil)) (gN 20)
  (dSeq (dAsg (tList (dLc (diS (dVar 18)) (gN 25) (fun _ Q => Q true) (dCallS 1 f_L_pick (dCons (dVar 25) dNil)) [25])) (gN 22))
  (dSeq (dAsg (dOp dAdd (dOp dAdd (dSl (dVar 17) dNoPart (dPart (dVar 20))) (tList (dCons (dOp dIx (dVar 22) (dVar 20)) dNil))) (dSl (dVar 17) (dPart (dOp dAdd (dVar 20) (dC (.int (1))))) dNoPart)) (gN 23))
  (dIfS (dOr (dB (dOp dNe (dCB f_L_told (dCons (dVar 16) (dCons (dVar 23) dNil))) (dOp dIx (dVar 19) (dVar 20)))) (dB (dOp dNe (dCB f_L_told (dCons (dVar 16) (dCons (dOp dAdd (dSl (dVar 17) dNoPart (dPart (dVar 20))) (dSl (dVar 22) (dPart (dVar 20)) dNoPart)) dNil))) (dOp dIx (dVar 19) (dVar 20)))))
  (dRet (dC (.bool false)))
  dNext)))))))
  (dRet (dC (.bool true))))))))))))))))))))))))
local macro_rules | `(tactic| walk_at "Z") => `(tactic| simp only [↓dSeq, ↓dNext, ↓dAsg, ↓dAsgO, ↓dDrop, ↓dRet, ↓dRetN, ↓dIfS, ↓dNever, ↓dBreak, ↓dCont, ↓dFor, ↓forD, ↓dFrz, ↓dFrzM, ↓dNewM, ↓dMIx, ↓dPar, ↓dMSet, ↓dNewD, ↓dPutD, ↓dGetD, ↓dRetPop, ↓dLstRg, ↓dLenOwn, ↓dMaxL, ↓dMinL, ↓dCBK, ↓dLenSet, ↓ownD, ↓dOLen, ↓dOTru, ↓dOIx, ↓diOwn, ↓dPop, ↓dPopA, ↓dAugA, ↓dLstRg2, ↓dInD, ↓dAppPop, ↓dGetF, ↓dInF, ↓dInO, ↓dNewK, ↓dPutK, ↓dGetK, ↓dInK, ↓dGet2K, ↓dCBX, ↓dRaise, ↓dTry, ↓dHs, ↓dXf, ↓dIsX, ↓dOInD, ↓endsU2, ↓dTruK, ↓List.cons_append, ↓List.nil_append, ↓dFrzD, ↓dRem, ↓dmaxDf, ↓dminDf, ↓dApp, ↓dExt, ↓dSetIx, ↓dCallS, ↓envD, ↓wipeE, ↓dVar, ↓dC, ↓dOp, ↓dOpO, ↓dUn, ↓dCB, ↓dCBO, ↓dNil, ↓dCons, ↓dTup, ↓tList, ↓dB, ↓dTru, ↓dAnd, ↓dOr, ↓dNot, ↓dAndV, ↓dOrV, ↓dNotV, ↓dIf, ↓dChain, ↓d2I, ↓d2IC, ↓dAdd, ↓dMul, ↓dSub, ↓dDiv, ↓dMod, ↓dPow, ↓dLt, ↓dLe, ↓dGt, ↓dGe, ↓dNeg, ↓dIsN, ↓dNotN, ↓dIsB, ↓dNotBl, ↓dEq, ↓dNe, ↓dIn, ↓dIx, ↓dPart, ↓dNoPart, ↓dSl, ↓dRev, ↓dRevO, ↓dLen, ↓dTupOf, ↓dListOf, ↓dCatL, ↓dRepL, ↓dInt1, ↓dIntOf, ↓dInt2, ↓dIsi, ↓seqOf, ↓gN, ↓gsNil, ↓gsCons, ↓gT, ↓diS, ↓diR1, ↓diEnumA, ↓diZip, ↓diR2, ↓dLc, List.map_cons, List.map_nil, List.cons_append, List.nil_append, ↓List.getElem?_cons_zero, ↓List.getElem?_cons_succ, ↓List.set_cons_zero, ↓List.set_cons_succ, List.replicate, Nat.sub_self, Nat.reduceSub, List.length_cons, List.length_nil, if_true, if_false, Bool.false_eq_true, Bool.true_eq_false, Bool.not_true, Bool.not_false, reduceIte, reduceCtorEq, and_true, true_and, Nat.reduceAdd, ↓dIdxT])
local macro_rules | `(tactic| walk_at "DZ") => `(tactic| dsimp only [↓dSeq, ↓dNext, ↓dAsg, ↓dAsgO, ↓dDrop, ↓dRet, ↓dRetN, ↓dIfS, ↓dNever, ↓dBreak, ↓dCont, ↓dFor, ↓forD, ↓dFrz, ↓dFrzM, ↓dNewM, ↓dMIx, ↓dPar, ↓dMSet, ↓dNewD, ↓dPutD, ↓dGetD, ↓dRetPop, ↓dLstRg, ↓dLenOwn, ↓dMaxL, ↓dMinL, ↓dCBK, ↓dLenSet, ↓ownD, ↓dOLen, ↓dOTru, ↓dOIx, ↓diOwn, ↓dPop, ↓dPopA, ↓dAugA, ↓dLstRg2, ↓dInD, ↓dAppPop, ↓dGetF, ↓dInF, ↓dInO, ↓dNewK, ↓dPutK, ↓dGetK, ↓dInK, ↓dGet2K, ↓dCBX, ↓dRaise, ↓dTry, ↓dHs, ↓dXf, ↓dIsX, ↓dOInD, ↓endsU2, ↓dTruK, ↓List.cons_append, ↓List.nil_append, ↓dFrzD, ↓dRem, ↓dmaxDf, ↓dminDf, ↓dApp, ↓dExt, ↓dSetIx, ↓dCallS, ↓envD, ↓wipeE, ↓dVar, ↓dC, ↓dOp, ↓dOpO, ↓dUn, ↓dCB, ↓dCBO, ↓dNil, ↓dCons, ↓dTup, ↓tList, ↓dB, ↓dTru, ↓dAnd, ↓dOr, ↓dNot, ↓dAndV, ↓dOrV, ↓dNotV, ↓dIf, ↓dChain, ↓d2I, ↓d2IC, ↓dAdd, ↓dMul, ↓dSub, ↓dDiv, ↓dMod, ↓dPow, ↓dLt, ↓dLe, ↓dGt, ↓dGe, ↓dNeg, ↓dIsN, ↓dNotN, ↓dIsB, ↓dNotBl, ↓dEq, ↓dNe, ↓dIn, ↓dIx, ↓dPart, ↓dNoPart, ↓dSl, ↓dRev, ↓dRevO, ↓dLen, ↓dTupOf, ↓dListOf, ↓dCatL, ↓dRepL, ↓dInt1, ↓dIntOf, ↓dInt2, ↓dIsi, ↓seqOf, ↓gN, ↓gsNil, ↓gsCons, ↓gT, ↓diS, ↓diR1, ↓diEnumA, ↓diZip, ↓diR2, ↓dLc, ↓List.getElem?_cons_zero, ↓List.getElem?_cons_succ, ↓List.set_cons_zero, ↓List.set_cons_succ, List.getElem?_cons_zero, List.getElem?_cons_succ, List.set_cons_zero, List.set_cons_succ, List.map_cons, List.map_nil, List.cons_append, List.nil_append, List.replicate, List.length_cons, List.length_nil, Bool.not_true, Bool.not_false, ↓dIdxT])
theorem is_whole_ok (v : D) (Q : D → Prop) (q : Q (.bool (whI v))) : f_is_whole [v] Q := by
  refine ⟨rfl, ?_⟩
  show t_is_whole _ _
  unfold t_is_whole
  walk_at "Z"
  rw [isT_int, isT_bool]
  cases v <;> simpa [isI, isB, whI] using q
theorem is_integer_ok (v : D) (l g : Int) (Q : D → Prop) (q : Q (.bool (inI v l g))) : f_is_integer [v, .int l, .int g] Q := by
  refine ⟨rfl, ?_⟩
  show t_is_integer _ _
  unfold t_is_integer
  walk_at "DZ"
  refine is_whole_ok _ _ ?_
  cases v <;> simp only [whI, inI, if_true, if_false, Bool.false_eq_true, reduceIte] at q ⊢ <;> try exact q
  rename_i i
  by_cases h : l ≤ i
  · simpa [h] using q
  · simpa [h] using q
theorem pick_ok {ds : List D} {Q : D → Prop} (h1 : ds ≠ []) (h2 : ds.length ≤ 1000000) (q : ∀ d ∈ ds, Q d) : f_L_pick [.list ds] Q := by
  refine ⟨rfl, ?_⟩
  show t_L_pick _ _
  unfold t_L_pick
  walk_at "Z"
  have hp : 0 < ds.length := List.length_pos_iff.mpr h1
  refine next_mk (by omega) (by omega) fun d h3 h4 => ?_
  have hd : d.toNat < ds.length := by omega
  dsimp only
  rw [atI_int h3 (List.getElem?_eq_getElem hd)]
  exact q _ (List.getElem_mem hd)
def notEv (s : Int) (d : D) : Bool := match d with | .int i => decide (i ≠ s) | _ => false
def SideOk (far : Int) (d : D) : Prop := d = .none ∨ ∃ i : Int, d = .int i ∧ -far ≤ i ∧ i ≤ far
def RuleOk (size far : Int) (y : D) : Prop := ∃ (s e : Int) (lo hi : D), y = .tuple [.int s, .int e, lo, hi] ∧ 0 ≤ s ∧ s < size ∧ 0 ≤ e ∧ e < size ∧ s ≠ e ∧ SideOk far lo ∧ SideOk far hi ∧ ¬ (lo = .none ∧ hi = .none)
theorem rule_ok {size far : Int} {Q : D → Prop} (h1 : 2 ≤ size) (h2 : size ≤ 1000) (h3 : 0 ≤ far) (h4 : far ≤ 100000) (q : ∀ y, RuleOk size far y → Q y) : f_L_rule [.int size, .int far] Q := by
  refine ⟨rfl, ?_⟩
  show t_L_rule _ _
  unfold t_L_rule
  walk_at "Z"
  refine next_mk (by omega) (by omega) fun s hs0 hs1 => ?_
  refine ⟨by omega, by omega, by rw [dRange_length]; omega, ?_⟩
  refine lc_gen (notEv s) (fun d y => y = d) (fun d hd R N r1 r2 => ?_) (fun ys hys => ?_)
  · obtain ⟨i, hi, rfl⟩ := mem_dRange hd
    walk_at "Z"
    simp only [shaped_int, true_and, PyData.eqv]
    by_cases e : (0 + (i : Int)) = s
    · simp only [e, beq_self_eq_true, Bool.not_true, Bool.false_eq_true, if_false]
      exact r2 (decide_eq_false (fun q => q e))
    · have e2 : ((0 + (i : Int)) == s) = false := beq_eq_false_iff_ne.mpr e
      simp only [e2, Bool.not_false, if_true]
      exact r1 (decide_eq_true e) _ rfl
  have e := hys.mapEq (f := id)
  rw [List.map_id] at e
  subst e
  refine pick_ok (fun hn => ?_) ?_ fun d hd => ?_
  · -- one of 0 and 1 is another
    have key : ∀ z : Int, 0 ≤ z → z < size → z ≠ s → False := fun z z0 z1 z2 => by
      have hm : PyData.int z ∈ dRange 0 size.toNat := List.mem_map.mpr ⟨z.toNat, List.mem_range.mpr (by omega), by rw [Int.zero_add, Int.toNat_of_nonneg z0]⟩
      have hf := List.mem_filter.mpr ⟨hm, (show notEv s (.int z) = true from decide_eq_true z2)⟩
      rw [hn] at hf
      exact absurd hf (by simp)
    by_cases z : s = 0
    · exact key 1 (by omega) (by omega) (by omega)
    · exact key 0 (by omega) (by omega) (by omega)
  · refine Nat.le_trans (List.length_filter_le _ _) ?_
    rw [dRange_length]; omega
  · obtain ⟨hd1, hd2⟩ := List.mem_filter.mp hd
    obtain ⟨i, hi, rfl⟩ := mem_dRange hd1
    have hne : (0 + (i : Int)) ≠ s := of_decide_eq_true hd2
    refine ⟨.inl ⟨by decide, by decide⟩, next_mk (by omega) (by omega) fun a ha0 ha1 => ?_⟩
    dsimp only
    refine ⟨.inl ⟨by decide, by decide⟩, next_mk (by omega) (by omega) fun b hb0 hb1 => ?_⟩
    dsimp only
    refine next_mk (by omega) (by omega) fun c hc0 hc1 => ?_
    dsimp only
    have fin : ∀ x y : Int, -far ≤ x → x ≤ far → -far ≤ y → y ≤ far → f_next [.int 5] fun d_1 => match d_1, PyData.int 2 with
        | PyData.int i_3, PyData.int j_3 =>
          if decide (i_3 < j_3) = true then
            match d_1 with
            | PyData.int j_4 =>
              match ixN 2 j_4 with
              | some n =>
                match atI ([PyData.int x, PyData.int y].set n PyData.none) 0 with
                | some d_2 => match atI ([PyData.int x, PyData.int y].set n PyData.none) 1 with
                  | some d_3 => Q (PyData.tuple [PyData.int s, PyData.int (0 + (i : Int)), d_2, d_3])
                  | none => False
                | none => False
              | none => False
            | x => False
          else
            match atI [PyData.int x, PyData.int y] 0 with
            | some d_2 => match atI [PyData.int x, PyData.int y] 1 with
              | some d_3 => Q (PyData.tuple [PyData.int s, PyData.int (0 + (i : Int)), d_2, d_3])
              | none => False
            | none => False
        | x, x_1 => False := by
      intro x y x0 x1 y0 y1
      refine next_mk (by omega) (by omega) fun k hk0 hk1 => ?_
      have mk : ∀ lo hi : D, SideOk far lo → SideOk far hi → ¬ (lo = .none ∧ hi = .none) → Q (PyData.tuple [PyData.int s, PyData.int (0 + (i : Int)), lo, hi]) := fun lo hi l1 l2 l3 => q _ ⟨s, _, lo, hi, rfl, hs0, hs1, by omega, by omega, fun z => hne z.symm, l1, l2, l3⟩
      dsimp only
      split
      · rename_i hk
        have hk := of_decide_eq_true hk
        have hk : k = 0 ∨ k = 1 := by omega
        rcases hk with rfl | rfl
        · exact mk .none (.int y) (.inl rfl) (.inr ⟨y, rfl, y0, y1⟩) (fun z => nomatch z.2)
        · exact mk (.int x) .none (.inr ⟨x, rfl, x0, x1⟩) (.inl rfl) (fun z => nomatch z.1)
      · exact mk (.int x) (.int y) (.inr ⟨x, rfl, x0, x1⟩) (.inr ⟨y, rfl, y0, y1⟩) (fun z => nomatch z.1)
    split
    · refine ⟨by show 2 < 64; decide, fun ns' hp hw => ?_⟩
      have hl := hp.length_eq
      match ns', hl, hp with
      | [x, y], _, hp =>
        have hx : ∀ z ∈ [x, y], -far ≤ z ∧ z ≤ far := fun z hz => by
          have := hp.subset hz
          simp only [List.mem_cons, List.not_mem_nil, or_false] at this
          rcases this with rfl | rfl <;> omega
        have h1 := hx x (by simp)
        have h2 := hx y (by simp)
        exact fin x y h1.1 h1.2 h2.1 h2.2
    · exact fin _ _ (by omega) (by omega) (by omega) (by omega)
def NetOk (most many far : Int) (y : D) : Prop := ∃ (size : Int) (rs : List D), y = .tuple [.int size, .tuple rs] ∧ 1 ≤ size ∧ size ≤ most ∧ (rs.length : Int) ≤ many ∧ (∀ r ∈ rs, RuleOk size far r) ∧ (rs ≠ [] → 2 ≤ size)
theorem ints_of {R : Int → Prop} : ∀ {ys : List D}, (∀ y ∈ ys, ∃ i : Int, y = .int i ∧ R i) → ∃ ts : List Int, ys = ts.map PyData.int ∧ ts.length = ys.length ∧ ∀ t ∈ ts, R t
  | [], _ => ⟨[], rfl, rfl, fun t ht => absurd ht (by simp)⟩
  | y :: ys, h => by
    obtain ⟨i, rfl, hi⟩ := h y List.mem_cons_self
    obtain ⟨ts, rfl, hl, ht⟩ := ints_of (ys := ys) fun z hz => h z (List.mem_cons_of_mem _ hz)
    refine ⟨i :: ts, rfl, by simp, fun t ht' => ?_⟩
    rcases List.mem_cons.mp ht' with rfl | ht'
    · exact hi
    · exact ht t ht'
def TimesOk (size far : Int) (y : D) : Prop := ∃ ts : List Int, y = .tuple (ts.map PyData.int) ∧ (ts.length : Int) = size ∧ ∀ t ∈ ts, -far ≤ t ∧ t ≤ far
theorem times_ok {size far : Int} {Q : D → Prop} (h1 : 0 ≤ size) (h2 : size ≤ 1000) (h3 : 0 ≤ far) (h4 : far ≤ 100000) (q : ∀ y, TimesOk size far y → Q y) : f_L_times [.int size, .int far] Q := by
  refine ⟨rfl, ?_⟩
  show t_L_times _ _
  unfold t_L_times
  walk_at "Z"
  refine ⟨by omega, by omega, by rw [dRange_length]; omega, ?_⟩
  refine lc_all (fun _ y => ∃ i : Int, y = .int i ∧ -far ≤ i ∧ i ≤ far) (fun d _ R hR => ?_) fun ys hys => ?_
  · walk_at "Z"
    refine ⟨.inl ⟨by decide, by decide⟩, next_mk (by omega) (by omega) fun a a0 a1 => ?_⟩
    exact hR _ ⟨a - far, rfl, by omega, by omega⟩
  · have hl := hys.length
    rw [dRange_length] at hl
    obtain ⟨ts, rfl, hl2, ht⟩ := ints_of (R := fun i => -far ≤ i ∧ i ≤ far) (F2.all (R := fun y : D => ∃ i : Int, y = PyData.int i ∧ -far ≤ i ∧ i ≤ far) (fun _ _ h => h) hys)
    exact q _ ⟨ts, rfl, by omega, ht⟩
theorem is_event_ok (v : D) (size : Int) (Q : D → Prop) (q : Q (.bool (inI v 0 (size - 1)))) : f_is_event [v, .int size] Q := by
  refine ⟨rfl, ?_⟩
  show t_is_event _ _
  unfold t_is_event
  walk_at "Z"
  exact is_integer_ok v 0 (size - 1) Q q
def sideB (v : D) : Bool := isNone v || inI v (-100) 100
theorem is_side_ok (v : D) (Q : D → Prop) (q : Q (.bool (sideB v))) : f_is_side [v] Q := by
  refine ⟨rfl, ?_⟩
  show t_is_side _ _
  unfold t_is_side
  walk_at "Z"
  cases v <;> simp only [sideB, isNone, Bool.true_or, Bool.false_or, if_true, if_false, Bool.false_eq_true, reduceIte] at q ⊢ <;> first | exact q | exact is_integer_ok _ (-100) 100 Q q
def ruleB (v : D) (size : Int) : Bool := match v with
  | .tuple [s, e, l, h] => inI s 0 (size - 1) && inI e 0 (size - 1) && !(PyData.eqv s e) && !(isNone l && isNone h) && sideB l && sideB h
  | _ => false
theorem inI_int {v : D} {l g : Int} (h : inI v l g = true) : ∃ i : Int, v = .int i ∧ l ≤ i ∧ i ≤ g := by
  unfold inI at h
  split at h
  · rw [Bool.and_eq_true] at h
    exact ⟨_, rfl, of_decide_eq_true h.1, of_decide_eq_true h.2⟩
  · cases h
theorem eqv_intD (a b : Int) : PyData.eqv (.int a) (.int b) = decide (a = b) := by
  unfold PyData.eqv
  by_cases h : a = b
  · subst h; simp
  · rw [decide_eq_false h]; exact beq_eq_false_iff_ne.mpr h
theorem is_rule_ok (v : D) (size : Int) (Q : D → Prop) (q : Q (.bool (ruleB v size))) : f_is_rule [v, .int size] Q := by
  refine ⟨rfl, ?_⟩
  show t_is_rule _ _
  unfold t_is_rule
  walk_at "Z"
  simp only [isT_tuple]
  cases v with
  | tuple xs =>
    simp only [isTu, Bool.not_true, if_false, Bool.false_eq_true, reduceIte, shaped_int, true_and, eqv_intD]
    by_cases hl : xs.length = 4
    · match xs, hl with
      | [s, e, l, h], _ =>
        have e4 : decide ((([s, e, l, h] : List D).length : Int) = 4) = true := rfl
        simp only [e4, Bool.not_true, Bool.false_eq_true, if_false]
        simp only [List.length_cons, List.length_nil, Nat.reduceAdd, true_and]
        refine is_event_ok s size _ ?_
        dsimp only
        cases hs : inI s 0 (size - 1) with
        | false => simpa [ruleB, hs] using q
        | true =>
          simp only [Bool.not_true, Bool.false_eq_true, if_false]
          refine is_event_ok e size _ ?_
          dsimp only
          cases he : inI e 0 (size - 1) with
          | false => simpa [ruleB, hs, he] using q
          | true =>
            simp only [Bool.not_true, Bool.false_eq_true, if_false]
            obtain ⟨i, rfl, _, _⟩ := inI_int hs
            obtain ⟨j, rfl, _, _⟩ := inI_int he
            refine ⟨shaped_int _, shaped_int _, ?_⟩
            rw [eqv_intD]
            by_cases hij : i = j
            · simpa [ruleB, hs, he, hij, eqv_intD] using q
            · simp only [hij, decide_false, Bool.false_eq_true, if_false]
              have fin : ∀ l h : D, (isNone l && isNone h) = false → Q (.bool (sideB l && sideB h)) → f_is_side [l] fun d => match d with
                  | PyData.bool c => if c = true then f_is_side [h] Q else Q (PyData.bool false)
                  | x => False := fun l h _ q => by
                refine is_side_ok l _ ?_
                dsimp only
                cases hl : sideB l with
                | false => simpa [hl] using q
                | true =>
                  simp only [if_true]
                  refine is_side_ok h _ ?_
                  simpa [hl] using q
              cases hl : isNone l with
              | false =>
                simp only [Bool.false_eq_true, if_false]
                refine fin l h (by rw [hl]; rfl) ?_
                simpa [ruleB, hs, he, hij, eqv_intD, hl] using q
              | true =>
                cases hh : isNone h with
                | true => simpa [ruleB, hs, he, hij, eqv_intD, hl, hh] using q
                | false =>
                  simp only [Bool.false_eq_true, if_false, if_true]
                  refine fin l h (by rw [hl, hh]; rfl) ?_
                  simpa [ruleB, hs, he, hij, eqv_intD, hl, hh] using q
    · have e4 : decide ((xs.length : Int) = 4) = false := decide_eq_false (by omega)
      simp only [e4, Bool.not_false, if_true]
      have z : ruleB (.tuple xs) size = false := by
        unfold ruleB
        split
        · rename_i z; cases z; exact absurd rfl hl
        · rfl
      rw [z] at q
      exact q
  | _ => simpa only [isTu, ruleB, Bool.not_false, if_true] using q
def netB (v : D) : Bool := match v with
  | .tuple [.int n, .tuple rs] => inI (.int n) 1 6 && decide (rs.length ≤ 12) && rs.all (ruleB · n)
  | _ => false
theorem is_net_ok (v : D) (Q : D → Prop) (q : Q (.bool (netB v))) : f_is_net [v] Q := by
  refine ⟨rfl, ?_⟩
  show t_is_net _ _
  unfold t_is_net
  walk_at "Z"
  simp only [isT_tuple]
  cases v with
  | tuple xs =>
    simp only [isTu, Bool.not_true, if_false, Bool.false_eq_true, reduceIte, shaped_int, true_and, eqv_intD]
    by_cases hl : xs.length = 2
    · match xs, hl with
      | [s, r], _ =>
        have e4 : decide ((([s, r] : List D).length : Int) = 2) = true := rfl
        simp only [e4, Bool.not_true, Bool.false_eq_true, if_false]
        simp only [List.length_cons, List.length_nil, Nat.reduceAdd, true_and]
        refine is_integer_ok s 1 6 _ ?_
        dsimp only
        cases hs : inI s 1 6 with
        | false =>
          simp only [Bool.not_false, if_true]
          have z : netB (.tuple [s, r]) = false := by
            unfold netB
            split
            · rename_i z; cases z; rw [hs]; rfl
            · rfl
          rw [z] at q; exact q
        | true =>
          simp only [Bool.not_true, Bool.false_eq_true, if_false]
          obtain ⟨n, rfl, _, _⟩ := inI_int hs
          cases r with
          | tuple rs =>
            simp only [isTu, Bool.not_true, if_false, Bool.false_eq_true, reduceIte]
            by_cases h12 : rs.length ≤ 12
            · have e12 : decide ((12 : Int) < (rs.length : Int)) = false := decide_eq_false (by omega)
              simp only [e12, Bool.false_eq_true, if_false]
              refine ⟨by omega, ?_⟩
              refine lc_map (fun d => PyData.bool (ruleB d n)) (fun d _ R hR => ?_) ?_
              · walk_at "Z"
                exact is_rule_ok d n R hR
              · unfold dBools
                dsimp only
                rw [allBool_map]
                dsimp only
                rw [List.all_map]
                simp only [netB, hs, decide_eq_true h12, Bool.true_and] at q
                exact q
            · have e12 : decide ((12 : Int) < (rs.length : Int)) = true := decide_eq_true (by omega)
              simp only [e12, if_true]
              simpa [netB, h12] using q
          | _ => simpa only [isTu, netB, Bool.not_false, if_true] using q
    · have e4 : decide ((xs.length : Int) = 2) = false := decide_eq_false (by omega)
      simp only [e4, Bool.not_false, if_true]
      have z : netB (.tuple xs) = false := by
        unfold netB
        split
        · rename_i z; cases z; exact absurd rfl hl
        · rfl
      rw [z] at q
      exact q
  | _ => simpa only [isTu, netB, Bool.not_false, if_true] using q
def timesB (v : D) (n : Int) : Bool := match v with
  | .tuple ts => decide ((ts.length : Int) = n) && ts.all fun t => inI t (-1000) 1000
  | _ => false
theorem is_times_ok (v : D) (n : Int) (x : D) (Q : D → Prop) (hn : n ≤ 1000) (q : Q (.bool (timesB v n))) : f_is_times [v, .tuple [.int n, x]] Q := by
  refine ⟨rfl, ?_⟩
  show t_is_times _ _
  unfold t_is_times
  walk_at "Z"
  simp only [isT_tuple]
  cases v with
  | tuple ts =>
    have a0 : atI [PyData.int n, x] 0 = some (.int n) := rfl
    simp only [isTu, Bool.not_true, if_false, Bool.false_eq_true, reduceIte, a0, shaped_int, true_and, eqv_intD]
    by_cases hl : (ts.length : Int) = n
    · simp only [hl, decide_true, Bool.not_true, Bool.false_eq_true, if_false]
      refine ⟨by omega, ?_⟩
      refine lc_map (fun d => PyData.bool (inI d (-1000) 1000)) (fun d _ R hR => ?_) ?_
      · walk_at "Z"
        exact is_integer_ok d (-1000) 1000 R hR
      · unfold dBools
        dsimp only
        rw [allBool_map]
        dsimp only
        rw [List.all_map]
        simp only [timesB, hl, decide_true, Bool.true_and] at q
        exact q
    · simp only [hl, decide_false, Bool.not_false, if_true]
      simpa only [timesB, hl, decide_false, Bool.false_and] using q
  | _ => simpa only [isTu, timesB, Bool.not_false, if_true] using q
def tv (ts : List Int) (i : Int) : Int := ts.getD i.toNat 0
def exHi (d : Int) (hi : D) : Int := match hi with | .int h => if h < d then d - h else 0 | _ => 0
def exLo (d : Int) (lo hi : D) : Int := match lo with | .int l => if d < l then d - l else exHi d hi | _ => exHi d hi
def excI (r : D) (ts : List Int) : Int := match r with | .tuple [.int s, .int e, lo, hi] => exLo (tv ts e - tv ts s) lo hi | _ => 0
theorem at_tv {ts : List Int} {i : Int} (h0 : 0 ≤ i) (h1 : i < ts.length) : atI (ts.map PyData.int) i = some (.int (tv ts i)) := by
  have hi : i.toNat < ts.length := by omega
  refine atI_int h0 ?_
  rw [List.getElem?_map]
  unfold tv
  rw [List.getElem?_eq_getElem hi, List.getD_eq_getElem?_getD, List.getElem?_eq_getElem hi]
  rfl
theorem rule_excess_ok {n far : Int} {r : D} {ts : List Int} {Q : D → Prop} (hr : RuleOk n far r) (ht : (ts.length : Int) = n) (q : Q (.int (excI r ts))) : f_rule_excess [r, .tuple (ts.map PyData.int)] Q := by
  obtain ⟨s, e, lo, hi, rfl, s0, s1, e0, e1, hne, hl, hh, hb⟩ := hr
  refine o_rule_excess ?_
  unfold t_rule_excess
  have as := at_tv (ts := ts) s0 (by omega)
  have ae := at_tv (ts := ts) e0 (by omega)
  refine seq_gen fun N hN => ?_
  walk_at "DZ"
  refine ⟨rfl, ?_⟩
  subst hN
  walk_at "DZ"
  rw [as, ae]
  dsimp only
  generalize hd : tv ts e - tv ts s = d at q ⊢
  have eq : excI (.tuple [.int s, .int e, lo, hi]) ts = exLo d lo hi := by show exLo (tv ts e - tv ts s) lo hi = _; rw [hd]
  rw [eq] at q
  rcases hl with rfl | ⟨l, rfl, _, _⟩ <;> rcases hh with rfl | ⟨h, rfl, _, _⟩
  · exact absurd ⟨rfl, rfl⟩ hb
  · simp only [isNone, Bool.not_true, Bool.not_false, Bool.false_eq_true, if_false, if_true, exLo, exHi] at q ⊢
    by_cases c : h < d <;> simpa [c] using q
  · simp only [isNone, Bool.not_true, Bool.not_false, Bool.false_eq_true, if_false, if_true, exLo, exHi] at q ⊢
    by_cases c : d < l <;> simpa [c] using q
  · simp only [isNone, Bool.not_true, Bool.not_false, Bool.false_eq_true, if_false, if_true, exLo, exHi] at q ⊢
    by_cases c : d < l
    · simpa [c] using q
    · by_cases c2 : h < d <;> simpa [c, c2] using q
theorem rule_good {n far : Int} {r : D} (hf : far ≤ 100) (h : RuleOk n far r) : ruleB r n = true := by
  obtain ⟨s, e, lo, hi, rfl, s0, s1, e0, e1, hne, hl, hh, hb⟩ := h
  have side : ∀ d, SideOk far d → sideB d = true := fun d hd => by
    rcases hd with rfl | ⟨i, rfl, i0, i1⟩
    · rfl
    · simp only [sideB, inI, decide_eq_true (show -100 ≤ i by omega), decide_eq_true (show i ≤ 100 by omega), Bool.and_true, Bool.or_true]
  have hn : (isNone lo && isNone hi) = false := by
    cases lo <;> cases hi <;> first | rfl | exact absurd ⟨rfl, rfl⟩ hb
  have d1 : decide (0 ≤ s) = true := decide_eq_true s0
  have d2 : decide (s ≤ n - 1) = true := decide_eq_true (by omega)
  have d3 : decide (0 ≤ e) = true := decide_eq_true e0
  have d4 : decide (e ≤ n - 1) = true := decide_eq_true (by omega)
  simp only [ruleB, inI, d1, d2, d3, d4, eqv_intD, decide_eq_false hne, hn, side lo hl, side hi hh, Bool.and_true, Bool.not_false]
theorem net_good {n far : Int} {rs : List D} (hf : far ≤ 100) (h0 : 1 ≤ n) (h1 : n ≤ 6) (h2 : rs.length ≤ 12) (h3 : ∀ r ∈ rs, RuleOk n far r) : netB (.tuple [.int n, .tuple rs]) = true := by
  simp only [netB, inI, decide_eq_true h0, decide_eq_true h1, decide_eq_true h2, Bool.and_true, Bool.true_and]
  exact List.all_eq_true.mpr fun r hr => rule_good hf (h3 r hr)
theorem inI_good {i l g : Int} (h0 : l ≤ i) (h1 : i ≤ g) : inI (.int i) l g = true := by
  simp only [inI, decide_eq_true h0, decide_eq_true h1, Bool.and_true]
theorem times_good {n : Int} {ts : List Int} (h : (ts.length : Int) = n) (ht : ∀ t ∈ ts, -1000 ≤ t ∧ t ≤ 1000) : timesB (.tuple (ts.map PyData.int)) n = true := by
  simp only [timesB, List.length_map, h, decide_true, Bool.true_and]
  refine List.all_eq_true.mpr fun t h => ?_
  obtain ⟨i, hi, rfl⟩ := List.mem_map.mp h
  exact inI_good (ht i hi).1 (ht i hi).2
theorem check_net_ok {v : D} {Q : D → Prop} (h : netB v = true) (q : Q .none) : f_check_net [v] Q := by
  refine o_check_net ?_
  unfold t_check_net
  walk_at "DZ"
  refine is_net_ok _ _ ?_
  rw [h]
  exact q
theorem check_times_ok {v x : D} {n : Int} {Q : D → Prop} (hn : n ≤ 1000) (h : timesB v n = true) (q : Q .none) : f_check_times [.tuple [.int n, x], v] Q := by
  refine o_check_times ?_
  unfold t_check_times
  walk_at "DZ"
  refine is_times_ok _ n _ _ hn ?_
  rw [h]
  exact q
/-- a net and times that fit -/
structure NT (n far : Int) (rs : List D) (ts : List Int) : Prop where
  n0 : 1 ≤ n
  n1 : n ≤ 6
  fa : far ≤ 100
  rl : rs.length ≤ 12
  ro : ∀ r ∈ rs, RuleOk n far r
  tl : (ts.length : Int) = n
  tb : ∀ t ∈ ts, -1000 ≤ t ∧ t ≤ 1000
theorem rule_excesses_ok {n far : Int} {rs : List D} {ts : List Int} {Q : D → Prop} (h : NT n far rs ts) (q : Q (.tuple ((rs.map (excI · ts)).map PyData.int))) : f_rule_excesses [.tuple [.int n, .tuple rs], .tuple (ts.map PyData.int)] Q := by
  refine o_rule_excesses ?_
  unfold t_rule_excesses
  walk_at "DZ"
  have a1 : atI [PyData.int n, PyData.tuple rs] 1 = some (.tuple rs) := rfl
  rw [a1]
  refine ⟨by have := h.rl; omega, lc_map (fun r => .int (excI r ts)) (fun r hr R hR => ?_) ?_⟩
  · walk_at "DZ"
    exact rule_excess_ok (h.ro r hr) h.tl hR
  · rw [List.map_map] at q
    exact q
theorem excess_ok {n far : Int} {rs : List D} {ts : List Int} {Q : D → Prop} (h : NT n far rs ts) (q : Q (.tuple ((rs.map (excI · ts)).map PyData.int))) : f_excess [.tuple [.int n, .tuple rs], .tuple (ts.map PyData.int)] Q := by
  refine o_excess ?_
  unfold t_excess
  walk_at "DZ"
  refine check_net_ok (net_good h.fa h.n0 h.n1 h.rl h.ro) ?_
  refine check_times_ok (by have := h.n1; omega) (times_good h.tl h.tb) ?_
  exact rule_excesses_ok h q
/-- the first that is not 0 -/
def fb : Nat → List Int → D
  | _, [] => .none
  | k, e :: es => if e ≠ 0 then .int (k : Nat) else fb (k + 1) es
theorem fb_at : ∀ {es : List Int} {i k : Nat} {e : Int}, (∀ j x, j < i → es[j]? = some x → x = 0) → es[i]? = some e → e ≠ 0 → fb k es = .int ((k + i : Nat) : Int)
  | [], _, _, _, _, h, _ => by simp at h
  | x :: es, 0, k, e, _, h, h2 => by
    simp at h
    subst h
    unfold fb
    rw [if_pos h2]
    rfl
  | x :: es, i + 1, k, e, h1, h, h2 => by
    have hx : x = 0 := h1 0 x (Nat.succ_pos _) rfl
    have := fb_at (es := es) (i := i) (k := k + 1) (fun j y hj hy => h1 (j + 1) y (Nat.succ_lt_succ hj) (by simpa using hy)) (by simpa using h) h2
    unfold fb
    rw [if_neg (fun z => z hx), this]
    congr 2
    omega
theorem fb_none : ∀ {es : List Int} {k : Nat}, (∀ x ∈ es, x = 0) → fb k es = .none
  | [], _, _ => rfl
  | x :: es, k, h => by
    unfold fb
    rw [if_neg (fun z => z (h x List.mem_cons_self)), fb_none fun y hy => h y (List.mem_cons_of_mem _ hy)]
theorem first_broken_ok {n far : Int} {rs : List D} {ts : List Int} {Q : D → Prop} (h : NT n far rs ts) (q : Q (fb 0 (rs.map (excI · ts)))) : f_first_broken [.tuple [.int n, .tuple rs], .tuple (ts.map PyData.int)] Q := by
  refine o_first_broken ?_
  unfold t_first_broken
  refine seq_gen fun N hN => ?_
  unfold dFor
  walk_at "DZ"
  refine excess_ok h ?_
  dsimp only
  generalize he : rs.map (excI · ts) = es at q ⊢
  refine for_inv (fun i env => (∃ a b : Option Sl, env = [some (.dat (.tuple [.int n, .tuple rs])), some (.dat (.tuple (ts.map PyData.int))), a, b]) ∧ ∀ j x, j < i → es[j]? = some x → x = 0) (fun i d env hd hi M hM => ?_) (fun env hi => ?_) ⟨⟨none, none, rfl⟩, fun j x hj => absurd hj (Nat.not_lt_zero _)⟩
  · obtain ⟨⟨a, b, rfl⟩, hz⟩ := hi
    unfold dEnum at hd
    rw [List.getElem?_map] at hd
    have hi : i < es.length := by
      apply Classical.byContradiction
      intro hn
      rw [List.getElem?_eq_none (by rw [List.length_range, List.length_map]; omega)] at hd
      cases hd
    rw [List.getElem?_range (by rw [List.length_map]; exact hi)] at hd
    have ei : es[i]? = some es[i] := List.getElem?_eq_getElem hi
    have hd : d = .tuple [.int (i : Nat), .int es[i]] := by
      have := (Option.some.inj hd).symm
      rw [this]
      dsimp only
      rw [List.getD_eq_getElem?_getD, List.getElem?_map, ei]
      rfl
    subst hd
    walk_at "DZ"
    refine ⟨rfl, shaped_int _, shaped_int _, ?_⟩
    rw [eqv_intD]
    by_cases c : es[i] = 0
    · simp only [c, decide_true, Bool.not_true, Bool.false_eq_true, if_false]
      refine hM _ ⟨⟨_, _, rfl⟩, fun j x hj hx => ?_⟩
      by_cases hji : j = i
      · subst hji
        rw [ei] at hx
        cases hx
        exact c
      · exact hz j x (by omega) hx
    · simp only [c, decide_false, Bool.not_false, if_true]
      have z := fb_at (k := 0) hz ei c
      rw [z, Nat.zero_add] at q
      exact q
  · obtain ⟨⟨a, b, rfl⟩, hz⟩ := hi
    subst hN
    walk_at "DZ"
    rw [fb_none (es := es) (k := 0) fun x hx => ?_] at q
    · exact q
    · obtain ⟨j, hj, rfl⟩ := List.getElem_of_mem hx
      exact hz j _ (by unfold dEnum; rw [List.length_map, List.length_range, List.length_map]; exact hj) (List.getElem?_eq_getElem hj)
theorem keeps_ok {n far : Int} {rs : List D} {ts : List Int} {Q : D → Prop} (h : NT n far rs ts) (q : Q (.bool (isNone (fb 0 (rs.map (excI · ts)))))) : f_keeps [.tuple [.int n, .tuple rs], .tuple (ts.map PyData.int)] Q := by
  refine o_keeps ?_
  unfold t_keeps
  walk_at "DZ"
  exact first_broken_ok h q
structure Ed where
  k : Nat
  d : Str
  s : Int
  e : Int
  w : Int
def eV (x : Ed) : D := .tuple [.int (x.k : Nat), .str x.d]
def eD (x : Ed) : D := .tuple [eV x, .int x.s, .int x.e, .int x.w]
def hiE (k : Nat) (s e : Int) : D → List Ed | .int h => [⟨k, "high", s, e, h⟩] | _ => []
def loE (k : Nat) (s e : Int) : D → List Ed | .int l => [⟨k, "low", e, s, -l⟩] | _ => []
def edR (k : Nat) : D → List Ed | .tuple [.int s, .int e, lo, hi] => hiE k s e hi ++ loE k s e lo | _ => []
def edN (rs : List D) (n : Nat) : List Ed := (List.range n).flatMap fun k => edR k (rs.getD k .none)
theorem edN_succ (rs : List D) (n : Nat) : edN rs (n + 1) = edN rs n ++ edR n (rs.getD n .none) := by
  unfold edN
  rw [List.range_succ, List.flatMap_append, List.flatMap_singleton]
theorem edR_le (k : Nat) (r : D) : (edR k r).length ≤ 2 := by
  unfold edR
  split
  · rename_i s e lo hi
    have h1 : (hiE k s e hi).length ≤ 1 := by unfold hiE; split <;> simp
    have h2 : (loE k s e lo).length ≤ 1 := by unfold loE; split <;> simp
    rw [List.length_append]
    omega
  · simp
theorem edN_le (rs : List D) : ∀ n : Nat, (edN rs n).length ≤ 2 * n
  | 0 => by simp [edN]
  | n + 1 => by
    rw [edN_succ, List.length_append]
    have := edN_le rs n
    have := edR_le n (rs.getD n .none)
    omega
def crH (s e : Int) : D → D | .int h => .tuple [.int s, .int e, .int h] | _ => .none
def crL (s e : Int) : D → D | .int l => .tuple [.int e, .int s, .int (-l)] | _ => .none
theorem sides_ne : PyData.eqv (.str "high") (.str "high") = true ∧ PyData.eqv (.str "low") (.str "low") = true ∧ PyData.eqv (.str "high") (.str "low") = false ∧ PyData.eqv (.str "low") (.str "high") = false := by decide
theorem sides_lay : PyData.canLay0 (.str "high") = true ∧ PyData.canLay0 (.str "low") = true := by first | exact ⟨rfl, rfl⟩ | decide +kernel
theorem sides_sh : SeqAt.shaped (.str "high") = true ∧ SeqAt.shaped (.str "low") = true := ⟨shaped_str sides_lay.1, shaped_str sides_lay.2⟩
theorem edge_course_hi {n s e far : Int} {rs : List D} {k : Nat} {lo hi : D} {Q : D → Prop} (hr : rs[k]? = some (.tuple [.int s, .int e, lo, hi])) (sh : SideOk far hi) (sl : SideOk far lo) (q : Q (crH s e hi)) : f_edge_course [.tuple [.int n, .tuple rs], .tuple [.int (k : Nat), .str "high"]] Q := by
  refine o_edge_course ?_
  unfold t_edge_course
  have a1 : atI [PyData.int n, PyData.tuple rs] 1 = some (.tuple rs) := rfl
  have hk : k < rs.length := by
    apply Classical.byContradiction
    intro hn
    rw [List.getElem?_eq_none (by omega)] at hr
    cases hr
  have ar : atI rs (k : Int) = some (.tuple [.int s, .int e, lo, hi]) := atI_nat hr
  have hin : inI (.int (k : Nat)) 0 ((rs.length : Int) - 1) = true := inI_good (by omega) (by omega)
  walk_at "DZ"
  simp only [isT_tuple, isTu, Bool.not_true, Bool.false_eq_true, if_false]
  refine ⟨shaped_int _, shaped_int _, ?_⟩
  rw [eqv_intD]
  rw [if_neg (by decide)]
  refine ⟨trivial, ?_⟩
  rw [a1]
  dsimp only
  refine is_integer_ok _ _ _ _ ?_
  rw [hin]
  dsimp only
  simp only [isT_str, isS, Bool.not_true, Bool.false_eq_true, if_false]
  rw [ar]
  dsimp only
  refine ⟨rfl, sides_sh.1, sides_sh.1, ?_⟩
  simp only [sides_ne.1, sides_ne.2.2.1, if_true, Bool.false_eq_true, if_false]
  rcases sh with rfl | ⟨h, rfl, _, _⟩
  · simp only [isNone, Bool.not_true, Bool.false_eq_true, if_false]
    exact ⟨sides_sh.1, sides_sh.2, q⟩
  · exact q
theorem edge_course_lo {n s e far : Int} {rs : List D} {k : Nat} {lo hi : D} {Q : D → Prop} (hr : rs[k]? = some (.tuple [.int s, .int e, lo, hi])) (sh : SideOk far hi) (sl : SideOk far lo) (q : Q (crL s e lo)) : f_edge_course [.tuple [.int n, .tuple rs], .tuple [.int (k : Nat), .str "low"]] Q := by
  refine o_edge_course ?_
  unfold t_edge_course
  have a1 : atI [PyData.int n, PyData.tuple rs] 1 = some (.tuple rs) := rfl
  have hk : k < rs.length := by
    apply Classical.byContradiction
    intro hn
    rw [List.getElem?_eq_none (by omega)] at hr
    cases hr
  have ar : atI rs (k : Int) = some (.tuple [.int s, .int e, lo, hi]) := atI_nat hr
  have hin : inI (.int (k : Nat)) 0 ((rs.length : Int) - 1) = true := inI_good (by omega) (by omega)
  walk_at "DZ"
  simp only [isT_tuple, isTu, Bool.not_true, Bool.false_eq_true, if_false]
  refine ⟨shaped_int _, shaped_int _, ?_⟩
  rw [eqv_intD]
  rw [if_neg (by decide)]
  refine ⟨trivial, ?_⟩
  rw [a1]
  dsimp only
  refine is_integer_ok _ _ _ _ ?_
  rw [hin]
  dsimp only
  simp only [isT_str, isS, Bool.not_true, Bool.false_eq_true, if_false]
  rw [ar]
  dsimp only
  refine ⟨rfl, sides_sh.2, sides_sh.1, ?_⟩
  simp only [sides_ne.2.1, sides_ne.2.2.2, if_true, Bool.false_eq_true, if_false]
  refine ⟨sides_sh.2, sides_sh.2, ?_⟩
  rcases sl with rfl | ⟨h, rfl, _, _⟩
  · exact q
  · exact q
theorem getD_some {α : Type} {xs : List α} {k : Nat} {x y : α} (h : xs[k]? = some x) : xs.getD k y = x := by
  rw [List.getD_eq_getElem?_getD, h]
  rfl
theorem mem_crH {k : Nat} {s e : Int} {hi : D} {far : Int} (sh : SideOk far hi) : (crH s e hi = .none ∧ hiE k s e hi = []) ∨ ∃ h, crH s e hi = .tuple [.int s, .int e, .int h] ∧ hiE k s e hi = [⟨k, "high", s, e, h⟩] := by
  rcases sh with rfl | ⟨h, rfl, _, _⟩
  · exact .inl ⟨rfl, rfl⟩
  · exact .inr ⟨h, rfl, rfl⟩
theorem mem_crL {k : Nat} {s e : Int} {lo : D} {far : Int} (sh : SideOk far lo) : (crL s e lo = .none ∧ loE k s e lo = []) ∨ ∃ h, crL s e lo = .tuple [.int e, .int s, .int h] ∧ loE k s e lo = [⟨k, "low", e, s, h⟩] := by
  rcases sh with rfl | ⟨h, rfl, _, _⟩
  · exact .inl ⟨rfl, rfl⟩
  · exact .inr ⟨-h, rfl, rfl⟩
/-- what a drawn net and one of its rules are -/
structure NR (n far : Int) (rs : List D) : Prop where
  n0 : 1 ≤ n
  n1 : n ≤ 6
  fa : far ≤ 100
  rl : rs.length ≤ 12
  ro : ∀ r ∈ rs, RuleOk n far r
theorem all_edges_ok {n far : Int} {rs : List D} {Q : D → Prop} (h : NR n far rs) (q : Q (.tuple ((edN rs rs.length).map eD))) : f_all_edges [.tuple [.int n, .tuple rs]] Q := by
  have hl := edN_le rs
  have h12 := h.rl
  refine o_all_edges ?_
  unfold t_all_edges
  refine seq_gen fun N hN => ?_
  walk_at "DZ"
  subst hN
  refine seq_gen fun N hN => ?_
  have a1 : atI [PyData.int n, PyData.tuple rs] 1 = some (.tuple rs) := rfl
  unfold dFor
  walk_at "DZ"
  rw [a1]
  dsimp only
  refine ⟨by omega, by omega, ?_⟩
  rw [Int.toNat_natCast]
  refine for_inv (fun i env => ∃ a b c d e f : Option Sl, env = [some (.dat (.tuple [.int n, .tuple rs])), some (.own ((edN rs i).map eD)), a, b, c, d, e, f]) (fun i d env hd hi M hM => ?_) (fun env hi => ?_) ⟨_, _, _, _, _, _, rfl⟩
  · obtain ⟨a, b, c, d', e, f, rfl⟩ := hi
    have hi : i < rs.length := by
      apply Classical.byContradiction
      intro hn
      rw [List.getElem?_eq_none (by rw [dRange_length]; omega)] at hd
      cases hd
    obtain rfl : d = .int (i : Nat) := by
      unfold dRange at hd
      rw [List.getElem?_map, List.getElem?_range hi, Option.map_some, Int.zero_add] at hd
      exact (Option.some.inj hd).symm
    have ei : rs[i]? = some rs[i] := List.getElem?_eq_getElem hi
    have hr := h.ro rs[i] (List.getElem_mem hi)
    obtain ⟨s, e', lo, hi', hre, s0, s1, e0, e1, hne, sl, sh, hb⟩ := hr
    rw [hre] at ei
    have es : edN rs (i + 1) = edN rs i ++ (hiE i s e' hi' ++ loE i s e' lo) := by
      rw [edN_succ, getD_some ei]
      rfl
    walk_at "DZ"
    have hle := hl i
    refine edge_course_hi ei sh sl ?_
    rcases mem_crH (k := i) (s := s) (e := e') sh with ⟨z1, z2⟩ | ⟨w1, z1, z2⟩
    · rw [z1]
      simp only [isNone, Bool.not_true, Bool.false_eq_true, if_false]
      refine edge_course_lo ei sh sl ?_
      rcases mem_crL (k := i) (s := s) (e := e') sl with ⟨y1, y2⟩ | ⟨w2, y1, y2⟩
      · rw [y1]
        simp only [Bool.not_true, Bool.false_eq_true, if_false]
        have el : (edN rs i).map eD = (edN rs (i + 1)).map eD := by rw [es, z2, y2, List.append_nil, List.append_nil]
        rw [el]
        exact hM _ ⟨_, _, _, _, _, _, rfl⟩
      · rw [y1]
        simp only [Bool.not_false, if_true]
        have el : (edN rs i).map eD ++ [eD ⟨i, "low", e', s, w2⟩] = (edN rs (i + 1)).map eD := by rw [es, z2, y2, List.map_append]; rfl
        refine ⟨rfl, by rw [List.length_map]; omega, ?_⟩
        exact hM _ ⟨_, _, _, _, _, _, by rw [← el]; rfl⟩
    · rw [z1]
      simp only [isNone, Bool.not_false, if_true]
      refine ⟨rfl, by rw [List.length_map]; omega, ?_⟩
      refine edge_course_lo ei sh sl ?_
      rcases mem_crL (k := i) (s := s) (e := e') sl with ⟨y1, y2⟩ | ⟨w2, y1, y2⟩
      · rw [y1]
        simp only [Bool.not_true, Bool.false_eq_true, if_false]
        have el : (edN rs i).map eD ++ [eD ⟨i, "high", s, e', w1⟩] = (edN rs (i + 1)).map eD := by rw [es, z2, y2, List.map_append]; rfl
        exact hM _ ⟨_, _, _, _, _, _, by rw [← el]; rfl⟩
      · rw [y1]
        simp only [Bool.not_false, if_true]
        have el : (edN rs i).map eD ++ [eD ⟨i, "high", s, e', w1⟩] ++ [eD ⟨i, "low", e', s, w2⟩] = (edN rs (i + 1)).map eD := by rw [es, z2, y2, List.map_append, List.append_assoc]; rfl
        refine ⟨rfl, by rw [List.length_append, List.length_map]; show _ + 1 < _; omega, ?_⟩
        exact hM _ ⟨_, _, _, _, _, _, by rw [← el]; rfl⟩
  · obtain ⟨a, b, c, d, e, f, rfl⟩ := hi
    subst hN
    walk_at "DZ"
    rw [dRange_length]
    exact q
theorem edges_ok {n far : Int} {rs : List D} {Q : D → Prop} (h : NR n far rs) (q : Q (.tuple ((edN rs rs.length).map eD))) : f_edges [.tuple [.int n, .tuple rs]] Q := by
  refine o_edges ?_
  unfold t_edges
  walk_at "DZ"
  refine check_net_ok (net_good h.fa h.n0 h.n1 h.rl h.ro) ?_
  exact all_edges_ok h q
theorem L_edges_ok {n far : Int} {rs : List D} {Q : D → Prop} (h : NR n far rs) (q : Q (.list ((edN rs rs.length).map eD))) : f_L_edges [.tuple [.int n, .tuple rs]] Q := by
  have hl := edN_le rs
  have h12 := h.rl
  refine o_L_edges ?_
  unfold t_L_edges
  refine seq_gen fun N hN => ?_
  walk_at "DZ"
  subst hN
  refine seq_gen fun N hN => ?_
  have a1 : atI [PyData.int n, PyData.tuple rs] 1 = some (.tuple rs) := rfl
  unfold dFor
  walk_at "DZ"
  rw [a1]
  dsimp only
  refine ⟨by omega, by omega, ?_⟩
  rw [Int.toNat_natCast]
  refine for_inv (fun i env => ∃ a b c d e : Option Sl, env = [some (.dat (.tuple [.int n, .tuple rs])), some (.own ((edN rs i).map eD)), a, b, c, d, e]) (fun i d env hd hi M hM => ?_) (fun env hi => ?_) ⟨_, _, _, _, _, rfl⟩
  · obtain ⟨a, b, c, d', e, rfl⟩ := hi
    have hi : i < rs.length := by
      apply Classical.byContradiction
      intro hn
      rw [List.getElem?_eq_none (by rw [dRange_length]; omega)] at hd
      cases hd
    obtain rfl : d = .int (i : Nat) := by
      unfold dRange at hd
      rw [List.getElem?_map, List.getElem?_range hi, Option.map_some, Int.zero_add] at hd
      exact (Option.some.inj hd).symm
    have ei : rs[i]? = some rs[i] := List.getElem?_eq_getElem hi
    have hr := h.ro rs[i] (List.getElem_mem hi)
    obtain ⟨s, e', lo, hi', hre, s0, s1, e0, e1, hne, sl, sh, hb⟩ := hr
    rw [hre] at ei
    have es : edN rs (i + 1) = edN rs i ++ (hiE i s e' hi' ++ loE i s e' lo) := by
      rw [edN_succ, getD_some ei]
      rfl
    have hle := hl i
    have ar : atI rs (i : Int) = some (.tuple [.int s, .int e', lo, hi']) := atI_nat ei
    walk_at "DZ"
    rw [a1]
    dsimp only
    rw [ar]
    dsimp only
    refine ⟨rfl, ?_⟩
    have hh : (List.replicate (if (!isNone hi') = true then (1 : Int) else 0).toNat [PyData.tuple [PyData.tuple [PyData.int (i : Nat), PyData.str "high"], PyData.int s, PyData.int e', hi']]).flatten = (hiE i s e' hi').map eD := by
      rcases sh with rfl | ⟨h, rfl, _, _⟩
      · rfl
      · rfl
    have hb1 : (-1000000 ≤ if (!isNone hi') = true then (1 : Int) else 0) ∧ (if (!isNone hi') = true then (1 : Int) else 0) ≤ 1000000 ∧ (0 + 1) * (if (!isNone hi') = true then (1 : Int) else 0).toNat ≤ 1000000 := by
      cases isNone hi' <;> decide
    have h1 : (hiE i s e' hi').length ≤ 1 := by unfold hiE; split <;> simp
    refine ⟨hb1.1, hb1.2.1, hb1.2.2, ?_⟩
    rw [hh]
    refine ⟨by rw [List.length_map, List.length_map]; omega, ?_⟩
    rcases sl with rfl | ⟨l, rfl, _, _⟩
    · simp only [isNone, Bool.not_true, Bool.false_eq_true, if_false]
      have el : (edN rs i).map eD ++ (hiE i s e' hi').map eD ++ [] = (edN rs (i + 1)).map eD := by rw [es, List.append_nil, ← List.map_append]; show _ = List.map eD (_ ++ (_ ++ [])); rw [List.append_nil]
      rw [el]
      exact ⟨by rw [List.length_append, List.length_map, List.length_map]; omega, hM _ ⟨_, _, _, _, _, rfl⟩⟩
    · simp only [isNone, Bool.not_false, if_true]
      have el : (edN rs i).map eD ++ (hiE i s e' hi').map eD ++ [eD ⟨i, "low", e', s, -l⟩] = (edN rs (i + 1)).map eD := by rw [es, List.map_append, List.map_append, List.append_assoc]; rfl
      refine ⟨by rw [List.length_append, List.length_map, List.length_map]; omega, hM _ ⟨_, _, _, _, _, by rw [← el, Int.zero_sub]; rfl⟩⟩
  · obtain ⟨a, b, c, d, e, rfl⟩ := hi
    subst hN
    walk_at "DZ"
    rw [dRange_length]
    exact q
/-- an edge of a net -/
theorem mem_ed {n far : Int} {rs : List D} {x : Ed} (h : ∀ r ∈ rs, RuleOk n far r) (hx : x ∈ edN rs rs.length) :
    ∃ s e lo hi, rs[x.k]? = some (.tuple [.int s, .int e, lo, hi]) ∧ 0 ≤ s ∧ s < n ∧ 0 ≤ e ∧ e < n ∧ SideOk far lo ∧ SideOk far hi ∧
      ((x = ⟨x.k, "high", s, e, x.w⟩ ∧ hi = .int x.w) ∨ (x = ⟨x.k, "low", e, s, x.w⟩ ∧ lo = .int (-x.w))) := by
  unfold edN at hx
  obtain ⟨k, hk, hx⟩ := List.mem_flatMap.mp hx
  have hk := List.mem_range.mp hk
  have ei : rs[k]? = some rs[k] := List.getElem?_eq_getElem hk
  obtain ⟨s, e, lo, hi, hre, s0, s1, e0, e1, hne, sl, sh, hb⟩ := h rs[k] (List.getElem_mem hk)
  rw [hre] at ei
  rw [getD_some ei] at hx
  have hx : x ∈ hiE k s e hi ++ loE k s e lo := hx
  rcases List.mem_append.mp hx with hx | hx
  · rcases sh with rfl | ⟨w, rfl, w0, w1⟩
    · exact absurd hx List.not_mem_nil
    · obtain rfl := List.mem_singleton.mp hx
      exact ⟨s, e, lo, _, ei, s0, s1, e0, e1, sl, .inr ⟨w, rfl, w0, w1⟩, .inl ⟨rfl, rfl⟩⟩
  · rcases sl with rfl | ⟨w, rfl, w0, w1⟩
    · exact absurd hx List.not_mem_nil
    · obtain rfl := List.mem_singleton.mp hx
      refine ⟨s, e, _, hi, ei, s0, s1, e0, e1, .inr ⟨w, rfl, w0, w1⟩, sh, .inr ⟨rfl, ?_⟩⟩
      show PyData.int w = PyData.int (- -w)
      rw [Int.neg_neg]
theorem edge_course_ok {n far : Int} {rs : List D} {x : Ed} {Q : D → Prop} (h : NR n far rs) (hx : x ∈ edN rs rs.length) (q : Q (.tuple [.int x.s, .int x.e, .int x.w])) : f_edge_course [.tuple [.int n, .tuple rs], eV x] Q := by
  obtain ⟨s, e, lo, hi, hr, s0, s1, e0, e1, sl, sh, ⟨hx, rfl⟩ | ⟨hx, rfl⟩⟩ := mem_ed h.ro hx
  · rw [hx] at q ⊢
    exact edge_course_hi hr sh sl q
  · rw [hx] at q ⊢
    refine edge_course_lo hr sh sl ?_
    show Q (.tuple [_, _, .int (- -x.w)])
    rw [Int.neg_neg]
    exact q
theorem ed_uniq {n far : Int} {rs : List D} {x y : Ed} (h : ∀ r ∈ rs, RuleOk n far r) (hx : x ∈ edN rs rs.length) (hy : y ∈ edN rs rs.length) (hk : x.k = y.k) (hd : x.d = y.d) : x = y := by
  obtain ⟨s, e, lo, hi, hr, s0, s1, e0, e1, sl, sh, hh⟩ := mem_ed h hx
  obtain ⟨s', e', lo', hi', hr', s0', s1', e0', e1', sl', sh', hh'⟩ := mem_ed h hy
  rw [hk, hr'] at hr
  injection hr with hr
  injection hr with hr
  simp only [List.cons.injEq, PyData.int.injEq, and_true] at hr
  obtain ⟨rfl, rfl, rfl, rfl⟩ := hr
  have hne : (("high" : Str) : Str) ≠ ("low" : Str) := by decide
  obtain ⟨xk, xd, xs, xe, xw⟩ := x
  obtain ⟨yk, yd, ys, ye, yw⟩ := y
  simp only [Ed.mk.injEq, true_and, and_true] at hh hh' hk hd ⊢
  subst hk
  subst hd
  rcases hh with ⟨⟨hd, rfl, rfl⟩, rfl⟩ | ⟨⟨hd, rfl, rfl⟩, rfl⟩ <;> rcases hh' with ⟨⟨hd', rfl, rfl⟩, hw⟩ | ⟨⟨hd', rfl, rfl⟩, hw⟩
  · injection hw with hw
    exact ⟨rfl, rfl, rfl, rfl, hw⟩
  · exact absurd (hd.symm.trans hd') hne
  · exact absurd (hd'.symm.trans hd) hne
  · injection hw with hw
    exact ⟨rfl, rfl, rfl, rfl, by omega⟩
def pth : Int → List Ed → Option Int
  | v, [] => some v
  | v, x :: xs => if x.s = v then pth x.e xs else none
def oI : Option Int → D | some i => .int i | none => .none
theorem pth_cons (v : Int) (x : Ed) (xs : List Ed) : pth v (x :: xs) = if x.s = v then pth x.e xs else none := rfl
theorem pth_append {t : Int} {y : Ed} (hy : y.s = t) : ∀ {s : Int} {xs : List Ed}, pth s xs = some t → pth s (xs ++ [y]) = some y.e
  | s, [], h => by
    have h : s = t := Option.some.inj h
    show (if y.s = s then some y.e else none) = some y.e
    rw [if_pos (hy.trans h.symm)]
  | s, x :: xs, h => by
    unfold pth at h
    show (if x.s = s then pth x.e (xs ++ [y]) else none) = some y.e
    by_cases c : x.s = s
    · rw [if_pos c] at h ⊢
      exact pth_append hy h
    · rw [if_neg c] at h
      cases h
theorem walk_end_ok {n far v : Int} {rs : List D} {xs : List Ed} {Q : D → Prop} (h : NR n far rs) (hx : ∀ x ∈ xs, x ∈ edN rs rs.length) (q : Q (oI (pth v xs))) : f_walk_end [.tuple [.int n, .tuple rs], .int v, .tuple (xs.map eV)] Q := by
  refine o_walk_end ?_
  unfold t_walk_end
  refine seq_gen fun N hN => ?_
  walk_at "DZ"
  simp only [isT_tuple, isTu, Bool.not_true, Bool.false_eq_true, if_false]
  subst hN
  refine seq_gen fun N hN => ?_
  walk_at "DZ"
  subst hN
  refine seq_gen fun N hN => ?_
  unfold dFor
  walk_at "DZ"
  refine for_inv (fun i env => ∃ (p : Int) (a b : Option Sl), env = [some (.dat (.tuple [.int n, .tuple rs])), some (.dat (.int v)), some (.dat (.tuple (xs.map eV))), some (.dat (.int p)), a, b] ∧ pth v xs = pth p (xs.drop i)) (fun i d env hd hi M hM => ?_) (fun env hi => ?_) ⟨v, none, none, rfl, rfl⟩
  · obtain ⟨p, a, b, rfl, hp⟩ := hi
    rw [List.getElem?_map] at hd
    cases hxi : xs[i]? with
    | none => rw [hxi] at hd; cases hd
    | some x =>
      rw [hxi] at hd
      obtain rfl := Option.some.inj hd
      have hlt : i < xs.length := by
        apply Classical.byContradiction
        intro hn
        rw [List.getElem?_eq_none (by omega)] at hxi
        cases hxi
      have hxe : xs[i] = x := by
        rw [List.getElem?_eq_getElem hlt] at hxi
        exact Option.some.inj hxi
      have hm : x ∈ xs := hxe ▸ List.getElem_mem hlt
      rw [List.drop_eq_getElem_cons hlt, hxe] at hp
      walk_at "DZ"
      refine edge_course_ok h (hx x hm) ?_
      have b0 : atI [PyData.int x.s, PyData.int x.e, PyData.int x.w] 0 = some (.int x.s) := rfl
      have b1 : atI [PyData.int x.s, PyData.int x.e, PyData.int x.w] 1 = some (.int x.e) := rfl
      dsimp only
      rw [b0, b1]
      dsimp only
      rw [if_neg (fun z => nomatch z)]
      refine ⟨shaped_int _, shaped_int _, ?_⟩
      rw [eqv_intD]
      rw [pth_cons] at hp
      by_cases c : x.s = p
      · rw [if_pos c] at hp
        simp only [c, decide_true, Bool.not_true, Bool.false_eq_true, if_false]
        exact hM _ ⟨_, _, _, rfl, hp⟩
      · rw [if_neg c] at hp
        rw [hp] at q
        simp only [c, decide_false, Bool.not_false, if_true]
        exact q
  · obtain ⟨p, a, b, rfl, hp⟩ := hi
    subst hN
    walk_at "DZ"
    rw [List.length_map, List.drop_length] at hp
    rw [hp] at q
    exact q
theorem eqv_eV (x y : Ed) : PyData.eqv (eV x) (eV y) = true ↔ x.k = y.k ∧ x.d = y.d := by
  show (((x.k : Int) == (y.k : Int)) && ((x.d == y.d) && true)) = true ↔ _
  rw [Bool.and_eq_true, Bool.and_true, beq_iff_eq, beq_iff_eq]
  constructor
  · rintro ⟨h1, h2⟩
    exact ⟨by omega, h2⟩
  · rintro ⟨h1, h2⟩
    exact ⟨by omega, h2⟩
def kpE (v : D) (p : Int) (d : D) : Bool := match d with | .tuple [w, .int s, _, _] => PyData.eqv w v && decide (s = p) | _ => false
def fE (d : D) : D := match d with | .tuple [_, s, e, _] => .tuple [s, e] | _ => .none
/-- a drawn walk -/
def WalkOk (rs : List D) (s : Int) (m : Nat) (y : D) : Prop := ∃ (xs : List Ed) (t : Int), y = .tuple (xs.map eV) ∧ xs.length ≤ m ∧ (∀ x ∈ xs, x ∈ edN rs rs.length) ∧ pth s xs = some t
def kpN (p : Int) (d : D) : Bool := match d with | .tuple [_, .int s, _, _] => decide (s = p) | _ => false
def fN (d : D) : D := match d with | .tuple [v, _, e, _] => .tuple [v, e] | _ => .none
theorem drawn_walk_ok {n far s : Int} {rs : List D} {m : Nat} {Q : D → Prop} (h : NR n far rs) (hm100 : m ≤ 100) (q : ∀ y, WalkOk rs s m y → Q y) : f_L_drawn_walk [.tuple [.int n, .tuple rs], .int s, .int (m : Nat)] Q := by
  have hl := edN_le rs rs.length
  have h12 := h.rl
  refine o_L_drawn_walk ?_
  unfold t_L_drawn_walk
  refine seq_gen fun N hN => ?_
  walk_at "DZ"
  subst hN
  refine seq_gen fun N hN => ?_
  walk_at "DZ"
  subst hN
  refine seq_gen fun N hN => ?_
  unfold dFor
  walk_at "DZ"
  refine ⟨trivial, next_mk (by omega) (by omega) fun c c0 c1 => ?_⟩
  dsimp only
  refine ⟨by omega, by omega, ?_⟩
  refine for_inv (fun i env => ∃ (xs : List Ed) (p : Int) (a b c d e f : Option Sl), env = [some .strm, some (.dat (.tuple [.int n, .tuple rs])), some (.dat (.int s)), some (.dat (.int (m : Nat))), some (.own (xs.map eV)), some (.dat (.int p)), a, b, c, d, e, f] ∧ xs.length ≤ i ∧ (∀ x ∈ xs, x ∈ edN rs rs.length) ∧ pth s xs = some p) (fun i d env hd hi M hM => ?_) (fun env hi => ?_) ⟨[], s, none, none, none, none, none, none, rfl, Nat.le_refl _, fun x hx => absurd hx List.not_mem_nil, rfl⟩
  · obtain ⟨xs, p, a, b, c', d', e, f, rfl, hl2, hm, hp⟩ := hi
    have hi : i < m + 1 := by
      apply Classical.byContradiction
      intro hn
      rw [List.getElem?_eq_none (by rw [dRange_length]; omega)] at hd
      cases hd
    obtain rfl : d = .int (i : Nat) := by
      unfold dRange at hd
      rw [List.getElem?_map] at hd
      cases hz : (List.range c.toNat)[i]? with
      | none => rw [hz] at hd; cases hd
      | some j =>
        rw [hz] at hd
        have hj : i < c.toNat := by
          apply Classical.byContradiction
          intro hn
          rw [List.getElem?_eq_none (by rw [List.length_range]; omega)] at hz
          cases hz
        rw [List.getElem?_range hj] at hz
        obtain rfl := Option.some.inj hz
        rw [Option.map_some, Int.zero_add] at hd
        exact (Option.some.inj hd).symm
    refine seq_gen fun N2 hN2 => ?_
    walk_at "DZ"
    refine L_edges_ok h ?_
    dsimp only
    refine ⟨by rw [List.length_map]; omega, ?_⟩
    refine lc_gen (kpN p) (fun d y => y = fN d) (fun d hd R M2 r1 r2 => ?_) (fun ys hys => ?_)
    · obtain ⟨y, hy, rfl⟩ := List.mem_map.mp hd
      unfold eD
      walk_at "DZ"
      have kk : kpN p (.tuple [eV y, .int y.s, .int y.e, .int y.w]) = decide (y.s = p) := rfl
      have ff : fN (.tuple [eV y, .int y.s, .int y.e, .int y.w]) = .tuple [eV y, .int y.e] := rfl
      unfold eD at r1 r2
      rw [kk, ff] at r1
      rw [kk] at r2
      have r1 := fun z => r1 z _ rfl
      refine ⟨rfl, shaped_int _, shaped_int _, ?_⟩
      rw [eqv_intD]
      by_cases c2 : y.s = p
      · rw [if_pos (decide_eq_true c2)]
        exact r1 (decide_eq_true c2)
      · rw [if_neg (fun z => c2 (of_decide_eq_true z))]
        exact r2 (decide_eq_false c2)
    · have e2 := hys.mapEq
      have hys2 : ∀ y ∈ ys, ∃ x ∈ edN rs rs.length, x.s = p ∧ y = .tuple [eV x, .int x.e] := fun y hy => by
        rw [e2] at hy
        obtain ⟨d, hd, rfl⟩ := List.mem_map.mp hy
        have hd := List.mem_filter.mp hd
        obtain ⟨x, hx, rfl⟩ := List.mem_map.mp hd.1
        exact ⟨x, hx, of_decide_eq_true hd.2, rfl⟩
      have hyl : ys.length ≤ 24 := by
        rw [e2, List.length_map]
        refine Nat.le_trans (List.length_filter_le _ _) ?_
        rw [List.length_map]
        omega
      subst hN2
      walk_at "DZ"
      cases hy0 : ys with
      | nil =>
        rw [if_neg (fun z => nomatch z)]
        exact hM _ ⟨xs, p, _, _, _, _, _, _, rfl, by omega, hm, hp⟩
      | cons y0 yr =>
        rw [← hy0]
        rw [if_pos (by rw [hy0]; rfl)]
        refine ⟨trivial, pick_ok (by rw [hy0]; exact (fun z => nomatch z)) (by omega) fun d hd => ?_⟩
        obtain ⟨x, hx, hs, rfl⟩ := hys2 d hd
        dsimp only
        refine ⟨rfl, by rw [List.length_map]; omega, ?_⟩
        have el : xs.map eV ++ [eV x] = (xs ++ [x]).map eV := by rw [List.map_append]; rfl
        rw [el]
        refine hM _ ⟨xs ++ [x], x.e, _, _, _, _, _, _, rfl, by rw [List.length_append]; show _ + 1 ≤ _; omega, fun z hz => ?_, pth_append hs hp⟩
        rcases List.mem_append.mp hz with hz | hz
        · exact hm z hz
        · rw [List.mem_singleton.mp hz]
          exact hx
  · obtain ⟨xs, p, a, b, c', d', e, f, rfl, hl2, hm, hp⟩ := hi
    subst hN
    walk_at "DZ"
    rw [dRange_length] at hl2
    exact q _ ⟨xs, p, rfl, by omega, hm, hp⟩
def sumW (xs : List Ed) : Int := (xs.map (·.w)).sum
theorem wmap {rs : List D} : ∀ {xs : List Ed} {ys : List D}, (∀ x ∈ xs, x ∈ edN rs rs.length) → F2 (fun d y => ∀ x ∈ edN rs rs.length, d = eV x → y = PyData.int x.w) (xs.map eV) ys → ys = xs.map fun x => .int x.w
  | [], [], _, _ => rfl
  | [], _ :: _, _, h => nomatch h
  | x :: xs, [], _, h => nomatch h
  | x :: xs, y :: ys, hx, h => by
    cases h with
    | cons h1 h2 =>
      rw [h1 x (hx x List.mem_cons_self) rfl, wmap (fun z hz => hx z (List.mem_cons_of_mem _ hz)) h2]
      rfl
def wE (xs : List Ed) (d : D) : D := match d with | .int v => oI (pth v xs) | _ => .none
theorem walk_length_ok {n far s t : Int} {rs : List D} {xs : List Ed} {Q : D → Prop} (h : NR n far rs) (hx : ∀ x ∈ xs, x ∈ edN rs rs.length) (hx3 : xs.length ≤ 1000) (s0 : 0 ≤ s) (s1 : s < n) (hp : pth s xs = some t) (q : Q (.int (sumW xs))) : f_walk_length [.tuple [.int n, .tuple rs], .tuple (xs.map eV)] Q := by
  have a0 : atI [PyData.int n, PyData.tuple rs] 0 = some (.int n) := rfl
  have hn := h.n1
  refine o_walk_length ?_
  unfold t_walk_length
  refine seq_gen fun N hN => ?_
  walk_at "DZ"
  refine check_net_ok (net_good h.fa h.n0 h.n1 h.rl h.ro) ?_
  subst hN
  refine seq_gen fun N hN => ?_
  walk_at "DZ"
  rw [a0]
  dsimp only
  refine ⟨by omega, by omega, by rw [dRange_length]; omega, ?_⟩
  refine lc_map (wE xs) (fun d hd R hR => ?_) ?_
  · obtain ⟨i, hi, rfl⟩ := mem_dRange hd
    walk_at "DZ"
    exact walk_end_ok h hx hR
  subst hN
  refine seq_gen fun N hN => ?_
  walk_at "DZ"
  refine ⟨by rw [List.length_map, dRange_length]; omega, lc_map (fun d => .bool (isNone d)) (fun d hd R hR => ?_) ?_⟩
  · walk_at "DZ"
    exact hR
  unfold dBools
  dsimp only
  rw [allBool_map]
  dsimp only
  have hfalse : (((dRange 0 n.toNat).map (wE xs)).map isNone).all id = false := by
    rw [List.all_eq_false]
    refine ⟨isNone (wE xs (.int s)), List.mem_map.mpr ⟨_, List.mem_map.mpr ⟨.int s, ?_, rfl⟩, rfl⟩, ?_⟩
    · unfold dRange
      exact List.mem_map.mpr ⟨s.toNat, List.mem_range.mpr (by omega), by rw [Int.zero_add, Int.toNat_of_nonneg s0]⟩
    · show ¬ isNone (oI (pth s xs)) = true
      rw [hp]
      exact fun z => nomatch z
  rw [hfalse]
  rw [if_neg (fun z => nomatch z)]
  subst hN
  walk_at "DZ"
  refine o_weight_sum ?_
  unfold t_weight_sum
  walk_at "DZ"
  refine ⟨by rw [List.length_map]; omega, ?_⟩
  refine lc_all (fun d y => ∀ x ∈ edN rs rs.length, d = eV x → y = .int x.w) (fun d hd R hR => ?_) (fun ys hys => ?_)
  · obtain ⟨x, hm, rfl⟩ := List.mem_map.mp hd
    walk_at "DZ"
    refine edge_course_ok h (hx x hm) ?_
    have b2 : atI [PyData.int x.s, PyData.int x.e, PyData.int x.w] 2 = some (.int x.w) := rfl
    dsimp only
    rw [b2]
    exact hR _ fun x' hx' e => by
      have e := (eqv_eV x x').mp (by rw [← e]; exact (eqv_eV x x).mpr ⟨rfl, rfl⟩)
      rw [ed_uniq h.ro (hx x hm) hx' e.1 e.2]
  have e := wmap hx hys
  rw [e]
  unfold dSum
  dsimp only
  rw [allInt_map]
  exact q
def matchB (d : D) (x : Ed) : Bool := match d with | .tuple [.int i, .str z] => decide (i = (x.k : Int)) && decide (z = x.d) | _ => false
def crs (rs : List D) (d : D) : Option Ed := (edN rs rs.length).find? (matchB d)
def cD : Option Ed → D | some x => .tuple [.int x.s, .int x.e, .int x.w] | none => .none
theorem crs_none {rs : List D} {d : D} (h : ∀ x ∈ edN rs rs.length, matchB d x = false) : crs rs d = none := by
  unfold crs
  rw [List.find?_eq_none]
  intro x hx z
  rw [h x hx] at z
  cases z
theorem crs_some {n far : Int} {rs : List D} {x : Ed} (h : ∀ r ∈ rs, RuleOk n far r) (hx : x ∈ edN rs rs.length) : crs rs (eV x) = some x := by
  unfold crs
  cases hz : (edN rs rs.length).find? (matchB (eV x)) with
  | none =>
    rw [List.find?_eq_none] at hz
    have := hz x hx
    exact absurd (by unfold matchB eV; dsimp only; rw [decide_eq_true rfl, decide_eq_true rfl]; rfl) this
  | some y =>
    have h1 := List.find?_some hz
    have h2 := List.mem_of_find?_eq_some hz
    unfold matchB eV at h1
    dsimp only at h1
    rw [Bool.and_eq_true] at h1
    have k1 := of_decide_eq_true h1.1
    have k2 := of_decide_eq_true h1.2
    rw [ed_uniq h h2 hx (by omega) k2.symm]
theorem hi_mem {rs : List D} {k : Nat} {s e w : Int} {lo : D} (hr : rs[k]? = some (.tuple [.int s, .int e, lo, .int w])) : (⟨k, "high", s, e, w⟩ : Ed) ∈ edN rs rs.length := by
  have hk : k < rs.length := by
    apply Classical.byContradiction
    intro hn
    rw [List.getElem?_eq_none (by omega)] at hr
    cases hr
  exact List.mem_flatMap.mpr ⟨k, List.mem_range.mpr hk, by rw [getD_some hr]; exact List.mem_append.mpr (.inl (List.mem_singleton.mpr rfl))⟩
theorem lo_mem {rs : List D} {k : Nat} {s e w : Int} {hi : D} (hr : rs[k]? = some (.tuple [.int s, .int e, .int w, hi])) : (⟨k, "low", e, s, -w⟩ : Ed) ∈ edN rs rs.length := by
  have hk : k < rs.length := by
    apply Classical.byContradiction
    intro hn
    rw [List.getElem?_eq_none (by omega)] at hr
    cases hr
  exact List.mem_flatMap.mpr ⟨k, List.mem_range.mpr hk, by rw [getD_some hr]; exact List.mem_append.mpr (.inr (List.mem_singleton.mpr rfl))⟩
theorem ne_sides : ("high" : Str) ≠ ("low" : Str) := by decide
theorem eqv_str (a b : Str) : PyData.eqv (.str a) (.str b) = decide (a = b) := by
  show (a == b) = decide (a = b)
  by_cases c : a = b
  · rw [decide_eq_true c, c]
    exact beq_self_eq_true b
  · rw [decide_eq_false c]
    exact beq_eq_false_iff_ne.mpr c
theorem edge_course_any {n far : Int} {rs : List D} {v : D} {Q : D → Prop} (h : NR n far rs) (hv : SeqAt.shaped v = true) (q : Q (cD (crs rs v))) : f_edge_course [.tuple [.int n, .tuple rs], v] Q := by
  have rule : ∀ k : Nat, k < rs.length → ∃ s e lo hi, rs[k]? = some (.tuple [.int s, .int e, lo, hi]) ∧ SideOk far lo ∧ SideOk far hi := fun k hk => by
    have ei : rs[k]? = some rs[k] := List.getElem?_eq_getElem hk
    obtain ⟨s, e, lo, hi, hre, s0, s1, e0, e1, hne, sl, sh, hb⟩ := h.ro rs[k] (List.getElem_mem hk)
    rw [hre] at ei
    exact ⟨s, e, lo, hi, ei, sl, sh⟩
  by_cases c1 : ∃ k : Nat, k < rs.length ∧ v = .tuple [.int (k : Nat), .str "high"]
  · obtain ⟨k, hk, rfl⟩ := c1
    obtain ⟨s, e, lo, hi, hr, sl, sh⟩ := rule k hk
    refine edge_course_hi hr sh sl ?_
    rcases sh with rfl | ⟨w, rfl, w0, w1⟩
    · rw [crs_none fun x hx => ?_] at q
      · exact q
      · obtain ⟨s', e', lo', hi', hr', _, _, _, _, _, _, hh⟩ := mem_ed h.ro hx
        unfold matchB
        dsimp only
        by_cases ck : (k : Int) = (x.k : Int)
        · have ck : x.k = k := by omega
          rw [ck, hr] at hr'
          injection hr' with hr'
          injection hr' with hr'
          simp only [List.cons.injEq, PyData.int.injEq, and_true] at hr'
          obtain ⟨_, _, _, rfl⟩ := hr'
          rcases hh with ⟨_, z⟩ | ⟨z, _⟩
          · cases z
          · have : x.d = "low" := by rw [z]
            rw [this, decide_eq_false (show ¬ (("high" : Str) = "low") from ne_sides), Bool.and_false]
        · rw [decide_eq_false ck]
          rfl
    · have := crs_some h.ro (hi_mem hr)
      have e1 : crs rs (.tuple [.int (k : Nat), .str "high"]) = some ⟨k, "high", s, e, w⟩ := this
      rw [e1] at q
      exact q
  by_cases c2 : ∃ k : Nat, k < rs.length ∧ v = .tuple [.int (k : Nat), .str "low"]
  · obtain ⟨k, hk, rfl⟩ := c2
    obtain ⟨s, e, lo, hi, hr, sl, sh⟩ := rule k hk
    refine edge_course_lo hr sh sl ?_
    rcases sl with rfl | ⟨w, rfl, w0, w1⟩
    · rw [crs_none fun x hx => ?_] at q
      · exact q
      · obtain ⟨s', e', lo', hi', hr', _, _, _, _, _, _, hh⟩ := mem_ed h.ro hx
        unfold matchB
        dsimp only
        by_cases ck : (k : Int) = (x.k : Int)
        · have ck : x.k = k := by omega
          rw [ck, hr] at hr'
          injection hr' with hr'
          injection hr' with hr'
          simp only [List.cons.injEq, PyData.int.injEq, and_true] at hr'
          obtain ⟨_, _, rfl, _⟩ := hr'
          rcases hh with ⟨z, _⟩ | ⟨_, z⟩
          · have : x.d = "high" := by rw [z]
            rw [this, decide_eq_false (show ¬ (("low" : Str) = "high") from fun z => ne_sides z.symm), Bool.and_false]
          · cases z
        · rw [decide_eq_false ck]
          rfl
    · have := crs_some h.ro (lo_mem hr)
      have e1 : crs rs (.tuple [.int (k : Nat), .str "low"]) = some ⟨k, "low", e, s, -w⟩ := this
      rw [e1] at q
      exact q
  have hnone : crs rs v = none := crs_none fun x hx => by
    obtain ⟨s', e', lo', hi', hr', _, _, _, _, _, _, hh⟩ := mem_ed h.ro hx
    have hk : x.k < rs.length := by
      apply Classical.byContradiction
      intro hn
      rw [List.getElem?_eq_none (by omega)] at hr'
      cases hr'
    unfold matchB
    split
    · rename_i i z
      rw [Bool.and_eq_false_iff]
      by_cases ck : i = (x.k : Int)
      · right
        refine decide_eq_false fun cz => ?_
        rcases hh with ⟨z2, _⟩ | ⟨z2, _⟩
        · have : x.d = "high" := by rw [z2]
          exact c1 ⟨x.k, hk, by rw [ck, cz, this]⟩
        · have : x.d = "low" := by rw [z2]
          exact c2 ⟨x.k, hk, by rw [ck, cz, this]⟩
      · exact .inl (decide_eq_false ck)
    · rfl
  rw [hnone] at q
  have q : Q .none := q
  refine o_edge_course ?_
  unfold t_edge_course
  cases v with
  | tuple ds =>
    match ds, hv, c1, c2 with
    | [], hv, c1, c2 =>
      walk_at "DZ"
      simp only [isT_tuple, isTu, Bool.not_true, Bool.false_eq_true, if_false]
      refine ⟨shaped_int _, shaped_int _, ?_⟩
      rw [if_pos (by rw [eqv_intD]; rfl)]
      exact q
    | [a], hv, c1, c2 =>
      walk_at "DZ"
      simp only [isT_tuple, isTu, Bool.not_true, Bool.false_eq_true, if_false]
      refine ⟨shaped_int _, shaped_int _, ?_⟩
      rw [if_pos (by rw [eqv_intD]; rfl)]
      exact q
    | a :: b :: c :: ds, hv, c1, c2 =>
      walk_at "DZ"
      simp only [isT_tuple, isTu, Bool.not_true, Bool.false_eq_true, if_false]
      refine ⟨shaped_int _, shaped_int _, ?_⟩
      rw [if_pos (by rw [eqv_intD, decide_eq_false (by omega)]; rfl)]
      exact q
    | [a, b], hv, c1, c2 =>
      have a1 : atI [PyData.int n, PyData.tuple rs] 1 = some (.tuple rs) := rfl
      walk_at "DZ"
      simp only [isT_tuple, isTu, Bool.not_true, Bool.false_eq_true, if_false]
      refine ⟨shaped_int _, shaped_int _, ?_⟩
      rw [if_neg (by rw [eqv_intD]; exact fun z => nomatch z)]
      refine ⟨trivial, ?_⟩
      rw [a1]
      dsimp only
      refine is_integer_ok _ _ _ _ ?_
      by_cases hin : inI a 0 ((rs.length : Int) - 1) = true
      · obtain ⟨i, rfl, i0, i1⟩ := inI_int hin
        obtain ⟨k, rfl⟩ : ∃ k : Nat, i = k := ⟨i.toNat, by omega⟩
        rw [hin]
        dsimp only
        rw [if_neg (fun z => nomatch z)]
        cases b with
        | str z =>
          simp only [isT_str, isS, Bool.not_true, Bool.false_eq_true, if_false]
          obtain ⟨s, e, lo, hi, hr, sl, sh⟩ := rule k (by omega)
          have ar : atI rs (k : Int) = some (.tuple [.int s, .int e, lo, hi]) := atI_nat hr
          rw [ar]
          dsimp only
          have zs : SeqAt.shaped (.str z) = true := shaped_str (by
            unfold SeqAt.shaped at hv
            rw [Bool.and_eq_true] at hv
            have h1 : PyData.canLayAll0 [.int (k : Nat), .str z] = true := hv.1
            exact canLayAll_mem h1 _ (List.mem_cons_of_mem _ List.mem_cons_self))
          refine ⟨rfl, zs, sides_sh.1, ?_⟩
          have n1 : z ≠ "high" := fun hz => c1 ⟨k, by omega, by rw [hz]⟩
          have n2 : z ≠ "low" := fun hz => c2 ⟨k, by omega, by rw [hz]⟩
          have e1 : PyData.eqv (.str z) (.str "high") = false := by rw [eqv_str, decide_eq_false n1]
          have e2 : PyData.eqv (.str z) (.str "low") = false := by rw [eqv_str, decide_eq_false n2]
          simp only [e1, e2, Bool.false_eq_true, if_false]
          exact ⟨zs, sides_sh.2, q⟩
        | _ =>
          simp only [isT_str, isS, Bool.not_false, if_true]
          exact q
      · have hin : inI a 0 ((rs.length : Int) - 1) = false := by
          cases hz : inI a 0 ((rs.length : Int) - 1) with
          | false => rfl
          | true => exact absurd hz hin
        rw [hin]
        dsimp only
        rw [if_pos (by rfl), if_pos trivial]
        exact q
  | _ =>
    walk_at "DZ"
    simp only [isT_tuple, isTu, Bool.not_false, if_true]
    exact q
def anyP (rs : List D) : Int → List D → Option Int
  | v, [] => some v
  | v, d :: ds => match crs rs d with | some x => if x.s = v then anyP rs x.e ds else none | none => none
theorem anyP_cons (rs : List D) (v : Int) (d : D) (ds : List D) : anyP rs v (d :: ds) = match crs rs d with | some x => if x.s = v then anyP rs x.e ds else none | none => none := rfl
theorem walk_end_any {n far v : Int} {rs vs : List D} {Q : D → Prop} (h : NR n far rs) (hv : ∀ d ∈ vs, SeqAt.shaped d = true) (q : Q (oI (anyP rs v vs))) : f_walk_end [.tuple [.int n, .tuple rs], .int v, .tuple vs] Q := by
  refine o_walk_end ?_
  unfold t_walk_end
  refine seq_gen fun N hN => ?_
  walk_at "DZ"
  simp only [isT_tuple, isTu, Bool.not_true, Bool.false_eq_true, if_false]
  subst hN
  refine seq_gen fun N hN => ?_
  walk_at "DZ"
  subst hN
  refine seq_gen fun N hN => ?_
  unfold dFor
  walk_at "DZ"
  refine for_inv (fun i env => ∃ (p : Int) (a b : Option Sl), env = [some (.dat (.tuple [.int n, .tuple rs])), some (.dat (.int v)), some (.dat (.tuple vs)), some (.dat (.int p)), a, b] ∧ anyP rs v vs = anyP rs p (vs.drop i)) (fun i d env hd hi M hM => ?_) (fun env hi => ?_) ⟨v, none, none, rfl, rfl⟩
  · obtain ⟨p, a, b, rfl, hp⟩ := hi
    have hlt : i < vs.length := by
      apply Classical.byContradiction
      intro hn
      rw [List.getElem?_eq_none (by omega)] at hd
      cases hd
    have hde : vs[i] = d := by
      rw [List.getElem?_eq_getElem hlt] at hd
      exact Option.some.inj hd
    have hm : d ∈ vs := hde ▸ List.getElem_mem hlt
    rw [List.drop_eq_getElem_cons hlt, hde, anyP_cons] at hp
    walk_at "DZ"
    rcases hc : crs rs d with _ | x
    · rw [hc] at hp
      have hp : anyP rs v vs = none := hp
      rw [hp] at q
      have ec : cD (crs rs d) = .none := by rw [hc]; rfl
      refine edge_course_any h (hv d hm) ?_
      rw [ec]
      rw [if_pos (show isNone .none = true from rfl)]
      rw [if_pos (show true = true from rfl)]
      exact q
    · rw [hc] at hp
      have hp : anyP rs v vs = if x.s = p then anyP rs x.e (vs.drop (i + 1)) else none := hp
      have ec : cD (crs rs d) = .tuple [.int x.s, .int x.e, .int x.w] := by rw [hc]; rfl
      refine edge_course_any h (hv d hm) ?_
      rw [ec]
      dsimp only
      have b0 : atI [PyData.int x.s, PyData.int x.e, PyData.int x.w] 0 = some (.int x.s) := rfl
      have b1 : atI [PyData.int x.s, PyData.int x.e, PyData.int x.w] 1 = some (.int x.e) := rfl
      rw [b0, b1]
      dsimp only
      rw [if_neg (fun z => nomatch z)]
      refine ⟨shaped_int _, shaped_int _, ?_⟩
      rw [eqv_intD]
      by_cases c : x.s = p
      · rw [if_pos c] at hp
        simp only [c, decide_true, Bool.not_true, Bool.false_eq_true, if_false]
        exact hM _ ⟨_, _, _, rfl, hp⟩
      · rw [if_neg c] at hp
        rw [hp] at q
        simp only [c, decide_false, Bool.not_false, if_true]
        exact q
  · obtain ⟨p, a, b, rfl, hp⟩ := hi
    subst hN
    walk_at "DZ"
    rw [List.drop_length] at hp
    rw [hp] at q
    exact q
theorem walk_end_not {net : D} {v : Int} {o : D} {Q : D → Prop} (ho : isTu o = false) (q : Q .none) : f_walk_end [net, .int v, o] Q := by
  refine o_walk_end ?_
  unfold t_walk_end
  refine seq_gen fun N hN => ?_
  walk_at "DZ"
  simp only [isT_tuple, ho, Bool.not_false, if_true]
  exact q
theorem check_netX {v : D} {Q : D → Prop} {X : Nat → D → Prop} (h : netB v = false) (q : X 0 (.str "net")) : fX_check_net [v] Q X := by
  refine oX_check_net ?_
  unfold tX_check_net
  walk_at "DZ"
  refine is_net_ok v _ ?_
  rw [h]
  refine ite_t rfl ?_
  exact q
theorem check_eventX {v nm x : D} {n : Int} {Q : D → Prop} {X : Nat → D → Prop} (h : inI v 0 (n - 1) = false) (q : X 0 nm) : fX_check_event [.tuple [.int n, x], nm, v] Q X := by
  refine oX_check_event ?_
  unfold tX_check_event
  walk_at "DZ"
  rw [show atI [PyData.int n, x] 0 = some (.int n) from rfl]
  dsimp only
  refine is_event_ok v n _ ?_
  rw [h]
  refine ite_t rfl ?_
  exact q
theorem check_event_fine {v nm x : D} {n : Int} {Q : D → Prop} (h : inI v 0 (n - 1) = true) (q : Q .none) : f_check_event [.tuple [.int n, x], nm, v] Q := by
  refine o_check_event ?_
  unfold t_check_event
  walk_at "DZ"
  rw [show atI [PyData.int n, x] 0 = some (.int n) from rfl]
  dsimp only
  refine is_event_ok v n _ ?_
  rw [h]
  refine ite_f (fun z => nomatch z) ?_
  exact q
theorem rng_nat (n : Nat) : dRange 0 n = (List.range n).map fun i : Nat => PyData.int (i : Nat) := by
  unfold dRange
  exact List.map_congr_left fun i _ => by rw [Int.zero_add]
theorem ixN_nat {n j : Nat} (h : j < n) : ixN n (j : Int) = some j := by
  unfold ixN
  rw [if_pos (by omega), if_pos (by omega), Int.toNat_natCast]
theorem lc_list {α : Type} {g : T2G} {tt : T2T} {te : T2E} {env : Ev} (G f : α → D) (keep : α → Bool) : ∀ {l : List α} {Q : List D → Prop},
    (∀ a ∈ l, ∀ (R : D → Prop) (N : Prop), (keep a = true → R (f a)) → (keep a = false → N) → g (G a) env fun env1 => tt env1 fun b => if b = true then te env1 R else N) →
    Q ((l.filter keep).map f) → lcD g tt te env (l.map G) Q
  | [], Q, h, q => q
  | a :: l, Q, h, q => by
    refine h a List.mem_cons_self _ _ (fun hk => ?_) (fun hk => ?_)
    · refine lc_list G f keep (fun e he => h e (List.mem_cons_of_mem _ he)) ?_
      rw [List.filter_cons_of_pos hk] at q
      exact q
    · refine lc_list G f keep (fun e he => h e (List.mem_cons_of_mem _ he)) ?_
      rw [List.filter_cons_of_neg (by rw [hk]; exact Bool.false_ne_true)] at q
      exact q
theorem erase_perm {α : Type} {l : List α} {m : Nat} (h : m < l.length) : (l[m] :: l.eraseIdx m).Perm l := by
  rw [List.eraseIdx_eq_take_drop_succ]
  have e : l = l.take m ++ l[m] :: l.drop (m + 1) := by rw [← List.drop_eq_getElem_cons h, List.take_append_drop]
  conv => rhs; rw [e]
  exact (List.perm_middle (a := l[m]) (l₁ := l.take m) (l₂ := l.drop (m + 1))).symm
theorem erase_mapI {α β : Type} (f : α → β) (l : List α) (j : Nat) : (l.map f).eraseIdx j = (l.eraseIdx j).map f := by
  rw [List.eraseIdx_eq_take_drop_succ, List.eraseIdx_eq_take_drop_succ, List.map_append, List.map_take, List.map_drop]
def iI (i : Nat) : D := .int (i : Nat)
theorem pop_perm : ∀ (ds : List D) (L : List Nat) (n : D) (x : Option Sl) (Q : List D → Prop), ds.length = L.length → L.length ≤ 1000 → (∀ ks : List Nat, ks.Perm L → Q (ks.map iI)) → popD 2 (gN 3) (dCallS 0 f_next (dCons (dLenOwn 2) dNil)) [3] [some .strm, some (.dat n), some (.own (L.map iI)), x] ds Q
  | [], L, n, x, Q, h, _, q => by
    have e : L = [] := List.eq_nil_of_length_eq_zero h.symm
    subst e
    exact q [] (List.Perm.refl _)
  | d :: ds, L, n, x, Q, h, hl, q => by
    have h : ds.length + 1 = L.length := h
    unfold popD
    walk_at "DZ"
    rw [List.length_map]
    refine ⟨trivial, next_mk (by omega) (by omega) fun j j0 j1 => ?_⟩
    obtain ⟨j, rfl⟩ : ∃ n : Nat, j = (n : Int) := ⟨j.toNat, by omega⟩
    have hj : j < L.length := by omega
    try dsimp only
    rw [ixN_nat hj]
    dsimp only
    rw [List.getElem?_map, List.getElem?_eq_getElem hj]
    refine ⟨by omega, by omega, ?_⟩
    rw [erase_mapI]
    refine pop_perm ds (L.eraseIdx j) n x _ (by rw [List.length_eraseIdx_of_lt hj]; omega) (by rw [List.length_eraseIdx_of_lt hj]; omega) fun ks hk => ?_
    exact q (L[j] :: ks) ((List.Perm.cons _ hk).trans (erase_perm hj))
theorem L_order_ok {n : Nat} {Q : D → Prop} (hn : n ≤ 900) (q : ∀ ks : List Nat, ks.Perm (List.range n) → Q (.tuple (ks.map iI))) : f_L_order [.int (n : Int)] Q := by
  refine o_L_order ?_
  unfold t_L_order
  refine seq_gen fun N hN => ?_
  walk_at "DZ"
  rw [Int.toNat_natCast]
  refine ⟨by omega, by omega, ?_⟩
  subst hN
  walk_at "DZ"
  rw [Int.toNat_natCast, dRange_length, rng_nat]
  refine ⟨by omega, by omega, by omega, ?_⟩
  exact pop_perm _ (List.range n) _ _ _ (by rw [List.length_map]) (by rw [List.length_range]; omega) q
def ShD (o : D) : Prop := ∀ vs, o = .tuple vs → vs.length ≤ 1000 ∧ ∀ d ∈ vs, SeqAt.shaped d = true
theorem shD_not {o : D} (h : isTu o = false) : ShD o := fun vs e => by
  subst e
  cases h
theorem shD_tup {vs : List D} (h1 : vs.length ≤ 1000) (h2 : ∀ d ∈ vs, SeqAt.shaped d = true) : ShD (.tuple vs) := fun us e => by
  cases e
  exact ⟨h1, h2⟩
def iN (j : Nat) : D := .int (j : Int)
def natD (d : D) : Nat := match d with | .int i => i.toNat | _ => 0
def evsB (n : Int) (us : List D) : Bool := us.all fun v => inI v 0 (n - 1)
theorem evs_nat {n : Int} : ∀ {us : List D}, evsB n us = true → us = (us.map natD).map iN ∧ ∀ j ∈ us.map natD, (j : Int) < n
  | [], _ => ⟨rfl, fun j hj => absurd hj List.not_mem_nil⟩
  | v :: us, h => by
    unfold evsB at h
    rw [List.all_cons, Bool.and_eq_true] at h
    obtain ⟨h1, h2⟩ := evs_nat (us := us) h.2
    obtain ⟨i, rfl, l, g⟩ := inI_int h.1
    refine ⟨?_, fun j hj => ?_⟩
    · rw [List.map_cons, List.map_cons, ← h1]
      show _ = PyData.int ((i.toNat : Nat) : Int) :: us
      rw [Int.toNat_of_nonneg l]
    · rw [List.map_cons] at hj
      rcases List.mem_cons.mp hj with rfl | hj
      · show ((i.toNat : Nat) : Int) < n
        omega
      · exact h2 j hj
theorem in_nats (vs : List Nat) (e : Nat) : ((vs.map iN).any fun d => PyData.eqv d (.int (e : Int))) = decide (e ∈ vs) := by
  rw [Bool.eq_iff_iff, decide_eq_true_iff, List.any_eq_true]
  constructor
  · rintro ⟨d, hd, z⟩
    obtain ⟨u, hu, rfl⟩ := List.mem_map.mp hd
    unfold iN at z
    rw [eqv_intD] at z
    have := of_decide_eq_true z
    rw [show e = u by omega]
    exact hu
  · intro h
    exact ⟨iN e, List.mem_map.mpr ⟨e, h, rfl⟩, by unfold iN; rw [eqv_intD]; exact decide_eq_true rfl⟩
theorem flat_nats (vs : List Nat) : (vs.map iN).all flatD = true := by
  rw [List.all_eq_true]
  intro d hd
  obtain ⟨u, _, rfl⟩ := List.mem_map.mp hd
  rfl
def ascN : List Nat → Bool
  | a :: b :: l => decide (a < b) && ascN (b :: l)
  | _ => true
theorem are_events_ok {n : Int} {o : D} {Q : D → Prop} (ho : ShD o) (q : Q (.bool (match o with | .tuple us => evsB n us | _ => false))) : f_are_events [o, .int n] Q := by
  refine o_are_events ?_
  unfold t_are_events
  walk_at "DZ"
  rw [isT_tuple]
  by_cases ht : isTu o = true
  · obtain ⟨us, rfl⟩ : ∃ us, o = .tuple us := by cases o <;> first | exact ⟨_, rfl⟩ | cases ht
    obtain ⟨hul, hus⟩ := ho us rfl
    refine ite_t rfl ?_
    refine ⟨by omega, ?_⟩
    refine lc_map (fun d => .bool (inI d 0 (n - 1))) (fun d hd R hR => ?_) ?_
    · walk_at "DZ"
      exact is_event_ok _ _ _ hR
    · unfold dBools
      dsimp only
      rw [allBool_map (fun d => inI d 0 (n - 1))]
      dsimp only
      have : (us.map fun d => inI d 0 (n - 1)).all id = evsB n us := by rw [List.all_map]; rfl
      rw [this]
      exact q
  · have ht : isTu o = false := Bool.eq_false_iff.mpr ht
    have q : Q (.bool false) := by cases o <;> first | exact q | cases ht
    rw [ht]
    exact ite_f (fun z => nomatch z) q
theorem cut_1 (ds : List D) : Z2.cutD ds (some 1) none = ds.drop 1 := by
  unfold Z2.cutD
  cases ds with
  | nil => rfl
  | cons d l =>
    have e1 : HT.sIx (d :: l).length 0 (some 1) = 1 := by
      unfold HT.sIx
      rw [List.length_cons]
      simp
    have e2 : HT.sIx (d :: l).length (d :: l).length none = (d :: l).length := rfl
    rw [e1, e2, List.take_of_length_le (by rw [List.length_drop]; omega)]
theorem zip_nats : ∀ as bs : List Nat, dZip (as.map iN) (bs.map iN) = (as.zip bs).map fun p => PyData.tuple [iN p.1, iN p.2]
  | [], _ => rfl
  | _ :: _, [] => rfl
  | a :: as, b :: bs => by
    rw [List.map_cons, List.map_cons, List.zip_cons_cons, List.map_cons, ← zip_nats as bs]
    rfl
theorem asc_zip : ∀ vs : List Nat, ((vs.zip (vs.drop 1)).map fun p => decide (p.1 < p.2)).all id = ascN vs
  | [] => rfl
  | [_] => rfl
  | a :: b :: l => by
    have := asc_zip (b :: l)
    rw [List.drop_succ_cons, List.drop_zero] at this ⊢
    rw [List.zip_cons_cons, List.map_cons, List.all_cons, this]
    rfl
theorem is_choice_ok {n : Int} {o : D} {Q : D → Prop} (ho : ShD o) (q : Q (.bool (match o with | .tuple us => evsB n us && (decide (us ≠ []) && ascN (us.map natD)) | _ => false))) : f_is_choice [o, .int n] Q := by
  refine o_is_choice ?_
  unfold t_is_choice
  refine seq_gen fun N hN => ?_
  walk_at "DZ"
  refine are_events_ok ho ?_
  by_cases ht : isTu o = true
  · obtain ⟨us, rfl⟩ : ∃ us, o = .tuple us := by cases o <;> first | exact ⟨_, rfl⟩ | cases ht
    dsimp only at q ⊢
    cases he : evsB n us with
    | false =>
      rw [he] at q
      exact ite_t rfl q
    | true =>
      rw [he] at q
      obtain ⟨h1, h2⟩ := evs_nat he
      refine ite_f (fun z => nomatch z) ?_
      refine ⟨shaped_int _, shaped_int _, ?_⟩
      rw [eqv_intD]
      by_cases c : us = []
      · subst c
        exact ite_t rfl q
      · refine ite_f (fun z => c (List.eq_nil_of_length_eq_zero (by have := of_decide_eq_true z; omega))) ?_
        rw [decide_eq_true c] at q
        generalize us.map natD = vs at *
        subst h1
        subst hN
        try dsimp only
        walk_at "DZ"
        obtain ⟨hul, hus⟩ := ho _ rfl
        rw [List.length_map] at hul
        rw [cut_1, ← List.map_drop, zip_nats]
        refine ⟨by rw [List.length_map, List.length_zip]; omega, ?_⟩
        refine lc_list (l := vs.zip (vs.drop 1)) (fun p => PyData.tuple [iN p.1, iN p.2]) (fun p => .bool (decide (p.1 < p.2))) (fun _ => true) (fun p hp R N' r1 _ => ?_) ?_
        · have r1 := r1 rfl
          unfold iN
          walk_at "DZ"
          refine ⟨rfl, ?_⟩
          rw [show decide (((p.1 : Nat) : Int) < ((p.2 : Nat) : Int)) = decide (p.1 < p.2) from by rw [Bool.eq_iff_iff, decide_eq_true_iff, decide_eq_true_iff]; omega]
          exact r1
        · rw [List.filter_eq_self.mpr fun _ _ => rfl]
          unfold dBools
          dsimp only
          rw [allBool_map (fun p : Nat × Nat => decide (p.1 < p.2))]
          dsimp only
          rw [asc_zip]
          exact q
  · have ht : isTu o = false := Bool.eq_false_iff.mpr ht
    have q : Q (.bool false) := by cases o <;> first | exact q | cases ht
    cases o <;> first | exact ite_t rfl q | cases ht
theorem depth_ll : ∀ {ds : List D}, (∀ d ∈ ds, ∃ i : Int, d = .int i) → PyData.depthAll ds = 0
  | [], _ => rfl
  | d :: ds, h => by
    obtain ⟨i, rfl⟩ := h d List.mem_cons_self
    unfold PyData.depthAll
    rw [depth_ll fun d hd => h d (List.mem_cons_of_mem _ hd)]
    rfl
theorem shaped_ll {ds : List D} (h : ∀ d ∈ ds, ∃ i : Int, d = .int i) : SeqAt.shaped (.list ds) = true := by
  unfold SeqAt.shaped PyData.depth
  rw [depth_ll h]
  have := canLayAll_of (ds := ds) fun d hd => by
    obtain ⟨i, rfl⟩ := h d hd
    rfl
  show (PyData.canLayAll0 ds && _) = true
  rw [this]
  rfl
/-! k05: nets made of nets -/
def evR (f : Int → Int) (r : D) : D := match r with | .tuple [.int s, .int e, lo, hi] => .tuple [.int (f s), .int (f e), lo, hi] | _ => r
def tuR (r : D) : D := match r with | .tuple [.int s, .int e, lo, hi] => .tuple [.int e, .int s, lo, hi] | _ => r
/-- a net of at most six events and twelve rules -/
structure NB (n : Int) (rs : List D) : Prop where
  n0 : 1 ≤ n
  n1 : n ≤ 6
  rl : rs.length ≤ 12
  ro : ∀ r ∈ rs, RuleOk n 100 r
theorem NB.good {n : Int} {rs : List D} (h : NB n rs) : netB (.tuple [.int n, .tuple rs]) = true := net_good (by decide) h.n0 h.n1 h.rl h.ro
theorem NB.nt {n : Int} {rs : List D} {ts : List Int} (h : NB n rs) (tl : (ts.length : Int) = n) (tb : ∀ t ∈ ts, -1000 ≤ t ∧ t ≤ 1000) : NT n 100 rs ts :=
  ⟨h.n0, h.n1, by decide, h.rl, h.ro, tl, fun t ht => by have := tb t ht; omega⟩
def kpB (rs : List D) (ts : List Int) : Bool := rs.all fun r => decide (excI r ts = 0)
theorem turned_ok {n : Int} {rs : List D} {Q : D → Prop} (h : NB n rs) (q : Q (.tuple [.int n, .tuple (rs.map tuR)])) : f_turned [.tuple [.int n, .tuple rs]] Q := by
  refine o_turned ?_
  unfold t_turned
  walk_at "DZ"
  refine check_net_ok h.good ?_
  refine ⟨rfl, by have := h.rl; omega, ?_⟩
  refine lc_map tuR (fun r hr R hR => ?_) q
  obtain ⟨s, e, lo, hi, rfl, _⟩ := h.ro r hr
  walk_at "DZ"
  exact ⟨rfl, hR⟩
/-- an order's event in the place of event s -/
def kAt (ks : List Nat) (s : Int) : Int := ((ks.getD s.toNat 0 : Nat) : Int)
theorem kAt_at {ks : List Nat} {s : Int} (h0 : 0 ≤ s) (h1 : s < ks.length) : atI (ks.map iN) s = some (.int (kAt ks s)) := by
  obtain ⟨j, rfl⟩ : ∃ j : Nat, s = (j : Int) := ⟨s.toNat, by omega⟩
  have hj : j < ks.length := by omega
  refine atI_nat ?_
  rw [List.getElem?_map, List.getElem?_eq_getElem hj]
  unfold kAt
  rw [Int.toNat_natCast, List.getD_eq_getElem?_getD, List.getElem?_eq_getElem hj]
  rfl
theorem is_order_ok {m : Nat} {ks : List Nat} {Q : D → Prop} (hp : ks.Perm (List.range m)) (hm : m ≤ 100) (q : Q (.bool true)) : f_is_order [.tuple (ks.map iN), .int (m : Int)] Q := by
  have hl : ks.length = m := by rw [hp.length_eq, List.length_range]
  have hlt : ∀ k ∈ ks, k < m := fun k hk => List.mem_range.mp (hp.mem_iff.mp hk)
  refine o_is_order ?_
  unfold t_is_order
  walk_at "DZ"
  refine are_events_ok (shD_tup (by rw [List.length_map]; omega) fun d hd => ?_) ?_
  · obtain ⟨k, _, rfl⟩ := List.mem_map.mp hd
    exact shaped_int _
  · have he : evsB (m : Int) (ks.map iN) = true := by
      unfold evsB
      rw [List.all_map, List.all_eq_true]
      intro k hk
      have := hlt k hk
      exact inI_good (i := (k : Int)) (l := 0) (g := (m : Int) - 1) (by omega) (by omega)
    dsimp only
    rw [he]
    refine ite_t rfl ?_
    have e1 : ks.map iN = (ks.map fun k : Nat => (k : Int)).map PyData.int := by rw [List.map_map]; rfl
    rw [e1]
    refine dSortIT_ints fun ns' p1 p2 => ?_
    have e2 : ns' = (List.range m).map fun k : Nat => (k : Int) := by
      refine List.Perm.eq_of_pairwise (le := (· ≤ ·)) (fun a b _ _ h1 h2 => Int.le_antisymm h1 h2) p2 ?_ (p1.trans (hp.map _))
      rw [List.pairwise_map]
      exact (List.pairwise_le_range).imp fun h => by omega
    have e3 : dRange 0 ((m : Nat) : Int).toNat = ns'.map PyData.int := by rw [e2, Int.toNat_natCast, rng_nat, List.map_map]; rfl
    have sh : SeqAt.shaped (.list (ns'.map PyData.int)) = true := shaped_ll fun d hd => by
      obtain ⟨i, _, rfl⟩ := List.mem_map.mp hd
      exact ⟨i, rfl⟩
    rw [e3, eqv_same (SeqAt.canLay_of_shaped sh)]
    exact ⟨by omega, by omega, sh, sh, q⟩
theorem perm_at {m : Nat} {ks : List Nat} (hp : ks.Perm (List.range m)) {s : Int} (h0 : 0 ≤ s) (h1 : s < m) : 0 ≤ kAt ks s ∧ kAt ks s < m := by
  have hl : ks.length = m := by rw [hp.length_eq, List.length_range]
  have hj : s.toNat < ks.length := by omega
  have hm : ks.getD s.toNat 0 ∈ ks := by
    rw [List.getD_eq_getElem?_getD, List.getElem?_eq_getElem hj]
    exact List.getElem_mem hj
  have := List.mem_range.mp (hp.mem_iff.mp hm)
  unfold kAt
  omega
theorem perm_nd {m : Nat} {ks : List Nat} (hp : ks.Perm (List.range m)) : ks.Nodup := hp.nodup_iff.mpr List.nodup_range
theorem nd_idx {ks : List Nat} (hn : ks.Nodup) {j : Nat} (hj : j < ks.length) : ks.idxOf ks[j] = j := by
  exact List.Nodup.idxOf_getElem hn j hj
theorem kAt_inj {m : Nat} {ks : List Nat} (hp : ks.Perm (List.range m)) {s e : Int} (h0 : 0 ≤ s) (h1 : s < m) (h2 : 0 ≤ e) (h3 : e < m) (hne : s ≠ e) : kAt ks s ≠ kAt ks e := by
  have hl : ks.length = m := by rw [hp.length_eq, List.length_range]
  have hs : s.toNat < ks.length := by omega
  have he : e.toNat < ks.length := by omega
  intro q
  unfold kAt at q
  rw [List.getD_eq_getElem?_getD, List.getElem?_eq_getElem hs, List.getD_eq_getElem?_getD, List.getElem?_eq_getElem he] at q
  have q : ks[s.toNat] = ks[e.toNat] := by
    have : ((ks[s.toNat] : Nat) : Int) = ((ks[e.toNat] : Nat) : Int) := q
    omega
  have a := nd_idx (perm_nd hp) hs
  have b := nd_idx (perm_nd hp) he
  rw [q, b] at a
  omega
/-- events renamed: a net again -/
theorem rule_ev {n m : Int} {f : Int → Int} {r : D} (hr : RuleOk n 100 r) (hf : ∀ s e, r = .tuple [.int s, .int e, (match r with | .tuple [_, _, lo, _] => lo | _ => .none), (match r with | .tuple [_, _, _, hi] => hi | _ => .none)] → 0 ≤ s → s < n → 0 ≤ e → e < n → s ≠ e → (0 ≤ f s ∧ f s < m) ∧ (0 ≤ f e ∧ f e < m) ∧ f s ≠ f e) : RuleOk m 100 (evR f r) := by
  obtain ⟨s, e, lo, hi, rfl, s0, s1, e0, e1, hne, hl, hh, hb⟩ := hr
  obtain ⟨a, b, c⟩ := hf s e rfl s0 s1 e0 e1 hne
  exact ⟨f s, f e, lo, hi, rfl, a.1, a.2, b.1, b.2, c, hl, hh, hb⟩
theorem NB.turn {n : Int} {rs : List D} (h : NB n rs) : NB n (rs.map tuR) := ⟨h.n0, h.n1, by rw [List.length_map]; exact h.rl, fun r hr => by
  obtain ⟨r0, h0, rfl⟩ := List.mem_map.mp hr
  obtain ⟨s, e, lo, hi, rfl, s0, s1, e0, e1, hne, hl, hh, hb⟩ := h.ro r0 h0
  exact ⟨e, s, lo, hi, rfl, e0, e1, s0, s1, fun z => hne z.symm, hl, hh, hb⟩⟩
theorem NB.order {m : Nat} {rs : List D} {ks : List Nat} (h : NB (m : Int) rs) (hp : ks.Perm (List.range m)) : NB (m : Int) (rs.map (evR (kAt ks))) := ⟨h.n0, h.n1, by rw [List.length_map]; exact h.rl, fun r hr => by
  obtain ⟨r0, h0, rfl⟩ := List.mem_map.mp hr
  exact rule_ev (h.ro r0 h0) fun s e _ s0 s1 e0 e1 hne => ⟨perm_at hp s0 s1, perm_at hp e0 e1, kAt_inj hp s0 s1 e0 e1 hne⟩⟩
theorem renamed_ok {m : Nat} {rs : List D} {ks : List Nat} {Q : D → Prop} (h : NB (m : Int) rs) (hp : ks.Perm (List.range m)) (q : Q (.tuple [.int (m : Int), .tuple (rs.map (evR (kAt ks)))])) : f_renamed [.tuple [.int (m : Int), .tuple rs], .tuple (ks.map iN)] Q := by
  have hl : ks.length = m := by rw [hp.length_eq, List.length_range]
  have n1 := h.n1
  refine o_renamed ?_
  unfold t_renamed
  refine seq_gen fun N hN => ?_
  walk_at "DZ"
  refine check_net_ok h.good ?_
  subst hN
  refine seq_gen fun N hN => ?_
  walk_at "DZ"
  refine ⟨rfl, ?_⟩
  subst hN
  try dsimp only
  refine seq_gen fun N hN => ?_
  walk_at "DZ"
  refine is_order_ok hp (by omega) ?_
  refine ite_f (fun z => nomatch z) ?_
  subst hN
  try dsimp only
  walk_at "DZ"
  refine ⟨by have := h.rl; omega, ?_⟩
  refine lc_map (evR (kAt ks)) (fun r hr R hR => ?_) q
  obtain ⟨s, e, lo, hi, rfl, s0, s1, e0, e1, _⟩ := h.ro r hr
  walk_at "DZ"
  refine ⟨rfl, ?_⟩
  rw [kAt_at s0 (by omega), kAt_at e0 (by omega)]
  exact hR
/-! k05: a part of a net -/
def inC (cs : List Nat) (r : D) : Bool := match r with | .tuple [.int s, .int e, _, _] => decide (s.toNat ∈ cs) && decide (e.toNat ∈ cs) | _ => false
def cIx (cs : List Nat) (s : Int) : Int := ((cs.idxOf s.toNat : Nat) : Int)
theorem idx_cast (cs : List Nat) (k : Nat) : (cs.map fun j : Nat => (j : Int)).idxOf (k : Int) = cs.idxOf k := by
  induction cs with
  | nil => rfl
  | cons c cs ih =>
    rw [List.map_cons, List.idxOf_cons, List.idxOf_cons, ih]
    by_cases h : c = k
    · subst h
      rw [beq_self_eq_true, beq_self_eq_true]
    · rw [beq_eq_false_iff_ne.mpr h, beq_eq_false_iff_ne.mpr (show ((c : Nat) : Int) ≠ k by omega)]
theorem iN_ints (cs : List Nat) : cs.map iN = (cs.map fun j : Nat => (j : Int)).map PyData.int := by rw [List.map_map]; rfl
theorem idxT_nat {cs : List Nat} {s : Int} (h0 : 0 ≤ s) (h : s.toNat ∈ cs) : ∃ ns, intsD (cs.map iN) = some ns ∧ s ∈ ns ∧ ((ns.idxOf s : Nat) : Int) = cIx cs s := by
  obtain ⟨k, rfl⟩ : ∃ k : Nat, s = (k : Int) := ⟨s.toNat, by omega⟩
  rw [Int.toNat_natCast] at h
  refine ⟨cs.map fun j : Nat => (j : Int), by rw [iN_ints]; exact intsD_ints _, List.mem_map.mpr ⟨k, h, rfl⟩, ?_⟩
  rw [idx_cast]
  unfold cIx
  rw [Int.toNat_natCast]
/-- some of a net's events, ascending -/
structure Cho (m : Nat) (cs : List Nat) : Prop where
  ne : cs ≠ []
  asc : cs.Pairwise (· < ·)
  lt : ∀ c ∈ cs, c < m
theorem asc_pw : ∀ {cs : List Nat}, cs.Pairwise (· < ·) → ascN cs = true
  | [], _ => rfl
  | [_], _ => rfl
  | a :: b :: l, h => by
    obtain ⟨h1, h2⟩ := List.pairwise_cons.mp h
    show (decide (a < b) && ascN (b :: l)) = true
    rw [decide_eq_true (h1 b List.mem_cons_self), asc_pw h2]
    rfl
theorem asc_len {m : Nat} : ∀ {cs : List Nat} {lo : Nat}, cs.Pairwise (· < ·) → (∀ c ∈ cs, lo ≤ c ∧ c < m) → cs.length ≤ m - lo
  | [], _, _, _ => Nat.zero_le _
  | c :: cs, lo, h, hb => by
    obtain ⟨h1, h2⟩ := List.pairwise_cons.mp h
    have b := hb c List.mem_cons_self
    have := asc_len (lo := c + 1) h2 fun d hd => ⟨h1 d hd, (hb d (List.mem_cons_of_mem _ hd)).2⟩
    rw [List.length_cons]
    omega
theorem Cho.len {m : Nat} {cs : List Nat} (h : Cho m cs) : cs.length ≤ m := asc_len (lo := 0) h.asc fun c hc => ⟨Nat.zero_le _, h.lt c hc⟩
theorem natD_iN : ∀ cs : List Nat, (cs.map iN).map natD = cs
  | [] => rfl
  | c :: cs => by
    rw [List.map_cons, List.map_cons, natD_iN cs]
    exact congrArg (· :: cs) (Int.toNat_natCast c)
theorem choice_ok {m : Nat} {cs : List Nat} {Q : D → Prop} (h : Cho m cs) (hm : m ≤ 6) (q : Q (.bool true)) : f_is_choice [.tuple (cs.map iN), .int (m : Int)] Q := by
  have hl := h.len
  refine is_choice_ok (shD_tup (by rw [List.length_map]; omega) fun d hd => ?_) ?_
  · obtain ⟨k, _, rfl⟩ := List.mem_map.mp hd
    exact shaped_int _
  · have he : evsB (m : Int) (cs.map iN) = true := by
      unfold evsB
      rw [List.all_map, List.all_eq_true]
      intro k hk
      have := h.lt k hk
      exact inI_good (i := (k : Int)) (l := 0) (g := (m : Int) - 1) (by omega) (by omega)
    dsimp only
    rw [he, natD_iN, asc_pw h.asc, show decide (cs.map iN ≠ []) = true from decide_eq_true fun z => h.ne (List.map_eq_nil_iff.mp z)]
    exact q
def paR (cs : List Nat) (rs : List D) : List D := (rs.filter (inC cs)).map (evR (cIx cs))
theorem in_choice {cs : List Nat} {s : Int} (h0 : 0 ≤ s) : ((cs.map iN).any fun d => PyData.eqv d (.int s)) = decide (s.toNat ∈ cs) := by
  obtain ⟨k, rfl⟩ : ∃ k : Nat, s = (k : Int) := ⟨s.toNat, by omega⟩
  rw [in_nats, Int.toNat_natCast]
theorem NB.part {m : Nat} {rs : List D} {cs : List Nat} (h : NB (m : Int) rs) (hc : Cho m cs) : NB (cs.length : Int) (paR cs rs) := by
  have n1 := h.n1
  have hl := hc.len
  have h0 : cs.length ≠ 0 := fun z => hc.ne (List.eq_nil_of_length_eq_zero z)
  refine ⟨by omega, by omega, ?_, fun r hr => ?_⟩
  · unfold paR
    rw [List.length_map]
    exact Nat.le_trans (List.length_filter_le _ _) h.rl
  · obtain ⟨r0, h0, rfl⟩ := List.mem_map.mp hr
    obtain ⟨h1, h2⟩ := List.mem_filter.mp h0
    refine rule_ev (h.ro r0 h1) fun s e he s0 s1 e0 e1 hne => ?_
    rw [he] at h2
    obtain ⟨hs, he2⟩ := Bool.and_eq_true_iff.mp (show (decide (s.toNat ∈ cs) && decide (e.toNat ∈ cs)) = true from h2)
    have hs := of_decide_eq_true hs
    have he2 := of_decide_eq_true he2
    have l1 := List.idxOf_lt_length_of_mem hs
    have l2 := List.idxOf_lt_length_of_mem he2
    refine ⟨⟨by unfold cIx; omega, by unfold cIx; omega⟩, ⟨by unfold cIx; omega, by unfold cIx; omega⟩, fun z => ?_⟩
    unfold cIx at z
    have z : cs.idxOf s.toNat = cs.idxOf e.toNat := by omega
    have g1 := List.getElem_idxOf l1
    have g2 := List.getElem_idxOf l2
    have : s.toNat = e.toNat := by rw [← g1, ← g2]; congr 1
    omega
theorem part_ok {m : Nat} {rs : List D} {cs : List Nat} {Q : D → Prop} (h : NB (m : Int) rs) (hc : Cho m cs) (q : Q (.tuple [.int (cs.length : Int), .tuple (paR cs rs)])) : f_part [.tuple [.int (m : Int), .tuple rs], .tuple (cs.map iN)] Q := by
  have n1 := h.n1
  have hl := hc.len
  refine o_part ?_
  unfold t_part
  refine seq_gen fun N hN => ?_
  walk_at "DZ"
  refine check_net_ok h.good ?_
  subst hN
  refine seq_gen fun N hN => ?_
  walk_at "DZ"
  refine ⟨rfl, ?_⟩
  subst hN
  try dsimp only
  refine seq_gen fun N hN => ?_
  walk_at "DZ"
  refine choice_ok hc (by omega) ?_
  refine ite_f (fun z => nomatch z) ?_
  subst hN
  try dsimp only
  refine seq_gen fun N hN => ?_
  walk_at "DZ"
  subst hN
  try dsimp only
  refine seq_gen fun N hN => ?_
  unfold dFor
  walk_at "DZ"
  refine for_inv (fun i env => ∃ a b c d, env = [some (.dat (.tuple [.int (m : Int), .tuple rs])), some (.dat (.tuple (cs.map iN))), some (.own (paR cs (rs.take i))), some (.dat (.int (m : Int))), some (.dat (.tuple rs)), a, b, c, d]) (fun i d env hd hi M hM => ?_) (fun env hi => ?_) ⟨_, _, _, _, rfl⟩
  · obtain ⟨a, b, c, d', rfl⟩ := hi
    obtain ⟨hi, rfl⟩ := List.getElem?_eq_some_iff.mp hd
    obtain ⟨s, e, lo, hi', hre, s0, s1, e0, e1, hne, _⟩ := h.ro _ (List.getElem_mem hi)
    have ht : paR cs (rs.take (i + 1)) = paR cs (rs.take i) ++ paR cs [rs[i]] := by
      rw [List.take_succ, List.getElem?_eq_getElem hi]
      unfold paR
      rw [List.filter_append, List.map_append]
      rfl
    rw [hre] at ht ⊢
    walk_at "DZ"
    refine ⟨rfl, ?_⟩
    have fl := flat_nats cs
    have inn : ∀ {x : Int}, 0 ≤ x → (if false = true then !(cs.map iN).any fun d => PyData.eqv d (.int x) else (cs.map iN).any fun d => PyData.eqv d (.int x)) = decide (x.toNat ∈ cs) := fun x0 => by
      rw [← in_choice x0]
      rfl
    have no : (decide (s.toNat ∈ cs) && decide (e.toNat ∈ cs)) = false → M [some (.dat (.tuple [.int (m : Int), .tuple rs])), some (.dat (.tuple (cs.map iN))), some (.own (paR cs (rs.take i))), some (.dat (.int (m : Int))), some (.dat (.tuple rs)), some (.dat (.int s)), some (.dat (.int e)), some (.dat lo), some (.dat hi')] := fun z => hM _ ⟨_, _, _, _, by
      rw [ht]
      have : paR cs [.tuple [.int s, .int e, lo, hi']] = [] := by
        unfold paR
        rw [List.filter_cons, show inC cs (.tuple [.int s, .int e, lo, hi']) = false from z]
        rfl
      rw [this, List.append_nil]⟩
    refine ⟨rfl, fl, ?_⟩
    by_cases c1 : s.toNat ∈ cs
    · refine ite_t ((inn s0).trans (decide_eq_true c1)) ?_
      refine ⟨rfl, fl, ?_⟩
      by_cases c2 : e.toNat ∈ cs
      · refine ite_t ((inn e0).trans (decide_eq_true c2)) ?_
        obtain ⟨ns, a1, a2, a3⟩ := idxT_nat s0 c1
        obtain ⟨ns2, b1, b2, b3⟩ := idxT_nat e0 c2
        have hp : paR cs [.tuple [.int s, .int e, lo, hi']] = [.tuple [.int (cIx cs s), .int (cIx cs e), lo, hi']] := by
          unfold paR
          rw [List.filter_cons, show inC cs (.tuple [.int s, .int e, lo, hi']) = true from by show (decide _ && decide _) = true; rw [decide_eq_true c1, decide_eq_true c2]; rfl]
          rfl
        rw [ht, hp] at hM
        have hln : (paR cs (rs.take i)).length ≤ rs.length := by
          unfold paR
          rw [List.length_map]
          exact Nat.le_trans (List.length_filter_le _ _) (List.length_take_le' _ _)
        refine ⟨ns, a1, a2, ns2, b1, b2, by have := h.rl; omega, ?_⟩
        rw [a3, b3]
        exact hM _ ⟨_, _, _, _, rfl⟩
      · refine ite_f (fun z => by rw [inn e0, decide_eq_false c2] at z; cases z) ?_
        exact no (by rw [decide_eq_false c2, Bool.and_false])
    · refine ite_f (fun z => by rw [inn s0, decide_eq_false c1] at z; cases z) ?_
      refine ite_f (fun z => nomatch z) ?_
      exact no (by rw [decide_eq_false c1, Bool.false_and])
  · obtain ⟨a, b, c, d', rfl⟩ := hi
    rw [List.take_length]
    subst hN
    walk_at "DZ"
    rw [List.length_map]
    exact q
/-! k07: what is told of a call -/
theorem s_yes {a : Str} (h : PyData.canLay0 (.str a) = true) {P R : Prop} (p : P) : SeqAt.shaped (.str a) = true ∧ SeqAt.shaped (.str a) = true ∧ (if PyData.eqv (.str a) (.str a) = true then P else R) :=
  ⟨shaped_str h, shaped_str h, ite_t (eqv_same h) p⟩
theorem s_no {a b : Str} (ha : PyData.canLay0 (.str a) = true) (hb : PyData.canLay0 (.str b) = true) (hn : PyData.eqv (.str a) (.str b) = false) {P R : Prop} (r : R) : SeqAt.shaped (.str a) = true ∧ SeqAt.shaped (.str b) = true ∧ (if PyData.eqv (.str a) (.str b) = true then P else R) :=
  ⟨shaped_str ha, shaped_str hb, ite_f (by rw [hn]; exact fun z => nomatch z) r⟩
/-- what the handler makes of it -/
def HX (Q : D → Prop) : Nat → D → Prop := fun c e => match [some true, none, some false][c]? with
  | some (some true) => some (none : Option Sl) = some none ∧ ∃ b, [some true, none, some true][c]? = some (some b) ∧ (if b = true then ∃ b, [some true, none, some true][c]? = some (some b) ∧ (if b = true then c = 0 ∧ Q e else Q .none) else if false = true then c = 0 ∧ Q e else Q .none)
  | some (some false) => False
  | _ => False
theorem HX_0 {Q : D → Prop} {d : D} (q : Q d) : HX Q 0 d := ⟨rfl, true, rfl, ite_t rfl ⟨true, rfl, ite_t rfl ⟨rfl, q⟩⟩⟩
theorem lay_keeps : PyData.canLay0 (.str "keeps") = true := by decide +kernel
theorem lay_excess : PyData.canLay0 (.str "excess") = true := by decide +kernel
theorem lay_first : PyData.canLay0 (.str "first") = true := by decide +kernel
theorem lay_edges : PyData.canLay0 (.str "edges") = true := by decide +kernel
theorem lay_walk : PyData.canLay0 (.str "walk") = true := by decide +kernel
theorem lay_length : PyData.canLay0 (.str "length") = true := by decide +kernel
theorem lay_turned : PyData.canLay0 (.str "turned") = true := by decide +kernel
theorem lay_renamed : PyData.canLay0 (.str "renamed") = true := by decide +kernel
theorem lay_part : PyData.canLay0 (.str "part") = true := by decide +kernel
theorem lay_rule : PyData.canLay0 (.str "rule") = true := by decide +kernel
theorem tl_keeps {a b : D} {r : List D} {Q : D → Prop} (q : orX f_keeps fX_keeps [a, b] (fun _ => Q (.str "")) (HX Q)) : f_L_told [.str "keeps", .list (a :: b :: r)] Q := by
  refine o_L_told ?_
  unfold t_L_told
  refine seq_gen fun N hN => ?_
  walk_at "DZ"
  refine s_yes lay_keeps ?_
  rw [atI_0, atI_1]
  dsimp only
  subst hN
  exact q
theorem tl_excess {a b : D} {r : List D} {Q : D → Prop} (q : orX f_excess fX_excess [a, b] (fun _ => Q (.str "")) (HX Q)) : f_L_told [.str "excess", .list (a :: b :: r)] Q := by
  refine o_L_told ?_
  unfold t_L_told
  refine seq_gen fun N hN => ?_
  walk_at "DZ"
  refine s_no lay_excess lay_keeps (by decide +kernel) ?_
  refine s_yes lay_excess ?_
  rw [atI_0, atI_1]
  dsimp only
  subst hN
  exact q
theorem tl_first {a b : D} {r : List D} {Q : D → Prop} (q : orX f_first_broken fX_first_broken [a, b] (fun _ => Q (.str "")) (HX Q)) : f_L_told [.str "first", .list (a :: b :: r)] Q := by
  refine o_L_told ?_
  unfold t_L_told
  refine seq_gen fun N hN => ?_
  walk_at "DZ"
  refine s_no lay_first lay_keeps (by decide +kernel) ?_
  refine s_no lay_first lay_excess (by decide +kernel) ?_
  refine s_yes lay_first ?_
  rw [atI_0, atI_1]
  dsimp only
  subst hN
  exact q
theorem tl_edges {a : D} {r : List D} {Q : D → Prop} (q : orX f_edges fX_edges [a] (fun _ => Q (.str "")) (HX Q)) : f_L_told [.str "edges", .list (a :: r)] Q := by
  refine o_L_told ?_
  unfold t_L_told
  refine seq_gen fun N hN => ?_
  walk_at "DZ"
  refine s_no lay_edges lay_keeps (by decide +kernel) ?_
  refine s_no lay_edges lay_excess (by decide +kernel) ?_
  refine s_no lay_edges lay_first (by decide +kernel) ?_
  refine s_yes lay_edges ?_
  rw [atI_0]
  dsimp only
  subst hN
  exact q
theorem tl_walk {a b c : D} {r : List D} {Q : D → Prop} (q : orX f_is_walk fX_is_walk [a, b, c, .none] (fun _ => Q (.str "")) (HX Q)) : f_L_told [.str "walk", .list (a :: b :: c :: r)] Q := by
  refine o_L_told ?_
  unfold t_L_told
  refine seq_gen fun N hN => ?_
  walk_at "DZ"
  refine s_no lay_walk lay_keeps (by decide +kernel) ?_
  refine s_no lay_walk lay_excess (by decide +kernel) ?_
  refine s_no lay_walk lay_first (by decide +kernel) ?_
  refine s_no lay_walk lay_edges (by decide +kernel) ?_
  refine s_yes lay_walk ?_
  rw [atI_0, atI_1, atI_2]
  dsimp only
  subst hN
  exact q
theorem tl_length {a b : D} {r : List D} {Q : D → Prop} (q : orX f_walk_length fX_walk_length [a, b] (fun _ => Q (.str "")) (HX Q)) : f_L_told [.str "length", .list (a :: b :: r)] Q := by
  refine o_L_told ?_
  unfold t_L_told
  refine seq_gen fun N hN => ?_
  walk_at "DZ"
  refine s_no lay_length lay_keeps (by decide +kernel) ?_
  refine s_no lay_length lay_excess (by decide +kernel) ?_
  refine s_no lay_length lay_first (by decide +kernel) ?_
  refine s_no lay_length lay_edges (by decide +kernel) ?_
  refine s_no lay_length lay_walk (by decide +kernel) ?_
  refine s_yes lay_length ?_
  rw [atI_0, atI_1]
  dsimp only
  subst hN
  exact q
theorem tl_turned {a : D} {r : List D} {Q : D → Prop} (q : orX f_turned fX_turned [a] (fun _ => Q (.str "")) (HX Q)) : f_L_told [.str "turned", .list (a :: r)] Q := by
  refine o_L_told ?_
  unfold t_L_told
  refine seq_gen fun N hN => ?_
  walk_at "DZ"
  refine s_no lay_turned lay_keeps (by decide +kernel) ?_
  refine s_no lay_turned lay_excess (by decide +kernel) ?_
  refine s_no lay_turned lay_first (by decide +kernel) ?_
  refine s_no lay_turned lay_edges (by decide +kernel) ?_
  refine s_no lay_turned lay_walk (by decide +kernel) ?_
  refine s_no lay_turned lay_length (by decide +kernel) ?_
  refine s_yes lay_turned ?_
  rw [atI_0]
  dsimp only
  subst hN
  exact q
theorem tl_renamed {a b : D} {r : List D} {Q : D → Prop} (q : orX f_renamed fX_renamed [a, b] (fun _ => Q (.str "")) (HX Q)) : f_L_told [.str "renamed", .list (a :: b :: r)] Q := by
  refine o_L_told ?_
  unfold t_L_told
  refine seq_gen fun N hN => ?_
  walk_at "DZ"
  refine s_no lay_renamed lay_keeps (by decide +kernel) ?_
  refine s_no lay_renamed lay_excess (by decide +kernel) ?_
  refine s_no lay_renamed lay_first (by decide +kernel) ?_
  refine s_no lay_renamed lay_edges (by decide +kernel) ?_
  refine s_no lay_renamed lay_walk (by decide +kernel) ?_
  refine s_no lay_renamed lay_length (by decide +kernel) ?_
  refine s_no lay_renamed lay_turned (by decide +kernel) ?_
  refine s_yes lay_renamed ?_
  rw [atI_0, atI_1]
  dsimp only
  subst hN
  exact q
theorem tl_part {a b : D} {r : List D} {Q : D → Prop} (q : orX f_part fX_part [a, b] (fun _ => Q (.str "")) (HX Q)) : f_L_told [.str "part", .list (a :: b :: r)] Q := by
  refine o_L_told ?_
  unfold t_L_told
  refine seq_gen fun N hN => ?_
  walk_at "DZ"
  refine s_no lay_part lay_keeps (by decide +kernel) ?_
  refine s_no lay_part lay_excess (by decide +kernel) ?_
  refine s_no lay_part lay_first (by decide +kernel) ?_
  refine s_no lay_part lay_edges (by decide +kernel) ?_
  refine s_no lay_part lay_walk (by decide +kernel) ?_
  refine s_no lay_part lay_length (by decide +kernel) ?_
  refine s_no lay_part lay_turned (by decide +kernel) ?_
  refine s_no lay_part lay_renamed (by decide +kernel) ?_
  refine s_yes lay_part ?_
  rw [atI_0, atI_1]
  dsimp only
  subst hN
  exact q
theorem tl_rule {a b : D} {r : List D} {Q : D → Prop} (q : orX f_with_rule fX_with_rule [a, b] (fun _ => Q (.str "")) (HX Q)) : f_L_told [.str "rule", .list (a :: b :: r)] Q := by
  refine o_L_told ?_
  unfold t_L_told
  refine seq_gen fun N hN => ?_
  walk_at "DZ"
  refine s_no lay_rule lay_keeps (by decide +kernel) ?_
  refine s_no lay_rule lay_excess (by decide +kernel) ?_
  refine s_no lay_rule lay_first (by decide +kernel) ?_
  refine s_no lay_rule lay_edges (by decide +kernel) ?_
  refine s_no lay_rule lay_walk (by decide +kernel) ?_
  refine s_no lay_rule lay_length (by decide +kernel) ?_
  refine s_no lay_rule lay_turned (by decide +kernel) ?_
  refine s_no lay_rule lay_renamed (by decide +kernel) ?_
  refine s_no lay_rule lay_part (by decide +kernel) ?_
  rw [atI_0, atI_1]
  dsimp only
  subst hN
  exact q
/-! k07: what raises -/
theorem check_timesX {v x : D} {n : Int} {Q : D → Prop} {X : Nat → D → Prop} (hn : n ≤ 1000) (h : timesB v n = false) (q : X 0 (.str "times")) : fX_check_times [.tuple [.int n, x], v] Q X := by
  refine oX_check_times ?_
  unfold tX_check_times
  walk_at "DZ"
  refine is_times_ok _ n _ _ hn ?_
  rw [h]
  exact ite_t rfl q
theorem excess_net {v a : D} {Q : D → Prop} {X : Nat → D → Prop} (h : netB v = false) (q : X 0 (.str "net")) : fX_excess [v, a] Q X := by
  refine oX_excess ?_
  unfold tX_excess
  refine seq_gen fun N hN => ?_
  walk_at "DZ"
  exact .inr (check_netX h q)
theorem edges_net {v : D} {Q : D → Prop} {X : Nat → D → Prop} (h : netB v = false) (q : X 0 (.str "net")) : fX_edges [v] Q X := by
  refine oX_edges ?_
  unfold tX_edges
  refine seq_gen fun N hN => ?_
  walk_at "DZ"
  exact .inr (check_netX h q)
theorem is_walk_net {v a b c : D} {Q : D → Prop} {X : Nat → D → Prop} (h : netB v = false) (q : X 0 (.str "net")) : fX_is_walk [v, a, b, c] Q X := by
  refine oX_is_walk ?_
  unfold tX_is_walk
  refine seq_gen fun N hN => ?_
  walk_at "DZ"
  exact .inr (check_netX h q)
theorem walk_length_net {v a : D} {Q : D → Prop} {X : Nat → D → Prop} (h : netB v = false) (q : X 0 (.str "net")) : fX_walk_length [v, a] Q X := by
  refine oX_walk_length ?_
  unfold tX_walk_length
  refine seq_gen fun N hN => ?_
  walk_at "DZ"
  exact .inr (check_netX h q)
theorem turned_net {v : D} {Q : D → Prop} {X : Nat → D → Prop} (h : netB v = false) (q : X 0 (.str "net")) : fX_turned [v] Q X := by
  refine oX_turned ?_
  unfold tX_turned
  refine seq_gen fun N hN => ?_
  walk_at "DZ"
  exact .inr (check_netX h q)
theorem renamed_net {v a : D} {Q : D → Prop} {X : Nat → D → Prop} (h : netB v = false) (q : X 0 (.str "net")) : fX_renamed [v, a] Q X := by
  refine oX_renamed ?_
  unfold tX_renamed
  refine seq_gen fun N hN => ?_
  walk_at "DZ"
  exact .inr (check_netX h q)
theorem part_net {v a : D} {Q : D → Prop} {X : Nat → D → Prop} (h : netB v = false) (q : X 0 (.str "net")) : fX_part [v, a] Q X := by
  refine oX_part ?_
  unfold tX_part
  refine seq_gen fun N hN => ?_
  walk_at "DZ"
  exact .inr (check_netX h q)
theorem with_rule_net {v a : D} {Q : D → Prop} {X : Nat → D → Prop} (h : netB v = false) (q : X 0 (.str "net")) : fX_with_rule [v, a] Q X := by
  refine oX_with_rule ?_
  unfold tX_with_rule
  refine seq_gen fun N hN => ?_
  walk_at "DZ"
  exact .inr (check_netX h q)
theorem first_broken_net {v a : D} {Q : D → Prop} {X : Nat → D → Prop} (h : netB v = false) (q : X 0 (.str "net")) : fX_first_broken [v, a] Q X := by
  refine oX_first_broken ?_
  unfold tX_first_broken
  refine seq_gen fun N hN => ?_
  refine for_gen fun B hB => ?_
  unfold dFor
  walk_at "DZ"
  exact .inr (excess_net h q)
theorem keeps_net {v a : D} {Q : D → Prop} {X : Nat → D → Prop} (h : netB v = false) (q : X 0 (.str "net")) : fX_keeps [v, a] Q X := by
  refine oX_keeps ?_
  unfold tX_keeps
  walk_at "DZ"
  exact .inr (first_broken_net h q)
theorem excess_tm {n : Int} {rs : List D} {v : D} {Q : D → Prop} {X : Nat → D → Prop} (H : NB n rs) (h : timesB v n = false) (q : X 0 (.str "times")) : fX_excess [.tuple [.int n, .tuple rs], v] Q X := by
  refine oX_excess ?_
  unfold tX_excess
  refine seq_gen fun N hN => ?_
  walk_at "DZ"
  refine .inl (check_net_ok H.good ?_)
  subst hN
  refine seq_gen fun N hN => ?_
  walk_at "DZ"
  exact .inr (check_timesX (by have := H.n1; omega) h q)
theorem first_broken_tm {n : Int} {rs : List D} {v : D} {Q : D → Prop} {X : Nat → D → Prop} (H : NB n rs) (h : timesB v n = false) (q : X 0 (.str "times")) : fX_first_broken [.tuple [.int n, .tuple rs], v] Q X := by
  refine oX_first_broken ?_
  unfold tX_first_broken
  refine seq_gen fun N hN => ?_
  refine for_gen fun B hB => ?_
  unfold dFor
  walk_at "DZ"
  exact .inr (excess_tm H h q)
theorem keeps_tm {n : Int} {rs : List D} {v : D} {Q : D → Prop} {X : Nat → D → Prop} (H : NB n rs) (h : timesB v n = false) (q : X 0 (.str "times")) : fX_keeps [.tuple [.int n, .tuple rs], v] Q X := by
  refine oX_keeps ?_
  unfold tX_keeps
  walk_at "DZ"
  exact .inr (first_broken_tm H h q)
theorem is_walk_start {n : Int} {rs : List D} {v b c : D} {Q : D → Prop} {X : Nat → D → Prop} (H : NB n rs) (h : inI v 0 (n - 1) = false) (q : X 0 (.str "start")) : fX_is_walk [.tuple [.int n, .tuple rs], v, b, c] Q X := by
  refine oX_is_walk ?_
  unfold tX_is_walk
  refine seq_gen fun N hN => ?_
  walk_at "DZ"
  refine .inl (check_net_ok H.good ?_)
  subst hN
  refine seq_gen fun N hN => ?_
  walk_at "DZ"
  exact .inr (check_eventX h q)
theorem is_walk_end {n : Int} {rs : List D} {a v c : D} {Q : D → Prop} {X : Nat → D → Prop} (H : NB n rs) (ha : inI a 0 (n - 1) = true) (h : inI v 0 (n - 1) = false) (q : X 0 (.str "end")) : fX_is_walk [.tuple [.int n, .tuple rs], a, v, c] Q X := by
  refine oX_is_walk ?_
  unfold tX_is_walk
  refine seq_gen fun N hN => ?_
  walk_at "DZ"
  refine .inl (check_net_ok H.good ?_)
  subst hN
  refine seq_gen fun N hN => ?_
  walk_at "DZ"
  refine .inl (check_event_fine ha ?_)
  subst hN
  refine seq_gen fun N hN => ?_
  walk_at "DZ"
  exact .inr (check_eventX h q)
theorem is_walk_fine {n s e : Int} {rs : List D} {Q : D → Prop} (H : NB n rs) (hs : inI (.int s) 0 (n - 1) = true) (he : inI (.int e) 0 (n - 1) = true) (q : ∀ d, Q d) : f_is_walk [.tuple [.int n, .tuple rs], .int s, .int e, .none] Q := by
  refine o_is_walk ?_
  unfold t_is_walk
  refine seq_gen fun N hN => ?_
  walk_at "DZ"
  refine check_net_ok H.good ?_
  subst hN
  refine seq_gen fun N hN => ?_
  walk_at "DZ"
  refine check_event_fine hs ?_
  subst hN
  refine seq_gen fun N hN => ?_
  walk_at "DZ"
  refine check_event_fine he ?_
  subst hN
  walk_at "DZ"
  refine walk_end_not rfl ?_
  exact ⟨rfl, shaped_int _, q _⟩
def WB (n : Int) (rs : List D) (v : D) : Prop := ∀ e : Int, 0 ≤ e → e < n → ∀ R : D → Prop, R .none → f_walk_end [.tuple [.int n, .tuple rs], .int e, v] R
theorem walk_length_wk {n : Int} {rs : List D} {v : D} {Q : D → Prop} {X : Nat → D → Prop} (H : NB n rs) (h : WB n rs v) (q : X 0 (.str "walk")) : fX_walk_length [.tuple [.int n, .tuple rs], v] Q X := by
  have n0 := H.n0
  have n1 := H.n1
  refine oX_walk_length ?_
  unfold tX_walk_length
  refine seq_gen fun N hN => ?_
  walk_at "DZ"
  refine .inl (check_net_ok H.good ?_)
  subst hN
  refine seq_gen fun N hN => ?_
  walk_at "DZ"
  rw [atI_0]
  dsimp only
  refine ⟨by omega, by omega, by rw [dRange_length]; omega, ?_⟩
  refine lc_map (fun _ => .none) (fun d hd R hR => ?_) ?_
  · obtain ⟨i, hi, rfl⟩ := mem_dRange hd
    walk_at "DZ"
    exact h _ (by omega) (by omega) R hR
  subst hN
  try dsimp only
  refine seq_gen fun N hN => ?_
  walk_at "DZ"
  refine ⟨by rw [List.length_map, dRange_length]; omega, lc_map (fun _ => .bool true) (fun d hd R hR => ?_) ?_⟩
  · obtain ⟨_, _, rfl⟩ := List.mem_map.mp hd
    walk_at "DZ"
    exact hR
  · unfold dBools
    dsimp only
    rw [allBool_map (fun _ => true)]
    dsimp only
    rw [List.all_map]
    refine ite_t (List.all_eq_true.mpr fun _ _ => rfl) ?_
    exact q
theorem renamed_or {n : Int} {rs : List D} {v : D} {Q : D → Prop} {X : Nat → D → Prop} (H : NB n rs) (h : ∀ R : D → Prop, R (.bool false) → f_is_order [v, .int n] R) (q : X 0 (.str "order")) : fX_renamed [.tuple [.int n, .tuple rs], v] Q X := by
  refine oX_renamed ?_
  unfold tX_renamed
  refine seq_gen fun N hN => ?_
  walk_at "DZ"
  refine .inl (check_net_ok H.good ?_)
  subst hN
  refine seq_gen fun N hN => ?_
  walk_at "DZ"
  refine ⟨rfl, ?_⟩
  subst hN
  try dsimp only
  refine seq_gen fun N hN => ?_
  walk_at "DZ"
  refine h _ ?_
  exact ite_t rfl q
theorem part_ch {n : Int} {rs : List D} {v : D} {Q : D → Prop} {X : Nat → D → Prop} (H : NB n rs) (h : ∀ R : D → Prop, R (.bool false) → f_is_choice [v, .int n] R) (q : X 0 (.str "chosen")) : fX_part [.tuple [.int n, .tuple rs], v] Q X := by
  refine oX_part ?_
  unfold tX_part
  refine seq_gen fun N hN => ?_
  walk_at "DZ"
  refine .inl (check_net_ok H.good ?_)
  subst hN
  refine seq_gen fun N hN => ?_
  walk_at "DZ"
  refine ⟨rfl, ?_⟩
  subst hN
  try dsimp only
  refine seq_gen fun N hN => ?_
  walk_at "DZ"
  refine h _ ?_
  exact ite_t rfl q
theorem with_rule_rl {n : Int} {rs : List D} {v : D} {Q : D → Prop} {X : Nat → D → Prop} (H : NB n rs) (h : ruleB v n = false) (q : X 0 (.str "rule")) : fX_with_rule [.tuple [.int n, .tuple rs], v] Q X := by
  refine oX_with_rule ?_
  unfold tX_with_rule
  refine seq_gen fun N hN => ?_
  walk_at "DZ"
  refine .inl (check_net_ok H.good ?_)
  subst hN
  refine seq_gen fun N hN => ?_
  walk_at "DZ"
  refine ⟨rfl, ?_⟩
  subst hN
  try dsimp only
  refine seq_gen fun N hN => ?_
  walk_at "DZ"
  refine is_rule_ok _ _ _ ?_
  rw [h]
  exact ite_t rfl q
theorem with_rule_ok {n : Int} {rs : List D} {r : D} {Q : D → Prop} (h : NB n rs) (hl : rs.length < 12) (hr : RuleOk n 100 r) (q : Q (.tuple [.int n, .tuple (rs ++ [r])])) : f_with_rule [.tuple [.int n, .tuple rs], r] Q := by
  refine o_with_rule ?_
  unfold t_with_rule
  refine seq_gen fun N hN => ?_
  walk_at "DZ"
  refine check_net_ok h.good ?_
  subst hN
  refine seq_gen fun N hN => ?_
  walk_at "DZ"
  refine ⟨rfl, ?_⟩
  subst hN
  try dsimp only
  refine seq_gen fun N hN => ?_
  walk_at "DZ"
  refine is_rule_ok _ _ _ ?_
  rw [rule_good (by decide) hr]
  refine ite_f (fun z => nomatch z) ?_
  subst hN
  try dsimp only
  refine seq_gen fun N hN => ?_
  walk_at "DZ"
  refine ⟨shaped_int _, shaped_int _, ?_⟩
  refine ite_f (fun z => by rw [eqv_intD] at z; have := of_decide_eq_true z; omega) ?_
  subst hN
  try dsimp only
  walk_at "DZ"
  refine ⟨by show rs.length + 1 ≤ 1000000; omega, q⟩
/-! k07: wrong values -/
theorem NB.nr {n : Int} {rs : List D} (h : NB n rs) : NR n 100 rs := ⟨h.n0, h.n1, by decide, h.rl, h.ro⟩
theorem netB_rule {n : Int} {rs : List D} {r : D} (hr : r ∈ rs) (h : ruleB r n = false) : netB (.tuple [.int n, .tuple rs]) = false := by
  show (inI (.int n) 1 6 && decide (rs.length ≤ 12) && rs.all (ruleB · n)) = false
  rw [show rs.all (ruleB · n) = false from List.all_eq_false.mpr ⟨r, hr, by rw [h]; exact fun z => nomatch z⟩, Bool.and_false]
theorem netB_many {n : Int} {rs : List D} (h : 12 < rs.length) : netB (.tuple [.int n, .tuple rs]) = false := by
  show (inI (.int n) 1 6 && decide (rs.length ≤ 12) && rs.all (ruleB · n)) = false
  rw [decide_eq_false (by omega), Bool.and_false, Bool.false_and]
theorem inI_out {i l g : Int} (h : i < l ∨ g < i) : inI (.int i) l g = false := by
  show (decide (l ≤ i) && decide (i ≤ g)) = false
  rcases h with h | h
  · rw [decide_eq_false (show ¬ l ≤ i by omega), Bool.false_and]
  · rw [decide_eq_false (show ¬ i ≤ g by omega), Bool.and_false]
theorem ruleB_end {s e n : Int} {l h : D} (he : n ≤ e) : ruleB (.tuple [.int s, .int e, l, h]) n = false := by
  show (inI (.int s) 0 (n - 1) && inI (.int e) 0 (n - 1) && !(PyData.eqv (.int s) (.int e)) && !(isNone l && isNone h) && sideB l && sideB h) = false
  rw [inI_out (i := e) (l := 0) (g := n - 1) (.inr (by omega)), Bool.and_false]
  rfl
theorem ruleB_same {s n : Int} {l h : D} : ruleB (.tuple [.int s, .int s, l, h]) n = false := by
  show (inI (.int s) 0 (n - 1) && inI (.int s) 0 (n - 1) && !(PyData.eqv (.int s) (.int s)) && !(isNone l && isNone h) && sideB l && sideB h) = false
  rw [eqv_same (d := .int s) rfl]
  simp
theorem ruleB_lo {s e l h : D} {n : Int} (hl : sideB l = false) : ruleB (.tuple [s, e, l, h]) n = false := by
  show (inI s 0 (n - 1) && inI e 0 (n - 1) && !(PyData.eqv s e) && !(isNone l && isNone h) && sideB l && sideB h) = false
  rw [hl, Bool.and_false, Bool.false_and]
theorem ruleB_hi {s e l h : D} {n : Int} (hl : sideB h = false) : ruleB (.tuple [s, e, l, h]) n = false := by
  show (inI s 0 (n - 1) && inI e 0 (n - 1) && !(PyData.eqv s e) && !(isNone l && isNone h) && sideB l && sideB h) = false
  rw [hl, Bool.and_false]
theorem ruleB_no {s e : D} {n : Int} : ruleB (.tuple [s, e, .none, .none]) n = false := by
  show (inI s 0 (n - 1) && inI e 0 (n - 1) && !(PyData.eqv s e) && !true && sideB .none && sideB .none) = false
  rw [Bool.not_true, Bool.and_false]
  rfl
theorem timesB_len {us : List D} {n : Int} (h : (us.length : Int) ≠ n) : timesB (.tuple us) n = false := by
  show (decide ((us.length : Int) = n) && _) = false
  rw [decide_eq_false h, Bool.false_and]
theorem timesB_mem {us : List D} {u : D} {n : Int} (hu : u ∈ us) (h : inI u (-1000) 1000 = false) : timesB (.tuple us) n = false := by
  show (_ && us.all fun t => inI t (-1000) 1000) = false
  rw [show (us.all fun t => inI t (-1000) 1000) = false from List.all_eq_false.mpr ⟨u, hu, by rw [h]; exact fun z => nomatch z⟩, Bool.and_false]
/-! walks -/
theorem any_none {rs : List D} {d : D} (h : crs rs d = none) : ∀ {vs : List D} {e : Int}, d ∈ vs → anyP rs e vs = none
  | v :: vs, e, hd => by
    rw [anyP_cons]
    rcases List.mem_cons.mp hd with rfl | hd
    · rw [h]
    · cases crs rs v with
      | none => rfl
      | some x =>
        dsimp only
        by_cases c : x.s = e
        · rw [if_pos c]
          exact any_none h hd
        · rw [if_neg c]
theorem WB_not {n : Int} {rs : List D} {v : D} (h : isTu v = false) : WB n rs v := fun e _ _ R q => walk_end_not h q
theorem WB_any {n : Int} {rs vs : List D} {d : D} (H : NB n rs) (hs : ∀ x ∈ vs, SeqAt.shaped x = true) (hd : d ∈ vs) (h : crs rs d = none) : WB n rs (.tuple vs) := fun e _ _ R q =>
  walk_end_any H.nr hs (by rw [any_none h hd]; exact q)
theorem ed_facts {n : Int} {rs : List D} {x : Ed} (H : NB n rs) (hx : x ∈ edN rs rs.length) : x.k < rs.length ∧ (x.d = "high" ∨ x.d = "low") := by
  obtain ⟨s, e, lo, hi, hr, _, _, _, _, _, _, h⟩ := mem_ed H.ro hx
  refine ⟨(List.getElem?_eq_some_iff.mp hr).1, ?_⟩
  rcases h with ⟨h, _⟩ | ⟨h, _⟩
  · exact .inl (by rw [h])
  · exact .inr (by rw [h])
theorem crs_idx {n i : Int} {rs : List D} {z : Str} (H : NB n rs) (hi : i < 0 ∨ (rs.length : Int) ≤ i) : crs rs (.tuple [.int i, .str z]) = none := crs_none fun x hx => by
  have := (ed_facts H hx).1
  show (decide (i = (x.k : Int)) && decide (z = x.d)) = false
  rw [decide_eq_false (by omega), Bool.false_and]
theorem crs_word {n i : Int} {rs : List D} {z : Str} (H : NB n rs) (h1 : z ≠ "high") (h2 : z ≠ "low") : crs rs (.tuple [.int i, .str z]) = none := crs_none fun x hx => by
  show (decide (i = (x.k : Int)) && decide (z = x.d)) = false
  rw [decide_eq_false (show ¬ z = x.d from fun q => (ed_facts H hx).2.elim (fun e => h1 (q.trans e)) fun e => h2 (q.trans e)), Bool.and_false]
/-! orders -/
theorem is_order_not {v n : D} {Q : D → Prop} (h : ∀ R : D → Prop, R (.bool false) → f_are_events [v, n] R) (q : Q (.bool false)) : f_is_order [v, n] Q := by
  refine o_is_order ?_
  unfold t_is_order
  walk_at "DZ"
  refine h _ ?_
  exact ite_f (fun z => nomatch z) q
theorem eqvAll_ints : ∀ (as bs : List Int), PyData.eqvAll (as.map PyData.int) (bs.map PyData.int) = decide (as = bs)
  | [], [] => rfl
  | [], _ :: _ => rfl
  | _ :: _, [] => rfl
  | a :: as, b :: bs => by
    show (PyData.eqv (.int a) (.int b) && PyData.eqvAll (as.map PyData.int) (bs.map PyData.int)) = _
    rw [eqvAll_ints as bs, eqv_intD, Bool.eq_iff_iff, Bool.and_eq_true, decide_eq_true_iff, decide_eq_true_iff, decide_eq_true_iff, List.cons.injEq]
theorem eqv_intsL (as bs : List Int) : PyData.eqv (.list (as.map PyData.int)) (.list (bs.map PyData.int)) = decide (as = bs) := by
  rw [← eqvAll_ints as bs]
  simp only [PyData.eqv]
theorem ints_sh (ns : List Int) : SeqAt.shaped (.list (ns.map PyData.int)) = true := shaped_ll fun d hd => by
  obtain ⟨i, _, rfl⟩ := List.mem_map.mp hd
  exact ⟨i, rfl⟩
theorem ShD_nat (js : List Nat) (h : js.length ≤ 1000) : ShD (.tuple (js.map iN)) := shD_tup (by rw [List.length_map]; exact h) fun d hd => by
  obtain ⟨k, _, rfl⟩ := List.mem_map.mp hd
  exact shaped_int _
theorem is_order_nat {m : Nat} {js : List Nat} {Q : D → Prop} (hl : js.length ≤ 1000) (hlt : ∀ j ∈ js, j < m) (hm : m ≤ 100) (hn : ¬ js.Perm (List.range m)) (q : Q (.bool false)) : f_is_order [.tuple (js.map iN), .int (m : Int)] Q := by
  refine o_is_order ?_
  unfold t_is_order
  walk_at "DZ"
  refine are_events_ok (ShD_nat js hl) ?_
  have he : evsB (m : Int) (js.map iN) = true := by
    unfold evsB
    rw [List.all_map, List.all_eq_true]
    intro k hk
    have := hlt k hk
    exact inI_good (i := (k : Int)) (l := 0) (g := (m : Int) - 1) (by omega) (by omega)
  dsimp only
  rw [he]
  refine ite_t rfl ?_
  rw [iN_ints]
  refine dSortIT_ints fun ns' p1 p2 => ?_
  have e3 : dRange 0 ((m : Nat) : Int).toNat = ((List.range m).map fun k : Nat => (k : Int)).map PyData.int := by rw [Int.toNat_natCast, rng_nat, List.map_map]; rfl
  rw [e3]
  refine ⟨by omega, by omega, ints_sh _, ints_sh _, ?_⟩
  rw [eqv_intsL, decide_eq_false (fun z => hn ?_)]
  · exact q
  · rw [z] at p1
    have h2 := p1.map Int.toNat
    have e : (Int.toNat ∘ fun k : Nat => (k : Int)) = id := funext fun k => Int.toNat_natCast k
    rw [List.map_map, List.map_map, e, List.map_id, List.map_id] at h2
    exact h2.symm
theorem events_no {us : List D} {u : D} {n : Int} (hs : ShD (.tuple us)) (hu : u ∈ us) (h : inI u 0 (n - 1) = false) {R : D → Prop} (q : R (.bool false)) : f_are_events [.tuple us, .int n] R := by
  refine are_events_ok hs ?_
  dsimp only
  have : evsB n us = false := List.all_eq_false.mpr ⟨u, hu, by rw [h]; exact fun z => nomatch z⟩
  rw [this]
  exact q
theorem events_not {o : D} {n : Int} (h : isTu o = false) {R : D → Prop} (q : R (.bool false)) : f_are_events [o, .int n] R := by
  refine are_events_ok (shD_not h) ?_
  cases o <;> first | exact q | cases h
/-! choices -/
theorem choice_no {us : List D} {n : Int} (hs : ShD (.tuple us)) (h : (evsB n us && (decide (us ≠ []) && ascN (us.map natD))) = false) {R : D → Prop} (q : R (.bool false)) : f_is_choice [.tuple us, .int n] R := by
  refine is_choice_ok hs ?_
  dsimp only
  rw [h]
  exact q
theorem choice_not {o : D} {n : Int} (h : isTu o = false) {R : D → Prop} (q : R (.bool false)) : f_is_choice [o, .int n] R := by
  refine is_choice_ok (shD_not h) ?_
  cases o <;> first | exact q | cases h
theorem evs_no {us : List D} {u : D} {n : Int} (hu : u ∈ us) (h : inI u 0 (n - 1) = false) : (evsB n us && (decide (us ≠ []) && ascN (us.map natD))) = false := by
  have : evsB n us = false := List.all_eq_false.mpr ⟨u, hu, by rw [h]; exact fun z => nomatch z⟩
  rw [this, Bool.false_and]
/-! k07: the table's rows, and the walk over them -/
def RowP (d : D) : Prop := ∃ (w : Str) (g : List D) (b : List (List D)) (nm : List Str), d = .tuple [.str w, .list g, .list (b.map PyData.list), .list (nm.map PyData.str)] ∧ g.length ≤ 3 ∧ b.length = g.length ∧ nm.length = g.length ∧ (∀ l ∈ b, l ≠ [] ∧ l.length ≤ 1000) ∧ (∀ z ∈ nm, PyData.canLay0 (.str z) = true) ∧
  (∀ R : D → Prop, R (.str "") → f_L_told [.str w, .list g] R) ∧
  ∀ (k : Nat) (parts l : List D) (v : D) (z : Str), parts.length = g.length → parts.take k = g.take k → parts[k]? = some v → b[k]? = some l → v ∈ l → nm[k]? = some z → ∀ R : D → Prop, R (.str z) → f_L_told [.str w, .list parts] R
def tLoop : T2S := (dFor (diS (dVar 15)) (gT 4 (gsCons (gN 16) (gsCons (gN 17) (gsCons (gN 18) (gsCons (gN 19) gsNil)))))
  (dSeq (dIfS (dB (dOp dNe (dCB f_L_told (dCons (dVar 16) (dCons (dVar 17) dNil))) (dC (.str ""))))
  (dRet (dC (.bool false)))
  dNext)
  (dFor (diR1 (dCons (dCB dLen (dCons (dVar 17) dNil)) dNil)) (gN 20)
  (dSeq (dAsg (tList (dLc (diS (dVar 18)) (gN 25) (fun _ Q => Q true) (dCallS 1 f_L_pick (dCons (dVar 25) dNil)) [25])) (gN 22))
  (dSeq (dAsg (dOp dAdd (dOp dAdd (dSl (dVar 17) dNoPart (dPart (dVar 20))) (tList (dCons (dOp dIx (dVar 22) (dVar 20)) dNil))) (dSl (dVar 17) (dPart (dOp dAdd (dVar 20) (dC (.int (1))))) dNoPart)) (gN 23))
  (dIfS (dOr (dB (dOp dNe (dCB f_L_told (dCons (dVar 16) (dCons (dVar 23) dNil))) (dOp dIx (dVar 19) (dVar 20)))) (dB (dOp dNe (dCB f_L_told (dCons (dVar 16) (dCons (dOp dAdd (dSl (dVar 17) dNoPart (dPart (dVar 20))) (dSl (dVar 22) (dPart (dVar 20)) dNoPart)) dNil))) (dOp dIx (dVar 19) (dVar 20)))))
  (dRet (dC (.bool false)))
  dNext))))))
theorem F2.get {P : D → D → Prop} : ∀ {as bs : List D} {k : Nat} {a : D}, F2 P as bs → as[k]? = some a → ∃ b, bs[k]? = some b ∧ P a b
  | _, _, _, _, .nil, h => by simp at h
  | _, _, 0, _, .cons h _, e => by simp at e; subst e; exact ⟨_, rfl, h⟩
  | _, _, k + 1, _, .cons _ t, e => by
    obtain ⟨b, h1, h2⟩ := F2.get (k := k) t (by simpa using e)
    exact ⟨b, by simpa using h1, h2⟩
theorem ne_same (x : Str) (h : PyData.canLay0 (.str x) = true) {P R : Prop} (r : R) : SeqAt.shaped (.str x) = true ∧ SeqAt.shaped (.str x) = true ∧ (if (!PyData.eqv (.str x) (.str x)) = true then P else R) :=
  ⟨shaped_str h, shaped_str h, ite_f (by rw [eqv_same h]; exact fun z => nomatch z) r⟩
theorem cut_take (ds : List D) (k : Nat) : Z2.cutD ds none (some (k : Int)) = ds.take k := by
  unfold Z2.cutD
  rw [HT.sIx_nat, HT.sIx_none, List.drop_zero, Nat.sub_zero]
  by_cases h : k ≤ ds.length
  · rw [Nat.min_eq_left h]
  · rw [Nat.min_eq_right (by omega), List.take_of_length_le (Nat.le_refl _), List.take_of_length_le (by omega)]
theorem cut_drop (ds : List D) (k : Nat) : Z2.cutD ds (some (k : Int)) none = ds.drop k := by
  unfold Z2.cutD
  rw [HT.sIx_nat, HT.sIx_none]
  by_cases h : k ≤ ds.length
  · rw [Nat.min_eq_left h, List.take_of_length_le (by rw [List.length_drop]; omega)]
  · rw [Nat.min_eq_right (by omega), List.drop_eq_nil_of_le (Nat.le_refl _), List.drop_eq_nil_of_le (by omega), List.take_nil]
theorem lay_nil : PyData.canLay0 (.str "") = true := by decide +kernel
theorem loop_ok {E : Ends2} {rows : List D} {e2 e3 e4 e5 e6 e7 e8 e9 e10 e11 e12 e13 e14 : Option Sl} (hl : rows.length ≤ 1000) (hr : ∀ d ∈ rows, RowP d) (hE : ∀ x16 x17 x18 x19 x20 x21 x22 x23 x24 x25 : Option Sl, E.nx [none, some .strm, e2, e3, e4, e5, e6, e7, e8, e9, e10, e11, e12, e13, e14, some (.dat (.list rows)), x16, x17, x18, x19, x20, x21, x22, x23, x24, x25])
    (x16 x17 x18 x19 x20 x21 x22 x23 x24 x25 : Option Sl) : tLoop E [none, some .strm, e2, e3, e4, e5, e6, e7, e8, e9, e10, e11, e12, e13, e14, some (.dat (.list rows)), x16, x17, x18, x19, x20, x21, x22, x23, x24, x25] := by
  unfold tLoop
  refine for_gen fun B hB => ?_
  unfold dFor
  walk_at "DZ"
  refine for_inv (fun i env => ∃ x16 x17 x18 x19 x20 x21 x22 x23 x24 x25 : Option Sl, env = [none, some .strm, e2, e3, e4, e5, e6, e7, e8, e9, e10, e11, e12, e13, e14, some (.dat (.list rows)), x16, x17, x18, x19, x20, x21, x22, x23, x24, x25]) (fun i d env hd hi M hM => ?_) (fun env hi => ?_) ⟨_, _, _, _, _, _, _, _, _, _, rfl⟩
  · obtain ⟨x16, x17, x18, x19, x20, x21, x22, x23, x24, x25, rfl⟩ := hi
    obtain ⟨w, g, b, nm, rfl, hg, hb, hn, hbl, hnl, t0, t1⟩ := hr d (List.mem_of_getElem? hd)
    subst hB
    walk_at "DZ"
    refine ⟨rfl, t0 _ ?_⟩
    refine ne_same _ lay_nil ?_
    refine ⟨by omega, by omega, ?_⟩
    rw [Int.toNat_natCast]
    refine for_inv (fun i env => ∃ x20 x21 x22 x23 x24 x25 : Option Sl, env = [none, some .strm, e2, e3, e4, e5, e6, e7, e8, e9, e10, e11, e12, e13, e14, some (.dat (.list rows)), some (.dat (.str w)), some (.dat (.list g)), some (.dat (.list (b.map PyData.list))), some (.dat (.list (nm.map PyData.str))), x20, x21, x22, x23, x24, x25]) (fun k d env hd hi M2 hM2 => ?_) (fun env hi => ?_) ⟨_, _, _, _, _, _, rfl⟩
    · obtain ⟨x20, x21, x22, x23, x24, x25, rfl⟩ := hi
      obtain ⟨k, hk, rfl⟩ : ∃ k, k < g.length ∧ d = .int (k : Nat) := by
        obtain ⟨k, hk, rfl⟩ := mem_dRange (List.mem_of_getElem? hd)
        exact ⟨k, hk, by rw [Int.zero_add]⟩
      show dSeq _ _ _ _
      refine seq_gen fun N hN => ?_
      walk_at "DZ"
      refine ⟨by rw [List.length_map]; omega, ?_⟩
      refine lc_all (fun d y => ∃ l, d = .list l ∧ y ∈ l) (fun d hd R hR => ?_) fun ws hws => ?_
      · obtain ⟨l, hl2, rfl⟩ := List.mem_map.mp hd
        obtain ⟨h1, h2⟩ := hbl l hl2
        walk_at "DZ"
        exact ⟨trivial, pick_ok h1 (by omega) fun y hy => hR y ⟨l, rfl, hy⟩⟩
      have hwl : ws.length = g.length := by rw [← hws.length, List.length_map, hb]
      have hkb : k < b.length := by omega
      have hkn : k < nm.length := by omega
      obtain ⟨v, hv, l, hll, hvl⟩ := F2.get hws (show (b.map PyData.list)[k]? = some (.list b[k]) by rw [List.getElem?_map, List.getElem?_eq_getElem hkb]; rfl)
      obtain rfl : b[k] = l := by injection hll
      have hz : atI (nm.map PyData.str) (k : Int) = some (.str nm[k]) := atI_nat (by rw [List.getElem?_map, List.getElem?_eq_getElem hkn]; rfl)
      have hlay := hnl _ (List.getElem_mem hkn)
      have told := fun parts p1 p2 p3 => t1 k parts b[k] v nm[k] p1 p2 p3 (List.getElem?_eq_getElem hkb) hvl (List.getElem?_eq_getElem hkn)
      subst hN
      try dsimp only
      refine seq_gen fun N hN => ?_
      walk_at "DZ"
      rw [atI_nat hv, cut_take, show ((k : Int) + 1) = ((k + 1 : Nat) : Int) by omega, cut_drop]
      dsimp only
      have lt : (g.take k).length = k := by rw [List.length_take]; omega
      have ld : (g.drop (k + 1)).length = g.length - (k + 1) := by rw [List.length_drop]
      refine ⟨by omega, by rw [List.length_append, List.length_singleton]; omega, ?_⟩
      subst hN
      walk_at "DZ"
      have pa : ((g.take k ++ [v]) ++ g.drop (k + 1))[k]? = some v := by
        rw [List.getElem?_append_left (by rw [List.length_append, List.length_singleton]; omega), List.getElem?_append_right (by omega), lt, Nat.sub_self]
        rfl
      refine told _ (by rw [List.length_append, List.length_append, List.length_singleton]; omega) (by rw [List.append_assoc, List.take_append_of_le_length (by omega), List.take_take, Nat.min_self]) pa _ ?_
      rw [hz]
      dsimp only
      refine ne_same _ hlay ?_
      rw [cut_take, cut_drop]
      have lw : (ws.drop k).length = g.length - k := by rw [List.length_drop]; omega
      refine ⟨by omega, ?_⟩
      have pb : (g.take k ++ ws.drop k)[k]? = some v := by
        rw [List.getElem?_append_right (by omega), lt, Nat.sub_self, List.getElem?_drop, Nat.add_zero]
        exact hv
      refine told _ (by rw [List.length_append]; omega) (by rw [List.take_append_of_le_length (by omega), List.take_take, Nat.min_self]) pb _ ?_
      refine ne_same _ hlay ?_
      exact hM2 _ ⟨_, _, _, _, _, _, rfl⟩
    · obtain ⟨x20, x21, x22, x23, x24, x25, rfl⟩ := hi
      exact hM _ ⟨_, _, _, _, _, _, _, _, _, _, rfl⟩
  · obtain ⟨x16, x17, x18, x19, x20, x21, x22, x23, x24, x25, rfl⟩ := hi
    exact hE _ _ _ _ _ _ _ _ _ _
/-! k07: the ten rows -/
def LB (l : List D) : Prop := l ≠ [] ∧ l.length ≤ 1000
def LS (z : Str) : Prop := PyData.canLay0 (.str z) = true
theorem row_1 {w : Str} {g0 : D} {b0 : List D} {n0 : Str} (l0 : LB b0) (s0 : LS n0)
    (t0 : ∀ R : D → Prop, R (.str "") → f_L_told [.str w, .list [g0]] R) (t1 : ∀ v, v ∈ b0 → ∀ R : D → Prop, R (.str n0) → f_L_told [.str w, .list [v]] R) :
    RowP (.tuple [.str w, .list [g0], .list [.list b0], .list [.str n0]]) := by
  refine ⟨w, [g0], [b0], [n0], rfl, Nat.le_of_ble_eq_true rfl, rfl, rfl, fun l h => ?_, fun z h => ?_, t0, fun k parts l v z hp ht hv hb hvl hz R q => ?_⟩
  · rw [List.mem_singleton.mp h]; exact l0
  · rw [List.mem_singleton.mp h]; exact s0
  · match parts, hp with
    | [a], _ =>
      match k with
      | 0 => cases hv; cases hb; cases hz; exact t1 _ hvl R q
      | k + 1 => cases hb
theorem row_2 {w : Str} {g0 g1 : D} {b0 b1 : List D} {n0 n1 : Str} (l0 : LB b0) (l1 : LB b1) (s0 : LS n0) (s1 : LS n1)
    (t0 : ∀ R : D → Prop, R (.str "") → f_L_told [.str w, .list [g0, g1]] R) (t1 : ∀ v x, v ∈ b0 → ∀ R : D → Prop, R (.str n0) → f_L_told [.str w, .list [v, x]] R)
    (t2 : ∀ v, v ∈ b1 → ∀ R : D → Prop, R (.str n1) → f_L_told [.str w, .list [g0, v]] R) :
    RowP (.tuple [.str w, .list [g0, g1], .list [.list b0, .list b1], .list [.str n0, .str n1]]) := by
  refine ⟨w, [g0, g1], [b0, b1], [n0, n1], rfl, Nat.le_of_ble_eq_true rfl, rfl, rfl, fun l h => ?_, fun z h => ?_, t0, fun k parts l v z hp ht hv hb hvl hz R q => ?_⟩
  · rcases List.mem_cons.mp h with rfl | h
    · exact l0
    · rw [List.mem_singleton.mp h]; exact l1
  · rcases List.mem_cons.mp h with rfl | h
    · exact s0
    · rw [List.mem_singleton.mp h]; exact s1
  · match parts, hp with
    | [a, c], _ =>
      match k with
      | 0 => cases hv; cases hb; cases hz; exact t1 _ _ hvl R q
      | 1 => cases hv; cases hb; cases hz; cases ht; exact t2 _ hvl R q
      | k + 2 => cases hb
theorem row_3 {w : Str} {g0 g1 g2 : D} {b0 b1 b2 : List D} {n0 n1 n2 : Str} (l0 : LB b0) (l1 : LB b1) (l2 : LB b2) (s0 : LS n0) (s1 : LS n1) (s2 : LS n2)
    (t0 : ∀ R : D → Prop, R (.str "") → f_L_told [.str w, .list [g0, g1, g2]] R) (t1 : ∀ v x y, v ∈ b0 → ∀ R : D → Prop, R (.str n0) → f_L_told [.str w, .list [v, x, y]] R)
    (t2 : ∀ v y, v ∈ b1 → ∀ R : D → Prop, R (.str n1) → f_L_told [.str w, .list [g0, v, y]] R) (t3 : ∀ v, v ∈ b2 → ∀ R : D → Prop, R (.str n2) → f_L_told [.str w, .list [g0, g1, v]] R) :
    RowP (.tuple [.str w, .list [g0, g1, g2], .list [.list b0, .list b1, .list b2], .list [.str n0, .str n1, .str n2]]) := by
  refine ⟨w, [g0, g1, g2], [b0, b1, b2], [n0, n1, n2], rfl, Nat.le_of_ble_eq_true rfl, rfl, rfl, fun l h => ?_, fun z h => ?_, t0, fun k parts l v z hp ht hv hb hvl hz R q => ?_⟩
  · rcases List.mem_cons.mp h with rfl | h
    · exact l0
    · rcases List.mem_cons.mp h with rfl | h
      · exact l1
      · rw [List.mem_singleton.mp h]; exact l2
  · rcases List.mem_cons.mp h with rfl | h
    · exact s0
    · rcases List.mem_cons.mp h with rfl | h
      · exact s1
      · rw [List.mem_singleton.mp h]; exact s2
  · match parts, hp with
    | [a, c, d], _ =>
      match k with
      | 0 => cases hv; cases hb; cases hz; exact t1 _ _ _ hvl R q
      | 1 => cases hv; cases hb; cases hz; cases ht; exact t2 _ _ hvl R q
      | 2 => cases hv; cases hb; cases hz; cases ht; exact t3 _ hvl R q
      | k + 3 => cases hb
theorem ls_net : LS "net" := by unfold LS; decide +kernel
theorem ls_times : LS "times" := by unfold LS; decide +kernel
theorem ls_start : LS "start" := by unfold LS; decide +kernel
theorem ls_end : LS "end" := by unfold LS; decide +kernel
theorem ls_walk : LS "walk" := by unfold LS; decide +kernel
theorem ls_order : LS "order" := by unfold LS; decide +kernel
theorem ls_chosen : LS "chosen" := by unfold LS; decide +kernel
theorem ls_rule : LS "rule" := by unfold LS; decide +kernel
section
variable {m : Nat} {rs : List D} {bn : List D} (H : NB (m : Int) rs) (lb : LB bn) (hb : ∀ v ∈ bn, netB v = false)
include H lb hb
theorem rw_keeps {ts : List Int} {bt : List D} (tl : (ts.length : Int) = m) (tb : ∀ t ∈ ts, -1000 ≤ t ∧ t ≤ 1000) (lt : LB bt) (ht : ∀ v ∈ bt, timesB v m = false) :
    RowP (.tuple [.str "keeps", .list [.tuple [.int (m : Int), .tuple rs], .tuple (ts.map PyData.int)], .list [.list bn, .list bt], .list [.str "net", .str "times"]]) :=
  row_2 lb lt ls_net ls_times (fun R q => tl_keeps (.inl (keeps_ok (H.nt tl tb) q))) (fun v x hv R q => tl_keeps (.inr (keeps_net (hb v hv) (HX_0 q)))) fun v hv R q => tl_keeps (.inr (keeps_tm H (ht v hv) (HX_0 q)))
theorem rw_excess {ts : List Int} {bt : List D} (tl : (ts.length : Int) = m) (tb : ∀ t ∈ ts, -1000 ≤ t ∧ t ≤ 1000) (lt : LB bt) (ht : ∀ v ∈ bt, timesB v m = false) :
    RowP (.tuple [.str "excess", .list [.tuple [.int (m : Int), .tuple rs], .tuple (ts.map PyData.int)], .list [.list bn, .list bt], .list [.str "net", .str "times"]]) :=
  row_2 lb lt ls_net ls_times (fun R q => tl_excess (.inl (excess_ok (H.nt tl tb) q))) (fun v x hv R q => tl_excess (.inr (excess_net (hb v hv) (HX_0 q)))) fun v hv R q => tl_excess (.inr (excess_tm H (ht v hv) (HX_0 q)))
theorem rw_first {ts : List Int} {bt : List D} (tl : (ts.length : Int) = m) (tb : ∀ t ∈ ts, -1000 ≤ t ∧ t ≤ 1000) (lt : LB bt) (ht : ∀ v ∈ bt, timesB v m = false) :
    RowP (.tuple [.str "first", .list [.tuple [.int (m : Int), .tuple rs], .tuple (ts.map PyData.int)], .list [.list bn, .list bt], .list [.str "net", .str "times"]]) :=
  row_2 lb lt ls_net ls_times (fun R q => tl_first (.inl (first_broken_ok (H.nt tl tb) q))) (fun v x hv R q => tl_first (.inr (first_broken_net (hb v hv) (HX_0 q)))) fun v hv R q => tl_first (.inr (first_broken_tm H (ht v hv) (HX_0 q)))
theorem rw_edges : RowP (.tuple [.str "edges", .list [.tuple [.int (m : Int), .tuple rs]], .list [.list bn], .list [.str "net"]]) :=
  row_1 lb ls_net (fun R q => tl_edges (.inl (edges_ok H.nr q))) fun v hv R q => tl_edges (.inr (edges_net (hb v hv) (HX_0 q)))
theorem rw_turned : RowP (.tuple [.str "turned", .list [.tuple [.int (m : Int), .tuple rs]], .list [.list bn], .list [.str "net"]]) :=
  row_1 lb ls_net (fun R q => tl_turned (.inl (turned_ok H q))) fun v hv R q => tl_turned (.inr (turned_net (hb v hv) (HX_0 q)))
theorem rw_walk {s e : Int} {be : List D} (hs : inI (.int s) 0 ((m : Int) - 1) = true) (he : inI (.int e) 0 ((m : Int) - 1) = true) (le : LB be) (hbe : ∀ v ∈ be, inI v 0 ((m : Int) - 1) = false) :
    RowP (.tuple [.str "walk", .list [.tuple [.int (m : Int), .tuple rs], .int s, .int e], .list [.list bn, .list be, .list be], .list [.str "net", .str "start", .str "end"]]) :=
  row_3 lb le le ls_net ls_start ls_end (fun R q => tl_walk (.inl (is_walk_fine H hs he fun _ => q))) (fun v x y hv R q => tl_walk (.inr (is_walk_net (hb v hv) (HX_0 q))))
    (fun v y hv R q => tl_walk (.inr (is_walk_start H (hbe v hv) (HX_0 q)))) fun v hv R q => tl_walk (.inr (is_walk_end H hs (hbe v hv) (HX_0 q)))
theorem rw_length {s t : Int} {xs : List Ed} {bw : List D} (hx : ∀ x ∈ xs, x ∈ edN rs rs.length) (hx3 : xs.length ≤ 1000) (s0 : 0 ≤ s) (s1 : s < m) (hp : pth s xs = some t) (lw : LB bw) (hw : ∀ v ∈ bw, WB (m : Int) rs v) :
    RowP (.tuple [.str "length", .list [.tuple [.int (m : Int), .tuple rs], .tuple (xs.map eV)], .list [.list bn, .list bw], .list [.str "net", .str "walk"]]) :=
  row_2 lb lw ls_net ls_walk (fun R q => tl_length (.inl (walk_length_ok H.nr hx hx3 s0 s1 hp q))) (fun v x hv R q => tl_length (.inr (walk_length_net (hb v hv) (HX_0 q)))) fun v hv R q => tl_length (.inr (walk_length_wk H (hw v hv) (HX_0 q)))
theorem rw_renamed {ks : List Nat} {bo : List D} (hp : ks.Perm (List.range m)) (lo : LB bo) (ho : ∀ v ∈ bo, ∀ R : D → Prop, R (.bool false) → f_is_order [v, .int (m : Int)] R) :
    RowP (.tuple [.str "renamed", .list [.tuple [.int (m : Int), .tuple rs], .tuple (ks.map iN)], .list [.list bn, .list bo], .list [.str "net", .str "order"]]) :=
  row_2 lb lo ls_net ls_order (fun R q => tl_renamed (.inl (renamed_ok H hp q))) (fun v x hv R q => tl_renamed (.inr (renamed_net (hb v hv) (HX_0 q)))) fun v hv R q => tl_renamed (.inr (renamed_or H (ho v hv) (HX_0 q)))
theorem rw_part {cs : List Nat} {bc : List D} (hc : Cho m cs) (lc : LB bc) (hbc : ∀ v ∈ bc, ∀ R : D → Prop, R (.bool false) → f_is_choice [v, .int (m : Int)] R) :
    RowP (.tuple [.str "part", .list [.tuple [.int (m : Int), .tuple rs], .tuple (cs.map iN)], .list [.list bn, .list bc], .list [.str "net", .str "chosen"]]) :=
  row_2 lb lc ls_net ls_chosen (fun R q => tl_part (.inl (part_ok H hc q))) (fun v x hv R q => tl_part (.inr (part_net (hb v hv) (HX_0 q)))) fun v hv R q => tl_part (.inr (part_ch H (hbc v hv) (HX_0 q)))
theorem rw_rule {r : D} {br : List D} (hl : rs.length < 12) (hr : RuleOk (m : Int) 100 r) (lr : LB br) (hbr : ∀ v ∈ br, ruleB v (m : Int) = false) :
    RowP (.tuple [.str "rule", .list [.tuple [.int (m : Int), .tuple rs], r], .list [.list bn, .list br], .list [.str "net", .str "rule"]]) :=
  row_2 lb lr ls_net ls_rule (fun R q => tl_rule (.inl (with_rule_ok H hl hr q))) (fun v x hv R q => tl_rule (.inr (with_rule_net (hb v hv) (HX_0 q)))) fun v hv R q => tl_rule (.inr (with_rule_rl H (hbr v hv) (HX_0 q)))
end
theorem cut_last (ds : List D) : Z2.cutD ds none (some (-1)) = ds.take (ds.length - 1) := by
  unfold Z2.cutD
  rw [HT.sIx_none, List.drop_zero, Nat.sub_zero]
  congr 1
  unfold HT.sIx
  simp
  omega
theorem pure_law : t_law { nx := fun _ => False, rt := fun d => d = .bool true } (none :: some .strm :: List.replicate (N_law.length - 2) none) := by
  show t_law _ [none, some .strm, none, none, none, none, none, none, none, none, none, none, none, none, none, none, none, none, none, none, none, none, none, none, none, none]
  unfold t_law
  refine seq_gen fun N hN => ?_
  walk_at "DZ"
  refine ⟨trivial, next_mk (by decide) (by decide) fun d d0 d1 => ?_⟩
  obtain ⟨m, hm⟩ : ∃ m : Nat, 2 + d = (m : Int) := ⟨(2 + d).toNat, by omega⟩
  dsimp only
  rw [hm]
  have m0 : 2 ≤ m := by omega
  have m1 : m ≤ 6 := by omega
  clear hm d0 d1 d
  subst hN
  refine seq_gen fun N hN => ?_
  walk_at "DZ"
  refine ⟨trivial, next_mk (by decide) (by decide) fun c c0 c1 => ?_⟩
  refine ⟨by omega, by omega, by rw [dRange_length]; omega, ?_⟩
  refine lc_all (fun _ y => RuleOk (m : Int) 100 y) (fun d hd R hR => ?_) fun rs hrs => ?_
  · walk_at "DZ"
    exact ⟨trivial, rule_ok (by omega) (by omega) (by decide) (by decide) hR⟩
  have rl : rs.length ≤ 11 := by
    have := hrs.length
    rw [dRange_length] at this
    omega
  have H : NB (m : Int) rs := ⟨by omega, by omega, by omega, F2.all (R := fun y => RuleOk (m : Int) 100 y) (fun _ _ h => h) hrs⟩
  clear hrs c0 c1 c
  subst hN
  try dsimp only
  refine seq_gen fun N hN => ?_
  walk_at "DZ"
  refine ⟨trivial, times_ok (by omega) (by omega) (by decide) (by decide) fun y hy => ?_⟩
  obtain ⟨ts, rfl, tl, tb⟩ := hy
  subst hN
  try dsimp only
  refine seq_gen fun N hN => ?_
  walk_at "DZ"
  refine ⟨trivial, next_mk (by omega) (by omega) fun a a0 a1 => ?_⟩
  obtain ⟨a, rfl⟩ : ∃ k : Nat, a = (k : Int) := ⟨a.toNat, by omega⟩
  subst hN
  try dsimp only
  refine seq_gen fun N hN => ?_
  walk_at "DZ"
  refine ⟨trivial, drawn_walk_ok (m := 5) H.nr (by decide) fun y hy => ?_⟩
  obtain ⟨xs, wt, rfl, xl, xm, xp⟩ := hy
  subst hN
  try dsimp only
  refine seq_gen fun N hN => ?_
  walk_at "DZ"
  refine ⟨trivial, L_order_ok (by omega) fun ks hp => ?_⟩
  rw [show ks.map iI = ks.map iN from rfl]
  have hl : ks.length = m := by rw [hp.length_eq, List.length_range]
  subst hN
  try dsimp only
  refine seq_gen fun N hN => ?_
  have key8 : ∀ bn : List D, LB bn → (∀ v ∈ bn, netB v = false) → N [none, some .strm, some (.dat (.int (m : Int))), some (.dat (.tuple [.int (m : Int), .tuple rs])), some (.dat (.tuple (ts.map PyData.int))), some (.dat (.int (a : Int))), some (.dat (.tuple (xs.map eV))), some (.dat (.tuple (ks.map iN))), some (.dat (.list bn)), none, none, none, none, none, none, none, none, none, none, none, none, none, none, none, none, none] := by
    intro bn Lbn hbn
    subst hN
    try dsimp only
    refine seq_gen fun N hN => ?_
    have key9 : ∀ bt : List D, LB bt → (∀ v ∈ bt, timesB v m = false) → N [none, some .strm, some (.dat (.int (m : Int))), some (.dat (.tuple [.int (m : Int), .tuple rs])), some (.dat (.tuple (ts.map PyData.int))), some (.dat (.int (a : Int))), some (.dat (.tuple (xs.map eV))), some (.dat (.tuple (ks.map iN))), some (.dat (.list bn)), some (.dat (.list bt)), none, none, none, none, none, none, none, none, none, none, none, none, none, none, none, none] := by
      intro bt Lbt hbt
      subst hN
      try dsimp only
      refine seq_gen fun N hN => ?_
      have key10 : ∀ be : List D, LB be → (∀ v ∈ be, inI v 0 ((m : Int) - 1) = false) → N [none, some .strm, some (.dat (.int (m : Int))), some (.dat (.tuple [.int (m : Int), .tuple rs])), some (.dat (.tuple (ts.map PyData.int))), some (.dat (.int (a : Int))), some (.dat (.tuple (xs.map eV))), some (.dat (.tuple (ks.map iN))), some (.dat (.list bn)), some (.dat (.list bt)), some (.dat (.list be)), none, none, none, none, none, none, none, none, none, none, none, none, none, none, none] := by
        intro be Lbe hbe
        subst hN
        try dsimp only
        refine seq_gen fun N hN => ?_
        have key11 : ∀ bw : List D, LB bw → (∀ v ∈ bw, WB (m : Int) rs v) → N [none, some .strm, some (.dat (.int (m : Int))), some (.dat (.tuple [.int (m : Int), .tuple rs])), some (.dat (.tuple (ts.map PyData.int))), some (.dat (.int (a : Int))), some (.dat (.tuple (xs.map eV))), some (.dat (.tuple (ks.map iN))), some (.dat (.list bn)), some (.dat (.list bt)), some (.dat (.list be)), some (.dat (.list bw)), none, none, none, none, none, none, none, none, none, none, none, none, none, none] := by
          intro bw Lbw hbw
          subst hN
          try dsimp only
          refine seq_gen fun N hN => ?_
          have key12 : ∀ bo : List D, LB bo → (∀ v ∈ bo, ∀ R : D → Prop, R (.bool false) → f_is_order [v, .int (m : Int)] R) → N [none, some .strm, some (.dat (.int (m : Int))), some (.dat (.tuple [.int (m : Int), .tuple rs])), some (.dat (.tuple (ts.map PyData.int))), some (.dat (.int (a : Int))), some (.dat (.tuple (xs.map eV))), some (.dat (.tuple (ks.map iN))), some (.dat (.list bn)), some (.dat (.list bt)), some (.dat (.list be)), some (.dat (.list bw)), some (.dat (.list bo)), none, none, none, none, none, none, none, none, none, none, none, none, none] := by
            intro bo Lbo hbo
            subst hN
            try dsimp only
            refine seq_gen fun N hN => ?_
            have key13 : ∀ bc : List D, LB bc → (∀ v ∈ bc, ∀ R : D → Prop, R (.bool false) → f_is_choice [v, .int (m : Int)] R) → N [none, some .strm, some (.dat (.int (m : Int))), some (.dat (.tuple [.int (m : Int), .tuple rs])), some (.dat (.tuple (ts.map PyData.int))), some (.dat (.int (a : Int))), some (.dat (.tuple (xs.map eV))), some (.dat (.tuple (ks.map iN))), some (.dat (.list bn)), some (.dat (.list bt)), some (.dat (.list be)), some (.dat (.list bw)), some (.dat (.list bo)), some (.dat (.list bc)), none, none, none, none, none, none, none, none, none, none, none, none] := by
              intro bc Lbc hbc
              subst hN
              try dsimp only
              refine seq_gen fun N hN => ?_
              have key14 : ∀ br : List D, LB br → (∀ v ∈ br, ruleB v (m : Int) = false) → N [none, some .strm, some (.dat (.int (m : Int))), some (.dat (.tuple [.int (m : Int), .tuple rs])), some (.dat (.tuple (ts.map PyData.int))), some (.dat (.int (a : Int))), some (.dat (.tuple (xs.map eV))), some (.dat (.tuple (ks.map iN))), some (.dat (.list bn)), some (.dat (.list bt)), some (.dat (.list be)), some (.dat (.list bw)), some (.dat (.list bo)), some (.dat (.list bc)), some (.dat (.list br)), none, none, none, none, none, none, none, none, none, none, none] := by
                intro br Lbr hbr
                subst hN
                try dsimp only
                refine seq_gen fun N hN => ?_
                walk_at "DZ"
                refine ⟨by decide, ?_⟩
                have tl2 : (ts.length : Int) = m := by omega
                refine lc_all (fun _ y => RowP y) (fun d hd R hR => ?_) fun r1 hr1 => ?_
                · simp only [List.mem_cons, List.not_mem_nil, or_false] at hd
                  rcases hd with rfl | rfl | rfl
                  · walk_at "DZ"
                    exact hR _ (rw_keeps H Lbn hbn tl2 tb Lbt hbt)
                  · walk_at "DZ"
                    exact hR _ (rw_excess H Lbn hbn tl2 tb Lbt hbt)
                  · walk_at "DZ"
                    exact hR _ (rw_first H Lbn hbn tl2 tb Lbt hbt)
                have L1 : r1.length = 3 := hr1.length.symm
                have R1 : ∀ d ∈ r1, RowP d := F2.all (R := RowP) (fun _ _ h => h) hr1
                clear hr1
                subst hN
                try dsimp only
                refine seq_gen fun N hN => ?_
                walk_at "DZ"
                refine ⟨by decide, ?_⟩
                refine lc_all (fun _ y => RowP y) (fun d hd R hR => ?_) fun r2 hr2 => ?_
                · simp only [List.mem_cons, List.not_mem_nil, or_false] at hd
                  rcases hd with rfl | rfl
                  · walk_at "DZ"
                    exact hR _ (rw_edges H Lbn hbn)
                  · walk_at "DZ"
                    exact hR _ (rw_turned H Lbn hbn)
                have L2 : r2.length = 2 := hr2.length.symm
                have R2 : ∀ d ∈ r2, RowP d := F2.all (R := RowP) (fun _ _ h => h) hr2
                clear hr2
                refine ⟨by omega, ?_⟩
                have R12 : ∀ d ∈ r1 ++ r2, RowP d := fun d hd => (List.mem_append.mp hd).elim (R1 d) (R2 d)
                have L12 : (r1 ++ r2).length = 5 := by rw [List.length_append]; omega
                generalize r1 ++ r2 = rows at *
                subst hN
                try dsimp only
                refine seq_gen fun N hN => ?_
                walk_at "DZ"
                have k0 : atI (ks.map iN) 0 = some (.int (kAt ks 0)) := kAt_at (by decide) (by omega)
                rw [k0]
                dsimp only
                have kb := perm_at hp (s := 0) (by decide) (by omega)
                have hs0 : inI (.int (a : Int)) 0 ((m : Int) - 1) = true := inI_good (i := (a : Int)) (l := 0) (g := (m : Int) - 1) a0 (by omega)
                have he0 : inI (.int (kAt ks 0)) 0 ((m : Int) - 1) = true := inI_good (i := kAt ks 0) (l := 0) (g := (m : Int) - 1) kb.1 (by omega)
                refine ⟨by omega, ?_⟩
                have snoc : ∀ {l : List D} {r : D}, (∀ d ∈ l, RowP d) → RowP r → ∀ d ∈ l ++ [r], RowP d := fun h1 h2 d hd => by
                  rcases List.mem_append.mp hd with hd | hd
                  · exact h1 d hd
                  · rw [List.mem_singleton.mp hd]
                    exact h2
                have R3 := snoc R12 (rw_walk H Lbn hbn hs0 he0 Lbe hbe)
                have L3 : (rows ++ [PyData.tuple [.str "walk", .list [.tuple [.int (m : Int), .tuple rs], .int (a : Int), .int (kAt ks 0)], .list [.list bn, .list be, .list be], .list [.str "net", .str "start", .str "end"]]]).length = 6 := by rw [List.length_append, L12]; rfl
                revert R3 L3
                generalize (rows ++ [PyData.tuple [.str "walk", .list [.tuple [.int (m : Int), .tuple rs], .int (a : Int), .int (kAt ks 0)], .list [.list bn, .list be, .list be], .list [.str "net", .str "start", .str "end"]]]) = rows3
                intro R3 L3
                subst hN
                try dsimp only
                refine seq_gen fun N hN => ?_
                walk_at "DZ"
                refine ⟨by omega, ?_⟩
                have R4 := snoc R3 (rw_length H Lbn hbn xm (by omega) a0 a1 xp Lbw hbw)
                revert R4
                have L4 : (rows3 ++ [PyData.tuple [.str "length", .list [.tuple [.int (m : Int), .tuple rs], .tuple (xs.map eV)], .list [.list bn, .list bw], .list [.str "net", .str "walk"]]]).length = 7 := by rw [List.length_append, L3]; rfl
                revert L4
                generalize (rows3 ++ [PyData.tuple [.str "length", .list [.tuple [.int (m : Int), .tuple rs], .tuple (xs.map eV)], .list [.list bn, .list bw], .list [.str "net", .str "walk"]]]) = rows4
                intro L4 R4
                subst hN
                try dsimp only
                refine seq_gen fun N hN => ?_
                walk_at "DZ"
                refine ⟨by omega, ?_⟩
                have R5 := snoc R4 (rw_renamed H Lbn hbn hp Lbo hbo)
                have L5 : (rows4 ++ [PyData.tuple [.str "renamed", .list [.tuple [.int (m : Int), .tuple rs], .tuple (ks.map iN)], .list [.list bn, .list bo], .list [.str "net", .str "order"]]]).length = 8 := by rw [List.length_append, L4]; rfl
                revert L5 R5
                generalize (rows4 ++ [PyData.tuple [.str "renamed", .list [.tuple [.int (m : Int), .tuple rs], .tuple (ks.map iN)], .list [.list bn, .list bo], .list [.str "net", .str "order"]]]) = rows5
                intro R5 L5
                subst hN
                try dsimp only
                refine seq_gen fun N hN => ?_
                walk_at "DZ"
                rw [show (1 : Int) + (a : Int) = ((1 + a : Nat) : Int) by omega, cut_take, ← List.map_take, iN_ints]
                refine dSortIT_ints fun ns' p1 p2 => ?_
                have tk : ∀ k ∈ ks.take (1 + a), k < m := fun k hk => List.mem_range.mp (hp.mem_iff.mp (List.mem_of_mem_take hk))
                obtain ⟨cs, rfl⟩ : ∃ cs : List Nat, ns' = cs.map fun j : Nat => (j : Int) := by
                  refine ⟨ns'.map Int.toNat, ?_⟩
                  rw [List.map_map]
                  refine (List.map_id' ns').symm.trans (List.map_congr_left fun i hi => ?_)
                  obtain ⟨k, _, rfl⟩ := List.mem_map.mp (p1.mem_iff.mp hi)
                  rfl
                have pc : cs.Perm (ks.take (1 + a)) := by
                  have h2 := p1.map Int.toNat
                  have e : (Int.toNat ∘ fun k : Nat => (k : Int)) = id := funext fun k => Int.toNat_natCast k
                  rw [List.map_map, List.map_map, e, List.map_id, List.map_id] at h2
                  exact h2
                have cn : cs.Nodup := pc.nodup_iff.mpr ((List.take_sublist _ _).nodup (perm_nd hp))
                have hc : Cho m cs := by
                  refine ⟨fun z => ?_, ?_, fun c hc => tk c (pc.mem_iff.mp hc)⟩
                  · have := pc.length_eq
                    rw [z, List.length_take] at this
                    simp at this
                    omega
                  · rw [List.pairwise_map] at p2
                    exact (p2.and cn).imp fun h => by
                      have h1 := h.1
                      have h2 := h.2
                      omega
                rw [← iN_ints]
                refine ⟨by omega, ?_⟩
                have R6 := snoc R5 (rw_part H Lbn hbn hc Lbc hbc)
                have L6 : (rows5 ++ [PyData.tuple [.str "part", .list [.tuple [.int (m : Int), .tuple rs], .tuple (cs.map iN)], .list [.list bn, .list bc], .list [.str "net", .str "chosen"]]]).length = 9 := by rw [List.length_append, L5]; rfl
                revert L6 R6
                generalize (rows5 ++ [PyData.tuple [.str "part", .list [.tuple [.int (m : Int), .tuple rs], .tuple (cs.map iN)], .list [.list bn, .list bc], .list [.str "net", .str "chosen"]]]) = rows6
                intro R6 L6
                subst hN
                try dsimp only
                refine seq_gen fun N hN => ?_
                walk_at "DZ"
                have hr7 : RuleOk (m : Int) 100 (.tuple [.int 0, .int ((m : Int) - 1), .int (-100), .none]) := ⟨0, (m : Int) - 1, .int (-100), .none, rfl, by decide, by omega, by omega, by omega, by omega, .inr ⟨-100, rfl, by decide, by decide⟩, .inl rfl, fun z => nomatch z.1⟩
                have R7 := snoc R6 (rw_rule H Lbn hbn (by omega) hr7 Lbr hbr)
                refine ⟨by omega, ?_⟩
                subst hN
                try dsimp only
                refine seq_gen fun N hN => ?_
                show dFrz 15 tLoop _ _
                generalize hT : tLoop = T
                walk_at "DZ"
                subst hT
                refine loop_ok (by rw [List.length_append, L6]; exact Nat.le_of_ble_eq_true rfl) R7 (fun x16 x17 x18 x19 x20 x21 x22 x23 x24 x25 => ?_) _ _ _ _ _ _ _ _ _ _
                subst hN
                walk_at "DZ"
              walk_at "DZ"
              refine key14 _ ⟨(fun z => nomatch z), Nat.le_of_ble_eq_true rfl⟩ fun v hv => ?_
              simp only [List.mem_cons, List.not_mem_nil, or_false] at hv
              rcases hv with rfl | rfl | rfl | rfl | rfl | rfl | rfl | rfl | rfl
              · rfl
              · rfl
              · exact ruleB_same
              · exact ruleB_end (Int.le_refl _)
              · exact ruleB_no
              · exact ruleB_lo rfl
              · exact ruleB_hi rfl
              · exact ruleB_lo rfl
              · rfl
            walk_at "DZ"
            refine key13 _ ⟨(fun z => nomatch z), Nat.le_of_ble_eq_true rfl⟩ fun v hv R q => ?_
            simp only [List.mem_cons, List.not_mem_nil, or_false] at hv
            have sm : ∀ us : List D, us.length ≤ 2 → (∀ d ∈ us, okN 0 d) → ShD (.tuple us) := fun us h1 h2 => shD_tup (by omega) fun d hd => (h2 d hd).shaped
            rcases hv with rfl | rfl | rfl | rfl | rfl | rfl | rfl | rfl | rfl
            · exact choice_not rfl q
            · exact choice_no (sm _ (by decide) fun d hd => absurd hd List.not_mem_nil) rfl q
            · exact choice_not rfl q
            · exact choice_no (sm _ (Nat.le_of_ble_eq_true rfl) fun d hd => by rw [List.mem_singleton.mp hd]; exact .int _ _) (evs_no List.mem_cons_self (inI_out (.inr (by omega)))) q
            · refine choice_no (sm _ (by decide) fun d hd => ?_) ?_ q
              · rcases List.mem_cons.mp hd with rfl | hd
                · exact .int _ _
                · rw [List.mem_singleton.mp hd]; exact .int _ _
              · show (_ && (decide _ && false)) = false
                rw [Bool.and_false, Bool.and_false]
            · refine choice_no (sm _ (by decide) fun d hd => ?_) ?_ q
              · rcases List.mem_cons.mp hd with rfl | hd
                · exact .int _ _
                · rw [List.mem_singleton.mp hd]; exact .int _ _
              · show (_ && (decide _ && false)) = false
                rw [Bool.and_false, Bool.and_false]
            · exact choice_no (sm _ (by decide) fun d hd => by rw [List.mem_singleton.mp hd]; exact .int _ _) (evs_no List.mem_cons_self (inI_out (.inl (by decide)))) q
            · exact choice_no (sm _ (by decide) fun d hd => by rw [List.mem_singleton.mp hd]; exact .none _) (evs_no List.mem_cons_self rfl) q
            · exact choice_no (sm _ (by decide) fun d hd => by rw [List.mem_singleton.mp hd]; exact .bool _ _) (evs_no List.mem_cons_self rfl) q
          walk_at "DZ"
          have lk : (ks.map iN).length = m := by rw [List.length_map, hl]
          have c1 : Z2.cutD (ks.map iN) none (some 1) = (ks.take 1).map iN := by rw [show (1 : Int) = ((1 : Nat) : Int) from rfl, cut_take, List.map_take]
          have c2 : Z2.cutD (ks.map iN) none (some (-1)) = (ks.take (m - 1)).map iN := by rw [cut_last, lk, List.map_take]
          rw [c1, c2, cut_1, ← List.map_drop, ← List.map_append]
          refine ⟨by omega, by rw [List.length_map, List.length_map, List.length_take, List.length_take]; omega, (fun z => nomatch z), by omega, by omega, by decide, ?_⟩
          refine key12 _ ⟨(fun z => nomatch z), Nat.le_of_ble_eq_true rfl⟩ fun v hv R q => ?_
          have klt : ∀ k ∈ ks, k < m := fun k hk => List.mem_range.mp (hp.mem_iff.mp hk)
          simp only [List.mem_cons, List.not_mem_nil, or_false] at hv
          rcases hv with rfl | rfl | rfl | rfl | rfl | rfl | rfl
          · exact is_order_not (fun R q => events_not rfl q) q
          · exact is_order_not (fun R q => events_not rfl q) q
          · refine is_order_nat (by rw [List.length_drop]; omega) (fun j hj => klt j (List.mem_of_mem_drop hj)) (by omega) (fun z => ?_) q
            have := z.length_eq
            rw [List.length_drop, List.length_range] at this
            omega
          · refine is_order_not (fun R q => events_no (shD_tup (by rw [List.length_append, lk, List.length_singleton]; omega) fun d hd => ?_) (List.mem_append.mpr (.inr List.mem_cons_self)) (inI_out (.inr (by omega))) q) q
            rcases List.mem_append.mp hd with hd | hd
            · obtain ⟨k, _, rfl⟩ := List.mem_map.mp hd
              exact shaped_int _
            · rw [List.mem_singleton.mp hd]
              exact shaped_int _
          · refine is_order_nat (by rw [List.length_append, List.length_take, List.length_take]; omega) (fun j hj => ?_) (by omega) (fun z => ?_) q
            · rcases List.mem_append.mp hj with hj | hj <;> exact klt j (List.mem_of_mem_take hj)
            · have nd := z.nodup_iff.mpr List.nodup_range
              cases ks with
              | nil => simp at hl; omega
              | cons k t =>
                obtain ⟨j, hj⟩ : ∃ j, m - 1 = j + 1 := ⟨m - 2, by omega⟩
                rw [hj, List.take_succ_cons, List.take_succ_cons, List.take_zero] at nd
                exact (List.nodup_cons.mp nd).1 List.mem_cons_self
          · have lr : (List.replicate ((m : Int).toNat) [PyData.bool true]).flatten.length ≤ 1000 := by
              rw [lm_len_rep_flat, Int.toNat_natCast, List.length_singleton]
              omega
            refine is_order_not (fun R q => events_no (shD_tup lr fun d hd => ?_) (u := .bool true) (List.mem_flatten.mpr ⟨[.bool true], List.mem_replicate.mpr ⟨by omega, rfl⟩, List.mem_cons_self⟩) rfl q) q
            obtain ⟨l, h1, h2⟩ := List.mem_flatten.mp hd
            rw [(List.mem_replicate.mp h1).2] at h2
            rw [List.mem_singleton.mp h2]
            rfl
          · refine is_order_nat (js := []) (by decide) (fun j hj => absurd hj List.not_mem_nil) (by omega) (fun z => ?_) q
            have := z.length_eq
            rw [List.length_range] at this
            have : 0 = m := this
            omega
        walk_at "DZ"
        have xsl : (xs.map eV).length ≤ 5 := by rw [List.length_map]; exact xl
        have pok : ∀ (i : Int) (z : Str), PyData.canLay0 (.str z) = true → okN 1 (.tuple [.int i, .str z]) := fun i z hz => .tup fun d hd => by
          rcases List.mem_cons.mp hd with rfl | hd
          · exact .int _ _
          rw [List.mem_singleton.mp hd]
          exact .str _ hz
        have eok : ∀ d ∈ xs.map eV, okN 1 d := fun d hd => by
          obtain ⟨x, hx, rfl⟩ := List.mem_map.mp hd
          refine pok _ _ ?_
          rcases (ed_facts H (xm x hx)).2 with e | e <;> rw [e]
          · exact sides_lay.1
          · exact sides_lay.2
        have snoc : ∀ d : D, SeqAt.shaped d = true → crs rs d = none → WB (m : Int) rs (.tuple (xs.map eV ++ [d])) := fun d h1 h2 => WB_any H (fun x hx => by
          rcases List.mem_append.mp hx with hx | hx
          · exact (eok x hx).shaped
          · rw [List.mem_singleton.mp hx]
            exact h1) (List.mem_append.mpr (.inr List.mem_cons_self)) h2
        have one : ∀ d : D, SeqAt.shaped d = true → crs rs d = none → WB (m : Int) rs (.tuple [d]) := fun d h1 h2 => WB_any H (fun x hx => by
          rw [List.mem_singleton.mp hx]
          exact h1) List.mem_cons_self h2
        have upl : PyData.canLay0 (.str "up") = true := by decide +kernel
        have mem : ∀ z : D, WB (m : Int) rs z → ∀ v ∈ [PyData.none, PyData.list (xs.map eV), .tuple [.tuple [.int 12, .str "high"]], .tuple (xs.map eV ++ [.tuple [.int 0, .str "up"]]), .tuple (xs.map eV ++ [.none]), .tuple (xs.map eV ++ [.tuple [.int (-1), .str "low"]]), .str "", z, .tuple [.tuple [.bool true, .str "high"]]], WB (m : Int) rs v := fun z hz v hv => by
          simp only [List.mem_cons, List.not_mem_nil, or_false] at hv
          rcases hv with rfl | rfl | rfl | rfl | rfl | rfl | rfl | rfl | rfl
          · exact WB_not rfl
          · exact WB_not rfl
          · exact one _ (pok _ _ sides_lay.1).shaped (crs_idx H (.inr (by omega)))
          · exact snoc _ (pok _ _ upl).shaped (crs_word H (by decide) (by decide))
          · exact snoc _ rfl (crs_none fun _ _ => rfl)
          · exact snoc _ (pok _ _ sides_lay.2).shaped (crs_idx H (.inl (by decide)))
          · exact WB_not rfl
          · exact hz
          · refine one _ (okN.tup (n := 0) fun d hd => ?_).shaped (crs_none fun _ _ => rfl)
            rcases List.mem_cons.mp hd with rfl | hd
            · exact .bool _ _
            rw [List.mem_singleton.mp hd]
            exact .str _ sides_lay.1
        refine ⟨by omega, by omega, by omega, ?_⟩
        by_cases hx0 : xs = []
        · refine ite_f (fun z => by rw [hx0] at z; cases z) ?_
          exact key11 _ ⟨(fun z => nomatch z), Nat.le_of_ble_eq_true rfl⟩ (mem _ (WB_not rfl))
        · refine ite_t (by cases xs with | nil => exact absurd rfl hx0 | cons _ _ => rfl) ?_
          refine key11 _ ⟨(fun z => nomatch z), Nat.le_of_ble_eq_true rfl⟩ (mem _ (one _ (okN.tup (n := 1) eok).shaped (crs_none fun y _ => ?_)))
          cases xs with
          | nil => exact absurd rfl hx0
          | cons x t => cases t with
            | nil => rfl
            | cons _ t => cases t <;> rfl
      walk_at "DZ"
      refine key10 _ ⟨(fun z => nomatch z), Nat.le_of_ble_eq_true rfl⟩ fun v hv => ?_
      simp only [List.mem_cons, List.not_mem_nil, or_false] at hv
      rcases hv with rfl | rfl | rfl | rfl | rfl | rfl
      · exact inI_out (.inl (by decide))
      · exact inI_out (.inr (by omega))
      · rfl
      · rfl
      · rfl
      · exact inI_out (.inr (by omega))
    walk_at "DZ"
    have tl2 : (ts.map PyData.int).length ≤ 1000 := by rw [List.length_map]; omega
    refine ⟨by omega, by decide, ?_⟩
    refine lc_all (fun _ y => timesB y m = false) (fun d hd R hR => ?_) fun ds hds => ?_
    · have hbad : inI d (-1000) 1000 = false := by
        simp only [List.mem_cons, List.not_mem_nil, or_false] at hd
        rcases hd with rfl | rfl | rfl | rfl | rfl <;> rfl
      walk_at "DZ"
      rw [cut_take, show ((a : Int) + 1) = ((a + 1 : Nat) : Int) by omega, cut_drop]
      have l1 : ((ts.map PyData.int).take a).length ≤ 1000 := Nat.le_trans (List.length_take_le' _ _) tl2
      have l2 : ((ts.map PyData.int).drop (a + 1)).length ≤ 1000 := by rw [List.length_drop]; omega
      refine ⟨by omega, by rw [List.length_append, List.length_singleton]; omega, hR _ ?_⟩
      exact timesB_mem (List.mem_append.mpr (.inl (List.mem_append.mpr (.inr List.mem_cons_self)))) hbad
    have dl : ds.length = 5 := hds.length.symm
    refine ⟨by omega, key9 _ ⟨(fun z => nomatch z), by simp only [List.length_cons]; omega⟩ fun v hv => ?_⟩
    rcases List.mem_cons.mp hv with rfl | hv
    · rfl
    rcases List.mem_cons.mp hv with rfl | hv
    · rfl
    rcases List.mem_cons.mp hv with rfl | hv
    · refine timesB_len ?_
      rw [cut_1, List.length_drop, List.length_map]
      omega
    rcases List.mem_cons.mp hv with rfl | hv
    · refine timesB_len ?_
      rw [List.length_append, List.length_map, List.length_singleton]
      omega
    exact F2.all (R := fun y => timesB y m = false) (fun _ _ h => h) hds v hv
  walk_at "DZ"
  refine ⟨(fun z => nomatch z), by decide, by decide, by decide, ?_⟩
  rw [atI_1]
  dsimp only
  rw [show Z2.cutD rs none (some 11) = rs from by rw [show (11 : Int) = ((11 : Nat) : Int) from rfl, cut_take, List.take_of_length_le rl]]
  refine ⟨by omega, key8 _ ⟨(fun z => nomatch z), Nat.le_of_ble_eq_true rfl⟩ fun v hv => ?_⟩
  simp only [List.mem_cons, List.not_mem_nil, or_false] at hv
  rcases hv with rfl | rfl | rfl | rfl | rfl | rfl | rfl | rfl | rfl | rfl | rfl | rfl
  · rfl
  · rfl
  · rfl
  · rfl
  · rfl
  · exact netB_rule List.mem_cons_self ruleB_same
  · exact netB_rule List.mem_cons_self ruleB_no
  · exact netB_rule List.mem_cons_self (ruleB_end (Int.le_refl _))
  · exact netB_rule List.mem_cons_self (ruleB_lo rfl)
  · rfl
  · exact netB_many (Nat.lt_of_lt_of_le (by decide : 12 < 13) (Nat.le_of_eq rfl))
  · exact netB_rule (r := .none) (List.mem_append.mpr (.inr List.mem_cons_self)) rfl
structure Txt (mg : Str → Option Value) : Prop where
  b_ValueError : mg "ValueError" = none
  b_abs : mg "abs" = none
  b_all : mg "all" = none
  b_bool : mg "bool" = none
  b_enumerate : mg "enumerate" = none
  b_int : mg "int" = none
  b_isinstance : mg "isinstance" = none
  b_len : mg "len" = none
  b_list : mg "list" = none
  b_range : mg "range" = none
  b_sorted : mg "sorted" = none
  b_str : mg "str" = none
  b_sum : mg "sum" = none
  b_tuple : mg "tuple" = none
  b_zip : mg "zip" = none
  c_GREATEST_SIDE : ∃ t, mg "GREATEST_SIDE" = some (.int 100 t)
  c_GREATEST_TIME : ∃ t, mg "GREATEST_TIME" = some (.int 1000 t)
  c_MOST_EVENTS : ∃ t, mg "MOST_EVENTS" = some (.int 6 t)
  c_MOST_RULES : ∃ t, mg "MOST_RULES" = some (.int 12 t)
section
variable {P : Program} {w : World} {K : PySem.W.Frag} {mg : Str → Option Value} {base : Heap}
theorem fx_L_stream (d : Df K mg "_law_stream" (top 40)) (T : Txt mg)  : Fx P w K mg base 1 "_law_stream" ["script"] (spStream K) :=
  fx_stream d sc_L_stream bb_L_stream (fun f cdv A outer s H Q E hr => pss_one (ps_ret (pe_lst (pa_cons (pe_callTy call_list_of (by rfl) T.b_list bt_list (pa_cons (pv 0) pa_nil)) (pa_cons pe_int (pa_cons pe_int pa_nil))))))
theorem fx_L_next (d : Df K mg "_law_next" (top 41)) (T : Txt mg)  : Fx P w K mg base 1 "_law_next" ["stream", "many"] (spS K 1 f_next) :=
  fx_next d sc_L_next bb_L_next (fun f cdv A outer s H Q E hr => (pss_cons (ps_if (pt_cmpR op_eq (pe_ix ix_list (pv 0) pe_int (fun _ _ => rfl)) pe_int (nomark _))
   (pss_cons (ps_set (i := 2) sc_L_next.nd rfl (.inl rfl) (pe_ix ix_list (pv 0) pe_int (fun _ _ => rfl)))
   (pss_cons (ps_set (i := 3) sc_L_next.nd rfl (.inl rfl) (pe_op op_add pe_int (pv 2)))
   (pss_cons (ps_if (pt_cmpR op_lt (pv 2) (pe_callB call_len_seq (by rfl) T.b_len PySem.boot_len (pa_cons (pe_ix ix_list (pv 0) pe_int (fun _ _ => rfl)) pa_nil)) (nomark _))
     (pss_one (ps_set (i := 3) sc_L_next.nd rfl (.inl rfl) (pe_callB call_abs (by rfl) T.b_abs bt_abs (pa_cons (pe_ix ix_list (pe_ix ix_list (pv 0) pe_int (fun _ _ => rfl)) (pv 2) (fun _ _ => rfl)) pa_nil)))) pss_nil)
   (pss_cons (ps_if (pt_cmpR op_lt (pv 3) (pe_op op_pow pe_int pe_int) (nomark _))
     (pss_cons (ps_set (i := 3) sc_L_next.nd rfl (.inl rfl) (pe_op op_mod (pe_callTy call_int1 (by rfl) T.b_int bt_int (pa_cons (pe_op op_add (pe_op op_add (pe_op op_mul (pv 3) pe_int) (pe_op op_mul (pv 2) pe_int)) pe_int) pa_nil)) pe_int))
     (pss_one (ps_set (i := 3) sc_L_next.nd rfl (.inl rfl) (pe_op op_add (pe_op op_mul (pe_op op_mod (pe_callTy call_int1 (by rfl) T.b_int bt_int (pa_cons (pe_op op_add (pe_op op_mul (pv 3) pe_int) pe_int) pa_nil)) pe_int) pe_int) (pv 3))))) pss_nil)
   (pss_cons (ps_asg (pv 3) (pg_sub (pv 0) pe_int set_list)) (pss_one (ps_asg (pe_op op_add (pv 2) pe_int) (pg_sub (pv 0) pe_int set_list)))))))) pss_nil)
   (pss_cons (ps_set (i := 4) sc_L_next.nd rfl (.inl rfl) (pe_op op_mod (pe_callTy call_int1 (by rfl) T.b_int bt_int (pa_cons (pe_ix ix_list (pv 0) pe_int (fun _ _ => rfl)) pa_nil)) (pv 1)))
   (pss_cons (ps_asg (pe_op op_fdiv (pe_ix ix_list (pv 0) pe_int (fun _ _ => rfl)) (pv 1)) (pg_sub (pv 0) pe_int set_list)) (pss_one (ps_ret (pv 4)))))))
theorem fx_L_times (d : Df K mg "_law_times" (top 45)) (T : Txt mg) (G_L_next : Fx P w K mg base 1 "_law_next" ["stream", "many"] (spS K 1 f_next)) : Fx P w K mg base 2 "_law_times" ["stream", "size", "far"] (spS K 2 f_L_times) :=
  fx_ofS d sc_L_times bb_L_times rfl (by decide) fun f cdv A outer s H Q E hr => ⟨_,
  (pss_one (ps_ret (pe_callTy call_tupleF (by rfl) T.b_tuple bt_tuple (pa_cons (pe_lc (own := [("event", 3)]) (g := (gName 3)) rfl sc_L_times.nd (pi_range1 (by rfl) T.b_range (pa_cons (pv 1) pa_nil)) (blkOk_by (own := [("event", 3)]) (N := N_L_times) (sc := defScope (top 45)) (by decide +kernel)) (fun _ _ _ _ _ => (pg_name (i := 3) sc_L_times.nd rfl (by first | exact .inl rfl | exact .inr rfl))) (fun _ _ _ _ _ => pts_nil) (fun _ _ _ _ _ => (pe_op op_sub (pe_fx G_L_next (hr.mono (by decide)) (by rfl) (pa_cons (pv 0) (pa_cons (pe_op op_addA (pe_op op_mulA pe_int (pv 2)) pe_int) pa_nil))) (pv 2)))) pa_nil)))),
  (ss_ret (se_cb sc_tuple (sa_cons (se_own (so_lc (vs := [3]) (si_range1 (sa_cons (se_var 1) sa_nil)) (sg_name 3) st_yes (se_op s2_sub (se_callS 0 (sa_cons (se_op s2_add (se_op s2_mul se_int (se_var 2)) se_int) sa_nil)) (se_var 2)))) sa_nil)))⟩
theorem fx_L_pick (d : Df K mg "_law_pick" (top 42)) (T : Txt mg) (G_L_next : Fx P w K mg base 1 "_law_next" ["stream", "many"] (spS K 1 f_next)) : Fx P w K mg base 2 "_law_pick" ["stream", "rows"] (spS K 1 f_L_pick) :=
  fx_ofS d sc_L_pick bb_L_pick rfl (by decide) fun f cdv A outer s H Q E hr => ⟨_,
  (pss_one (ps_ret (pe_ix ix_seq (pv 1) (pe_fx G_L_next (hr.mono (by decide)) (by rfl) (pa_cons (pv 0) (pa_cons (pe_callB call_len_seq (by rfl) T.b_len PySem.boot_len (pa_cons (pv 1) pa_nil)) pa_nil))) (fun _ _ => rfl)))),
  (ss_ret (se_op s2_ix (se_var 1) (se_callS 0 (sa_cons (se_cb sc_len (sa_cons (se_var 1) sa_nil)) sa_nil))))⟩
theorem fx_L_edges (d : Df K mg "_law_edges" (top 46)) (T : Txt mg)  : Fx P w K mg base 1 "_law_edges" ["net"] (spD K 1 f_L_edges) :=
  fx_of d sc_L_edges bb_L_edges rfl fun f cdv A outer s H Q E hr => ⟨_,
  (pss_cons (ps_set (i := 1) sc_L_edges.nd rfl (by first | exact .inl rfl | exact .inr rfl) (pe_lst pa_nil))
  (pss_cons (ps_for PassesOwn.never rfl (pi_range1 (by rfl) T.b_range (pa_cons (pe_callB call_len_seq (by rfl) T.b_len PySem.boot_len (pa_cons (pe_ix ix_seq (pv 0) pe_int (fun _ _ => rfl)) pa_nil)) pa_nil)) (pg_name (i := 2) sc_L_edges.nd rfl (by first | exact .inl rfl | exact .inr rfl))
  (pss_cons (ps_asg (pe_ix ix_seq (pe_ix ix_seq (pv 0) pe_int (fun _ _ => rfl)) (pv 2) (fun _ _ => rfl)) (pg_sq rfl (pgs_cons (pg_name (i := 3) sc_L_edges.nd rfl (by first | exact .inl rfl | exact .inr rfl)) (pgs_cons (pg_name (i := 4) sc_L_edges.nd rfl (by first | exact .inl rfl | exact .inr rfl)) (pgs_cons (pg_name (i := 5) sc_L_edges.nd rfl (by first | exact .inl rfl | exact .inr rfl)) (pgs_cons (pg_name (i := 6) sc_L_edges.nd rfl (by first | exact .inl rfl | exact .inr rfl)) pgs_nil))))))
  (pss_cons (ps_expr (pe_bm PySem.F.plainAttrs_list PySem.F.slot_list_extend PySem.F.type_list_extend mt_extend (pv 1) (pa_cons (pe_op op_mulA (pe_lst (pa_cons (pe_tupF (pa_cons (pe_tupF (pa_cons (pv 2) (pa_cons pe_str pa_nil))) (pa_cons (pv 3) (pa_cons (pv 4) (pa_cons (pv 6) pa_nil))))) pa_nil)) (pe_callTy call_int1 (by rfl) T.b_int bt_int (pa_cons (pe_cmpR op_notN (pv 6) pe_non (nomark _)) pa_nil))) pa_nil)))
  (pss_one (ps_expr (pe_bm PySem.F.plainAttrs_list PySem.F.slot_list_extend PySem.F.type_list_extend mt_extend (pv 1) (pa_cons (pe_ifExp (pt_cmpR op_notN (pv 5) pe_non (nomark _)) (pe_lst (pa_cons (pe_tupF (pa_cons (pe_tupF (pa_cons (pv 2) (pa_cons pe_str pa_nil))) (pa_cons (pv 4) (pa_cons (pv 3) (pa_cons (pe_op op_sub pe_int (pv 5)) pa_nil))))) pa_nil)) (pe_lst pa_nil)) pa_nil)))))))
  (pss_one (ps_ret (pv 1))))),
  (ss_seq (ss_asgO (so_lst sa_nil))
  (ss_seq (ss_for (vs := [2]) (si_range1 (sa_cons (se_cb sc_len (sa_cons (se_op s2_ix (se_var 0) se_int) sa_nil)) sa_nil)) (sg_name 2)
  (ss_seq (ss_asg (vs := [3, 4, 5, 6]) (se_op s2_ix (se_op s2_ix (se_var 0) se_int) (se_var 2)) (sg_tup (sgs_cons (sg_name 3) (sgs_cons (sg_name 4) (sgs_cons (sg_name 5) (sgs_cons (sg_name 6) sgs_nil))))))
  (ss_seq (ss_ext 1 (se_op s2_mul (se_own (so_lst (sa_cons (se_tup (sa_cons (se_tup (sa_cons (se_var 2) (sa_cons se_str sa_nil))) (sa_cons (se_var 3) (sa_cons (se_var 4) (sa_cons (se_var 6) sa_nil))))) sa_nil))) (se_cb sc_int (sa_cons (se_op s2_notN (se_var 6) se_non) sa_nil))))
  (ss_ext 1 (se_if (st_test (se_op s2_notN (se_var 5) se_non)) (se_own (so_lst (sa_cons (se_tup (sa_cons (se_tup (sa_cons (se_var 2) (sa_cons se_str sa_nil))) (sa_cons (se_var 4) (sa_cons (se_var 3) (sa_cons (se_op s2_sub se_int (se_var 5)) sa_nil))))) sa_nil))) (se_own (so_lst sa_nil)))))))
  (ss_frz 1 (ss_ret (se_var 1)))))⟩
theorem fx_L_drawn_walk (d : Df K mg "_law_drawn_walk" (top 47)) (T : Txt mg) (G_L_next : Fx P w K mg base 1 "_law_next" ["stream", "many"] (spS K 1 f_next)) (G_L_pick : Fx P w K mg base 2 "_law_pick" ["stream", "rows"] (spS K 1 f_L_pick)) (G_L_edges : Fx P w K mg base 1 "_law_edges" ["net"] (spD K 1 f_L_edges)) : Fx P w K mg base 3 "_law_drawn_walk" ["stream", "net", "start", "most"] (spS K 3 f_L_drawn_walk) :=
  fx_ofS d sc_L_drawn_walk bb_L_drawn_walk rfl (by decide) fun f cdv A outer s H Q E hr => ⟨_,
  (pss_cons (ps_set (i := 4) sc_L_drawn_walk.nd rfl (by first | exact .inl rfl | exact .inr rfl) (pe_lst pa_nil))
  (pss_cons (ps_set (i := 5) sc_L_drawn_walk.nd rfl (by first | exact .inl rfl | exact .inr rfl) (pv 2))
  (pss_cons (ps_for PassesOwn.never rfl (pi_range1 (by rfl) T.b_range (pa_cons (pe_fx G_L_next (hr.mono (by decide)) (by rfl) (pa_cons (pv 0) (pa_cons (pe_op op_addA (pv 3) pe_int) pa_nil))) pa_nil)) (pg_name (i := 6) sc_L_drawn_walk.nd rfl (by first | exact .inl rfl | exact .inr rfl))
  (pss_cons (ps_setLc (i := 7) (own := [("edge", 8), ("near", 9), ("far", 10), ("weight", 11)]) (g := (gSq K 4 (gCons (gName 8) (gCons (gName 9) (gCons (gName 10) (gCons (gName 11) gNil)))))) rfl sc_L_drawn_walk.nd rfl rfl (sw_true rfl rfl rfl (by decide +kernel)) (pi_seq (pe_fx G_L_edges (hr.mono (by decide)) (by rfl) (pa_cons (pv 1) pa_nil))) (blkOk_by (own := [("edge", 8), ("near", 9), ("far", 10), ("weight", 11)]) (N := N_L_drawn_walk) (sc := defScope (top 47)) (by decide +kernel)) (fun _ _ _ _ _ => (pg_sq rfl (pgs_cons (pg_name (i := 8) sc_L_drawn_walk.nd rfl (by first | exact .inl rfl | exact .inr rfl)) (pgs_cons (pg_name (i := 9) sc_L_drawn_walk.nd rfl (by first | exact .inl rfl | exact .inr rfl)) (pgs_cons (pg_name (i := 10) sc_L_drawn_walk.nd rfl (by first | exact .inl rfl | exact .inr rfl)) (pgs_cons (pg_name (i := 11) sc_L_drawn_walk.nd rfl (by first | exact .inl rfl | exact .inr rfl)) pgs_nil)))))) (fun _ _ _ _ _ => (pts_one (pt_cmpR (op_eqD hr.units) (pv 9) (pv 5) (nomark _)))) (fun _ _ _ _ _ => (pe_tupF (pa_cons (pv 8) (pa_cons (pv 10) pa_nil)))))
  (pss_one (ps_if (pt_truth (pv 7) (by intro _; rfl))
  (pss_cons (ps_asg (pe_fx G_L_pick (hr.mono (by decide)) (by rfl) (pa_cons (pv 0) (pa_cons (pv 7) pa_nil))) (pg_sq rfl (pgs_cons (pg_name (i := 8) sc_L_drawn_walk.nd rfl (by first | exact .inl rfl | exact .inr rfl)) (pgs_cons (pg_name (i := 5) sc_L_drawn_walk.nd rfl (by first | exact .inl rfl | exact .inr rfl)) pgs_nil))))
  (pss_one (ps_expr (pe_bm PySem.F.plainAttrs_list PySem.F.slot_list_append PySem.F.type_list_append mt_append (pv 4) (pa_cons (pv 8) pa_nil)))))
  pss_nil))))
  (pss_one (ps_ret (pe_callTy call_tupleF (by rfl) T.b_tuple bt_tuple (pa_cons (pv 4) pa_nil))))))),
  (ss_seq (ss_asgO (so_lst sa_nil))
  (ss_seq (ss_set (i := 5) (se_var 2))
  (ss_seq (ss_for (vs := [6]) (si_range1 (sa_cons (se_callS 0 (sa_cons (se_op s2_add (se_var 3) se_int) sa_nil)) sa_nil)) (sg_name 6)
  (ss_seq (ss_set (i := 7) (se_own (so_lc (vs := [8, 9, 10, 11]) (si_seq (se_call (sa_cons (se_var 1) sa_nil))) (sg_tup (sgs_cons (sg_name 8) (sgs_cons (sg_name 9) (sgs_cons (sg_name 10) (sgs_cons (sg_name 11) sgs_nil))))) (st_test (se_op s2_eq (se_var 9) (se_var 5))) (se_tup (sa_cons (se_var 8) (sa_cons (se_var 10) sa_nil))))))
  (ss_if (st_truth (se_var 7))
  (ss_seq (ss_asg (vs := [8, 5]) (se_callS 0 (sa_cons (se_var 7) sa_nil)) (sg_tup (sgs_cons (sg_name 8) (sgs_cons (sg_name 5) sgs_nil))))
  (ss_app 4 (se_var 8)))
  ss_next)))
  (ss_frz 4 (ss_ret (se_cb sc_tuple (sa_cons (se_var 4) sa_nil)))))))⟩
theorem fx_L_order (d : Df K mg "_law_order" (top 43)) (T : Txt mg) (G_L_next : Fx P w K mg base 1 "_law_next" ["stream", "many"] (spS K 1 f_next)) : Fx P w K mg base 2 "_law_order" ["stream", "many"] (spS K 1 f_L_order) :=
  fx_ofS d sc_L_order bb_L_order rfl (by decide) fun f cdv A outer s H Q E hr => ⟨_,
  (pss_cons (ps_set (i := 2) sc_L_order.nd rfl (by first | exact .inl rfl | exact .inr rfl) (pe_listRg rfl (by rfl) T.b_list (prg_1 (by rfl) T.b_range (pv 1))))
  (pss_one (ps_ret (pe_callTy call_tupleF (by rfl) T.b_tuple bt_tuple (pa_cons (pe_lc (own := [("k", 3)]) (g := (gName 3)) rfl sc_L_order.nd (pi_range1 (by rfl) T.b_range (pa_cons (pv 1) pa_nil)) (blkOk_by (own := [("k", 3)]) (N := N_L_order) (sc := defScope (top 43)) (by decide +kernel)) (fun _ _ _ _ _ => (pg_name (i := 3) sc_L_order.nd rfl (by first | exact .inl rfl | exact .inr rfl))) (fun _ _ _ _ _ => pts_nil) (fun _ _ _ _ _ => (pe_bm PySem.F.plainAttrs_list PySem.F.slot_list_pop PySem.F.type_list_pop mt_popAt (pv 2) (pa_cons (pe_fx G_L_next (hr.mono (by decide)) (by rfl) (pa_cons (pv 0) (pa_cons (pe_callB call_len_seq (by rfl) T.b_len PySem.boot_len (pa_cons (pv 2) pa_nil)) pa_nil))) pa_nil)))) pa_nil))))),
  (ss_seq (ss_asgO (so_listRg (se_var 1)))
  (ss_retPop 2 (by decide) (vs := [3]) (si_range1 (sa_cons (se_var 1) sa_nil)) (sg_name 3) st_yes (se_callS 0 (sa_cons (se_lenOwn 2) sa_nil))))⟩
theorem fx_is_whole (d : Df K mg "is_whole" (top 9)) (T : Txt mg)  : Fx P w K mg base 1 "is_whole" ["value"] (spD K 1 f_is_whole) :=
  fx_of d sc_is_whole bb_is_whole rfl fun f cdv A outer s H Q E hr => ⟨_,
  (pss_one (ps_ret (pe_and (pe_callB call_isi2 (by rfl) T.b_isinstance bt_isi (pa_cons (pv 0) (pa_cons (pe_bltn (v := .ty "int") (by rfl) T.b_int bt_int rfl) pa_nil))) (pe_one (pe_not (pe_callB call_isi2 (by rfl) T.b_isinstance bt_isi (pa_cons (pv 0) (pa_cons (pe_bltn (v := .ty "bool") (by rfl) T.b_bool bt_bool rfl) pa_nil)))))))),
  (ss_ret (se_and (se_isi ty_int (se_var 0)) (se_not (se_isi ty_bool (se_var 0)))))⟩
theorem fx_is_integer (d : Df K mg "is_integer" (top 10)) (T : Txt mg) (G_is_whole : Fx P w K mg base 1 "is_whole" ["value"] (spD K 1 f_is_whole)) : Fx P w K mg base 2 "is_integer" ["value", "least", "greatest"] (spD K 3 f_is_integer) :=
  fx_of d sc_is_integer bb_is_integer rfl fun f cdv A outer s H Q E hr => ⟨_,
  (pss_one (ps_ret (pe_and (pe_fx G_is_whole (hr.mono (by decide)) (by rfl) (pa_cons (pv 0) pa_nil)) (pe_one (pe_chain op_le op_le (pv 1) (pv 0) (pv 2)))))),
  (ss_ret (se_and (se_call (sa_cons (se_var 0) sa_nil)) (se_chain s2_le s2_le (se_var 1) (se_var 0) (se_var 2))))⟩
theorem fx_is_side (d : Df K mg "is_side" (top 12)) (T : Txt mg) (G_is_integer : Fx P w K mg base 2 "is_integer" ["value", "least", "greatest"] (spD K 3 f_is_integer)) : Fx P w K mg base 3 "is_side" ["value"] (spD K 1 f_is_side) :=
  fx_of d sc_is_side bb_is_side rfl fun f cdv A outer s H Q E hr => ⟨_,
  (pss_one (ps_ret (pe_or (pe_cmpR op_isN (pv 0) pe_non (nomark _)) (pe_one (pe_fx G_is_integer (hr.mono (by decide)) (by rfl) (pa_cons (pv 0) (pa_cons (pe_un un_neg (pe_gint T.c_GREATEST_SIDE (by rfl))) (pa_cons (pe_gint T.c_GREATEST_SIDE (by rfl)) pa_nil)))))))),
  (ss_ret (se_or (se_op s2_isN (se_var 0) se_non) (se_call (sa_cons (se_var 0) (sa_cons (se_un s1_neg se_int) (sa_cons se_int sa_nil))))))⟩
theorem fx_is_event (d : Df K mg "is_event" (top 11)) (T : Txt mg) (G_is_integer : Fx P w K mg base 2 "is_integer" ["value", "least", "greatest"] (spD K 3 f_is_integer)) : Fx P w K mg base 3 "is_event" ["value", "size"] (spD K 2 f_is_event) :=
  fx_of d sc_is_event bb_is_event rfl fun f cdv A outer s H Q E hr => ⟨_,
  (pss_one (ps_ret (pe_fx G_is_integer (hr.mono (by decide)) (by rfl) (pa_cons (pv 0) (pa_cons pe_int (pa_cons (pe_op op_sub (pv 1) pe_int) pa_nil)))))),
  (ss_ret (se_call (sa_cons (se_var 0) (sa_cons se_int (sa_cons (se_op s2_sub (se_var 1) se_int) sa_nil)))))⟩
theorem fx_is_rule (d : Df K mg "is_rule" (top 13)) (T : Txt mg) (G_is_side : Fx P w K mg base 3 "is_side" ["value"] (spD K 1 f_is_side)) (G_is_event : Fx P w K mg base 3 "is_event" ["value", "size"] (spD K 2 f_is_event)) : Fx P w K mg base 4 "is_rule" ["value", "size"] (spD K 2 f_is_rule) :=
  fx_of d sc_is_rule bb_is_rule rfl fun f cdv A outer s H Q E hr => ⟨_,
  (pss_cons (ps_if (PW.pt (pw_or (pt_not (pt_truth (pe_callB call_isi2 (by rfl) T.b_isinstance bt_isi (pa_cons (pv 0) (pa_cons (pe_bltn (v := .ty "tuple") (by rfl) T.b_tuple bt_tuple rfl) pa_nil))) (by intro _; rfl))) (pw_or1 (pt_cmpR (op_neD hr.units) (pe_callB call_len_seq (by rfl) T.b_len PySem.boot_len (pa_cons (pv 0) pa_nil)) pe_int (nomark _)))))
  (pss_one (ps_ret pe_bl))
  pss_nil)
  (pss_cons (ps_asg (pv 0) (pg_sq rfl (pgs_cons (pg_name (i := 2) sc_is_rule.nd rfl (by first | exact .inl rfl | exact .inr rfl)) (pgs_cons (pg_name (i := 3) sc_is_rule.nd rfl (by first | exact .inl rfl | exact .inr rfl)) (pgs_cons (pg_name (i := 4) sc_is_rule.nd rfl (by first | exact .inl rfl | exact .inr rfl)) (pgs_cons (pg_name (i := 5) sc_is_rule.nd rfl (by first | exact .inl rfl | exact .inr rfl)) pgs_nil))))))
  (pss_cons (ps_if (PW.pt (pw_or (pt_not (pt_truth (pe_fx G_is_event (hr.mono (by decide)) (by rfl) (pa_cons (pv 2) (pa_cons (pv 1) pa_nil))) (by intro _; rfl))) (pw_or (pt_not (pt_truth (pe_fx G_is_event (hr.mono (by decide)) (by rfl) (pa_cons (pv 3) (pa_cons (pv 1) pa_nil))) (by intro _; rfl))) (pw_or1 (pt_cmpR (op_eqD hr.units) (pv 2) (pv 3) (nomark _))))))
  (pss_one (ps_ret pe_bl))
  pss_nil)
  (pss_cons (ps_if (PW.pt (pw_and (pt_cmpR op_isN (pv 4) pe_non (nomark _)) (pw_and1 (pt_cmpR op_isN (pv 5) pe_non (nomark _)))))
  (pss_one (ps_ret pe_bl))
  pss_nil)
  (pss_one (ps_ret (pe_and (pe_fx G_is_side (hr.mono (by decide)) (by rfl) (pa_cons (pv 4) pa_nil)) (pe_one (pe_fx G_is_side (hr.mono (by decide)) (by rfl) (pa_cons (pv 5) pa_nil)))))))))),
  (ss_seq (ss_if (st_or (st_not (st_truth (se_isi ty_tuple (se_var 0)))) (st_test (se_op s2_ne (se_cb sc_len (sa_cons (se_var 0) sa_nil)) se_int)))
  (ss_ret se_bl)
  ss_next)
  (ss_seq (ss_asg (vs := [2, 3, 4, 5]) (se_var 0) (sg_tup (sgs_cons (sg_name 2) (sgs_cons (sg_name 3) (sgs_cons (sg_name 4) (sgs_cons (sg_name 5) sgs_nil))))))
  (ss_seq (ss_if (st_or (st_not (st_truth (se_call (sa_cons (se_var 2) (sa_cons (se_var 1) sa_nil))))) (st_or (st_not (st_truth (se_call (sa_cons (se_var 3) (sa_cons (se_var 1) sa_nil))))) (st_test (se_op s2_eq (se_var 2) (se_var 3)))))
  (ss_ret se_bl)
  ss_next)
  (ss_seq (ss_if (st_and (st_test (se_op s2_isN (se_var 4) se_non)) (st_test (se_op s2_isN (se_var 5) se_non)))
  (ss_ret se_bl)
  ss_next)
  (ss_ret (se_and (se_call (sa_cons (se_var 4) sa_nil)) (se_call (sa_cons (se_var 5) sa_nil))))))))⟩
theorem fx_is_net (d : Df K mg "is_net" (top 14)) (T : Txt mg) (G_is_integer : Fx P w K mg base 2 "is_integer" ["value", "least", "greatest"] (spD K 3 f_is_integer)) (G_is_rule : Fx P w K mg base 4 "is_rule" ["value", "size"] (spD K 2 f_is_rule)) : Fx P w K mg base 5 "is_net" ["value"] (spD K 1 f_is_net) :=
  fx_of d sc_is_net bb_is_net rfl fun f cdv A outer s H Q E hr => ⟨_,
  (pss_cons (ps_if (PW.pt (pw_or (pt_not (pt_truth (pe_callB call_isi2 (by rfl) T.b_isinstance bt_isi (pa_cons (pv 0) (pa_cons (pe_bltn (v := .ty "tuple") (by rfl) T.b_tuple bt_tuple rfl) pa_nil))) (by intro _; rfl))) (pw_or1 (pt_cmpR (op_neD hr.units) (pe_callB call_len_seq (by rfl) T.b_len PySem.boot_len (pa_cons (pv 0) pa_nil)) pe_int (nomark _)))))
  (pss_one (ps_ret pe_bl))
  pss_nil)
  (pss_cons (ps_asg (pv 0) (pg_sq rfl (pgs_cons (pg_name (i := 1) sc_is_net.nd rfl (by first | exact .inl rfl | exact .inr rfl)) (pgs_cons (pg_name (i := 2) sc_is_net.nd rfl (by first | exact .inl rfl | exact .inr rfl)) pgs_nil))))
  (pss_cons (ps_if (pt_not (pt_truth (pe_fx G_is_integer (hr.mono (by decide)) (by rfl) (pa_cons (pv 1) (pa_cons pe_int (pa_cons (pe_gint T.c_MOST_EVENTS (by rfl)) pa_nil)))) (by intro _; rfl)))
  (pss_one (ps_ret pe_bl))
  pss_nil)
  (pss_cons (ps_if (PW.pt (pw_or (pt_not (pt_truth (pe_callB call_isi2 (by rfl) T.b_isinstance bt_isi (pa_cons (pv 2) (pa_cons (pe_bltn (v := .ty "tuple") (by rfl) T.b_tuple bt_tuple rfl) pa_nil))) (by intro _; rfl))) (pw_or1 (pt_cmpR op_gt (pe_callB call_len_seq (by rfl) T.b_len PySem.boot_len (pa_cons (pv 2) pa_nil)) (pe_gint T.c_MOST_RULES (by rfl)) (nomark _)))))
  (pss_one (ps_ret pe_bl))
  pss_nil)
  (pss_one (ps_ret (pe_callB (cr_all rfl) (by rfl) T.b_all bt_all (pa_cons (pe_lc (own := [("rule", 3)]) (g := (gName 3)) rfl sc_is_net.nd (pi_seq (pv 2)) (blkOk_by (own := [("rule", 3)]) (N := N_is_net) (sc := defScope (top 14)) (by decide +kernel)) (fun _ _ _ _ _ => (pg_name (i := 3) sc_is_net.nd rfl (by first | exact .inl rfl | exact .inr rfl))) (fun _ _ _ _ _ => pts_nil) (fun _ _ _ _ _ => (pe_fx G_is_rule (hr.mono (by decide)) (by rfl) (pa_cons (pv 3) (pa_cons (pv 1) pa_nil))))) pa_nil)))))))),
  (ss_seq (ss_if (st_or (st_not (st_truth (se_isi ty_tuple (se_var 0)))) (st_test (se_op s2_ne (se_cb sc_len (sa_cons (se_var 0) sa_nil)) se_int)))
  (ss_ret se_bl)
  ss_next)
  (ss_seq (ss_asg (vs := [1, 2]) (se_var 0) (sg_tup (sgs_cons (sg_name 1) (sgs_cons (sg_name 2) sgs_nil))))
  (ss_seq (ss_if (st_not (st_truth (se_call (sa_cons (se_var 1) (sa_cons se_int (sa_cons se_int sa_nil))))))
  (ss_ret se_bl)
  ss_next)
  (ss_seq (ss_if (st_or (st_not (st_truth (se_isi ty_tuple (se_var 2)))) (st_test (se_op s2_gt (se_cb sc_len (sa_cons (se_var 2) sa_nil)) se_int)))
  (ss_ret se_bl)
  ss_next)
  (ss_ret (se_cb sc_all (sa_cons (se_own (so_lc (vs := [3]) (si_seq (se_var 2)) (sg_name 3) st_yes (se_call (sa_cons (se_var 3) (sa_cons (se_var 1) sa_nil))))) sa_nil)))))))⟩
theorem fx_check_net (d : Df K mg "check_net" (top 16)) (T : Txt mg) (G_is_net : Fx P w K mg base 5 "is_net" ["value"] (spD K 1 f_is_net)) : Fx P w K mg base 6 "check_net" ["net"] (spD K 1 f_check_net) :=
  fx_of d sc_check_net bb_check_net rfl fun f cdv A outer s H Q E hr => ⟨_,
  (pss_one (ps_if (pt_not (pt_truth (pe_fx G_is_net (hr.mono (by decide)) (by rfl) (pa_cons (pv 0) pa_nil)) (by intro _; rfl)))
  (pss_one ps_never)
  pss_nil)),
  (ss_if (st_not (st_truth (se_call (sa_cons (se_var 0) sa_nil))))
  ss_never
  ss_next)⟩
theorem fxX_check_net (G0 : Fx P w K mg base 6 "check_net" ["net"] (spD K 1 f_check_net)) (d : Df K mg "check_net" (top 16)) (T : Txt mg) (G_is_net : Fx P w K mg base 5 "is_net" ["value"] (spD K 1 f_is_net))  {C0 : Addr} (X_0 : XC P w K mg base 0 C0) {C2 : Addr} (X_2 : XC P w K mg base 2 C2) : FxX P w K mg base 6 "check_net" ["net"] 1 f_check_net fX_check_net :=
  fx_ofX G0 d sc_check_net bb_check_net rfl fun f cdv A outer s H E hr => ⟨_,
  by have tk := takes_of (X := cxOf (L2.CX P w) P w K mg base N_check_net "check_net" (defScope (top 16)) f cdv A outer s H E) (E := E) rfl rfl rfl rfl; have po := passes_of (X := cxOf (L2.CX P w) P w K mg base N_check_net "check_net" (defScope (top 16)) f cdv A outer s H E) rfl; exact (pss_one (ps_if (PT.nox (pt_not (pt_truth (pe_fx G_is_net (hr.mono (by decide)) (by rfl) (pa_cons (pv 0) pa_nil)) (by intro _; rfl))))
  (pss_one (ps_raise1 (c := 0) X_0 rfl tk (hr.mono (by decide)) (by rfl) pe_str))
  pss_nil)),
  fun x => (ssg_if cx1_kept (stg_of (st_not (st_truth (se_call (sa_cons (se_var 0) sa_nil)))))
  (ssg_raise (c := 0) X_0 se_str)
  (ssg_of ss_next))⟩
theorem fx_is_times (d : Df K mg "is_times" (top 15)) (T : Txt mg) (G_is_integer : Fx P w K mg base 2 "is_integer" ["value", "least", "greatest"] (spD K 3 f_is_integer)) : Fx P w K mg base 3 "is_times" ["value", "net"] (spD K 2 f_is_times) :=
  fx_of d sc_is_times bb_is_times rfl fun f cdv A outer s H Q E hr => ⟨_,
  (pss_cons (ps_if (PW.pt (pw_or (pt_not (pt_truth (pe_callB call_isi2 (by rfl) T.b_isinstance bt_isi (pa_cons (pv 0) (pa_cons (pe_bltn (v := .ty "tuple") (by rfl) T.b_tuple bt_tuple rfl) pa_nil))) (by intro _; rfl))) (pw_or1 (pt_cmpR (op_neD hr.units) (pe_callB call_len_seq (by rfl) T.b_len PySem.boot_len (pa_cons (pv 0) pa_nil)) (pe_ix ix_seq (pv 1) pe_int (fun _ _ => rfl)) (nomark _)))))
  (pss_one (ps_ret pe_bl))
  pss_nil)
  (pss_one (ps_ret (pe_callB (cr_all rfl) (by rfl) T.b_all bt_all (pa_cons (pe_lc (own := [("time", 2)]) (g := (gName 2)) rfl sc_is_times.nd (pi_seq (pv 0)) (blkOk_by (own := [("time", 2)]) (N := N_is_times) (sc := defScope (top 15)) (by decide +kernel)) (fun _ _ _ _ _ => (pg_name (i := 2) sc_is_times.nd rfl (by first | exact .inl rfl | exact .inr rfl))) (fun _ _ _ _ _ => pts_nil) (fun _ _ _ _ _ => (pe_fx G_is_integer (hr.mono (by decide)) (by rfl) (pa_cons (pv 2) (pa_cons (pe_un un_neg (pe_gint T.c_GREATEST_TIME (by rfl))) (pa_cons (pe_gint T.c_GREATEST_TIME (by rfl)) pa_nil)))))) pa_nil))))),
  (ss_seq (ss_if (st_or (st_not (st_truth (se_isi ty_tuple (se_var 0)))) (st_test (se_op s2_ne (se_cb sc_len (sa_cons (se_var 0) sa_nil)) (se_op s2_ix (se_var 1) se_int))))
  (ss_ret se_bl)
  ss_next)
  (ss_ret (se_cb sc_all (sa_cons (se_own (so_lc (vs := [2]) (si_seq (se_var 0)) (sg_name 2) st_yes (se_call (sa_cons (se_var 2) (sa_cons (se_un s1_neg se_int) (sa_cons se_int sa_nil)))))) sa_nil))))⟩
theorem fx_check_times (d : Df K mg "check_times" (top 17)) (T : Txt mg) (G_is_times : Fx P w K mg base 3 "is_times" ["value", "net"] (spD K 2 f_is_times)) : Fx P w K mg base 4 "check_times" ["net", "times"] (spD K 2 f_check_times) :=
  fx_of d sc_check_times bb_check_times rfl fun f cdv A outer s H Q E hr => ⟨_,
  (pss_one (ps_if (pt_not (pt_truth (pe_fx G_is_times (hr.mono (by decide)) (by rfl) (pa_cons (pv 1) (pa_cons (pv 0) pa_nil))) (by intro _; rfl)))
  (pss_one ps_never)
  pss_nil)),
  (ss_if (st_not (st_truth (se_call (sa_cons (se_var 1) (sa_cons (se_var 0) sa_nil)))))
  ss_never
  ss_next)⟩
theorem fxX_check_times (G0 : Fx P w K mg base 4 "check_times" ["net", "times"] (spD K 2 f_check_times)) (d : Df K mg "check_times" (top 17)) (T : Txt mg) (G_is_times : Fx P w K mg base 3 "is_times" ["value", "net"] (spD K 2 f_is_times))  {C0 : Addr} (X_0 : XC P w K mg base 0 C0) {C2 : Addr} (X_2 : XC P w K mg base 2 C2) : FxX P w K mg base 4 "check_times" ["net", "times"] 2 f_check_times fX_check_times :=
  fx_ofX G0 d sc_check_times bb_check_times rfl fun f cdv A outer s H E hr => ⟨_,
  by have tk := takes_of (X := cxOf (L2.CX P w) P w K mg base N_check_times "check_times" (defScope (top 17)) f cdv A outer s H E) (E := E) rfl rfl rfl rfl; have po := passes_of (X := cxOf (L2.CX P w) P w K mg base N_check_times "check_times" (defScope (top 17)) f cdv A outer s H E) rfl; exact (pss_one (ps_if (PT.nox (pt_not (pt_truth (pe_fx G_is_times (hr.mono (by decide)) (by rfl) (pa_cons (pv 1) (pa_cons (pv 0) pa_nil))) (by intro _; rfl))))
  (pss_one (ps_raise1 (c := 0) X_0 rfl tk (hr.mono (by decide)) (by rfl) pe_str))
  pss_nil)),
  fun x => (ssg_if cx1_kept (stg_of (st_not (st_truth (se_call (sa_cons (se_var 1) (sa_cons (se_var 0) sa_nil))))))
  (ssg_raise (c := 0) X_0 se_str)
  (ssg_of ss_next))⟩
theorem fx_rule_excess (d : Df K mg "rule_excess" (top 19)) (T : Txt mg)  : Fx P w K mg base 1 "rule_excess" ["rule", "times"] (spD K 2 f_rule_excess) :=
  fx_of d sc_rule_excess bb_rule_excess rfl fun f cdv A outer s H Q E hr => ⟨_,
  (pss_cons (ps_asg (pv 0) (pg_sq rfl (pgs_cons (pg_name (i := 3) sc_rule_excess.nd rfl (by first | exact .inl rfl | exact .inr rfl)) (pgs_cons (pg_name (i := 4) sc_rule_excess.nd rfl (by first | exact .inl rfl | exact .inr rfl)) (pgs_cons (pg_name (i := 5) sc_rule_excess.nd rfl (by first | exact .inl rfl | exact .inr rfl)) (pgs_cons (pg_name (i := 6) sc_rule_excess.nd rfl (by first | exact .inl rfl | exact .inr rfl)) pgs_nil))))))
  (pss_cons (ps_set (i := 2) sc_rule_excess.nd rfl (by first | exact .inl rfl | exact .inr rfl) (pe_op op_sub (pe_ix ix_seq (pv 1) (pv 4) (fun _ _ => rfl)) (pe_ix ix_seq (pv 1) (pv 3) (fun _ _ => rfl))))
  (pss_cons (ps_if (PW.pt (pw_and (pt_cmpR op_notN (pv 5) pe_non (nomark _)) (pw_and1 (pt_cmpR op_lt (pv 2) (pv 5) (nomark _)))))
  (pss_one (ps_ret (pe_op op_sub (pv 2) (pv 5))))
  pss_nil)
  (pss_cons (ps_if (PW.pt (pw_and (pt_cmpR op_notN (pv 6) pe_non (nomark _)) (pw_and1 (pt_cmpR op_gt (pv 2) (pv 6) (nomark _)))))
  (pss_one (ps_ret (pe_op op_sub (pv 2) (pv 6))))
  pss_nil)
  (pss_one (ps_ret pe_int)))))),
  (ss_seq (ss_asg (vs := [3, 4, 5, 6]) (se_var 0) (sg_tup (sgs_cons (sg_name 3) (sgs_cons (sg_name 4) (sgs_cons (sg_name 5) (sgs_cons (sg_name 6) sgs_nil))))))
  (ss_seq (ss_set (i := 2) (se_op s2_sub (se_op s2_ix (se_var 1) (se_var 4)) (se_op s2_ix (se_var 1) (se_var 3))))
  (ss_seq (ss_if (st_and (st_test (se_op s2_notN (se_var 5) se_non)) (st_test (se_op s2_lt (se_var 2) (se_var 5))))
  (ss_ret (se_op s2_sub (se_var 2) (se_var 5)))
  ss_next)
  (ss_seq (ss_if (st_and (st_test (se_op s2_notN (se_var 6) se_non)) (st_test (se_op s2_gt (se_var 2) (se_var 6))))
  (ss_ret (se_op s2_sub (se_var 2) (se_var 6)))
  ss_next)
  (ss_ret se_int)))))⟩
theorem fx_rule_excesses (d : Df K mg "rule_excesses" (top 20)) (T : Txt mg) (G_rule_excess : Fx P w K mg base 1 "rule_excess" ["rule", "times"] (spD K 2 f_rule_excess)) : Fx P w K mg base 2 "rule_excesses" ["net", "times"] (spD K 2 f_rule_excesses) :=
  fx_of d sc_rule_excesses bb_rule_excesses rfl fun f cdv A outer s H Q E hr => ⟨_,
  (pss_one (ps_ret (pe_callTy call_tupleF (by rfl) T.b_tuple bt_tuple (pa_cons (pe_lc (own := [("rule", 2)]) (g := (gName 2)) rfl sc_rule_excesses.nd (pi_seq (pe_ix ix_seq (pv 0) pe_int (fun _ _ => rfl))) (blkOk_by (own := [("rule", 2)]) (N := N_rule_excesses) (sc := defScope (top 20)) (by decide +kernel)) (fun _ _ _ _ _ => (pg_name (i := 2) sc_rule_excesses.nd rfl (by first | exact .inl rfl | exact .inr rfl))) (fun _ _ _ _ _ => pts_nil) (fun _ _ _ _ _ => (pe_fx G_rule_excess (hr.mono (by decide)) (by rfl) (pa_cons (pv 2) (pa_cons (pv 1) pa_nil))))) pa_nil)))),
  (ss_ret (se_cb sc_tuple (sa_cons (se_own (so_lc (vs := [2]) (si_seq (se_op s2_ix (se_var 0) se_int)) (sg_name 2) st_yes (se_call (sa_cons (se_var 2) (sa_cons (se_var 1) sa_nil))))) sa_nil)))⟩
theorem fx_excess (d : Df K mg "excess" (top 21)) (T : Txt mg) (G_check_net : Fx P w K mg base 6 "check_net" ["net"] (spD K 1 f_check_net)) (G_check_times : Fx P w K mg base 4 "check_times" ["net", "times"] (spD K 2 f_check_times)) (G_rule_excesses : Fx P w K mg base 2 "rule_excesses" ["net", "times"] (spD K 2 f_rule_excesses)) : Fx P w K mg base 7 "excess" ["net", "times"] (spD K 2 f_excess) :=
  fx_of d sc_excess bb_excess rfl fun f cdv A outer s H Q E hr => ⟨_,
  (pss_cons (ps_expr (pe_fx G_check_net (hr.mono (by decide)) (by rfl) (pa_cons (pv 0) pa_nil)))
  (pss_cons (ps_expr (pe_fx G_check_times (hr.mono (by decide)) (by rfl) (pa_cons (pv 0) (pa_cons (pv 1) pa_nil))))
  (pss_one (ps_ret (pe_fx G_rule_excesses (hr.mono (by decide)) (by rfl) (pa_cons (pv 0) (pa_cons (pv 1) pa_nil))))))),
  (ss_seq (ss_drop (se_call (sa_cons (se_var 0) sa_nil)))
  (ss_seq (ss_drop (se_call (sa_cons (se_var 0) (sa_cons (se_var 1) sa_nil))))
  (ss_ret (se_call (sa_cons (se_var 0) (sa_cons (se_var 1) sa_nil))))))⟩
theorem fxX_excess (G0 : Fx P w K mg base 7 "excess" ["net", "times"] (spD K 2 f_excess)) (d : Df K mg "excess" (top 21)) (T : Txt mg) (G_check_net : Fx P w K mg base 6 "check_net" ["net"] (spD K 1 f_check_net)) (G_check_times : Fx P w K mg base 4 "check_times" ["net", "times"] (spD K 2 f_check_times)) (G_rule_excesses : Fx P w K mg base 2 "rule_excesses" ["net", "times"] (spD K 2 f_rule_excesses)) (GX_check_net : FxX P w K mg base 6 "check_net" ["net"] 1 f_check_net fX_check_net) (GX_check_times : FxX P w K mg base 4 "check_times" ["net", "times"] 2 f_check_times fX_check_times) {C0 : Addr} (X_0 : XC P w K mg base 0 C0) {C2 : Addr} (X_2 : XC P w K mg base 2 C2) : FxX P w K mg base 7 "excess" ["net", "times"] 2 f_excess fX_excess :=
  fx_ofX G0 d sc_excess bb_excess rfl fun f cdv A outer s H E hr => ⟨_,
  by have tk := takes_of (X := cxOf (L2.CX P w) P w K mg base N_excess "excess" (defScope (top 21)) f cdv A outer s H E) (E := E) rfl rfl rfl rfl; have po := passes_of (X := cxOf (L2.CX P w) P w K mg base N_excess "excess" (defScope (top 21)) f cdv A outer s H E) rfl; exact (pss_cons (ps_expr (pe_fxX GX_check_net rfl rfl (hr.mono (by decide)) (by rfl) tk (pa_cons (PE.nox (pv 0)) pa_nil)))
  (pss_cons (ps_expr (pe_fxX GX_check_times rfl rfl (hr.mono (by decide)) (by rfl) tk (pa_cons (PE.nox (pv 0)) (pa_cons (PE.nox (pv 1)) pa_nil))))
  (pss_one (ps_nox (ps_ret (pe_fx G_rule_excesses (hr.mono (by decide)) (by rfl) (pa_cons (pv 0) (pa_cons (pv 1) pa_nil)))))))),
  fun x => (ssg_seqC (fun _ _ _ _ _ _ _ h => h) (ssg_drop (seg_callX (sag_cons cx1_kept (seg_of (se_var 0)) sag_nil)))
  (ssg_seqC (fun _ _ _ _ _ _ _ h => h) (ssg_drop (seg_callX (sag_cons cx1_kept (seg_of (se_var 0)) (sag_cons cx1_kept (seg_of (se_var 1)) sag_nil))))
  (ssg_of (ss_ret (se_call (sa_cons (se_var 0) (sa_cons (se_var 1) sa_nil)))))))⟩
theorem fx_first_broken (d : Df K mg "first_broken" (top 22)) (T : Txt mg) (G_excess : Fx P w K mg base 7 "excess" ["net", "times"] (spD K 2 f_excess)) : Fx P w K mg base 8 "first_broken" ["net", "times"] (spD K 2 f_first_broken) :=
  fx_of d sc_first_broken bb_first_broken rfl fun f cdv A outer s H Q E hr => ⟨_,
  (pss_cons (ps_for PassesOwn.never rfl (pi_enumA (by rfl) T.b_enumerate (pa_cons (pe_fx G_excess (hr.mono (by decide)) (by rfl) (pa_cons (pv 0) (pa_cons (pv 1) pa_nil))) pa_nil)) (pg_sq rfl (pgs_cons (pg_name (i := 2) sc_first_broken.nd rfl (by first | exact .inl rfl | exact .inr rfl)) (pgs_cons (pg_name (i := 3) sc_first_broken.nd rfl (by first | exact .inl rfl | exact .inr rfl)) pgs_nil)))
  (pss_one (ps_if (pt_cmpR (op_neD hr.units) (pv 3) pe_int (nomark _))
  (pss_one (ps_ret (pv 2)))
  pss_nil)))
  (pss_one (ps_ret pe_non))),
  (ss_seq (ss_for (vs := [2, 3]) (si_enumA (sa_cons (se_call (sa_cons (se_var 0) (sa_cons (se_var 1) sa_nil))) sa_nil)) (sg_tup (sgs_cons (sg_name 2) (sgs_cons (sg_name 3) sgs_nil)))
  (ss_if (st_test (se_op s2_ne (se_var 3) se_int))
  (ss_ret (se_var 2))
  ss_next))
  (ss_ret se_non))⟩
theorem fxX_first_broken (G0 : Fx P w K mg base 8 "first_broken" ["net", "times"] (spD K 2 f_first_broken)) (d : Df K mg "first_broken" (top 22)) (T : Txt mg) (G_excess : Fx P w K mg base 7 "excess" ["net", "times"] (spD K 2 f_excess)) (GX_excess : FxX P w K mg base 7 "excess" ["net", "times"] 2 f_excess fX_excess) {C0 : Addr} (X_0 : XC P w K mg base 0 C0) {C2 : Addr} (X_2 : XC P w K mg base 2 C2) : FxX P w K mg base 8 "first_broken" ["net", "times"] 2 f_first_broken fX_first_broken :=
  fx_ofX G0 d sc_first_broken bb_first_broken rfl fun f cdv A outer s H E hr => ⟨_,
  by have tk := takes_of (X := cxOf (L2.CX P w) P w K mg base N_first_broken "first_broken" (defScope (top 22)) f cdv A outer s H E) (E := E) rfl rfl rfl rfl; have po := passes_of (X := cxOf (L2.CX P w) P w K mg base N_first_broken "first_broken" (defScope (top 22)) f cdv A outer s H E) rfl; exact (pss_cons (ps_for po rfl (pi_enumA (by rfl) T.b_enumerate (pa_cons (pe_fxX GX_excess rfl rfl (hr.mono (by decide)) (by rfl) tk (pa_cons (PE.nox (pv 0)) (pa_cons (PE.nox (pv 1)) pa_nil))) pa_nil)) (pg_sq rfl (pgs_cons (pg_name (i := 2) sc_first_broken.nd rfl (by first | exact .inl rfl | exact .inr rfl)) (pgs_cons (pg_name (i := 3) sc_first_broken.nd rfl (by first | exact .inl rfl | exact .inr rfl)) pgs_nil)))
  (PSs.nox (pss_one (ps_if (pt_cmpR (op_neD hr.units) (pv 3) pe_int (nomark _))
  (pss_one (ps_ret (pv 2)))
  pss_nil))))
  (pss_one (ps_nox (ps_ret pe_non)))),
  fun x => (ssg_seqC (fun _ _ _ _ _ _ _ h => h) (ssg_forG (vs := [2, 3]) cx1_base (sig_enumA (sag_cons cx1_kept (seg_callX (sag_cons cx1_kept (seg_of (se_var 0)) (sag_cons cx1_kept (seg_of (se_var 1)) sag_nil))) sag_nil)) (sg_tup (sgs_cons (sg_name 2) (sgs_cons (sg_name 3) sgs_nil)))
  (ssg_of (ss_if (st_test (se_op s2_ne (se_var 3) se_int))
  (ss_ret (se_var 2))
  ss_next)))
  (ssg_of (ss_ret se_non)))⟩
theorem fx_keeps (d : Df K mg "keeps" (top 23)) (T : Txt mg) (G_first_broken : Fx P w K mg base 8 "first_broken" ["net", "times"] (spD K 2 f_first_broken)) : Fx P w K mg base 9 "keeps" ["net", "times"] (spD K 2 f_keeps) :=
  fx_of d sc_keeps bb_keeps rfl fun f cdv A outer s H Q E hr => ⟨_,
  (pss_one (ps_ret (pe_cmpR op_isN (pe_fx G_first_broken (hr.mono (by decide)) (by rfl) (pa_cons (pv 0) (pa_cons (pv 1) pa_nil))) pe_non (nomark _)))),
  (ss_ret (se_op s2_isN (se_call (sa_cons (se_var 0) (sa_cons (se_var 1) sa_nil))) se_non))⟩
theorem fxX_keeps (G0 : Fx P w K mg base 9 "keeps" ["net", "times"] (spD K 2 f_keeps)) (d : Df K mg "keeps" (top 23)) (T : Txt mg) (G_first_broken : Fx P w K mg base 8 "first_broken" ["net", "times"] (spD K 2 f_first_broken)) (GX_first_broken : FxX P w K mg base 8 "first_broken" ["net", "times"] 2 f_first_broken fX_first_broken) {C0 : Addr} (X_0 : XC P w K mg base 0 C0) {C2 : Addr} (X_2 : XC P w K mg base 2 C2) : FxX P w K mg base 9 "keeps" ["net", "times"] 2 f_keeps fX_keeps :=
  fx_ofX G0 d sc_keeps bb_keeps rfl fun f cdv A outer s H E hr => ⟨_,
  by have tk := takes_of (X := cxOf (L2.CX P w) P w K mg base N_keeps "keeps" (defScope (top 23)) f cdv A outer s H E) (E := E) rfl rfl rfl rfl; have po := passes_of (X := cxOf (L2.CX P w) P w K mg base N_keeps "keeps" (defScope (top 23)) f cdv A outer s H E) rfl; exact (pss_one (ps_ret (pe_cmpR op_isN (pe_fxX GX_first_broken rfl rfl (hr.mono (by decide)) (by rfl) tk (pa_cons (PE.nox (pv 0)) (pa_cons (PE.nox (pv 1)) pa_nil))) (PE.nox pe_non) (nomark _)))),
  fun x => (ssg_ret (seg_op cx1_kept s2_isN (seg_callX (sag_cons cx1_kept (seg_of (se_var 0)) (sag_cons cx1_kept (seg_of (se_var 1)) sag_nil))) (seg_of se_non)))⟩
theorem fx_edge_course (d : Df K mg "edge_course" (top 24)) (T : Txt mg) (G_is_integer : Fx P w K mg base 2 "is_integer" ["value", "least", "greatest"] (spD K 3 f_is_integer)) : Fx P w K mg base 3 "edge_course" ["net", "value"] (spD K 2 f_edge_course) :=
  fx_of d sc_edge_course bb_edge_course rfl fun f cdv A outer s H Q E hr => ⟨_,
  (pss_cons (ps_if (PW.pt (pw_or (pt_not (pt_truth (pe_callB call_isi2 (by rfl) T.b_isinstance bt_isi (pa_cons (pv 1) (pa_cons (pe_bltn (v := .ty "tuple") (by rfl) T.b_tuple bt_tuple rfl) pa_nil))) (by intro _; rfl))) (pw_or1 (pt_cmpR (op_neD hr.units) (pe_callB call_len_seq (by rfl) T.b_len PySem.boot_len (pa_cons (pv 1) pa_nil)) pe_int (nomark _)))))
  (pss_one (ps_ret pe_non))
  pss_nil)
  (pss_cons (ps_asg (pv 1) (pg_sq rfl (pgs_cons (pg_name (i := 2) sc_edge_course.nd rfl (by first | exact .inl rfl | exact .inr rfl)) (pgs_cons (pg_name (i := 3) sc_edge_course.nd rfl (by first | exact .inl rfl | exact .inr rfl)) pgs_nil))))
  (pss_cons (ps_if (PW.pt (pw_or (pt_not (pt_truth (pe_fx G_is_integer (hr.mono (by decide)) (by rfl) (pa_cons (pv 2) (pa_cons pe_int (pa_cons (pe_op op_sub (pe_callB call_len_seq (by rfl) T.b_len PySem.boot_len (pa_cons (pe_ix ix_seq (pv 0) pe_int (fun _ _ => rfl)) pa_nil)) pe_int) pa_nil)))) (by intro _; rfl))) (pw_or1 (pt_not (pt_truth (pe_callB call_isi2 (by rfl) T.b_isinstance bt_isi (pa_cons (pv 3) (pa_cons (pe_bltn (v := .ty "str") (by rfl) T.b_str bt_str rfl) pa_nil))) (by intro _; rfl))))))
  (pss_one (ps_ret pe_non))
  pss_nil)
  (pss_cons (ps_asg (pe_ix ix_seq (pe_ix ix_seq (pv 0) pe_int (fun _ _ => rfl)) (pv 2) (fun _ _ => rfl)) (pg_sq rfl (pgs_cons (pg_name (i := 4) sc_edge_course.nd rfl (by first | exact .inl rfl | exact .inr rfl)) (pgs_cons (pg_name (i := 5) sc_edge_course.nd rfl (by first | exact .inl rfl | exact .inr rfl)) (pgs_cons (pg_name (i := 6) sc_edge_course.nd rfl (by first | exact .inl rfl | exact .inr rfl)) (pgs_cons (pg_name (i := 7) sc_edge_course.nd rfl (by first | exact .inl rfl | exact .inr rfl)) pgs_nil))))))
  (pss_cons (ps_if (PW.pt (pw_and (pt_cmpR (op_eqD hr.units) (pv 3) pe_str (nomark _)) (pw_and1 (pt_cmpR op_notN (pv 7) pe_non (nomark _)))))
  (pss_one (ps_ret (pe_tupF (pa_cons (pv 4) (pa_cons (pv 5) (pa_cons (pv 7) pa_nil))))))
  pss_nil)
  (pss_cons (ps_if (PW.pt (pw_and (pt_cmpR (op_eqD hr.units) (pv 3) pe_str (nomark _)) (pw_and1 (pt_cmpR op_notN (pv 6) pe_non (nomark _)))))
  (pss_one (ps_ret (pe_tupF (pa_cons (pv 5) (pa_cons (pv 4) (pa_cons (pe_un un_neg (pv 6)) pa_nil))))))
  pss_nil)
  (pss_one (ps_ret pe_non)))))))),
  (ss_seq (ss_if (st_or (st_not (st_truth (se_isi ty_tuple (se_var 1)))) (st_test (se_op s2_ne (se_cb sc_len (sa_cons (se_var 1) sa_nil)) se_int)))
  (ss_ret se_non)
  ss_next)
  (ss_seq (ss_asg (vs := [2, 3]) (se_var 1) (sg_tup (sgs_cons (sg_name 2) (sgs_cons (sg_name 3) sgs_nil))))
  (ss_seq (ss_if (st_or (st_not (st_truth (se_call (sa_cons (se_var 2) (sa_cons se_int (sa_cons (se_op s2_sub (se_cb sc_len (sa_cons (se_op s2_ix (se_var 0) se_int) sa_nil)) se_int) sa_nil)))))) (st_not (st_truth (se_isi ty_str (se_var 3)))))
  (ss_ret se_non)
  ss_next)
  (ss_seq (ss_asg (vs := [4, 5, 6, 7]) (se_op s2_ix (se_op s2_ix (se_var 0) se_int) (se_var 2)) (sg_tup (sgs_cons (sg_name 4) (sgs_cons (sg_name 5) (sgs_cons (sg_name 6) (sgs_cons (sg_name 7) sgs_nil))))))
  (ss_seq (ss_if (st_and (st_test (se_op s2_eq (se_var 3) se_str)) (st_test (se_op s2_notN (se_var 7) se_non)))
  (ss_ret (se_tup (sa_cons (se_var 4) (sa_cons (se_var 5) (sa_cons (se_var 7) sa_nil)))))
  ss_next)
  (ss_seq (ss_if (st_and (st_test (se_op s2_eq (se_var 3) se_str)) (st_test (se_op s2_notN (se_var 6) se_non)))
  (ss_ret (se_tup (sa_cons (se_var 5) (sa_cons (se_var 4) (sa_cons (se_un s1_neg (se_var 6)) sa_nil)))))
  ss_next)
  (ss_ret se_non)))))))⟩
theorem fx_all_edges (d : Df K mg "all_edges" (top 25)) (T : Txt mg) (G_edge_course : Fx P w K mg base 3 "edge_course" ["net", "value"] (spD K 2 f_edge_course)) : Fx P w K mg base 4 "all_edges" ["net"] (spD K 1 f_all_edges) :=
  fx_of d sc_all_edges bb_all_edges rfl fun f cdv A outer s H Q E hr => ⟨_,
  (pss_cons (ps_set (i := 1) sc_all_edges.nd rfl (by first | exact .inl rfl | exact .inr rfl) (pe_lst pa_nil))
  (pss_cons (ps_for PassesOwn.never rfl (pi_range1 (by rfl) T.b_range (pa_cons (pe_callB call_len_seq (by rfl) T.b_len PySem.boot_len (pa_cons (pe_ix ix_seq (pv 0) pe_int (fun _ _ => rfl)) pa_nil)) pa_nil)) (pg_name (i := 2) sc_all_edges.nd rfl (by first | exact .inl rfl | exact .inr rfl))
  (pss_one (ps_for PassesOwn.never rfl (pi_seq (pe_tupF (pa_cons (pe_tupF (pa_cons (pv 2) (pa_cons pe_str pa_nil))) (pa_cons (pe_tupF (pa_cons (pv 2) (pa_cons pe_str pa_nil))) pa_nil)))) (pg_name (i := 3) sc_all_edges.nd rfl (by first | exact .inl rfl | exact .inr rfl))
  (pss_cons (ps_set (i := 4) sc_all_edges.nd rfl (by first | exact .inl rfl | exact .inr rfl) (pe_fx G_edge_course (hr.mono (by decide)) (by rfl) (pa_cons (pv 0) (pa_cons (pv 3) pa_nil))))
  (pss_one (ps_if (pt_cmpR op_notN (pv 4) pe_non (nomark _))
  (pss_cons (ps_asg (pv 4) (pg_sq rfl (pgs_cons (pg_name (i := 5) sc_all_edges.nd rfl (by first | exact .inl rfl | exact .inr rfl)) (pgs_cons (pg_name (i := 6) sc_all_edges.nd rfl (by first | exact .inl rfl | exact .inr rfl)) (pgs_cons (pg_name (i := 7) sc_all_edges.nd rfl (by first | exact .inl rfl | exact .inr rfl)) pgs_nil)))))
  (pss_one (ps_expr (pe_bm PySem.F.plainAttrs_list PySem.F.slot_list_append PySem.F.type_list_append mt_append (pv 1) (pa_cons (pe_tupF (pa_cons (pv 3) (pa_cons (pv 5) (pa_cons (pv 6) (pa_cons (pv 7) pa_nil))))) pa_nil)))))
  pss_nil))))))
  (pss_one (ps_ret (pe_callTy call_tupleF (by rfl) T.b_tuple bt_tuple (pa_cons (pv 1) pa_nil)))))),
  (ss_seq (ss_asgO (so_lst sa_nil))
  (ss_seq (ss_for (vs := [2]) (si_range1 (sa_cons (se_cb sc_len (sa_cons (se_op s2_ix (se_var 0) se_int) sa_nil)) sa_nil)) (sg_name 2)
  (ss_for (vs := [3]) (si_seq (se_tup (sa_cons (se_tup (sa_cons (se_var 2) (sa_cons se_str sa_nil))) (sa_cons (se_tup (sa_cons (se_var 2) (sa_cons se_str sa_nil))) sa_nil)))) (sg_name 3)
  (ss_seq (ss_set (i := 4) (se_call (sa_cons (se_var 0) (sa_cons (se_var 3) sa_nil))))
  (ss_if (st_test (se_op s2_notN (se_var 4) se_non))
  (ss_seq (ss_asg (vs := [5, 6, 7]) (se_var 4) (sg_tup (sgs_cons (sg_name 5) (sgs_cons (sg_name 6) (sgs_cons (sg_name 7) sgs_nil)))))
  (ss_app 1 (se_tup (sa_cons (se_var 3) (sa_cons (se_var 5) (sa_cons (se_var 6) (sa_cons (se_var 7) sa_nil)))))))
  ss_next))))
  (ss_frz 1 (ss_ret (se_cb sc_tuple (sa_cons (se_var 1) sa_nil))))))⟩
theorem fx_edges (d : Df K mg "edges" (top 26)) (T : Txt mg) (G_check_net : Fx P w K mg base 6 "check_net" ["net"] (spD K 1 f_check_net)) (G_all_edges : Fx P w K mg base 4 "all_edges" ["net"] (spD K 1 f_all_edges)) : Fx P w K mg base 7 "edges" ["net"] (spD K 1 f_edges) :=
  fx_of d sc_edges bb_edges rfl fun f cdv A outer s H Q E hr => ⟨_,
  (pss_cons (ps_expr (pe_fx G_check_net (hr.mono (by decide)) (by rfl) (pa_cons (pv 0) pa_nil)))
  (pss_one (ps_ret (pe_fx G_all_edges (hr.mono (by decide)) (by rfl) (pa_cons (pv 0) pa_nil))))),
  (ss_seq (ss_drop (se_call (sa_cons (se_var 0) sa_nil)))
  (ss_ret (se_call (sa_cons (se_var 0) sa_nil))))⟩
theorem fxX_edges (G0 : Fx P w K mg base 7 "edges" ["net"] (spD K 1 f_edges)) (d : Df K mg "edges" (top 26)) (T : Txt mg) (G_check_net : Fx P w K mg base 6 "check_net" ["net"] (spD K 1 f_check_net)) (G_all_edges : Fx P w K mg base 4 "all_edges" ["net"] (spD K 1 f_all_edges)) (GX_check_net : FxX P w K mg base 6 "check_net" ["net"] 1 f_check_net fX_check_net) {C0 : Addr} (X_0 : XC P w K mg base 0 C0) {C2 : Addr} (X_2 : XC P w K mg base 2 C2) : FxX P w K mg base 7 "edges" ["net"] 1 f_edges fX_edges :=
  fx_ofX G0 d sc_edges bb_edges rfl fun f cdv A outer s H E hr => ⟨_,
  by have tk := takes_of (X := cxOf (L2.CX P w) P w K mg base N_edges "edges" (defScope (top 26)) f cdv A outer s H E) (E := E) rfl rfl rfl rfl; have po := passes_of (X := cxOf (L2.CX P w) P w K mg base N_edges "edges" (defScope (top 26)) f cdv A outer s H E) rfl; exact (pss_cons (ps_expr (pe_fxX GX_check_net rfl rfl (hr.mono (by decide)) (by rfl) tk (pa_cons (PE.nox (pv 0)) pa_nil)))
  (pss_one (ps_nox (ps_ret (pe_fx G_all_edges (hr.mono (by decide)) (by rfl) (pa_cons (pv 0) pa_nil)))))),
  fun x => (ssg_seqC (fun _ _ _ _ _ _ _ h => h) (ssg_drop (seg_callX (sag_cons cx1_kept (seg_of (se_var 0)) sag_nil)))
  (ssg_of (ss_ret (se_call (sa_cons (se_var 0) sa_nil)))))⟩
theorem fx_check_event (d : Df K mg "check_event" (top 18)) (T : Txt mg) (G_is_event : Fx P w K mg base 3 "is_event" ["value", "size"] (spD K 2 f_is_event)) : Fx P w K mg base 4 "check_event" ["net", "name", "event"] (spD K 3 f_check_event) :=
  fx_of d sc_check_event bb_check_event rfl fun f cdv A outer s H Q E hr => ⟨_,
  (pss_one (ps_if (pt_not (pt_truth (pe_fx G_is_event (hr.mono (by decide)) (by rfl) (pa_cons (pv 2) (pa_cons (pe_ix ix_seq (pv 0) pe_int (fun _ _ => rfl)) pa_nil))) (by intro _; rfl)))
  (pss_one ps_never)
  pss_nil)),
  (ss_if (st_not (st_truth (se_call (sa_cons (se_var 2) (sa_cons (se_op s2_ix (se_var 0) se_int) sa_nil)))))
  ss_never
  ss_next)⟩
theorem fxX_check_event (G0 : Fx P w K mg base 4 "check_event" ["net", "name", "event"] (spD K 3 f_check_event)) (d : Df K mg "check_event" (top 18)) (T : Txt mg) (G_is_event : Fx P w K mg base 3 "is_event" ["value", "size"] (spD K 2 f_is_event))  {C0 : Addr} (X_0 : XC P w K mg base 0 C0) {C2 : Addr} (X_2 : XC P w K mg base 2 C2) : FxX P w K mg base 4 "check_event" ["net", "name", "event"] 3 f_check_event fX_check_event :=
  fx_ofX G0 d sc_check_event bb_check_event rfl fun f cdv A outer s H E hr => ⟨_,
  by have tk := takes_of (X := cxOf (L2.CX P w) P w K mg base N_check_event "check_event" (defScope (top 18)) f cdv A outer s H E) (E := E) rfl rfl rfl rfl; have po := passes_of (X := cxOf (L2.CX P w) P w K mg base N_check_event "check_event" (defScope (top 18)) f cdv A outer s H E) rfl; exact (pss_one (ps_if (PT.nox (pt_not (pt_truth (pe_fx G_is_event (hr.mono (by decide)) (by rfl) (pa_cons (pv 2) (pa_cons (pe_ix ix_seq (pv 0) pe_int (fun _ _ => rfl)) pa_nil))) (by intro _; rfl))))
  (pss_one (ps_raise1 (c := 0) X_0 rfl tk (hr.mono (by decide)) (by rfl) (pv 1)))
  pss_nil)),
  fun x => (ssg_if cx1_kept (stg_of (st_not (st_truth (se_call (sa_cons (se_var 2) (sa_cons (se_op s2_ix (se_var 0) se_int) sa_nil))))))
  (ssg_raise (c := 0) X_0 (se_var 1))
  (ssg_of ss_next))⟩
theorem fx_walk_end (d : Df K mg "walk_end" (top 27)) (T : Txt mg) (G_edge_course : Fx P w K mg base 3 "edge_course" ["net", "value"] (spD K 2 f_edge_course)) : Fx P w K mg base 4 "walk_end" ["net", "start", "value"] (spD K 3 f_walk_end) :=
  fx_of d sc_walk_end bb_walk_end rfl fun f cdv A outer s H Q E hr => ⟨_,
  (pss_cons (ps_if (pt_not (pt_truth (pe_callB call_isi2 (by rfl) T.b_isinstance bt_isi (pa_cons (pv 2) (pa_cons (pe_bltn (v := .ty "tuple") (by rfl) T.b_tuple bt_tuple rfl) pa_nil))) (by intro _; rfl)))
  (pss_one (ps_ret pe_non))
  pss_nil)
  (pss_cons (ps_set (i := 3) sc_walk_end.nd rfl (by first | exact .inl rfl | exact .inr rfl) (pv 1))
  (pss_cons (ps_for PassesOwn.never rfl (pi_seq (pv 2)) (pg_name (i := 4) sc_walk_end.nd rfl (by first | exact .inl rfl | exact .inr rfl))
  (pss_cons (ps_set (i := 5) sc_walk_end.nd rfl (by first | exact .inl rfl | exact .inr rfl) (pe_fx G_edge_course (hr.mono (by decide)) (by rfl) (pa_cons (pv 0) (pa_cons (pv 4) pa_nil))))
  (pss_cons (ps_if (PW.pt (pw_or (pt_cmpR op_isN (pv 5) pe_non (nomark _)) (pw_or1 (pt_cmpR (op_neD hr.units) (pe_ix ix_seq (pv 5) pe_int (fun _ _ => rfl)) (pv 3) (nomark _)))))
  (pss_one (ps_ret pe_non))
  pss_nil)
  (pss_one (ps_set (i := 3) sc_walk_end.nd rfl (by first | exact .inl rfl | exact .inr rfl) (pe_ix ix_seq (pv 5) pe_int (fun _ _ => rfl)))))))
  (pss_one (ps_ret (pv 3)))))),
  (ss_seq (ss_if (st_not (st_truth (se_isi ty_tuple (se_var 2))))
  (ss_ret se_non)
  ss_next)
  (ss_seq (ss_set (i := 3) (se_var 1))
  (ss_seq (ss_for (vs := [4]) (si_seq (se_var 2)) (sg_name 4)
  (ss_seq (ss_set (i := 5) (se_call (sa_cons (se_var 0) (sa_cons (se_var 4) sa_nil))))
  (ss_seq (ss_if (st_or (st_test (se_op s2_isN (se_var 5) se_non)) (st_test (se_op s2_ne (se_op s2_ix (se_var 5) se_int) (se_var 3))))
  (ss_ret se_non)
  ss_next)
  (ss_set (i := 3) (se_op s2_ix (se_var 5) se_int)))))
  (ss_ret (se_var 3)))))⟩
theorem fx_is_walk (d : Df K mg "is_walk" (top 29)) (T : Txt mg) (G_check_net : Fx P w K mg base 6 "check_net" ["net"] (spD K 1 f_check_net)) (G_check_event : Fx P w K mg base 4 "check_event" ["net", "name", "event"] (spD K 3 f_check_event)) (G_walk_end : Fx P w K mg base 4 "walk_end" ["net", "start", "value"] (spD K 3 f_walk_end)) : Fx P w K mg base 7 "is_walk" ["net", "start", "end", "value"] (spD K 4 f_is_walk) :=
  fx_of d sc_is_walk bb_is_walk rfl fun f cdv A outer s H Q E hr => ⟨_,
  (pss_cons (ps_expr (pe_fx G_check_net (hr.mono (by decide)) (by rfl) (pa_cons (pv 0) pa_nil)))
  (pss_cons (ps_expr (pe_fx G_check_event (hr.mono (by decide)) (by rfl) (pa_cons (pv 0) (pa_cons pe_str (pa_cons (pv 1) pa_nil)))))
  (pss_cons (ps_expr (pe_fx G_check_event (hr.mono (by decide)) (by rfl) (pa_cons (pv 0) (pa_cons pe_str (pa_cons (pv 2) pa_nil)))))
  (pss_one (ps_ret (pe_cmpR (op_eqD hr.units) (pe_fx G_walk_end (hr.mono (by decide)) (by rfl) (pa_cons (pv 0) (pa_cons (pv 1) (pa_cons (pv 3) pa_nil)))) (pv 2) (nomark _))))))),
  (ss_seq (ss_drop (se_call (sa_cons (se_var 0) sa_nil)))
  (ss_seq (ss_drop (se_call (sa_cons (se_var 0) (sa_cons se_str (sa_cons (se_var 1) sa_nil)))))
  (ss_seq (ss_drop (se_call (sa_cons (se_var 0) (sa_cons se_str (sa_cons (se_var 2) sa_nil)))))
  (ss_ret (se_op s2_eq (se_call (sa_cons (se_var 0) (sa_cons (se_var 1) (sa_cons (se_var 3) sa_nil)))) (se_var 2))))))⟩
theorem fxX_is_walk (G0 : Fx P w K mg base 7 "is_walk" ["net", "start", "end", "value"] (spD K 4 f_is_walk)) (d : Df K mg "is_walk" (top 29)) (T : Txt mg) (G_check_net : Fx P w K mg base 6 "check_net" ["net"] (spD K 1 f_check_net)) (G_check_event : Fx P w K mg base 4 "check_event" ["net", "name", "event"] (spD K 3 f_check_event)) (G_walk_end : Fx P w K mg base 4 "walk_end" ["net", "start", "value"] (spD K 3 f_walk_end)) (GX_check_net : FxX P w K mg base 6 "check_net" ["net"] 1 f_check_net fX_check_net) (GX_check_event : FxX P w K mg base 4 "check_event" ["net", "name", "event"] 3 f_check_event fX_check_event) {C0 : Addr} (X_0 : XC P w K mg base 0 C0) {C2 : Addr} (X_2 : XC P w K mg base 2 C2) : FxX P w K mg base 7 "is_walk" ["net", "start", "end", "value"] 4 f_is_walk fX_is_walk :=
  fx_ofX G0 d sc_is_walk bb_is_walk rfl fun f cdv A outer s H E hr => ⟨_,
  by have tk := takes_of (X := cxOf (L2.CX P w) P w K mg base N_is_walk "is_walk" (defScope (top 29)) f cdv A outer s H E) (E := E) rfl rfl rfl rfl; have po := passes_of (X := cxOf (L2.CX P w) P w K mg base N_is_walk "is_walk" (defScope (top 29)) f cdv A outer s H E) rfl; exact (pss_cons (ps_expr (pe_fxX GX_check_net rfl rfl (hr.mono (by decide)) (by rfl) tk (pa_cons (PE.nox (pv 0)) pa_nil)))
  (pss_cons (ps_expr (pe_fxX GX_check_event rfl rfl (hr.mono (by decide)) (by rfl) tk (pa_cons (PE.nox (pv 0)) (pa_cons (PE.nox pe_str) (pa_cons (PE.nox (pv 1)) pa_nil)))))
  (pss_cons (ps_expr (pe_fxX GX_check_event rfl rfl (hr.mono (by decide)) (by rfl) tk (pa_cons (PE.nox (pv 0)) (pa_cons (PE.nox pe_str) (pa_cons (PE.nox (pv 2)) pa_nil)))))
  (pss_one (ps_nox (ps_ret (pe_cmpR (op_eqD hr.units) (pe_fx G_walk_end (hr.mono (by decide)) (by rfl) (pa_cons (pv 0) (pa_cons (pv 1) (pa_cons (pv 3) pa_nil)))) (pv 2) (nomark _)))))))),
  fun x => (ssg_seqC (fun _ _ _ _ _ _ _ h => h) (ssg_drop (seg_callX (sag_cons cx1_kept (seg_of (se_var 0)) sag_nil)))
  (ssg_seqC (fun _ _ _ _ _ _ _ h => h) (ssg_drop (seg_callX (sag_cons cx1_kept (seg_of (se_var 0)) (sag_cons cx1_kept (seg_of se_str) (sag_cons cx1_kept (seg_of (se_var 1)) sag_nil)))))
  (ssg_seqC (fun _ _ _ _ _ _ _ h => h) (ssg_drop (seg_callX (sag_cons cx1_kept (seg_of (se_var 0)) (sag_cons cx1_kept (seg_of se_str) (sag_cons cx1_kept (seg_of (se_var 2)) sag_nil)))))
  (ssg_of (ss_ret (se_op s2_eq (se_call (sa_cons (se_var 0) (sa_cons (se_var 1) (sa_cons (se_var 3) sa_nil)))) (se_var 2)))))))⟩
theorem fx_weight_sum (d : Df K mg "weight_sum" (top 28)) (T : Txt mg) (G_edge_course : Fx P w K mg base 3 "edge_course" ["net", "value"] (spD K 2 f_edge_course)) : Fx P w K mg base 4 "weight_sum" ["net", "walk"] (spD K 2 f_weight_sum) :=
  fx_of d sc_weight_sum bb_weight_sum rfl fun f cdv A outer s H Q E hr => ⟨_,
  (pss_one (ps_ret (pe_callB (cr_sum rfl) (by rfl) T.b_sum bt_sum (pa_cons (pe_lc (own := [("edge", 2)]) (g := (gName 2)) rfl sc_weight_sum.nd (pi_seq (pv 1)) (blkOk_by (own := [("edge", 2)]) (N := N_weight_sum) (sc := defScope (top 28)) (by decide +kernel)) (fun _ _ _ _ _ => (pg_name (i := 2) sc_weight_sum.nd rfl (by first | exact .inl rfl | exact .inr rfl))) (fun _ _ _ _ _ => pts_nil) (fun _ _ _ _ _ => (pe_ix ix_seq (pe_fx G_edge_course (hr.mono (by decide)) (by rfl) (pa_cons (pv 0) (pa_cons (pv 2) pa_nil))) pe_int (fun _ _ => rfl)))) pa_nil)))),
  (ss_ret (se_cb sc_sum (sa_cons (se_own (so_lc (vs := [2]) (si_seq (se_var 1)) (sg_name 2) st_yes (se_op s2_ix (se_call (sa_cons (se_var 0) (sa_cons (se_var 2) sa_nil))) se_int))) sa_nil)))⟩
theorem fx_walk_length (d : Df K mg "walk_length" (top 30)) (T : Txt mg) (G_check_net : Fx P w K mg base 6 "check_net" ["net"] (spD K 1 f_check_net)) (G_weight_sum : Fx P w K mg base 4 "weight_sum" ["net", "walk"] (spD K 2 f_weight_sum)) (G_walk_end : Fx P w K mg base 4 "walk_end" ["net", "start", "value"] (spD K 3 f_walk_end)) : Fx P w K mg base 7 "walk_length" ["net", "walk"] (spD K 2 f_walk_length) :=
  fx_of d sc_walk_length bb_walk_length rfl fun f cdv A outer s H Q E hr => ⟨_,
  (pss_cons (ps_expr (pe_fx G_check_net (hr.mono (by decide)) (by rfl) (pa_cons (pv 0) pa_nil)))
  (pss_cons (ps_setLc (i := 2) (own := [("event", 3)]) (g := (gName 3)) rfl sc_walk_length.nd rfl rfl (sw_true rfl rfl rfl (by decide +kernel)) (pi_range1 (by rfl) T.b_range (pa_cons (pe_ix ix_seq (pv 0) pe_int (fun _ _ => rfl)) pa_nil)) (blkOk_by (own := [("event", 3)]) (N := N_walk_length) (sc := defScope (top 30)) (by decide +kernel)) (fun _ _ _ _ _ => (pg_name (i := 3) sc_walk_length.nd rfl (by first | exact .inl rfl | exact .inr rfl))) (fun _ _ _ _ _ => pts_nil) (fun _ _ _ _ _ => (pe_fx G_walk_end (hr.mono (by decide)) (by rfl) (pa_cons (pv 0) (pa_cons (pv 3) (pa_cons (pv 1) pa_nil))))))
  (pss_cons (ps_if (pt_truth (pe_callB (cr_all rfl) (by rfl) T.b_all bt_all (pa_cons (pe_lc (own := [("end", 4)]) (g := (gName 4)) rfl sc_walk_length.nd (pi_seq (pv 2)) (blkOk_by (own := [("end", 4)]) (N := N_walk_length) (sc := defScope (top 30)) (by decide +kernel)) (fun _ _ _ _ _ => (pg_name (i := 4) sc_walk_length.nd rfl (by first | exact .inl rfl | exact .inr rfl))) (fun _ _ _ _ _ => pts_nil) (fun _ _ _ _ _ => (pe_cmpR op_isN (pv 4) pe_non (nomark _)))) pa_nil)) (by intro _; rfl))
  (pss_one ps_never)
  pss_nil)
  (pss_one (ps_ret (pe_fx G_weight_sum (hr.mono (by decide)) (by rfl) (pa_cons (pv 0) (pa_cons (pv 1) pa_nil)))))))),
  (ss_seq (ss_drop (se_call (sa_cons (se_var 0) sa_nil)))
  (ss_seq (ss_set (i := 2) (se_own (so_lc (vs := [3]) (si_range1 (sa_cons (se_op s2_ix (se_var 0) se_int) sa_nil)) (sg_name 3) st_yes (se_call (sa_cons (se_var 0) (sa_cons (se_var 3) (sa_cons (se_var 1) sa_nil)))))))
  (ss_seq (ss_if (st_truth (se_cb sc_all (sa_cons (se_own (so_lc (vs := [4]) (si_seq (se_var 2)) (sg_name 4) st_yes (se_op s2_isN (se_var 4) se_non))) sa_nil)))
  ss_never
  ss_next)
  (ss_ret (se_call (sa_cons (se_var 0) (sa_cons (se_var 1) sa_nil)))))))⟩
theorem fxX_walk_length (G0 : Fx P w K mg base 7 "walk_length" ["net", "walk"] (spD K 2 f_walk_length)) (d : Df K mg "walk_length" (top 30)) (T : Txt mg) (G_check_net : Fx P w K mg base 6 "check_net" ["net"] (spD K 1 f_check_net)) (G_weight_sum : Fx P w K mg base 4 "weight_sum" ["net", "walk"] (spD K 2 f_weight_sum)) (G_walk_end : Fx P w K mg base 4 "walk_end" ["net", "start", "value"] (spD K 3 f_walk_end)) (GX_check_net : FxX P w K mg base 6 "check_net" ["net"] 1 f_check_net fX_check_net) {C0 : Addr} (X_0 : XC P w K mg base 0 C0) {C2 : Addr} (X_2 : XC P w K mg base 2 C2) : FxX P w K mg base 7 "walk_length" ["net", "walk"] 2 f_walk_length fX_walk_length :=
  fx_ofX G0 d sc_walk_length bb_walk_length rfl fun f cdv A outer s H E hr => ⟨_,
  by have tk := takes_of (X := cxOf (L2.CX P w) P w K mg base N_walk_length "walk_length" (defScope (top 30)) f cdv A outer s H E) (E := E) rfl rfl rfl rfl; have po := passes_of (X := cxOf (L2.CX P w) P w K mg base N_walk_length "walk_length" (defScope (top 30)) f cdv A outer s H E) rfl; exact (pss_cons (ps_expr (pe_fxX GX_check_net rfl rfl (hr.mono (by decide)) (by rfl) tk (pa_cons (PE.nox (pv 0)) pa_nil)))
  (pss_cons (ps_nox (ps_setLc (i := 2) (own := [("event", 3)]) (g := (gName 3)) rfl sc_walk_length.nd rfl rfl (sw_true rfl rfl rfl (by decide +kernel)) (pi_range1 (by rfl) T.b_range (pa_cons (pe_ix ix_seq (pv 0) pe_int (fun _ _ => rfl)) pa_nil)) (blkOk_by (own := [("event", 3)]) (N := N_walk_length) (sc := defScope (top 30)) (by decide +kernel)) (fun _ _ _ _ _ => (pg_name (i := 3) sc_walk_length.nd rfl (by first | exact .inl rfl | exact .inr rfl))) (fun _ _ _ _ _ => pts_nil) (fun _ _ _ _ _ => (pe_fx G_walk_end (hr.mono (by decide)) (by rfl) (pa_cons (pv 0) (pa_cons (pv 3) (pa_cons (pv 1) pa_nil)))))))
  (pss_cons (ps_if (PT.nox (pt_truth (pe_callB (cr_all rfl) (by rfl) T.b_all bt_all (pa_cons (pe_lc (own := [("end", 4)]) (g := (gName 4)) rfl sc_walk_length.nd (pi_seq (pv 2)) (blkOk_by (own := [("end", 4)]) (N := N_walk_length) (sc := defScope (top 30)) (by decide +kernel)) (fun _ _ _ _ _ => (pg_name (i := 4) sc_walk_length.nd rfl (by first | exact .inl rfl | exact .inr rfl))) (fun _ _ _ _ _ => pts_nil) (fun _ _ _ _ _ => (pe_cmpR op_isN (pv 4) pe_non (nomark _)))) pa_nil)) (by intro _; rfl)))
  (pss_one (ps_raise1 (c := 0) X_0 rfl tk (hr.mono (by decide)) (by rfl) pe_str))
  pss_nil)
  (pss_one (ps_nox (ps_ret (pe_fx G_weight_sum (hr.mono (by decide)) (by rfl) (pa_cons (pv 0) (pa_cons (pv 1) pa_nil))))))))),
  fun x => (ssg_seqC (fun _ _ _ _ _ _ _ h => h) (ssg_drop (seg_callX (sag_cons cx1_kept (seg_of (se_var 0)) sag_nil)))
  (ssg_seqC (fun _ _ _ _ _ _ _ h => h) (ssg_of (ss_set (i := 2) (se_own (so_lc (vs := [3]) (si_range1 (sa_cons (se_op s2_ix (se_var 0) se_int) sa_nil)) (sg_name 3) st_yes (se_call (sa_cons (se_var 0) (sa_cons (se_var 3) (sa_cons (se_var 1) sa_nil))))))))
  (ssg_seqC (fun _ _ _ _ _ _ _ h => h) (ssg_if cx1_kept (stg_of (st_truth (se_cb sc_all (sa_cons (se_own (so_lc (vs := [4]) (si_seq (se_var 2)) (sg_name 4) st_yes (se_op s2_isN (se_var 4) se_non))) sa_nil))))
  (ssg_raise (c := 0) X_0 se_str)
  (ssg_of ss_next))
  (ssg_of (ss_ret (se_call (sa_cons (se_var 0) (sa_cons (se_var 1) sa_nil))))))))⟩
theorem fx_turned (d : Df K mg "turned" (top 35)) (T : Txt mg) (G_check_net : Fx P w K mg base 6 "check_net" ["net"] (spD K 1 f_check_net)) : Fx P w K mg base 7 "turned" ["net"] (spD K 1 f_turned) :=
  fx_of d sc_turned bb_turned rfl fun f cdv A outer s H Q E hr => ⟨_,
  (pss_cons (ps_expr (pe_fx G_check_net (hr.mono (by decide)) (by rfl) (pa_cons (pv 0) pa_nil)))
  (pss_cons (ps_asg (pv 0) (pg_sq rfl (pgs_cons (pg_name (i := 1) sc_turned.nd rfl (by first | exact .inl rfl | exact .inr rfl)) (pgs_cons (pg_name (i := 2) sc_turned.nd rfl (by first | exact .inl rfl | exact .inr rfl)) pgs_nil))))
  (pss_one (ps_ret (pe_tupF (pa_cons (pv 1) (pa_cons (pe_callTy call_tupleF (by rfl) T.b_tuple bt_tuple (pa_cons (pe_lc (own := [("start", 3), ("end", 4), ("low", 5), ("high", 6)]) (g := (gSq K 4 (gCons (gName 3) (gCons (gName 4) (gCons (gName 5) (gCons (gName 6) gNil)))))) rfl sc_turned.nd (pi_seq (pv 2)) (blkOk_by (own := [("start", 3), ("end", 4), ("low", 5), ("high", 6)]) (N := N_turned) (sc := defScope (top 35)) (by decide +kernel)) (fun _ _ _ _ _ => (pg_sq rfl (pgs_cons (pg_name (i := 3) sc_turned.nd rfl (by first | exact .inl rfl | exact .inr rfl)) (pgs_cons (pg_name (i := 4) sc_turned.nd rfl (by first | exact .inl rfl | exact .inr rfl)) (pgs_cons (pg_name (i := 5) sc_turned.nd rfl (by first | exact .inl rfl | exact .inr rfl)) (pgs_cons (pg_name (i := 6) sc_turned.nd rfl (by first | exact .inl rfl | exact .inr rfl)) pgs_nil)))))) (fun _ _ _ _ _ => pts_nil) (fun _ _ _ _ _ => (pe_tupF (pa_cons (pv 4) (pa_cons (pv 3) (pa_cons (pv 5) (pa_cons (pv 6) pa_nil))))))) pa_nil)) pa_nil))))))),
  (ss_seq (ss_drop (se_call (sa_cons (se_var 0) sa_nil)))
  (ss_seq (ss_asg (vs := [1, 2]) (se_var 0) (sg_tup (sgs_cons (sg_name 1) (sgs_cons (sg_name 2) sgs_nil))))
  (ss_ret (se_tup (sa_cons (se_var 1) (sa_cons (se_cb sc_tuple (sa_cons (se_own (so_lc (vs := [3, 4, 5, 6]) (si_seq (se_var 2)) (sg_tup (sgs_cons (sg_name 3) (sgs_cons (sg_name 4) (sgs_cons (sg_name 5) (sgs_cons (sg_name 6) sgs_nil))))) st_yes (se_tup (sa_cons (se_var 4) (sa_cons (se_var 3) (sa_cons (se_var 5) (sa_cons (se_var 6) sa_nil))))))) sa_nil)) sa_nil))))))⟩
theorem fxX_turned (G0 : Fx P w K mg base 7 "turned" ["net"] (spD K 1 f_turned)) (d : Df K mg "turned" (top 35)) (T : Txt mg) (G_check_net : Fx P w K mg base 6 "check_net" ["net"] (spD K 1 f_check_net)) (GX_check_net : FxX P w K mg base 6 "check_net" ["net"] 1 f_check_net fX_check_net) {C0 : Addr} (X_0 : XC P w K mg base 0 C0) {C2 : Addr} (X_2 : XC P w K mg base 2 C2) : FxX P w K mg base 7 "turned" ["net"] 1 f_turned fX_turned :=
  fx_ofX G0 d sc_turned bb_turned rfl fun f cdv A outer s H E hr => ⟨_,
  by have tk := takes_of (X := cxOf (L2.CX P w) P w K mg base N_turned "turned" (defScope (top 35)) f cdv A outer s H E) (E := E) rfl rfl rfl rfl; have po := passes_of (X := cxOf (L2.CX P w) P w K mg base N_turned "turned" (defScope (top 35)) f cdv A outer s H E) rfl; exact (pss_cons (ps_expr (pe_fxX GX_check_net rfl rfl (hr.mono (by decide)) (by rfl) tk (pa_cons (PE.nox (pv 0)) pa_nil)))
  (pss_cons (ps_nox (ps_asg (pv 0) (pg_sq rfl (pgs_cons (pg_name (i := 1) sc_turned.nd rfl (by first | exact .inl rfl | exact .inr rfl)) (pgs_cons (pg_name (i := 2) sc_turned.nd rfl (by first | exact .inl rfl | exact .inr rfl)) pgs_nil)))))
  (pss_one (ps_nox (ps_ret (pe_tupF (pa_cons (pv 1) (pa_cons (pe_callTy call_tupleF (by rfl) T.b_tuple bt_tuple (pa_cons (pe_lc (own := [("start", 3), ("end", 4), ("low", 5), ("high", 6)]) (g := (gSq K 4 (gCons (gName 3) (gCons (gName 4) (gCons (gName 5) (gCons (gName 6) gNil)))))) rfl sc_turned.nd (pi_seq (pv 2)) (blkOk_by (own := [("start", 3), ("end", 4), ("low", 5), ("high", 6)]) (N := N_turned) (sc := defScope (top 35)) (by decide +kernel)) (fun _ _ _ _ _ => (pg_sq rfl (pgs_cons (pg_name (i := 3) sc_turned.nd rfl (by first | exact .inl rfl | exact .inr rfl)) (pgs_cons (pg_name (i := 4) sc_turned.nd rfl (by first | exact .inl rfl | exact .inr rfl)) (pgs_cons (pg_name (i := 5) sc_turned.nd rfl (by first | exact .inl rfl | exact .inr rfl)) (pgs_cons (pg_name (i := 6) sc_turned.nd rfl (by first | exact .inl rfl | exact .inr rfl)) pgs_nil)))))) (fun _ _ _ _ _ => pts_nil) (fun _ _ _ _ _ => (pe_tupF (pa_cons (pv 4) (pa_cons (pv 3) (pa_cons (pv 5) (pa_cons (pv 6) pa_nil))))))) pa_nil)) pa_nil)))))))),
  fun x => (ssg_seqC (fun _ _ _ _ _ _ _ h => h) (ssg_drop (seg_callX (sag_cons cx1_kept (seg_of (se_var 0)) sag_nil)))
  (ssg_seqC (fun _ _ _ _ _ _ _ h => h) (ssg_of (ss_asg (vs := [1, 2]) (se_var 0) (sg_tup (sgs_cons (sg_name 1) (sgs_cons (sg_name 2) sgs_nil)))))
  (ssg_of (ss_ret (se_tup (sa_cons (se_var 1) (sa_cons (se_cb sc_tuple (sa_cons (se_own (so_lc (vs := [3, 4, 5, 6]) (si_seq (se_var 2)) (sg_tup (sgs_cons (sg_name 3) (sgs_cons (sg_name 4) (sgs_cons (sg_name 5) (sgs_cons (sg_name 6) sgs_nil))))) st_yes (se_tup (sa_cons (se_var 4) (sa_cons (se_var 3) (sa_cons (se_var 5) (sa_cons (se_var 6) sa_nil))))))) sa_nil)) sa_nil)))))))⟩
theorem fx_are_events (d : Df K mg "are_events" (top 32)) (T : Txt mg) (G_is_event : Fx P w K mg base 3 "is_event" ["value", "size"] (spD K 2 f_is_event)) : Fx P w K mg base 4 "are_events" ["value", "size"] (spD K 2 f_are_events) :=
  fx_of d sc_are_events bb_are_events rfl fun f cdv A outer s H Q E hr => ⟨_,
  (pss_one (ps_ret (pe_and (pe_callB call_isi2 (by rfl) T.b_isinstance bt_isi (pa_cons (pv 0) (pa_cons (pe_bltn (v := .ty "tuple") (by rfl) T.b_tuple bt_tuple rfl) pa_nil))) (pe_one (pe_callB (cr_all rfl) (by rfl) T.b_all bt_all (pa_cons (pe_lc (own := [("event", 2)]) (g := (gName 2)) rfl sc_are_events.nd (pi_seq (pv 0)) (blkOk_by (own := [("event", 2)]) (N := N_are_events) (sc := defScope (top 32)) (by decide +kernel)) (fun _ _ _ _ _ => (pg_name (i := 2) sc_are_events.nd rfl (by first | exact .inl rfl | exact .inr rfl))) (fun _ _ _ _ _ => pts_nil) (fun _ _ _ _ _ => (pe_fx G_is_event (hr.mono (by decide)) (by rfl) (pa_cons (pv 2) (pa_cons (pv 1) pa_nil))))) pa_nil)))))),
  (ss_ret (se_and (se_isi ty_tuple (se_var 0)) (se_cb sc_all (sa_cons (se_own (so_lc (vs := [2]) (si_seq (se_var 0)) (sg_name 2) st_yes (se_call (sa_cons (se_var 2) (sa_cons (se_var 1) sa_nil))))) sa_nil))))⟩
theorem fx_is_order (d : Df K mg "is_order" (top 33)) (T : Txt mg) (G_are_events : Fx P w K mg base 4 "are_events" ["value", "size"] (spD K 2 f_are_events)) : Fx P w K mg base 5 "is_order" ["value", "size"] (spD K 2 f_is_order) :=
  fx_of d sc_is_order bb_is_order rfl fun f cdv A outer s H Q E hr => ⟨_,
  (pss_one (ps_ret (pe_and (pe_fx G_are_events (hr.mono (by decide)) (by rfl) (pa_cons (pv 0) (pa_cons (pv 1) pa_nil))) (pe_one (pe_cmpR (op_eqD hr.units) (pe_callB cr_sortedIT (by rfl) T.b_sorted bt_sorted (pa_cons (pv 0) pa_nil)) (pe_listRg rfl (by rfl) T.b_list (prg_1 (by rfl) T.b_range (pv 1))) (nomark _)))))),
  (ss_ret (se_and (se_call (sa_cons (se_var 0) (sa_cons (se_var 1) sa_nil))) (se_op s2_eq (se_own (so_cb sc_sortIT (sa_cons (se_var 0) sa_nil))) (se_own (so_listRg (se_var 1))))))⟩
theorem fx_renamed (d : Df K mg "renamed" (top 36)) (T : Txt mg) (G_check_net : Fx P w K mg base 6 "check_net" ["net"] (spD K 1 f_check_net)) (G_is_order : Fx P w K mg base 5 "is_order" ["value", "size"] (spD K 2 f_is_order)) : Fx P w K mg base 7 "renamed" ["net", "order"] (spD K 2 f_renamed) :=
  fx_of d sc_renamed bb_renamed rfl fun f cdv A outer s H Q E hr => ⟨_,
  (pss_cons (ps_expr (pe_fx G_check_net (hr.mono (by decide)) (by rfl) (pa_cons (pv 0) pa_nil)))
  (pss_cons (ps_asg (pv 0) (pg_sq rfl (pgs_cons (pg_name (i := 2) sc_renamed.nd rfl (by first | exact .inl rfl | exact .inr rfl)) (pgs_cons (pg_name (i := 3) sc_renamed.nd rfl (by first | exact .inl rfl | exact .inr rfl)) pgs_nil))))
  (pss_cons (ps_if (pt_not (pt_truth (pe_fx G_is_order (hr.mono (by decide)) (by rfl) (pa_cons (pv 1) (pa_cons (pv 2) pa_nil))) (by intro _; rfl)))
  (pss_one ps_never)
  pss_nil)
  (pss_one (ps_ret (pe_tupF (pa_cons (pv 2) (pa_cons (pe_callTy call_tupleF (by rfl) T.b_tuple bt_tuple (pa_cons (pe_lc (own := [("start", 4), ("end", 5), ("low", 6), ("high", 7)]) (g := (gSq K 4 (gCons (gName 4) (gCons (gName 5) (gCons (gName 6) (gCons (gName 7) gNil)))))) rfl sc_renamed.nd (pi_seq (pv 3)) (blkOk_by (own := [("start", 4), ("end", 5), ("low", 6), ("high", 7)]) (N := N_renamed) (sc := defScope (top 36)) (by decide +kernel)) (fun _ _ _ _ _ => (pg_sq rfl (pgs_cons (pg_name (i := 4) sc_renamed.nd rfl (by first | exact .inl rfl | exact .inr rfl)) (pgs_cons (pg_name (i := 5) sc_renamed.nd rfl (by first | exact .inl rfl | exact .inr rfl)) (pgs_cons (pg_name (i := 6) sc_renamed.nd rfl (by first | exact .inl rfl | exact .inr rfl)) (pgs_cons (pg_name (i := 7) sc_renamed.nd rfl (by first | exact .inl rfl | exact .inr rfl)) pgs_nil)))))) (fun _ _ _ _ _ => pts_nil) (fun _ _ _ _ _ => (pe_tupF (pa_cons (pe_ix ix_seq (pv 1) (pv 4) (fun _ _ => rfl)) (pa_cons (pe_ix ix_seq (pv 1) (pv 5) (fun _ _ => rfl)) (pa_cons (pv 6) (pa_cons (pv 7) pa_nil))))))) pa_nil)) pa_nil)))))))),
  (ss_seq (ss_drop (se_call (sa_cons (se_var 0) sa_nil)))
  (ss_seq (ss_asg (vs := [2, 3]) (se_var 0) (sg_tup (sgs_cons (sg_name 2) (sgs_cons (sg_name 3) sgs_nil))))
  (ss_seq (ss_if (st_not (st_truth (se_call (sa_cons (se_var 1) (sa_cons (se_var 2) sa_nil)))))
  ss_never
  ss_next)
  (ss_ret (se_tup (sa_cons (se_var 2) (sa_cons (se_cb sc_tuple (sa_cons (se_own (so_lc (vs := [4, 5, 6, 7]) (si_seq (se_var 3)) (sg_tup (sgs_cons (sg_name 4) (sgs_cons (sg_name 5) (sgs_cons (sg_name 6) (sgs_cons (sg_name 7) sgs_nil))))) st_yes (se_tup (sa_cons (se_op s2_ix (se_var 1) (se_var 4)) (sa_cons (se_op s2_ix (se_var 1) (se_var 5)) (sa_cons (se_var 6) (sa_cons (se_var 7) sa_nil))))))) sa_nil)) sa_nil)))))))⟩
theorem fxX_renamed (G0 : Fx P w K mg base 7 "renamed" ["net", "order"] (spD K 2 f_renamed)) (d : Df K mg "renamed" (top 36)) (T : Txt mg) (G_check_net : Fx P w K mg base 6 "check_net" ["net"] (spD K 1 f_check_net)) (G_is_order : Fx P w K mg base 5 "is_order" ["value", "size"] (spD K 2 f_is_order)) (GX_check_net : FxX P w K mg base 6 "check_net" ["net"] 1 f_check_net fX_check_net) {C0 : Addr} (X_0 : XC P w K mg base 0 C0) {C2 : Addr} (X_2 : XC P w K mg base 2 C2) : FxX P w K mg base 7 "renamed" ["net", "order"] 2 f_renamed fX_renamed :=
  fx_ofX G0 d sc_renamed bb_renamed rfl fun f cdv A outer s H E hr => ⟨_,
  by have tk := takes_of (X := cxOf (L2.CX P w) P w K mg base N_renamed "renamed" (defScope (top 36)) f cdv A outer s H E) (E := E) rfl rfl rfl rfl; have po := passes_of (X := cxOf (L2.CX P w) P w K mg base N_renamed "renamed" (defScope (top 36)) f cdv A outer s H E) rfl; exact (pss_cons (ps_expr (pe_fxX GX_check_net rfl rfl (hr.mono (by decide)) (by rfl) tk (pa_cons (PE.nox (pv 0)) pa_nil)))
  (pss_cons (ps_nox (ps_asg (pv 0) (pg_sq rfl (pgs_cons (pg_name (i := 2) sc_renamed.nd rfl (by first | exact .inl rfl | exact .inr rfl)) (pgs_cons (pg_name (i := 3) sc_renamed.nd rfl (by first | exact .inl rfl | exact .inr rfl)) pgs_nil)))))
  (pss_cons (ps_if (PT.nox (pt_not (pt_truth (pe_fx G_is_order (hr.mono (by decide)) (by rfl) (pa_cons (pv 1) (pa_cons (pv 2) pa_nil))) (by intro _; rfl))))
  (pss_one (ps_raise1 (c := 0) X_0 rfl tk (hr.mono (by decide)) (by rfl) pe_str))
  pss_nil)
  (pss_one (ps_nox (ps_ret (pe_tupF (pa_cons (pv 2) (pa_cons (pe_callTy call_tupleF (by rfl) T.b_tuple bt_tuple (pa_cons (pe_lc (own := [("start", 4), ("end", 5), ("low", 6), ("high", 7)]) (g := (gSq K 4 (gCons (gName 4) (gCons (gName 5) (gCons (gName 6) (gCons (gName 7) gNil)))))) rfl sc_renamed.nd (pi_seq (pv 3)) (blkOk_by (own := [("start", 4), ("end", 5), ("low", 6), ("high", 7)]) (N := N_renamed) (sc := defScope (top 36)) (by decide +kernel)) (fun _ _ _ _ _ => (pg_sq rfl (pgs_cons (pg_name (i := 4) sc_renamed.nd rfl (by first | exact .inl rfl | exact .inr rfl)) (pgs_cons (pg_name (i := 5) sc_renamed.nd rfl (by first | exact .inl rfl | exact .inr rfl)) (pgs_cons (pg_name (i := 6) sc_renamed.nd rfl (by first | exact .inl rfl | exact .inr rfl)) (pgs_cons (pg_name (i := 7) sc_renamed.nd rfl (by first | exact .inl rfl | exact .inr rfl)) pgs_nil)))))) (fun _ _ _ _ _ => pts_nil) (fun _ _ _ _ _ => (pe_tupF (pa_cons (pe_ix ix_seq (pv 1) (pv 4) (fun _ _ => rfl)) (pa_cons (pe_ix ix_seq (pv 1) (pv 5) (fun _ _ => rfl)) (pa_cons (pv 6) (pa_cons (pv 7) pa_nil))))))) pa_nil)) pa_nil))))))))),
  fun x => (ssg_seqC (fun _ _ _ _ _ _ _ h => h) (ssg_drop (seg_callX (sag_cons cx1_kept (seg_of (se_var 0)) sag_nil)))
  (ssg_seqC (fun _ _ _ _ _ _ _ h => h) (ssg_of (ss_asg (vs := [2, 3]) (se_var 0) (sg_tup (sgs_cons (sg_name 2) (sgs_cons (sg_name 3) sgs_nil)))))
  (ssg_seqC (fun _ _ _ _ _ _ _ h => h) (ssg_if cx1_kept (stg_of (st_not (st_truth (se_call (sa_cons (se_var 1) (sa_cons (se_var 2) sa_nil))))))
  (ssg_raise (c := 0) X_0 se_str)
  (ssg_of ss_next))
  (ssg_of (ss_ret (se_tup (sa_cons (se_var 2) (sa_cons (se_cb sc_tuple (sa_cons (se_own (so_lc (vs := [4, 5, 6, 7]) (si_seq (se_var 3)) (sg_tup (sgs_cons (sg_name 4) (sgs_cons (sg_name 5) (sgs_cons (sg_name 6) (sgs_cons (sg_name 7) sgs_nil))))) st_yes (se_tup (sa_cons (se_op s2_ix (se_var 1) (se_var 4)) (sa_cons (se_op s2_ix (se_var 1) (se_var 5)) (sa_cons (se_var 6) (sa_cons (se_var 7) sa_nil))))))) sa_nil)) sa_nil))))))))⟩
theorem fx_is_choice (d : Df K mg "is_choice" (top 34)) (T : Txt mg) (G_are_events : Fx P w K mg base 4 "are_events" ["value", "size"] (spD K 2 f_are_events)) : Fx P w K mg base 5 "is_choice" ["value", "size"] (spD K 2 f_is_choice) :=
  fx_of d sc_is_choice bb_is_choice rfl fun f cdv A outer s H Q E hr => ⟨_,
  (pss_cons (ps_if (PW.pt (pw_or (pt_not (pt_truth (pe_fx G_are_events (hr.mono (by decide)) (by rfl) (pa_cons (pv 0) (pa_cons (pv 1) pa_nil))) (by intro _; rfl))) (pw_or1 (pt_cmpR (op_eqD hr.units) (pe_callB call_len_seq (by rfl) T.b_len PySem.boot_len (pa_cons (pv 0) pa_nil)) pe_int (nomark _)))))
  (pss_one (ps_ret pe_bl))
  pss_nil)
  (pss_one (ps_ret (pe_callB (cr_all rfl) (by rfl) T.b_all bt_all (pa_cons (pe_lc (own := [("before", 2), ("after", 3)]) (g := (gSq K 2 (gCons (gName 2) (gCons (gName 3) gNil)))) rfl sc_is_choice.nd (pi_zipF (by rfl) T.b_zip (pa_cons (pv 0) (pa_cons (pe_slice sl_any (pv 0) (po_some pe_int) po_none) pa_nil))) (blkOk_by (own := [("before", 2), ("after", 3)]) (N := N_is_choice) (sc := defScope (top 34)) (by decide +kernel)) (fun _ _ _ _ _ => (pg_sq rfl (pgs_cons (pg_name (i := 2) sc_is_choice.nd rfl (by first | exact .inl rfl | exact .inr rfl)) (pgs_cons (pg_name (i := 3) sc_is_choice.nd rfl (by first | exact .inl rfl | exact .inr rfl)) pgs_nil)))) (fun _ _ _ _ _ => pts_nil) (fun _ _ _ _ _ => (pe_cmpR op_lt (pv 2) (pv 3) (nomark _)))) pa_nil))))),
  (ss_seq (ss_if (st_or (st_not (st_truth (se_call (sa_cons (se_var 0) (sa_cons (se_var 1) sa_nil))))) (st_test (se_op s2_eq (se_cb sc_len (sa_cons (se_var 0) sa_nil)) se_int)))
  (ss_ret se_bl)
  ss_next)
  (ss_ret (se_cb sc_all (sa_cons (se_own (so_lc (vs := [2, 3]) (si_zip (sa_cons (se_var 0) (sa_cons (se_sl (se_var 0) (sop_some se_int) sop_none) sa_nil))) (sg_tup (sgs_cons (sg_name 2) (sgs_cons (sg_name 3) sgs_nil))) st_yes (se_op s2_lt (se_var 2) (se_var 3)))) sa_nil))))⟩
theorem fx_part (d : Df K mg "part" (top 37)) (T : Txt mg) (G_check_net : Fx P w K mg base 6 "check_net" ["net"] (spD K 1 f_check_net)) (G_is_choice : Fx P w K mg base 5 "is_choice" ["value", "size"] (spD K 2 f_is_choice)) : Fx P w K mg base 7 "part" ["net", "chosen"] (spD K 2 f_part) :=
  fx_of d sc_part bb_part rfl fun f cdv A outer s H Q E hr => ⟨_,
  (pss_cons (ps_expr (pe_fx G_check_net (hr.mono (by decide)) (by rfl) (pa_cons (pv 0) pa_nil)))
  (pss_cons (ps_asg (pv 0) (pg_sq rfl (pgs_cons (pg_name (i := 3) sc_part.nd rfl (by first | exact .inl rfl | exact .inr rfl)) (pgs_cons (pg_name (i := 4) sc_part.nd rfl (by first | exact .inl rfl | exact .inr rfl)) pgs_nil))))
  (pss_cons (ps_if (pt_not (pt_truth (pe_fx G_is_choice (hr.mono (by decide)) (by rfl) (pa_cons (pv 1) (pa_cons (pv 3) pa_nil))) (by intro _; rfl)))
  (pss_one ps_never)
  pss_nil)
  (pss_cons (ps_set (i := 2) sc_part.nd rfl (by first | exact .inl rfl | exact .inr rfl) (pe_lst pa_nil))
  (pss_cons (ps_for PassesOwn.never rfl (pi_seq (pv 4)) (pg_sq rfl (pgs_cons (pg_name (i := 5) sc_part.nd rfl (by first | exact .inl rfl | exact .inr rfl)) (pgs_cons (pg_name (i := 6) sc_part.nd rfl (by first | exact .inl rfl | exact .inr rfl)) (pgs_cons (pg_name (i := 7) sc_part.nd rfl (by first | exact .inl rfl | exact .inr rfl)) (pgs_cons (pg_name (i := 8) sc_part.nd rfl (by first | exact .inl rfl | exact .inr rfl)) pgs_nil)))))
  (pss_one (ps_if (PW.pt (pw_and (pt_cmpR op_in_seq (pv 5) (pv 1) (by rfl)) (pw_and1 (pt_cmpR op_in_seq (pv 6) (pv 1) (by rfl)))))
  (pss_one (ps_expr (pe_bm PySem.F.plainAttrs_list PySem.F.slot_list_append PySem.F.type_list_append mt_append (pv 2) (pa_cons (pe_tupF (pa_cons (pe_idxT (pv 1) (pa_cons (pv 5) pa_nil)) (pa_cons (pe_idxT (pv 1) (pa_cons (pv 6) pa_nil)) (pa_cons (pv 7) (pa_cons (pv 8) pa_nil))))) pa_nil))))
  pss_nil)))
  (pss_one (ps_ret (pe_tupF (pa_cons (pe_callB call_len_seq (by rfl) T.b_len PySem.boot_len (pa_cons (pv 1) pa_nil)) (pa_cons (pe_callTy call_tupleF (by rfl) T.b_tuple bt_tuple (pa_cons (pv 2) pa_nil)) pa_nil)))))))))),
  (ss_seq (ss_drop (se_call (sa_cons (se_var 0) sa_nil)))
  (ss_seq (ss_asg (vs := [3, 4]) (se_var 0) (sg_tup (sgs_cons (sg_name 3) (sgs_cons (sg_name 4) sgs_nil))))
  (ss_seq (ss_if (st_not (st_truth (se_call (sa_cons (se_var 1) (sa_cons (se_var 3) sa_nil)))))
  ss_never
  ss_next)
  (ss_seq (ss_asgO (so_lst sa_nil))
  (ss_seq (ss_for (vs := [5, 6, 7, 8]) (si_seq (se_var 4)) (sg_tup (sgs_cons (sg_name 5) (sgs_cons (sg_name 6) (sgs_cons (sg_name 7) (sgs_cons (sg_name 8) sgs_nil)))))
  (ss_if (st_and (st_test (se_op s2_in (se_var 5) (se_var 1))) (st_test (se_op s2_in (se_var 6) (se_var 1))))
  (ss_app 2 (se_tup (sa_cons (se_idxT (se_var 1) (sa_cons (se_var 5) sa_nil)) (sa_cons (se_idxT (se_var 1) (sa_cons (se_var 6) sa_nil)) (sa_cons (se_var 7) (sa_cons (se_var 8) sa_nil))))))
  ss_next))
  (ss_frz 2 (ss_ret (se_tup (sa_cons (se_cb sc_len (sa_cons (se_var 1) sa_nil)) (sa_cons (se_cb sc_tuple (sa_cons (se_var 2) sa_nil)) sa_nil))))))))))⟩
theorem fxX_part (G0 : Fx P w K mg base 7 "part" ["net", "chosen"] (spD K 2 f_part)) (d : Df K mg "part" (top 37)) (T : Txt mg) (G_check_net : Fx P w K mg base 6 "check_net" ["net"] (spD K 1 f_check_net)) (G_is_choice : Fx P w K mg base 5 "is_choice" ["value", "size"] (spD K 2 f_is_choice)) (GX_check_net : FxX P w K mg base 6 "check_net" ["net"] 1 f_check_net fX_check_net) {C0 : Addr} (X_0 : XC P w K mg base 0 C0) {C2 : Addr} (X_2 : XC P w K mg base 2 C2) : FxX P w K mg base 7 "part" ["net", "chosen"] 2 f_part fX_part :=
  fx_ofX G0 d sc_part bb_part rfl fun f cdv A outer s H E hr => ⟨_,
  by have tk := takes_of (X := cxOf (L2.CX P w) P w K mg base N_part "part" (defScope (top 37)) f cdv A outer s H E) (E := E) rfl rfl rfl rfl; have po := passes_of (X := cxOf (L2.CX P w) P w K mg base N_part "part" (defScope (top 37)) f cdv A outer s H E) rfl; exact (pss_cons (ps_expr (pe_fxX GX_check_net rfl rfl (hr.mono (by decide)) (by rfl) tk (pa_cons (PE.nox (pv 0)) pa_nil)))
  (pss_cons (ps_nox (ps_asg (pv 0) (pg_sq rfl (pgs_cons (pg_name (i := 3) sc_part.nd rfl (by first | exact .inl rfl | exact .inr rfl)) (pgs_cons (pg_name (i := 4) sc_part.nd rfl (by first | exact .inl rfl | exact .inr rfl)) pgs_nil)))))
  (pss_cons (ps_if (PT.nox (pt_not (pt_truth (pe_fx G_is_choice (hr.mono (by decide)) (by rfl) (pa_cons (pv 1) (pa_cons (pv 3) pa_nil))) (by intro _; rfl))))
  (pss_one (ps_raise1 (c := 0) X_0 rfl tk (hr.mono (by decide)) (by rfl) pe_str))
  pss_nil)
  (pss_cons (ps_nox (ps_set (i := 2) sc_part.nd rfl (by first | exact .inl rfl | exact .inr rfl) (pe_lst pa_nil)))
  (pss_cons (ps_nox (ps_for PassesOwn.never rfl (pi_seq (pv 4)) (pg_sq rfl (pgs_cons (pg_name (i := 5) sc_part.nd rfl (by first | exact .inl rfl | exact .inr rfl)) (pgs_cons (pg_name (i := 6) sc_part.nd rfl (by first | exact .inl rfl | exact .inr rfl)) (pgs_cons (pg_name (i := 7) sc_part.nd rfl (by first | exact .inl rfl | exact .inr rfl)) (pgs_cons (pg_name (i := 8) sc_part.nd rfl (by first | exact .inl rfl | exact .inr rfl)) pgs_nil)))))
  (pss_one (ps_if (PW.pt (pw_and (pt_cmpR op_in_seq (pv 5) (pv 1) (by rfl)) (pw_and1 (pt_cmpR op_in_seq (pv 6) (pv 1) (by rfl)))))
  (pss_one (ps_expr (pe_bm PySem.F.plainAttrs_list PySem.F.slot_list_append PySem.F.type_list_append mt_append (pv 2) (pa_cons (pe_tupF (pa_cons (pe_idxT (pv 1) (pa_cons (pv 5) pa_nil)) (pa_cons (pe_idxT (pv 1) (pa_cons (pv 6) pa_nil)) (pa_cons (pv 7) (pa_cons (pv 8) pa_nil))))) pa_nil))))
  pss_nil))))
  (pss_one (ps_nox (ps_ret (pe_tupF (pa_cons (pe_callB call_len_seq (by rfl) T.b_len PySem.boot_len (pa_cons (pv 1) pa_nil)) (pa_cons (pe_callTy call_tupleF (by rfl) T.b_tuple bt_tuple (pa_cons (pv 2) pa_nil)) pa_nil))))))))))),
  fun x => (ssg_seqC (fun _ _ _ _ _ _ _ h => h) (ssg_drop (seg_callX (sag_cons cx1_kept (seg_of (se_var 0)) sag_nil)))
  (ssg_seqC (fun _ _ _ _ _ _ _ h => h) (ssg_of (ss_asg (vs := [3, 4]) (se_var 0) (sg_tup (sgs_cons (sg_name 3) (sgs_cons (sg_name 4) sgs_nil)))))
  (ssg_seqC (fun _ _ _ _ _ _ _ h => h) (ssg_if cx1_kept (stg_of (st_not (st_truth (se_call (sa_cons (se_var 1) (sa_cons (se_var 3) sa_nil))))))
  (ssg_raise (c := 0) X_0 se_str)
  (ssg_of ss_next))
  (ssg_seqC (fun _ _ _ _ _ _ _ h => h) (ssg_of (ss_asgO (so_lst sa_nil)))
  (ssg_seqC (fun _ _ _ _ _ _ _ h => h) (ssg_of (ss_for (vs := [5, 6, 7, 8]) (si_seq (se_var 4)) (sg_tup (sgs_cons (sg_name 5) (sgs_cons (sg_name 6) (sgs_cons (sg_name 7) (sgs_cons (sg_name 8) sgs_nil)))))
  (ss_if (st_and (st_test (se_op s2_in (se_var 5) (se_var 1))) (st_test (se_op s2_in (se_var 6) (se_var 1))))
  (ss_app 2 (se_tup (sa_cons (se_idxT (se_var 1) (sa_cons (se_var 5) sa_nil)) (sa_cons (se_idxT (se_var 1) (sa_cons (se_var 6) sa_nil)) (sa_cons (se_var 7) (sa_cons (se_var 8) sa_nil))))))
  ss_next)))
  (ssg_of (ss_frz 2 (ss_ret (se_tup (sa_cons (se_cb sc_len (sa_cons (se_var 1) sa_nil)) (sa_cons (se_cb sc_tuple (sa_cons (se_var 2) sa_nil)) sa_nil)))))))))))⟩
theorem fx_with_rule (d : Df K mg "with_rule" (top 38)) (T : Txt mg) (G_check_net : Fx P w K mg base 6 "check_net" ["net"] (spD K 1 f_check_net)) (G_is_rule : Fx P w K mg base 4 "is_rule" ["value", "size"] (spD K 2 f_is_rule)) : Fx P w K mg base 7 "with_rule" ["net", "rule"] (spD K 2 f_with_rule) :=
  fx_of d sc_with_rule bb_with_rule rfl fun f cdv A outer s H Q E hr => ⟨_,
  (pss_cons (ps_expr (pe_fx G_check_net (hr.mono (by decide)) (by rfl) (pa_cons (pv 0) pa_nil)))
  (pss_cons (ps_asg (pv 0) (pg_sq rfl (pgs_cons (pg_name (i := 2) sc_with_rule.nd rfl (by first | exact .inl rfl | exact .inr rfl)) (pgs_cons (pg_name (i := 3) sc_with_rule.nd rfl (by first | exact .inl rfl | exact .inr rfl)) pgs_nil))))
  (pss_cons (ps_if (pt_not (pt_truth (pe_fx G_is_rule (hr.mono (by decide)) (by rfl) (pa_cons (pv 1) (pa_cons (pv 2) pa_nil))) (by intro _; rfl)))
  (pss_one ps_never)
  pss_nil)
  (pss_cons (ps_if (pt_cmpR (op_eqD hr.units) (pe_callB call_len_seq (by rfl) T.b_len PySem.boot_len (pa_cons (pv 3) pa_nil)) (pe_gint T.c_MOST_RULES (by rfl)) (nomark _))
  (pss_one ps_never)
  pss_nil)
  (pss_one (ps_ret (pe_tupF (pa_cons (pv 2) (pa_cons (pe_op op_addA (pv 3) (pe_tupF (pa_cons (pv 1) pa_nil))) pa_nil))))))))),
  (ss_seq (ss_drop (se_call (sa_cons (se_var 0) sa_nil)))
  (ss_seq (ss_asg (vs := [2, 3]) (se_var 0) (sg_tup (sgs_cons (sg_name 2) (sgs_cons (sg_name 3) sgs_nil))))
  (ss_seq (ss_if (st_not (st_truth (se_call (sa_cons (se_var 1) (sa_cons (se_var 2) sa_nil)))))
  ss_never
  ss_next)
  (ss_seq (ss_if (st_test (se_op s2_eq (se_cb sc_len (sa_cons (se_var 3) sa_nil)) se_int))
  ss_never
  ss_next)
  (ss_ret (se_tup (sa_cons (se_var 2) (sa_cons (se_op s2_add (se_var 3) (se_tup (sa_cons (se_var 1) sa_nil))) sa_nil))))))))⟩
theorem fxX_with_rule (G0 : Fx P w K mg base 7 "with_rule" ["net", "rule"] (spD K 2 f_with_rule)) (d : Df K mg "with_rule" (top 38)) (T : Txt mg) (G_check_net : Fx P w K mg base 6 "check_net" ["net"] (spD K 1 f_check_net)) (G_is_rule : Fx P w K mg base 4 "is_rule" ["value", "size"] (spD K 2 f_is_rule)) (GX_check_net : FxX P w K mg base 6 "check_net" ["net"] 1 f_check_net fX_check_net) {C0 : Addr} (X_0 : XC P w K mg base 0 C0) {C2 : Addr} (X_2 : XC P w K mg base 2 C2) : FxX P w K mg base 7 "with_rule" ["net", "rule"] 2 f_with_rule fX_with_rule :=
  fx_ofX G0 d sc_with_rule bb_with_rule rfl fun f cdv A outer s H E hr => ⟨_,
  by have tk := takes_of (X := cxOf (L2.CX P w) P w K mg base N_with_rule "with_rule" (defScope (top 38)) f cdv A outer s H E) (E := E) rfl rfl rfl rfl; have po := passes_of (X := cxOf (L2.CX P w) P w K mg base N_with_rule "with_rule" (defScope (top 38)) f cdv A outer s H E) rfl; exact (pss_cons (ps_expr (pe_fxX GX_check_net rfl rfl (hr.mono (by decide)) (by rfl) tk (pa_cons (PE.nox (pv 0)) pa_nil)))
  (pss_cons (ps_nox (ps_asg (pv 0) (pg_sq rfl (pgs_cons (pg_name (i := 2) sc_with_rule.nd rfl (by first | exact .inl rfl | exact .inr rfl)) (pgs_cons (pg_name (i := 3) sc_with_rule.nd rfl (by first | exact .inl rfl | exact .inr rfl)) pgs_nil)))))
  (pss_cons (ps_if (PT.nox (pt_not (pt_truth (pe_fx G_is_rule (hr.mono (by decide)) (by rfl) (pa_cons (pv 1) (pa_cons (pv 2) pa_nil))) (by intro _; rfl))))
  (pss_one (ps_raise1 (c := 0) X_0 rfl tk (hr.mono (by decide)) (by rfl) pe_str))
  pss_nil)
  (pss_cons (ps_if (PT.nox (pt_cmpR (op_eqD hr.units) (pe_callB call_len_seq (by rfl) T.b_len PySem.boot_len (pa_cons (pv 3) pa_nil)) (pe_gint T.c_MOST_RULES (by rfl)) (nomark _)))
  (pss_one (ps_raise1 (c := 2) X_2 rfl tk (hr.mono (by decide)) (by rfl) pe_str))
  pss_nil)
  (pss_one (ps_nox (ps_ret (pe_tupF (pa_cons (pv 2) (pa_cons (pe_op op_addA (pv 3) (pe_tupF (pa_cons (pv 1) pa_nil))) pa_nil)))))))))),
  fun x => (ssg_seqC (fun _ _ _ _ _ _ _ h => h) (ssg_drop (seg_callX (sag_cons cx1_kept (seg_of (se_var 0)) sag_nil)))
  (ssg_seqC (fun _ _ _ _ _ _ _ h => h) (ssg_of (ss_asg (vs := [2, 3]) (se_var 0) (sg_tup (sgs_cons (sg_name 2) (sgs_cons (sg_name 3) sgs_nil)))))
  (ssg_seqC (fun _ _ _ _ _ _ _ h => h) (ssg_if cx1_kept (stg_of (st_not (st_truth (se_call (sa_cons (se_var 1) (sa_cons (se_var 2) sa_nil))))))
  (ssg_raise (c := 0) X_0 se_str)
  (ssg_of ss_next))
  (ssg_seqC (fun _ _ _ _ _ _ _ h => h) (ssg_if cx1_kept (stg_of (st_test (se_op s2_eq (se_cb sc_len (sa_cons (se_var 3) sa_nil)) se_int)))
  (ssg_raise (c := 2) X_2 se_str)
  (ssg_of ss_next))
  (ssg_of (ss_ret (se_tup (sa_cons (se_var 2) (sa_cons (se_op s2_add (se_var 3) (se_tup (sa_cons (se_var 1) sa_nil))) sa_nil)))))))))⟩
theorem fx_L_told (d : Df K mg "_law_told" (top 48)) (T : Txt mg) (G_keeps : Fx P w K mg base 9 "keeps" ["net", "times"] (spD K 2 f_keeps)) (G_excess : Fx P w K mg base 7 "excess" ["net", "times"] (spD K 2 f_excess)) (G_first_broken : Fx P w K mg base 8 "first_broken" ["net", "times"] (spD K 2 f_first_broken)) (G_edges : Fx P w K mg base 7 "edges" ["net"] (spD K 1 f_edges)) (G_is_walk : Fx P w K mg base 7 "is_walk" ["net", "start", "end", "value"] (spD K 4 f_is_walk)) (G_walk_length : Fx P w K mg base 7 "walk_length" ["net", "walk"] (spD K 2 f_walk_length)) (G_turned : Fx P w K mg base 7 "turned" ["net"] (spD K 1 f_turned)) (G_renamed : Fx P w K mg base 7 "renamed" ["net", "order"] (spD K 2 f_renamed)) (G_part : Fx P w K mg base 7 "part" ["net", "chosen"] (spD K 2 f_part)) (G_with_rule : Fx P w K mg base 7 "with_rule" ["net", "rule"] (spD K 2 f_with_rule)) (GX_keeps : FxX P w K mg base 9 "keeps" ["net", "times"] 2 f_keeps fX_keeps) (GX_excess : FxX P w K mg base 7 "excess" ["net", "times"] 2 f_excess fX_excess) (GX_first_broken : FxX P w K mg base 8 "first_broken" ["net", "times"] 2 f_first_broken fX_first_broken) (GX_edges : FxX P w K mg base 7 "edges" ["net"] 1 f_edges fX_edges) (GX_is_walk : FxX P w K mg base 7 "is_walk" ["net", "start", "end", "value"] 4 f_is_walk fX_is_walk) (GX_walk_length : FxX P w K mg base 7 "walk_length" ["net", "walk"] 2 f_walk_length fX_walk_length) (GX_turned : FxX P w K mg base 7 "turned" ["net"] 1 f_turned fX_turned) (GX_renamed : FxX P w K mg base 7 "renamed" ["net", "order"] 2 f_renamed fX_renamed) (GX_part : FxX P w K mg base 7 "part" ["net", "chosen"] 2 f_part fX_part) (GX_with_rule : FxX P w K mg base 7 "with_rule" ["net", "rule"] 2 f_with_rule fX_with_rule) {C0 : Addr} (X_0 : XC P w K mg base 0 C0) {C2 : Addr} (X_2 : XC P w K mg base 2 C2) {B_BadValue : Addr} (N_BadValue : mg "BadValue" = some (.ref B_BadValue)) (E_BadValue : ExF K mg B_BadValue [some true, none, some false]) {B_BideError : Addr} (N_BideError : mg "BideError" = some (.ref B_BideError)) (E_BideError : ExF K mg B_BideError [some true, none, some true]) (I_BadValue : KitF K mg (.ref B_BadValue) [some true, none, some false]) (I_BideError : KitF K mg (.ref B_BideError) [some true, none, some true]) (I_ValueError : KitF K mg (.type "ValueError") [some true, none, some true]) : Fx P w K mg base 10 "_law_told" ["word", "parts"] (spD K 2 f_L_told) :=
  fx_of d sc_L_told bb_L_told rfl fun f cdv A outer s H Q E hr => ⟨_,
  (pss_cons (ps_tryH rfl rfl sc_L_told.nd takes0 (fun W pn xe tk po => (pss_one (ps_if (PT.nox (pt_cmpR (op_eqD hr.units) (pv 0) pe_str (nomark _)))
  (pss_one (ps_expr (pe_fxX GX_keeps rfl rfl (hr.mono (by decide)) (by rfl) tk (pa_cons (PE.nox (pe_ix ix_seq (pv 1) pe_int (fun _ _ => rfl))) (pa_cons (PE.nox (pe_ix ix_seq (pv 1) pe_int (fun _ _ => rfl))) pa_nil)))))
  (pss_one (ps_if (PT.nox (pt_cmpR (op_eqD hr.units) (pv 0) pe_str (nomark _)))
  (pss_one (ps_expr (pe_fxX GX_excess rfl rfl (hr.mono (by decide)) (by rfl) tk (pa_cons (PE.nox (pe_ix ix_seq (pv 1) pe_int (fun _ _ => rfl))) (pa_cons (PE.nox (pe_ix ix_seq (pv 1) pe_int (fun _ _ => rfl))) pa_nil)))))
  (pss_one (ps_if (PT.nox (pt_cmpR (op_eqD hr.units) (pv 0) pe_str (nomark _)))
  (pss_one (ps_expr (pe_fxX GX_first_broken rfl rfl (hr.mono (by decide)) (by rfl) tk (pa_cons (PE.nox (pe_ix ix_seq (pv 1) pe_int (fun _ _ => rfl))) (pa_cons (PE.nox (pe_ix ix_seq (pv 1) pe_int (fun _ _ => rfl))) pa_nil)))))
  (pss_one (ps_if (PT.nox (pt_cmpR (op_eqD hr.units) (pv 0) pe_str (nomark _)))
  (pss_one (ps_expr (pe_fxX GX_edges rfl rfl (hr.mono (by decide)) (by rfl) tk (pa_cons (PE.nox (pe_ix ix_seq (pv 1) pe_int (fun _ _ => rfl))) pa_nil))))
  (pss_one (ps_if (PT.nox (pt_cmpR (op_eqD hr.units) (pv 0) pe_str (nomark _)))
  (pss_one (ps_expr (pe_fxX GX_is_walk rfl rfl (hr.mono (by decide)) (by rfl) tk (pa_cons (PE.nox (pe_ix ix_seq (pv 1) pe_int (fun _ _ => rfl))) (pa_cons (PE.nox (pe_ix ix_seq (pv 1) pe_int (fun _ _ => rfl))) (pa_cons (PE.nox (pe_ix ix_seq (pv 1) pe_int (fun _ _ => rfl))) (pa_cons (PE.nox pe_non) pa_nil)))))))
  (pss_one (ps_if (PT.nox (pt_cmpR (op_eqD hr.units) (pv 0) pe_str (nomark _)))
  (pss_one (ps_expr (pe_fxX GX_walk_length rfl rfl (hr.mono (by decide)) (by rfl) tk (pa_cons (PE.nox (pe_ix ix_seq (pv 1) pe_int (fun _ _ => rfl))) (pa_cons (PE.nox (pe_ix ix_seq (pv 1) pe_int (fun _ _ => rfl))) pa_nil)))))
  (pss_one (ps_if (PT.nox (pt_cmpR (op_eqD hr.units) (pv 0) pe_str (nomark _)))
  (pss_one (ps_expr (pe_fxX GX_turned rfl rfl (hr.mono (by decide)) (by rfl) tk (pa_cons (PE.nox (pe_ix ix_seq (pv 1) pe_int (fun _ _ => rfl))) pa_nil))))
  (pss_one (ps_if (PT.nox (pt_cmpR (op_eqD hr.units) (pv 0) pe_str (nomark _)))
  (pss_one (ps_expr (pe_fxX GX_renamed rfl rfl (hr.mono (by decide)) (by rfl) tk (pa_cons (PE.nox (pe_ix ix_seq (pv 1) pe_int (fun _ _ => rfl))) (pa_cons (PE.nox (pe_ix ix_seq (pv 1) pe_int (fun _ _ => rfl))) pa_nil)))))
  (pss_one (ps_if (PT.nox (pt_cmpR (op_eqD hr.units) (pv 0) pe_str (nomark _)))
  (pss_one (ps_expr (pe_fxX GX_part rfl rfl (hr.mono (by decide)) (by rfl) tk (pa_cons (PE.nox (pe_ix ix_seq (pv 1) pe_int (fun _ _ => rfl))) (pa_cons (PE.nox (pe_ix ix_seq (pv 1) pe_int (fun _ _ => rfl))) pa_nil)))))
  (pss_one (ps_expr (pe_fxX GX_with_rule rfl rfl (hr.mono (by decide)) (by rfl) tk (pa_cons (PE.nox (pe_ix ix_seq (pv 1) pe_int (fun _ _ => rfl))) (pa_cons (PE.nox (pe_ix ix_seq (pv 1) pe_int (fun _ _ => rfl))) pa_nil))))))))))))))))))))))))
  (.cons (h := ⟨.ref B_BadValue, 2, fun a cls d => (tRet (tIf (tAnd (tTruK K (tCB (rIsX K a cls d) (tCons (tVar 2) (tCons (tC (.ref B_BideError)) tNil)))) (tTruK K (tCB (rIsX K a cls d) (tCons (tVar 2) (tCons (tC (.ty "ValueError")) tNil))))) (tXf a cls d C0 (xfld 0) (tVar 2)) (tC .non)))⟩) ⟨by rfl, by decide, .inl N_BadValue⟩ rfl rfl (fun a oe cls d pn hz hf => show PSs _ _ (tRet (tIf (tAnd (tTruK K (tCB (rIsX K a cls d) (tCons (tVar 2) (tCons (tC (.ref B_BideError)) tNil)))) (tTruK K (tCB (rIsX K a cls d) (tCons (tVar 2) (tCons (tC (.ty "ValueError")) tNil))))) (tXf a cls d C0 (xfld 0) (tVar 2)) (tC .non))) from (pss_one (ps_ret (pe_ifExp (PW.pt (pw_and (pt_truthK (K := K) (pe_callB (call_isX (X := (cxOf CX0 P w K mg base N_L_told "_law_told" (defScope (top 48)) f cdv A outer s H E).nox) (a := a) (pn := pn) hz hf) (by rfl) T.b_isinstance bt_isi (pa_cons (pv 2) (pa_cons (pe_glob (v := .ref B_BideError) (by rfl) N_BideError rfl) pa_nil))) rfl (by intro _; rfl)) (pw_and1 (pt_truthK (K := K) (pe_callB (call_isX (X := (cxOf CX0 P w K mg base N_L_told "_law_told" (defScope (top 48)) f cdv A outer s H E).nox) (a := a) (pn := pn) hz hf) (by rfl) T.b_isinstance bt_isi (pa_cons (pv 2) (pa_cons (pe_bltn (v := .ty "ValueError") (by rfl) T.b_ValueError bt_VE rfl) pa_nil))) rfl (by intro _; rfl))))) (pe_xf X_0.xf X_0.no hz hf (pv 2)) pe_non)))) .nil))
  (pss_one (ps_ret pe_str))),
  (ss_seq (ss_try (fun W x => (ssg_if cx1_kept (stg_of (st_test (se_op s2_eq (se_var 0) se_str)))
  (ssg_drop (seg_callX (sag_cons cx1_kept (seg_of (se_op s2_ix (se_var 1) se_int)) (sag_cons cx1_kept (seg_of (se_op s2_ix (se_var 1) se_int)) sag_nil))))
  (ssg_if cx1_kept (stg_of (st_test (se_op s2_eq (se_var 0) se_str)))
  (ssg_drop (seg_callX (sag_cons cx1_kept (seg_of (se_op s2_ix (se_var 1) se_int)) (sag_cons cx1_kept (seg_of (se_op s2_ix (se_var 1) se_int)) sag_nil))))
  (ssg_if cx1_kept (stg_of (st_test (se_op s2_eq (se_var 0) se_str)))
  (ssg_drop (seg_callX (sag_cons cx1_kept (seg_of (se_op s2_ix (se_var 1) se_int)) (sag_cons cx1_kept (seg_of (se_op s2_ix (se_var 1) se_int)) sag_nil))))
  (ssg_if cx1_kept (stg_of (st_test (se_op s2_eq (se_var 0) se_str)))
  (ssg_drop (seg_callX (sag_cons cx1_kept (seg_of (se_op s2_ix (se_var 1) se_int)) sag_nil)))
  (ssg_if cx1_kept (stg_of (st_test (se_op s2_eq (se_var 0) se_str)))
  (ssg_drop (seg_callX (sag_cons cx1_kept (seg_of (se_op s2_ix (se_var 1) se_int)) (sag_cons cx1_kept (seg_of (se_op s2_ix (se_var 1) se_int)) (sag_cons cx1_kept (seg_of (se_op s2_ix (se_var 1) se_int)) (sag_cons cx1_kept (seg_of se_non) sag_nil))))))
  (ssg_if cx1_kept (stg_of (st_test (se_op s2_eq (se_var 0) se_str)))
  (ssg_drop (seg_callX (sag_cons cx1_kept (seg_of (se_op s2_ix (se_var 1) se_int)) (sag_cons cx1_kept (seg_of (se_op s2_ix (se_var 1) se_int)) sag_nil))))
  (ssg_if cx1_kept (stg_of (st_test (se_op s2_eq (se_var 0) se_str)))
  (ssg_drop (seg_callX (sag_cons cx1_kept (seg_of (se_op s2_ix (se_var 1) se_int)) sag_nil)))
  (ssg_if cx1_kept (stg_of (st_test (se_op s2_eq (se_var 0) se_str)))
  (ssg_drop (seg_callX (sag_cons cx1_kept (seg_of (se_op s2_ix (se_var 1) se_int)) (sag_cons cx1_kept (seg_of (se_op s2_ix (se_var 1) se_int)) sag_nil))))
  (ssg_if cx1_kept (stg_of (st_test (se_op s2_eq (se_var 0) se_str)))
  (ssg_drop (seg_callX (sag_cons cx1_kept (seg_of (se_op s2_ix (se_var 1) se_int)) (sag_cons cx1_kept (seg_of (se_op s2_ix (se_var 1) se_int)) sag_nil))))
  (ssg_drop (seg_callX (sag_cons cx1_kept (seg_of (se_op s2_ix (se_var 1) se_int)) (sag_cons cx1_kept (seg_of (se_op s2_ix (se_var 1) se_int)) sag_nil))))))))))))))
  (.cons ⟨rfl, E_BadValue, fun a cls dx c e => (ssg_ret (seg_if ch_kept (stg_and ch_kept (stg_truth (seg_isX (v := .ref B_BideError) I_BideError (fun u h => h))) (stg_truth (seg_isX (v := .ty "ValueError") I_ValueError (fun u h => h)))) (seg_xf (c0 := 0) X_0.gC) (seg_of se_non)))⟩ .nil))
  (ss_ret se_str))⟩
theorem fx_L_rule (d : Df K mg "_law_rule" (top 44)) (T : Txt mg) (G_L_next : Fx P w K mg base 1 "_law_next" ["stream", "many"] (spS K 1 f_next)) (G_L_pick : Fx P w K mg base 2 "_law_pick" ["stream", "rows"] (spS K 1 f_L_pick)) : Fx P w K mg base 3 "_law_rule" ["stream", "size", "far"] (spS K 2 f_L_rule) :=
  fx_ofS d sc_L_rule bb_L_rule rfl (by decide) fun f cdv A outer s H Q E hr => ⟨_,
  (pss_cons (ps_set (i := 3) sc_L_rule.nd rfl (by first | exact .inl rfl | exact .inr rfl) (pe_fx G_L_next (hr.mono (by decide)) (by rfl) (pa_cons (pv 0) (pa_cons (pv 1) pa_nil))))
  (pss_cons (ps_set (i := 4) sc_L_rule.nd rfl (by first | exact .inl rfl | exact .inr rfl) (pe_fx G_L_pick (hr.mono (by decide)) (by rfl) (pa_cons (pv 0) (pa_cons (pe_lc (own := [("event", 7)]) (g := (gName 7)) rfl sc_L_rule.nd (pi_range1 (by rfl) T.b_range (pa_cons (pv 1) pa_nil)) (blkOk_by (own := [("event", 7)]) (N := N_L_rule) (sc := defScope (top 44)) (by decide +kernel)) (fun _ _ _ _ _ => (pg_name (i := 7) sc_L_rule.nd rfl (by first | exact .inl rfl | exact .inr rfl))) (fun _ _ _ _ _ => (pts_one (pt_cmpR (op_neD hr.units) (pv 7) (pv 3) (nomark _)))) (fun _ _ _ _ _ => (pv 7))) pa_nil))))
  (pss_cons (ps_set (i := 5) sc_L_rule.nd rfl (by first | exact .inl rfl | exact .inr rfl) (pe_lst (pa_cons (pe_op op_sub (pe_fx G_L_next (hr.mono (by decide)) (by rfl) (pa_cons (pv 0) (pa_cons (pe_op op_addA (pe_op op_mulA pe_int (pv 2)) pe_int) pa_nil))) (pv 2)) (pa_cons (pe_op op_sub (pe_fx G_L_next (hr.mono (by decide)) (by rfl) (pa_cons (pv 0) (pa_cons (pe_op op_addA (pe_op op_mulA pe_int (pv 2)) pe_int) pa_nil))) (pv 2)) pa_nil))))
  (pss_cons (ps_if (pt_cmpR op_gt (pe_fx G_L_next (hr.mono (by decide)) (by rfl) (pa_cons (pv 0) (pa_cons pe_int pa_nil))) pe_int (nomark _))
  (pss_one (ps_set (i := 5) sc_L_rule.nd rfl (by first | exact .inl rfl | exact .inr rfl) (pe_callB cr_sorted (by rfl) T.b_sorted bt_sorted (pa_cons (pv 5) pa_nil))))
  pss_nil)
  (pss_cons (ps_set (i := 6) sc_L_rule.nd rfl (by first | exact .inl rfl | exact .inr rfl) (pe_fx G_L_next (hr.mono (by decide)) (by rfl) (pa_cons (pv 0) (pa_cons pe_int pa_nil))))
  (pss_cons (ps_if (pt_cmpR op_lt (pv 6) pe_int (nomark _))
  (pss_one (ps_asg pe_non (pg_sub (pv 5) (pv 6) set_list)))
  pss_nil)
  (pss_one (ps_ret (pe_tupF (pa_cons (pv 3) (pa_cons (pv 4) (pa_cons (pe_ix ix_seq (pv 5) pe_int (fun _ _ => rfl)) (pa_cons (pe_ix ix_seq (pv 5) pe_int (fun _ _ => rfl)) pa_nil))))))))))))),
  (ss_seq (ss_set (i := 3) (se_callS 0 (sa_cons (se_var 1) sa_nil)))
  (ss_seq (ss_set (i := 4) (se_callS 0 (sa_cons (se_own (so_lc (vs := [7]) (si_range1 (sa_cons (se_var 1) sa_nil)) (sg_name 7) (st_test (se_op s2_ne (se_var 7) (se_var 3))) (se_var 7))) sa_nil)))
  (ss_seq (ss_asgO (so_lst (sa_cons (se_op s2_sub (se_callS 0 (sa_cons (se_op s2_add (se_op s2_mul se_int (se_var 2)) se_int) sa_nil)) (se_var 2)) (sa_cons (se_op s2_sub (se_callS 0 (sa_cons (se_op s2_add (se_op s2_mul se_int (se_var 2)) se_int) sa_nil)) (se_var 2)) sa_nil))))
  (ss_seq (ss_if (st_test (se_op s2_gt (se_callS 0 (sa_cons se_int sa_nil)) se_int))
  (ss_frz 5 (ss_asgO (so_cb sc_sorted (sa_cons (se_var 5) sa_nil))))
  ss_next)
  (ss_seq (ss_set (i := 6) (se_callS 0 (sa_cons se_int sa_nil)))
  (ss_seq (ss_if (st_test (se_op s2_lt (se_var 6) se_int))
  (ss_setIx 5 se_non (se_var 6))
  ss_next)
  (ss_ret (se_tup (sa_cons (se_var 3) (sa_cons (se_var 4) (sa_cons (se_oIx 5 se_int) (sa_cons (se_oIx 5 se_int) sa_nil))))))))))))⟩
theorem fx_law {f : Addr} {fd : FuncData} (F : Fun K "law" "law" (top 49) f fd) (T : Txt mg) (G_L_stream : Fx P w K mg base 1 "_law_stream" ["script"] (spStream K)) (G_L_times : Fx P w K mg base 2 "_law_times" ["stream", "size", "far"] (spS K 2 f_L_times)) (G_L_next : Fx P w K mg base 1 "_law_next" ["stream", "many"] (spS K 1 f_next)) (G_L_drawn_walk : Fx P w K mg base 3 "_law_drawn_walk" ["stream", "net", "start", "most"] (spS K 3 f_L_drawn_walk)) (G_L_order : Fx P w K mg base 2 "_law_order" ["stream", "many"] (spS K 1 f_L_order)) (G_L_told : Fx P w K mg base 10 "_law_told" ["word", "parts"] (spD K 2 f_L_told)) (G_L_rule : Fx P w K mg base 3 "_law_rule" ["stream", "size", "far"] (spS K 2 f_L_rule)) (G_L_pick : Fx P w K mg base 2 "_law_pick" ["stream", "rows"] (spS K 1 f_L_pick)) (pure : t_law { nx := fun _ => False, rt := fun d => d = .bool true } (none :: some .strm :: List.replicate (N_law.length - 2) none)) : FnOk P w K mg base CX0 11 f fd ["script"] (spLaw K) :=
  law_of F sc_law (by decide) pure fun cdv A outer s H Q E hr => ⟨_,
  (pss_cons (ps_set (i := 1) sc_law.nd rfl (by first | exact .inl rfl | exact .inr rfl) (pe_fx G_L_stream (hr.mono (by decide)) (by rfl) (pa_cons (pv 0) pa_nil)))
  (pss_cons (ps_set (i := 2) sc_law.nd rfl (by first | exact .inl rfl | exact .inr rfl) (pe_op op_addA pe_int (pe_fx G_L_next (hr.mono (by decide)) (by rfl) (pa_cons (pv 1) (pa_cons pe_int pa_nil)))))
  (pss_cons (ps_set (i := 3) sc_law.nd rfl (by first | exact .inl rfl | exact .inr rfl) (pe_tupF (pa_cons (pv 2) (pa_cons (pe_callTy call_tupleF (by rfl) T.b_tuple bt_tuple (pa_cons (pe_lc (own := [("k", 20)]) (g := (gName 20)) rfl sc_law.nd (pi_range1 (by rfl) T.b_range (pa_cons (pe_fx G_L_next (hr.mono (by decide)) (by rfl) (pa_cons (pv 1) (pa_cons pe_int pa_nil))) pa_nil)) (blkOk_by (own := [("k", 20)]) (N := N_law) (sc := defScope (top 49)) (by decide +kernel)) (fun _ _ _ _ _ => (pg_name (i := 20) sc_law.nd rfl (by first | exact .inl rfl | exact .inr rfl))) (fun _ _ _ _ _ => pts_nil) (fun _ _ _ _ _ => (pe_fx G_L_rule (hr.mono (by decide)) (by rfl) (pa_cons (pv 1) (pa_cons (pv 2) (pa_cons pe_int pa_nil)))))) pa_nil)) pa_nil))))
  (pss_cons (ps_set (i := 4) sc_law.nd rfl (by first | exact .inl rfl | exact .inr rfl) (pe_fx G_L_times (hr.mono (by decide)) (by rfl) (pa_cons (pv 1) (pa_cons (pv 2) (pa_cons pe_int pa_nil)))))
  (pss_cons (ps_set (i := 5) sc_law.nd rfl (by first | exact .inl rfl | exact .inr rfl) (pe_fx G_L_next (hr.mono (by decide)) (by rfl) (pa_cons (pv 1) (pa_cons (pv 2) pa_nil))))
  (pss_cons (ps_set (i := 6) sc_law.nd rfl (by first | exact .inl rfl | exact .inr rfl) (pe_fx G_L_drawn_walk (hr.mono (by decide)) (by rfl) (pa_cons (pv 1) (pa_cons (pv 3) (pa_cons (pv 5) (pa_cons pe_int pa_nil))))))
  (pss_cons (ps_set (i := 7) sc_law.nd rfl (by first | exact .inl rfl | exact .inr rfl) (pe_fx G_L_order (hr.mono (by decide)) (by rfl) (pa_cons (pv 1) (pa_cons (pv 2) pa_nil))))
  (pss_cons (ps_set (i := 8) sc_law.nd rfl (by first | exact .inl rfl | exact .inr rfl) (pe_lst (pa_cons pe_non (pa_cons (pe_tupF (pa_cons (pv 2) pa_nil)) (pa_cons (pe_callTy call_list_of (by rfl) T.b_list bt_list (pa_cons (pv 3) pa_nil)) (pa_cons (pe_tupF (pa_cons pe_int (pa_cons (pe_tupF pa_nil) pa_nil))) (pa_cons (pe_tupF (pa_cons pe_int (pa_cons (pe_tupF pa_nil) pa_nil))) (pa_cons (pe_tupF (pa_cons (pv 2) (pa_cons (pe_tupF (pa_cons (pe_tupF (pa_cons pe_int (pa_cons pe_int (pa_cons pe_int (pa_cons pe_int pa_nil))))) pa_nil)) pa_nil))) (pa_cons (pe_tupF (pa_cons (pv 2) (pa_cons (pe_tupF (pa_cons (pe_tupF (pa_cons pe_int (pa_cons pe_int (pa_cons pe_non (pa_cons pe_non pa_nil))))) pa_nil)) pa_nil))) (pa_cons (pe_tupF (pa_cons (pv 2) (pa_cons (pe_tupF (pa_cons (pe_tupF (pa_cons pe_int (pa_cons (pv 2) (pa_cons pe_int (pa_cons pe_int pa_nil))))) pa_nil)) pa_nil))) (pa_cons (pe_tupF (pa_cons (pv 2) (pa_cons (pe_tupF (pa_cons (pe_tupF (pa_cons pe_int (pa_cons pe_int (pa_cons pe_int (pa_cons pe_non pa_nil))))) pa_nil)) pa_nil))) (pa_cons (pe_tupF (pa_cons (pv 2) (pa_cons (pe_lst (pa_cons (pe_tupF (pa_cons pe_int (pa_cons pe_int (pa_cons pe_int (pa_cons pe_int pa_nil))))) pa_nil)) pa_nil))) (pa_cons (pe_tupF (pa_cons (pv 2) (pa_cons (pe_op op_mulA (pe_tupF (pa_cons (pe_tupF (pa_cons pe_int (pa_cons pe_int (pa_cons pe_int (pa_cons pe_int pa_nil))))) pa_nil)) pe_int) pa_nil))) (pa_cons (pe_tupF (pa_cons (pv 2) (pa_cons (pe_op op_addA (pe_slice sl_any (pe_ix ix_seq (pv 3) pe_int (fun _ _ => rfl)) po_none (po_some pe_int)) (pe_tupF (pa_cons pe_non pa_nil))) pa_nil))) pa_nil))))))))))))))
  (pss_cons (ps_set (i := 9) sc_law.nd rfl (by first | exact .inl rfl | exact .inr rfl) (pe_op op_addA (pe_lst (pa_cons pe_non (pa_cons (pe_callTy call_list_of (by rfl) T.b_list bt_list (pa_cons (pv 4) pa_nil)) (pa_cons (pe_slice sl_any (pv 4) (po_some pe_int) po_none) (pa_cons (pe_op op_addA (pv 4) (pe_tupF (pa_cons pe_int pa_nil))) pa_nil))))) (pe_lc (own := [("odd", 24)]) (g := (gName 24)) rfl sc_law.nd (pi_seq (pe_lst (pa_cons pe_int (pa_cons (pe_un un_neg pe_int) (pa_cons pe_non (pa_cons pe_bl (pa_cons pe_str pa_nil))))))) (blkOk_by (own := [("odd", 24)]) (N := N_law) (sc := defScope (top 49)) (by decide +kernel)) (fun _ _ _ _ _ => (pg_name (i := 24) sc_law.nd rfl (by first | exact .inl rfl | exact .inr rfl))) (fun _ _ _ _ _ => pts_nil) (fun _ _ _ _ _ => (pe_op op_addA (pe_op op_addA (pe_slice sl_any (pv 4) po_none (po_some (pv 5))) (pe_tupF (pa_cons (pv 24) pa_nil))) (pe_slice sl_any (pv 4) (po_some (pe_op op_addA (pv 5) pe_int)) po_none))))))
  (pss_cons (ps_set (i := 10) sc_law.nd rfl (by first | exact .inl rfl | exact .inr rfl) (pe_lst (pa_cons (pe_un un_neg pe_int) (pa_cons (pv 2) (pa_cons pe_non (pa_cons pe_bl (pa_cons pe_str (pa_cons pe_int pa_nil))))))))
  (pss_cons (ps_set (i := 11) sc_law.nd rfl (by first | exact .inl rfl | exact .inr rfl) (pe_lst (pa_cons pe_non (pa_cons (pe_callTy call_list_of (by rfl) T.b_list bt_list (pa_cons (pv 6) pa_nil)) (pa_cons (pe_tupF (pa_cons (pe_tupF (pa_cons pe_int (pa_cons pe_str pa_nil))) pa_nil)) (pa_cons (pe_op op_addA (pv 6) (pe_tupF (pa_cons (pe_tupF (pa_cons pe_int (pa_cons pe_str pa_nil))) pa_nil))) (pa_cons (pe_op op_addA (pv 6) (pe_tupF (pa_cons pe_non pa_nil))) (pa_cons (pe_op op_addA (pv 6) (pe_tupF (pa_cons (pe_tupF (pa_cons (pe_un un_neg pe_int) (pa_cons pe_str pa_nil))) pa_nil))) (pa_cons pe_str (pa_cons (pe_ifExp (pt_truth (pv 6) (by intro _; rfl)) (pe_tupF (pa_cons (pv 6) pa_nil)) pe_int) (pa_cons (pe_tupF (pa_cons (pe_tupF (pa_cons pe_bl (pa_cons pe_str pa_nil))) pa_nil)) pa_nil)))))))))))
  (pss_cons (ps_set (i := 12) sc_law.nd rfl (by first | exact .inl rfl | exact .inr rfl) (pe_lst (pa_cons pe_non (pa_cons (pe_callTy call_list_of (by rfl) T.b_list bt_list (pa_cons (pv 7) pa_nil)) (pa_cons (pe_slice sl_any (pv 7) (po_some pe_int) po_none) (pa_cons (pe_op op_addA (pv 7) (pe_tupF (pa_cons (pv 2) pa_nil))) (pa_cons (pe_op op_addA (pe_slice sl_any (pv 7) po_none (po_some pe_int)) (pe_slice sl_any (pv 7) po_none (po_some (pe_un un_neg pe_int)))) (pa_cons (pe_op op_mulA (pe_tupF (pa_cons pe_bl pa_nil)) (pv 2)) (pa_cons (pe_tupF pa_nil) pa_nil)))))))))
  (pss_cons (ps_set (i := 13) sc_law.nd rfl (by first | exact .inl rfl | exact .inr rfl) (pe_lst (pa_cons pe_non (pa_cons (pe_tupF pa_nil) (pa_cons (pe_lst (pa_cons pe_int pa_nil)) (pa_cons (pe_tupF (pa_cons (pv 2) pa_nil)) (pa_cons (pe_tupF (pa_cons pe_int (pa_cons pe_int pa_nil))) (pa_cons (pe_tupF (pa_cons pe_int (pa_cons pe_int pa_nil))) (pa_cons (pe_tupF (pa_cons (pe_un un_neg pe_int) pa_nil)) (pa_cons (pe_tupF (pa_cons pe_non pa_nil)) (pa_cons (pe_tupF (pa_cons pe_bl pa_nil)) pa_nil)))))))))))
  (pss_cons (ps_set (i := 14) sc_law.nd rfl (by first | exact .inl rfl | exact .inr rfl) (pe_lst (pa_cons pe_non (pa_cons (pe_lst (pa_cons pe_int (pa_cons pe_int (pa_cons pe_int (pa_cons pe_int pa_nil))))) (pa_cons (pe_tupF (pa_cons pe_int (pa_cons pe_int (pa_cons pe_int (pa_cons pe_int pa_nil))))) (pa_cons (pe_tupF (pa_cons pe_int (pa_cons (pv 2) (pa_cons pe_int (pa_cons pe_int pa_nil))))) (pa_cons (pe_tupF (pa_cons pe_int (pa_cons pe_int (pa_cons pe_non (pa_cons pe_non pa_nil))))) (pa_cons (pe_tupF (pa_cons pe_int (pa_cons pe_int (pa_cons (pe_un un_neg pe_int) (pa_cons pe_int pa_nil))))) (pa_cons (pe_tupF (pa_cons pe_int (pa_cons pe_int (pa_cons pe_int (pa_cons pe_int pa_nil))))) (pa_cons (pe_tupF (pa_cons pe_int (pa_cons pe_int (pa_cons pe_bl (pa_cons pe_int pa_nil))))) (pa_cons (pe_tupF (pa_cons pe_int (pa_cons pe_int (pa_cons pe_int pa_nil)))) pa_nil)))))))))))
  (pss_cons (ps_setLc (i := 15) (own := [("name", 21)]) (g := (gName 21)) rfl sc_law.nd rfl rfl (sw_true rfl rfl rfl (by decide +kernel)) (pi_seq (pe_lst (pa_cons pe_str (pa_cons pe_str (pa_cons pe_str pa_nil))))) (blkOk_by (own := [("name", 21)]) (N := N_law) (sc := defScope (top 49)) (by decide +kernel)) (fun _ _ _ _ _ => (pg_name (i := 21) sc_law.nd rfl (by first | exact .inl rfl | exact .inr rfl))) (fun _ _ _ _ _ => pts_nil) (fun _ _ _ _ _ => (pe_tupF (pa_cons (pv 21) (pa_cons (pe_lst (pa_cons (pv 3) (pa_cons (pv 4) pa_nil))) (pa_cons (pe_lst (pa_cons (pv 8) (pa_cons (pv 9) pa_nil))) (pa_cons (pe_lst (pa_cons pe_str (pa_cons pe_str pa_nil))) pa_nil)))))))
  (pss_cons (ps_expr (pe_bm PySem.F.plainAttrs_list PySem.F.slot_list_extend PySem.F.type_list_extend mt_extend (pv 15) (pa_cons (pe_lc (own := [("name", 21)]) (g := (gName 21)) rfl sc_law.nd (pi_seq (pe_lst (pa_cons pe_str (pa_cons pe_str pa_nil)))) (blkOk_by (own := [("name", 21)]) (N := N_law) (sc := defScope (top 49)) (by decide +kernel)) (fun _ _ _ _ _ => (pg_name (i := 21) sc_law.nd rfl (by first | exact .inl rfl | exact .inr rfl))) (fun _ _ _ _ _ => pts_nil) (fun _ _ _ _ _ => (pe_tupF (pa_cons (pv 21) (pa_cons (pe_lst (pa_cons (pv 3) pa_nil)) (pa_cons (pe_lst (pa_cons (pv 8) pa_nil)) (pa_cons (pe_lst (pa_cons pe_str pa_nil)) pa_nil))))))) pa_nil)))
  (pss_cons (ps_expr (pe_bm PySem.F.plainAttrs_list PySem.F.slot_list_append PySem.F.type_list_append mt_append (pv 15) (pa_cons (pe_tupF (pa_cons pe_str (pa_cons (pe_lst (pa_cons (pv 3) (pa_cons (pv 5) (pa_cons (pe_ix ix_seq (pv 7) pe_int (fun _ _ => rfl)) pa_nil)))) (pa_cons (pe_lst (pa_cons (pv 8) (pa_cons (pv 10) (pa_cons (pv 10) pa_nil)))) (pa_cons (pe_lst (pa_cons pe_str (pa_cons pe_str (pa_cons pe_str pa_nil)))) pa_nil))))) pa_nil)))
  (pss_cons (ps_expr (pe_bm PySem.F.plainAttrs_list PySem.F.slot_list_append PySem.F.type_list_append mt_append (pv 15) (pa_cons (pe_tupF (pa_cons pe_str (pa_cons (pe_lst (pa_cons (pv 3) (pa_cons (pv 6) pa_nil))) (pa_cons (pe_lst (pa_cons (pv 8) (pa_cons (pv 11) pa_nil))) (pa_cons (pe_lst (pa_cons pe_str (pa_cons pe_str pa_nil))) pa_nil))))) pa_nil)))
  (pss_cons (ps_expr (pe_bm PySem.F.plainAttrs_list PySem.F.slot_list_append PySem.F.type_list_append mt_append (pv 15) (pa_cons (pe_tupF (pa_cons pe_str (pa_cons (pe_lst (pa_cons (pv 3) (pa_cons (pv 7) pa_nil))) (pa_cons (pe_lst (pa_cons (pv 8) (pa_cons (pv 12) pa_nil))) (pa_cons (pe_lst (pa_cons pe_str (pa_cons pe_str pa_nil))) pa_nil))))) pa_nil)))
  (pss_cons (ps_expr (pe_bm PySem.F.plainAttrs_list PySem.F.slot_list_append PySem.F.type_list_append mt_append (pv 15) (pa_cons (pe_tupF (pa_cons pe_str (pa_cons (pe_lst (pa_cons (pv 3) (pa_cons (pe_callTy call_tupleF (by rfl) T.b_tuple bt_tuple (pa_cons (pe_callB cr_sortedIT (by rfl) T.b_sorted bt_sorted (pa_cons (pe_slice sl_any (pv 7) po_none (po_some (pe_op op_addA pe_int (pv 5)))) pa_nil)) pa_nil)) pa_nil))) (pa_cons (pe_lst (pa_cons (pv 8) (pa_cons (pv 13) pa_nil))) (pa_cons (pe_lst (pa_cons pe_str (pa_cons pe_str pa_nil))) pa_nil))))) pa_nil)))
  (pss_cons (ps_expr (pe_bm PySem.F.plainAttrs_list PySem.F.slot_list_append PySem.F.type_list_append mt_append (pv 15) (pa_cons (pe_tupF (pa_cons pe_str (pa_cons (pe_lst (pa_cons (pv 3) (pa_cons (pe_tupF (pa_cons pe_int (pa_cons (pe_op op_sub (pv 2) pe_int) (pa_cons (pe_un un_neg pe_int) (pa_cons pe_non pa_nil))))) pa_nil))) (pa_cons (pe_lst (pa_cons (pv 8) (pa_cons (pv 14) pa_nil))) (pa_cons (pe_lst (pa_cons pe_str (pa_cons pe_str pa_nil))) pa_nil))))) pa_nil)))
  (pss_cons (ps_for PassesOwn.never rfl (pi_seq (pv 15)) (pg_sq rfl (pgs_cons (pg_name (i := 16) sc_law.nd rfl (by first | exact .inl rfl | exact .inr rfl)) (pgs_cons (pg_name (i := 17) sc_law.nd rfl (by first | exact .inl rfl | exact .inr rfl)) (pgs_cons (pg_name (i := 18) sc_law.nd rfl (by first | exact .inl rfl | exact .inr rfl)) (pgs_cons (pg_name (i := 19) sc_law.nd rfl (by first | exact .inl rfl | exact .inr rfl)) pgs_nil)))))
  (pss_cons (ps_if (pt_cmpR (op_neD hr.units) (pe_fx G_L_told (hr.mono (by decide)) (by rfl) (pa_cons (pv 16) (pa_cons (pv 17) pa_nil))) pe_str (nomark _))
  (pss_one (ps_ret pe_bl))
  pss_nil)
  (pss_one (ps_for PassesOwn.never rfl (pi_range1 (by rfl) T.b_range (pa_cons (pe_callB call_len_seq (by rfl) T.b_len PySem.boot_len (pa_cons (pv 17) pa_nil)) pa_nil)) (pg_name (i := 20) sc_law.nd rfl (by first | exact .inl rfl | exact .inr rfl))
  (pss_cons (ps_setLc (i := 22) (own := [("options", 25)]) (g := (gName 25)) rfl sc_law.nd rfl rfl (sw_true rfl rfl rfl (by decide +kernel)) (pi_seq (pv 18)) (blkOk_by (own := [("options", 25)]) (N := N_law) (sc := defScope (top 49)) (by decide +kernel)) (fun _ _ _ _ _ => (pg_name (i := 25) sc_law.nd rfl (by first | exact .inl rfl | exact .inr rfl))) (fun _ _ _ _ _ => pts_nil) (fun _ _ _ _ _ => (pe_fx G_L_pick (hr.mono (by decide)) (by rfl) (pa_cons (pv 1) (pa_cons (pv 25) pa_nil)))))
  (pss_cons (ps_set (i := 23) sc_law.nd rfl (by first | exact .inl rfl | exact .inr rfl) (pe_op op_addA (pe_op op_addA (pe_slice sl_any (pv 17) po_none (po_some (pv 20))) (pe_lst (pa_cons (pe_ix ix_seq (pv 22) (pv 20) (fun _ _ => rfl)) pa_nil))) (pe_slice sl_any (pv 17) (po_some (pe_op op_addA (pv 20) pe_int)) po_none)))
  (pss_one (ps_if (PW.pt (pw_or (pt_cmpR (op_neD hr.units) (pe_fx G_L_told (hr.mono (by decide)) (by rfl) (pa_cons (pv 16) (pa_cons (pv 23) pa_nil))) (pe_ix ix_seq (pv 19) (pv 20) (fun _ _ => rfl)) (nomark _)) (pw_or1 (pt_cmpR (op_neD hr.units) (pe_fx G_L_told (hr.mono (by decide)) (by rfl) (pa_cons (pv 16) (pa_cons (pe_op op_addA (pe_slice sl_any (pv 17) po_none (po_some (pv 20))) (pe_slice sl_any (pv 22) (po_some (pv 20)) po_none)) pa_nil))) (pe_ix ix_seq (pv 19) (pv 20) (fun _ _ => rfl)) (nomark _)))))
  (pss_one (ps_ret pe_bl))
  pss_nil))))))))
  (pss_one (ps_ret pe_bl)))))))))))))))))))))))),
  (ss_seq (ss_set (i := 2) (se_op s2_add se_int (se_callS 1 (sa_cons se_int sa_nil))))
  (ss_seq (ss_set (i := 3) (se_tup (sa_cons (se_var 2) (sa_cons (se_cb sc_tuple (sa_cons (se_own (so_lc (vs := [20]) (si_range1 (sa_cons (se_callS 1 (sa_cons se_int sa_nil)) sa_nil)) (sg_name 20) st_yes (se_callS 1 (sa_cons (se_var 2) (sa_cons se_int sa_nil))))) sa_nil)) sa_nil))))
  (ss_seq (ss_set (i := 4) (se_callS 1 (sa_cons (se_var 2) (sa_cons se_int sa_nil))))
  (ss_seq (ss_set (i := 5) (se_callS 1 (sa_cons (se_var 2) sa_nil)))
  (ss_seq (ss_set (i := 6) (se_callS 1 (sa_cons (se_var 3) (sa_cons (se_var 5) (sa_cons se_int sa_nil)))))
  (ss_seq (ss_set (i := 7) (se_callS 1 (sa_cons (se_var 2) sa_nil)))
  (ss_seq (ss_set (i := 8) (se_own (so_lst (sa_cons se_non (sa_cons (se_tup (sa_cons (se_var 2) sa_nil)) (sa_cons (se_own (so_cb sc_list (sa_cons (se_var 3) sa_nil))) (sa_cons (se_tup (sa_cons se_int (sa_cons (se_tup sa_nil) sa_nil))) (sa_cons (se_tup (sa_cons se_int (sa_cons (se_tup sa_nil) sa_nil))) (sa_cons (se_tup (sa_cons (se_var 2) (sa_cons (se_tup (sa_cons (se_tup (sa_cons se_int (sa_cons se_int (sa_cons se_int (sa_cons se_int sa_nil))))) sa_nil)) sa_nil))) (sa_cons (se_tup (sa_cons (se_var 2) (sa_cons (se_tup (sa_cons (se_tup (sa_cons se_int (sa_cons se_int (sa_cons se_non (sa_cons se_non sa_nil))))) sa_nil)) sa_nil))) (sa_cons (se_tup (sa_cons (se_var 2) (sa_cons (se_tup (sa_cons (se_tup (sa_cons se_int (sa_cons (se_var 2) (sa_cons se_int (sa_cons se_int sa_nil))))) sa_nil)) sa_nil))) (sa_cons (se_tup (sa_cons (se_var 2) (sa_cons (se_tup (sa_cons (se_tup (sa_cons se_int (sa_cons se_int (sa_cons se_int (sa_cons se_non sa_nil))))) sa_nil)) sa_nil))) (sa_cons (se_tup (sa_cons (se_var 2) (sa_cons (se_own (so_lst (sa_cons (se_tup (sa_cons se_int (sa_cons se_int (sa_cons se_int (sa_cons se_int sa_nil))))) sa_nil))) sa_nil))) (sa_cons (se_tup (sa_cons (se_var 2) (sa_cons (se_op s2_mul (se_tup (sa_cons (se_tup (sa_cons se_int (sa_cons se_int (sa_cons se_int (sa_cons se_int sa_nil))))) sa_nil)) se_int) sa_nil))) (sa_cons (se_tup (sa_cons (se_var 2) (sa_cons (se_op s2_add (se_sl (se_op s2_ix (se_var 3) se_int) sop_none (sop_some se_int)) (se_tup (sa_cons se_non sa_nil))) sa_nil))) sa_nil)))))))))))))))
  (ss_seq (ss_set (i := 9) (se_op s2_add (se_own (so_lst (sa_cons se_non (sa_cons (se_own (so_cb sc_list (sa_cons (se_var 4) sa_nil))) (sa_cons (se_sl (se_var 4) (sop_some se_int) sop_none) (sa_cons (se_op s2_add (se_var 4) (se_tup (sa_cons se_int sa_nil))) sa_nil)))))) (se_own (so_lc (vs := [24]) (si_seq (se_own (so_lst (sa_cons se_int (sa_cons (se_un s1_neg se_int) (sa_cons se_non (sa_cons se_bl (sa_cons se_str sa_nil)))))))) (sg_name 24) st_yes (se_op s2_add (se_op s2_add (se_sl (se_var 4) sop_none (sop_some (se_var 5))) (se_tup (sa_cons (se_var 24) sa_nil))) (se_sl (se_var 4) (sop_some (se_op s2_add (se_var 5) se_int)) sop_none))))))
  (ss_seq (ss_set (i := 10) (se_own (so_lst (sa_cons (se_un s1_neg se_int) (sa_cons (se_var 2) (sa_cons se_non (sa_cons se_bl (sa_cons se_str (sa_cons se_int sa_nil)))))))))
  (ss_seq (ss_set (i := 11) (se_own (so_lst (sa_cons se_non (sa_cons (se_own (so_cb sc_list (sa_cons (se_var 6) sa_nil))) (sa_cons (se_tup (sa_cons (se_tup (sa_cons se_int (sa_cons se_str sa_nil))) sa_nil)) (sa_cons (se_op s2_add (se_var 6) (se_tup (sa_cons (se_tup (sa_cons se_int (sa_cons se_str sa_nil))) sa_nil))) (sa_cons (se_op s2_add (se_var 6) (se_tup (sa_cons se_non sa_nil))) (sa_cons (se_op s2_add (se_var 6) (se_tup (sa_cons (se_tup (sa_cons (se_un s1_neg se_int) (sa_cons se_str sa_nil))) sa_nil))) (sa_cons se_str (sa_cons (se_if (st_truth (se_var 6)) (se_tup (sa_cons (se_var 6) sa_nil)) se_int) (sa_cons (se_tup (sa_cons (se_tup (sa_cons se_bl (sa_cons se_str sa_nil))) sa_nil)) sa_nil))))))))))))
  (ss_seq (ss_set (i := 12) (se_own (so_lst (sa_cons se_non (sa_cons (se_own (so_cb sc_list (sa_cons (se_var 7) sa_nil))) (sa_cons (se_sl (se_var 7) (sop_some se_int) sop_none) (sa_cons (se_op s2_add (se_var 7) (se_tup (sa_cons (se_var 2) sa_nil))) (sa_cons (se_op s2_add (se_sl (se_var 7) sop_none (sop_some se_int)) (se_sl (se_var 7) sop_none (sop_some (se_un s1_neg se_int)))) (sa_cons (se_op s2_mul (se_tup (sa_cons se_bl sa_nil)) (se_var 2)) (sa_cons (se_tup sa_nil) sa_nil))))))))))
  (ss_seq (ss_set (i := 13) (se_own (so_lst (sa_cons se_non (sa_cons (se_tup sa_nil) (sa_cons (se_own (so_lst (sa_cons se_int sa_nil))) (sa_cons (se_tup (sa_cons (se_var 2) sa_nil)) (sa_cons (se_tup (sa_cons se_int (sa_cons se_int sa_nil))) (sa_cons (se_tup (sa_cons se_int (sa_cons se_int sa_nil))) (sa_cons (se_tup (sa_cons (se_un s1_neg se_int) sa_nil)) (sa_cons (se_tup (sa_cons se_non sa_nil)) (sa_cons (se_tup (sa_cons se_bl sa_nil)) sa_nil))))))))))))
  (ss_seq (ss_set (i := 14) (se_own (so_lst (sa_cons se_non (sa_cons (se_own (so_lst (sa_cons se_int (sa_cons se_int (sa_cons se_int (sa_cons se_int sa_nil)))))) (sa_cons (se_tup (sa_cons se_int (sa_cons se_int (sa_cons se_int (sa_cons se_int sa_nil))))) (sa_cons (se_tup (sa_cons se_int (sa_cons (se_var 2) (sa_cons se_int (sa_cons se_int sa_nil))))) (sa_cons (se_tup (sa_cons se_int (sa_cons se_int (sa_cons se_non (sa_cons se_non sa_nil))))) (sa_cons (se_tup (sa_cons se_int (sa_cons se_int (sa_cons (se_un s1_neg se_int) (sa_cons se_int sa_nil))))) (sa_cons (se_tup (sa_cons se_int (sa_cons se_int (sa_cons se_int (sa_cons se_int sa_nil))))) (sa_cons (se_tup (sa_cons se_int (sa_cons se_int (sa_cons se_bl (sa_cons se_int sa_nil))))) (sa_cons (se_tup (sa_cons se_int (sa_cons se_int (sa_cons se_int sa_nil)))) sa_nil))))))))))))
  (ss_seq (ss_asgO (so_lc (vs := [21]) (si_seq (se_own (so_lst (sa_cons se_str (sa_cons se_str (sa_cons se_str sa_nil)))))) (sg_name 21) st_yes (se_tup (sa_cons (se_var 21) (sa_cons (se_own (so_lst (sa_cons (se_var 3) (sa_cons (se_var 4) sa_nil)))) (sa_cons (se_own (so_lst (sa_cons (se_var 8) (sa_cons (se_var 9) sa_nil)))) (sa_cons (se_own (so_lst (sa_cons se_str (sa_cons se_str sa_nil)))) sa_nil)))))))
  (ss_seq (ss_ext 15 (se_own (so_lc (vs := [21]) (si_seq (se_own (so_lst (sa_cons se_str (sa_cons se_str sa_nil))))) (sg_name 21) st_yes (se_tup (sa_cons (se_var 21) (sa_cons (se_own (so_lst (sa_cons (se_var 3) sa_nil))) (sa_cons (se_own (so_lst (sa_cons (se_var 8) sa_nil))) (sa_cons (se_own (so_lst (sa_cons se_str sa_nil))) sa_nil))))))))
  (ss_seq (ss_app 15 (se_tup (sa_cons se_str (sa_cons (se_own (so_lst (sa_cons (se_var 3) (sa_cons (se_var 5) (sa_cons (se_op s2_ix (se_var 7) se_int) sa_nil))))) (sa_cons (se_own (so_lst (sa_cons (se_var 8) (sa_cons (se_var 10) (sa_cons (se_var 10) sa_nil))))) (sa_cons (se_own (so_lst (sa_cons se_str (sa_cons se_str (sa_cons se_str sa_nil))))) sa_nil))))))
  (ss_seq (ss_app 15 (se_tup (sa_cons se_str (sa_cons (se_own (so_lst (sa_cons (se_var 3) (sa_cons (se_var 6) sa_nil)))) (sa_cons (se_own (so_lst (sa_cons (se_var 8) (sa_cons (se_var 11) sa_nil)))) (sa_cons (se_own (so_lst (sa_cons se_str (sa_cons se_str sa_nil)))) sa_nil))))))
  (ss_seq (ss_app 15 (se_tup (sa_cons se_str (sa_cons (se_own (so_lst (sa_cons (se_var 3) (sa_cons (se_var 7) sa_nil)))) (sa_cons (se_own (so_lst (sa_cons (se_var 8) (sa_cons (se_var 12) sa_nil)))) (sa_cons (se_own (so_lst (sa_cons se_str (sa_cons se_str sa_nil)))) sa_nil))))))
  (ss_seq (ss_app 15 (se_tup (sa_cons se_str (sa_cons (se_own (so_lst (sa_cons (se_var 3) (sa_cons (se_cb sc_tuple (sa_cons (se_own (so_cb sc_sortIT (sa_cons (se_sl (se_var 7) sop_none (sop_some (se_op s2_add se_int (se_var 5)))) sa_nil))) sa_nil)) sa_nil)))) (sa_cons (se_own (so_lst (sa_cons (se_var 8) (sa_cons (se_var 13) sa_nil)))) (sa_cons (se_own (so_lst (sa_cons se_str (sa_cons se_str sa_nil)))) sa_nil))))))
  (ss_seq (ss_app 15 (se_tup (sa_cons se_str (sa_cons (se_own (so_lst (sa_cons (se_var 3) (sa_cons (se_tup (sa_cons se_int (sa_cons (se_op s2_sub (se_var 2) se_int) (sa_cons (se_un s1_neg se_int) (sa_cons se_non sa_nil))))) sa_nil)))) (sa_cons (se_own (so_lst (sa_cons (se_var 8) (sa_cons (se_var 14) sa_nil)))) (sa_cons (se_own (so_lst (sa_cons se_str (sa_cons se_str sa_nil)))) sa_nil))))))
  (ss_seq (ss_frz 15 (ss_for (vs := [16, 17, 18, 19]) (si_seq (se_var 15)) (sg_tup (sgs_cons (sg_name 16) (sgs_cons (sg_name 17) (sgs_cons (sg_name 18) (sgs_cons (sg_name 19) sgs_nil)))))
  (ss_seq (ss_if (st_test (se_op s2_ne (se_call (sa_cons (se_var 16) (sa_cons (se_var 17) sa_nil))) se_str))
  (ss_ret se_bl)
  ss_next)
  (ss_for (vs := [20]) (si_range1 (sa_cons (se_cb sc_len (sa_cons (se_var 17) sa_nil)) sa_nil)) (sg_name 20)
  (ss_seq (ss_set (i := 22) (se_own (so_lc (vs := [25]) (si_seq (se_var 18)) (sg_name 25) st_yes (se_callS 1 (sa_cons (se_var 25) sa_nil)))))
  (ss_seq (ss_set (i := 23) (se_op s2_add (se_op s2_add (se_sl (se_var 17) sop_none (sop_some (se_var 20))) (se_own (so_lst (sa_cons (se_op s2_ix (se_var 22) (se_var 20)) sa_nil)))) (se_sl (se_var 17) (sop_some (se_op s2_add (se_var 20) se_int)) sop_none)))
  (ss_if (st_or (st_test (se_op s2_ne (se_call (sa_cons (se_var 16) (sa_cons (se_var 23) sa_nil))) (se_op s2_ix (se_var 19) (se_var 20)))) (st_test (se_op s2_ne (se_call (sa_cons (se_var 16) (sa_cons (se_op s2_add (se_sl (se_var 17) sop_none (sop_some (se_var 20))) (se_sl (se_var 22) (sop_some (se_var 20)) sop_none)) sa_nil))) (se_op s2_ix (se_var 19) (se_var 20)))))
  (ss_ret se_bl)
  ss_next)))))))
  (ss_ret se_bl))))))))))))))))))))))⟩
end
theorem all_mk {l : PySem.W.OpenLaw} {w : World} {K : PySem.W.Frag} {h : Heap} {mg : Str → Option Value} {fa : Addr} (X : K.In h) (G : h.Ns mainGlobals mg) (hfa : mg "law" = some (.ref fa))
  {od0 an0 : Option Addr} {sl0 : Array (Option Value)} {oc0 kV0 dc0 pm0 cd0 ct0 : Value} {f0 : Addr}
  {od1 an1 : Option Addr} {sl1 : Array (Option Value)} {oc1 kV1 dc1 pm1 cd1 ct1 : Value} {f1 : Addr}
  {od2 an2 : Option Addr} {sl2 : Array (Option Value)} {oc2 kV2 dc2 pm2 cd2 ct2 : Value} {f2 : Addr}
  {od3 an3 : Option Addr} {sl3 : Array (Option Value)} {oc3 kV3 dc3 pm3 cd3 ct3 : Value} {f3 : Addr}
  {od4 an4 : Option Addr} {sl4 : Array (Option Value)} {oc4 kV4 dc4 pm4 cd4 ct4 : Value} {f4 : Addr}
  {od5 an5 : Option Addr} {sl5 : Array (Option Value)} {oc5 kV5 dc5 pm5 cd5 ct5 : Value} {f5 : Addr}
  {od6 an6 : Option Addr} {sl6 : Array (Option Value)} {oc6 kV6 dc6 pm6 cd6 ct6 : Value} {f6 : Addr}
  {od7 an7 : Option Addr} {sl7 : Array (Option Value)} {oc7 kV7 dc7 pm7 cd7 ct7 : Value} {f7 : Addr}
  {od8 an8 : Option Addr} {sl8 : Array (Option Value)} {oc8 kV8 dc8 pm8 cd8 ct8 : Value} {f8 : Addr}
  {od9 an9 : Option Addr} {sl9 : Array (Option Value)} {oc9 kV9 dc9 pm9 cd9 ct9 : Value} {f9 : Addr}
  {od10 an10 : Option Addr} {sl10 : Array (Option Value)} {oc10 kV10 dc10 pm10 cd10 ct10 : Value} {f10 : Addr}
  {od11 an11 : Option Addr} {sl11 : Array (Option Value)} {oc11 kV11 dc11 pm11 cd11 ct11 : Value} {f11 : Addr}
  {od12 an12 : Option Addr} {sl12 : Array (Option Value)} {oc12 kV12 dc12 pm12 cd12 ct12 : Value} {f12 : Addr}
  {od13 an13 : Option Addr} {sl13 : Array (Option Value)} {oc13 kV13 dc13 pm13 cd13 ct13 : Value} {f13 : Addr}
  {od14 an14 : Option Addr} {sl14 : Array (Option Value)} {oc14 kV14 dc14 pm14 cd14 ct14 : Value} {f14 : Addr}
  {od15 an15 : Option Addr} {sl15 : Array (Option Value)} {oc15 kV15 dc15 pm15 cd15 ct15 : Value} {f15 : Addr}
  {od16 an16 : Option Addr} {sl16 : Array (Option Value)} {oc16 kV16 dc16 pm16 cd16 ct16 : Value} {f16 : Addr}
  {od17 an17 : Option Addr} {sl17 : Array (Option Value)} {oc17 kV17 dc17 pm17 cd17 ct17 : Value} {f17 : Addr}
  {od18 an18 : Option Addr} {sl18 : Array (Option Value)} {oc18 kV18 dc18 pm18 cd18 ct18 : Value} {f18 : Addr}
  {od19 an19 : Option Addr} {sl19 : Array (Option Value)} {oc19 kV19 dc19 pm19 cd19 ct19 : Value} {f19 : Addr}
  {od20 an20 : Option Addr} {sl20 : Array (Option Value)} {oc20 kV20 dc20 pm20 cd20 ct20 : Value} {f20 : Addr}
  {od21 an21 : Option Addr} {sl21 : Array (Option Value)} {oc21 kV21 dc21 pm21 cd21 ct21 : Value} {f21 : Addr}
  {od22 an22 : Option Addr} {sl22 : Array (Option Value)} {oc22 kV22 dc22 pm22 cd22 ct22 : Value} {f22 : Addr}
  {od23 an23 : Option Addr} {sl23 : Array (Option Value)} {oc23 kV23 dc23 pm23 cd23 ct23 : Value} {f23 : Addr}
  {od24 an24 : Option Addr} {sl24 : Array (Option Value)} {oc24 kV24 dc24 pm24 cd24 ct24 : Value} {f24 : Addr}
  {od25 an25 : Option Addr} {sl25 : Array (Option Value)} {oc25 kV25 dc25 pm25 cd25 ct25 : Value} {f25 : Addr}
  {od26 an26 : Option Addr} {sl26 : Array (Option Value)} {oc26 kV26 dc26 pm26 cd26 ct26 : Value} {f26 : Addr}
  {od27 an27 : Option Addr} {sl27 : Array (Option Value)} {oc27 kV27 dc27 pm27 cd27 ct27 : Value} {f27 : Addr}
  {od28 an28 : Option Addr} {sl28 : Array (Option Value)} {oc28 kV28 dc28 pm28 cd28 ct28 : Value} {f28 : Addr}
  {od29 an29 : Option Addr} {sl29 : Array (Option Value)} {oc29 kV29 dc29 pm29 cd29 ct29 : Value} {f29 : Addr}
  {od30 an30 : Option Addr} {sl30 : Array (Option Value)} {oc30 kV30 dc30 pm30 cd30 ct30 : Value} {f30 : Addr}
  {od31 an31 : Option Addr} {sl31 : Array (Option Value)} {oc31 kV31 dc31 pm31 cd31 ct31 : Value} {f31 : Addr}
  {od32 an32 : Option Addr} {sl32 : Array (Option Value)} {oc32 kV32 dc32 pm32 cd32 ct32 : Value} {f32 : Addr}
  {od33 an33 : Option Addr} {sl33 : Array (Option Value)} {oc33 kV33 dc33 pm33 cd33 ct33 : Value} {f33 : Addr}
  {od34 an34 : Option Addr} {sl34 : Array (Option Value)} {oc34 kV34 dc34 pm34 cd34 ct34 : Value} {f34 : Addr}
  {od35 an35 : Option Addr} {sl35 : Array (Option Value)} {oc35 kV35 dc35 pm35 cd35 ct35 : Value} {f35 : Addr}
  {od36 an36 : Option Addr} {sl36 : Array (Option Value)} {oc36 kV36 dc36 pm36 cd36 ct36 : Value} {f36 : Addr}
  {od37 an37 : Option Addr} {sl37 : Array (Option Value)} {oc37 kV37 dc37 pm37 cd37 ct37 : Value} {f37 : Addr}
  {od38 an38 : Option Addr} {sl38 : Array (Option Value)} {oc38 kV38 dc38 pm38 cd38 ct38 : Value} {f38 : Addr}
  {BB : Addr} {C0 fI0 : Addr} {xq0 xr0 : Str} {xN0 : Addr} {xb0 : List Value} {xn0 : List Str} {xs0 : List Value} {xv0 : Bool} {xw0 : Option Bool} {xx0 : Option Addr} {m00 m10 m20 m30 m50 : Option Value} {xod0 xan0 : Option Addr} {xsl0 : Array (Option Value)} {xoc0 xkV0 xdc0 xpm0 xcd0 xct0 : Value} {C2 fI2 : Addr} {xq2 xr2 : Str} {xN2 : Addr} {xb2 : List Value} {xn2 : List Str} {xs2 : List Value} {xv2 : Bool} {xw2 : Option Bool} {xx2 : Option Addr} {m02 m12 m22 m32 m52 : Option Value} {xod2 xan2 : Option Addr} {xsl2 : Array (Option Value)} {xoc2 xkV2 xdc2 xpm2 xcd2 xct2 : Value} {B_BadValue : Addr} {B_BideError : Addr} {tk0 : Tok} {tk1 : Tok} {tk2 : Tok} {tk3 : Tok}
  (xa0 : PySem.W.nsIn K mainGlobals "BadValue" = some (some (.ref C0)))
  (xl0 : K.lookup C0 = some (excClassObj xq0 xr0 C0 xN0 xb0 [.ref BB, .type "ValueError", .type "Exception", .type "BaseException", .type "object"] true xn0 xs0 xv0 xw0 xx0 m00 m10 m20 m30 m50 "ValueError.__new__"))
  (xg0 : PySem.W.findIn K (.ref C0) "__setattr__" = some (some (.builtin "object.__setattr__")))
  (xh0 : PySem.W.findIn K (.ref C0) "__getattribute__" = some (some (.builtin "BaseException.__getattribute__")))
  (xi0 : PySem.W.findIn K (.ref C0) "__getattr__" = some none)
  (xj0 : PySem.W.findIn K (.ref C0) "name" = some none)
  (xk0 : PySem.W.findIn K (.ref C0) "__init__" = some (some (.ref fI0)))
  (xo0 : PySem.W.typeIn K (.ref fI0) = some (.type "function"))
  (xp0 : K.lookup fI0 = some ⟨xoc0, xod0, .func (PySem.W.fnOf "__init__" "BadValue.__init__" (defArgs (clsInit (top 2))) (defBody (clsInit (top 2))) (defScope (clsInit (top 2))) .none xkV0 xdc0 xpm0 xan0 xcd0 xct0), xsl0⟩)
  (xt0 : PySem.W.codeIn K xcd0 "BadValue.__init__" = true)
  (xu0 : PySem.W.keepIn K (.ref C0) = true)
  (xy0 : PySem.W.keepIn K (.ref fI0) = true)
  (xz0 : PySem.W.subIn K (.ref C0) (.type "BaseException") = some true)
  (ya0 : PySem.W.typeIn K (.ref C0) = some (.type "type"))
  (yb0 : PySem.W.hasDictIn K C0 = true)
  (xa2 : PySem.W.nsIn K mainGlobals "TooLarge" = some (some (.ref C2)))
  (xl2 : K.lookup C2 = some (excClassObj xq2 xr2 C2 xN2 xb2 [.ref BB, .type "ValueError", .type "Exception", .type "BaseException", .type "object"] true xn2 xs2 xv2 xw2 xx2 m02 m12 m22 m32 m52 "ValueError.__new__"))
  (xg2 : PySem.W.findIn K (.ref C2) "__setattr__" = some (some (.builtin "object.__setattr__")))
  (xh2 : PySem.W.findIn K (.ref C2) "__getattribute__" = some (some (.builtin "BaseException.__getattribute__")))
  (xi2 : PySem.W.findIn K (.ref C2) "__getattr__" = some none)
  (xj2 : PySem.W.findIn K (.ref C2) "what" = some none)
  (xk2 : PySem.W.findIn K (.ref C2) "__init__" = some (some (.ref fI2)))
  (xo2 : PySem.W.typeIn K (.ref fI2) = some (.type "function"))
  (xp2 : K.lookup fI2 = some ⟨xoc2, xod2, .func (PySem.W.fnOf "__init__" "TooLarge.__init__" (defArgs (clsInit (top 3))) (defBody (clsInit (top 3))) (defScope (clsInit (top 3))) .none xkV2 xdc2 xpm2 xan2 xcd2 xct2), xsl2⟩)
  (xt2 : PySem.W.codeIn K xcd2 "TooLarge.__init__" = true)
  (xu2 : PySem.W.keepIn K (.ref C2) = true)
  (xy2 : PySem.W.keepIn K (.ref fI2) = true)
  (xz2 : PySem.W.subIn K (.ref C2) (.type "BaseException") = some true)
  (ya2 : PySem.W.typeIn K (.ref C2) = some (.type "type"))
  (yb2 : PySem.W.hasDictIn K C2 = true)
  (yc0 : PySem.W.findIn K (.ref C0) "__class__" = some (some (.builtin "object.__class__")))
  (yd0 : PySem.W.mroIn K C0 (.type "object") = some true)
  (ye0 : PySem.W.subIn K (.ref C0) (.type "ValueError") = some true)
  (yc2 : PySem.W.findIn K (.ref C2) "__class__" = some (some (.builtin "object.__class__")))
  (yd2 : PySem.W.mroIn K C2 (.type "object") = some true)
  (ye2 : PySem.W.subIn K (.ref C2) (.type "ValueError") = some true)
  (yf : PySem.W.specialIn K (.builtin "object.__class__") "__get__" = some (some (.builtin "getset_descriptor.__get__")))
  (yg : PySem.W.takesIn K (.builtin "object.__class__") = some true)
  (ha_BadValue : PySem.W.nsIn K mainGlobals "BadValue" = some (some (.ref B_BadValue)))
  (hb_BadValue : PySem.W.subIn K (.ref B_BadValue) (.type "BaseException") = some true)
  (hc_BadValue : PySem.W.hasDictIn K B_BadValue = true)
  (hd_BadValue : PySem.W.typeIn K (.ref B_BadValue) = some (.type "type"))
  (he_BadValue_0 : PySem.W.subIn K (.ref C0) (.ref B_BadValue) = some true)
  (he_BadValue_2 : PySem.W.subIn K (.ref C2) (.ref B_BadValue) = some false)
  (ha_BideError : PySem.W.nsIn K mainGlobals "BideError" = some (some (.ref B_BideError)))
  (hb_BideError : PySem.W.subIn K (.ref B_BideError) (.type "BaseException") = some true)
  (hc_BideError : PySem.W.hasDictIn K B_BideError = true)
  (hd_BideError : PySem.W.typeIn K (.ref B_BideError) = some (.type "type"))
  (he_BideError_0 : PySem.W.subIn K (.ref C0) (.ref B_BideError) = some true)
  (he_BideError_2 : PySem.W.subIn K (.ref C2) (.ref B_BideError) = some true)
  (a0 : PySem.W.nsIn K mainGlobals "_law_stream" = some (some (.ref f0))) (l0 : K.lookup f0 = some ⟨oc0, od0, .func (PySem.W.fnOf "_law_stream" "_law_stream" (defArgs (top 40)) (defBody (top 40)) (defScope (top 40)) .none kV0 dc0 pm0 an0 cd0 ct0), sl0⟩) (e0 : PySem.W.codeIn K cd0 "_law_stream" = true) (k0 : PySem.W.keepIn K (.ref f0) = true)
  (a1 : PySem.W.nsIn K mainGlobals "_law_next" = some (some (.ref f1))) (l1 : K.lookup f1 = some ⟨oc1, od1, .func (PySem.W.fnOf "_law_next" "_law_next" (defArgs (top 41)) (defBody (top 41)) (defScope (top 41)) .none kV1 dc1 pm1 an1 cd1 ct1), sl1⟩) (e1 : PySem.W.codeIn K cd1 "_law_next" = true) (k1 : PySem.W.keepIn K (.ref f1) = true)
  (a2 : PySem.W.nsIn K mainGlobals "_law_times" = some (some (.ref f2))) (l2 : K.lookup f2 = some ⟨oc2, od2, .func (PySem.W.fnOf "_law_times" "_law_times" (defArgs (top 45)) (defBody (top 45)) (defScope (top 45)) .none kV2 dc2 pm2 an2 cd2 ct2), sl2⟩) (e2 : PySem.W.codeIn K cd2 "_law_times" = true) (k2 : PySem.W.keepIn K (.ref f2) = true)
  (a3 : PySem.W.nsIn K mainGlobals "_law_pick" = some (some (.ref f3))) (l3 : K.lookup f3 = some ⟨oc3, od3, .func (PySem.W.fnOf "_law_pick" "_law_pick" (defArgs (top 42)) (defBody (top 42)) (defScope (top 42)) .none kV3 dc3 pm3 an3 cd3 ct3), sl3⟩) (e3 : PySem.W.codeIn K cd3 "_law_pick" = true) (k3 : PySem.W.keepIn K (.ref f3) = true)
  (a4 : PySem.W.nsIn K mainGlobals "_law_edges" = some (some (.ref f4))) (l4 : K.lookup f4 = some ⟨oc4, od4, .func (PySem.W.fnOf "_law_edges" "_law_edges" (defArgs (top 46)) (defBody (top 46)) (defScope (top 46)) .none kV4 dc4 pm4 an4 cd4 ct4), sl4⟩) (e4 : PySem.W.codeIn K cd4 "_law_edges" = true) (k4 : PySem.W.keepIn K (.ref f4) = true)
  (a5 : PySem.W.nsIn K mainGlobals "_law_drawn_walk" = some (some (.ref f5))) (l5 : K.lookup f5 = some ⟨oc5, od5, .func (PySem.W.fnOf "_law_drawn_walk" "_law_drawn_walk" (defArgs (top 47)) (defBody (top 47)) (defScope (top 47)) .none kV5 dc5 pm5 an5 cd5 ct5), sl5⟩) (e5 : PySem.W.codeIn K cd5 "_law_drawn_walk" = true) (k5 : PySem.W.keepIn K (.ref f5) = true)
  (a6 : PySem.W.nsIn K mainGlobals "_law_order" = some (some (.ref f6))) (l6 : K.lookup f6 = some ⟨oc6, od6, .func (PySem.W.fnOf "_law_order" "_law_order" (defArgs (top 43)) (defBody (top 43)) (defScope (top 43)) .none kV6 dc6 pm6 an6 cd6 ct6), sl6⟩) (e6 : PySem.W.codeIn K cd6 "_law_order" = true) (k6 : PySem.W.keepIn K (.ref f6) = true)
  (a7 : PySem.W.nsIn K mainGlobals "is_whole" = some (some (.ref f7))) (l7 : K.lookup f7 = some ⟨oc7, od7, .func (PySem.W.fnOf "is_whole" "is_whole" (defArgs (top 9)) (defBody (top 9)) (defScope (top 9)) .none kV7 dc7 pm7 an7 cd7 ct7), sl7⟩) (e7 : PySem.W.codeIn K cd7 "is_whole" = true) (k7 : PySem.W.keepIn K (.ref f7) = true)
  (a8 : PySem.W.nsIn K mainGlobals "is_integer" = some (some (.ref f8))) (l8 : K.lookup f8 = some ⟨oc8, od8, .func (PySem.W.fnOf "is_integer" "is_integer" (defArgs (top 10)) (defBody (top 10)) (defScope (top 10)) .none kV8 dc8 pm8 an8 cd8 ct8), sl8⟩) (e8 : PySem.W.codeIn K cd8 "is_integer" = true) (k8 : PySem.W.keepIn K (.ref f8) = true)
  (a9 : PySem.W.nsIn K mainGlobals "is_side" = some (some (.ref f9))) (l9 : K.lookup f9 = some ⟨oc9, od9, .func (PySem.W.fnOf "is_side" "is_side" (defArgs (top 12)) (defBody (top 12)) (defScope (top 12)) .none kV9 dc9 pm9 an9 cd9 ct9), sl9⟩) (e9 : PySem.W.codeIn K cd9 "is_side" = true) (k9 : PySem.W.keepIn K (.ref f9) = true)
  (a10 : PySem.W.nsIn K mainGlobals "is_event" = some (some (.ref f10))) (l10 : K.lookup f10 = some ⟨oc10, od10, .func (PySem.W.fnOf "is_event" "is_event" (defArgs (top 11)) (defBody (top 11)) (defScope (top 11)) .none kV10 dc10 pm10 an10 cd10 ct10), sl10⟩) (e10 : PySem.W.codeIn K cd10 "is_event" = true) (k10 : PySem.W.keepIn K (.ref f10) = true)
  (a11 : PySem.W.nsIn K mainGlobals "is_rule" = some (some (.ref f11))) (l11 : K.lookup f11 = some ⟨oc11, od11, .func (PySem.W.fnOf "is_rule" "is_rule" (defArgs (top 13)) (defBody (top 13)) (defScope (top 13)) .none kV11 dc11 pm11 an11 cd11 ct11), sl11⟩) (e11 : PySem.W.codeIn K cd11 "is_rule" = true) (k11 : PySem.W.keepIn K (.ref f11) = true)
  (a12 : PySem.W.nsIn K mainGlobals "is_net" = some (some (.ref f12))) (l12 : K.lookup f12 = some ⟨oc12, od12, .func (PySem.W.fnOf "is_net" "is_net" (defArgs (top 14)) (defBody (top 14)) (defScope (top 14)) .none kV12 dc12 pm12 an12 cd12 ct12), sl12⟩) (e12 : PySem.W.codeIn K cd12 "is_net" = true) (k12 : PySem.W.keepIn K (.ref f12) = true)
  (a13 : PySem.W.nsIn K mainGlobals "check_net" = some (some (.ref f13))) (l13 : K.lookup f13 = some ⟨oc13, od13, .func (PySem.W.fnOf "check_net" "check_net" (defArgs (top 16)) (defBody (top 16)) (defScope (top 16)) .none kV13 dc13 pm13 an13 cd13 ct13), sl13⟩) (e13 : PySem.W.codeIn K cd13 "check_net" = true) (k13 : PySem.W.keepIn K (.ref f13) = true)
  (a14 : PySem.W.nsIn K mainGlobals "is_times" = some (some (.ref f14))) (l14 : K.lookup f14 = some ⟨oc14, od14, .func (PySem.W.fnOf "is_times" "is_times" (defArgs (top 15)) (defBody (top 15)) (defScope (top 15)) .none kV14 dc14 pm14 an14 cd14 ct14), sl14⟩) (e14 : PySem.W.codeIn K cd14 "is_times" = true) (k14 : PySem.W.keepIn K (.ref f14) = true)
  (a15 : PySem.W.nsIn K mainGlobals "check_times" = some (some (.ref f15))) (l15 : K.lookup f15 = some ⟨oc15, od15, .func (PySem.W.fnOf "check_times" "check_times" (defArgs (top 17)) (defBody (top 17)) (defScope (top 17)) .none kV15 dc15 pm15 an15 cd15 ct15), sl15⟩) (e15 : PySem.W.codeIn K cd15 "check_times" = true) (k15 : PySem.W.keepIn K (.ref f15) = true)
  (a16 : PySem.W.nsIn K mainGlobals "rule_excess" = some (some (.ref f16))) (l16 : K.lookup f16 = some ⟨oc16, od16, .func (PySem.W.fnOf "rule_excess" "rule_excess" (defArgs (top 19)) (defBody (top 19)) (defScope (top 19)) .none kV16 dc16 pm16 an16 cd16 ct16), sl16⟩) (e16 : PySem.W.codeIn K cd16 "rule_excess" = true) (k16 : PySem.W.keepIn K (.ref f16) = true)
  (a17 : PySem.W.nsIn K mainGlobals "rule_excesses" = some (some (.ref f17))) (l17 : K.lookup f17 = some ⟨oc17, od17, .func (PySem.W.fnOf "rule_excesses" "rule_excesses" (defArgs (top 20)) (defBody (top 20)) (defScope (top 20)) .none kV17 dc17 pm17 an17 cd17 ct17), sl17⟩) (e17 : PySem.W.codeIn K cd17 "rule_excesses" = true) (k17 : PySem.W.keepIn K (.ref f17) = true)
  (a18 : PySem.W.nsIn K mainGlobals "excess" = some (some (.ref f18))) (l18 : K.lookup f18 = some ⟨oc18, od18, .func (PySem.W.fnOf "excess" "excess" (defArgs (top 21)) (defBody (top 21)) (defScope (top 21)) .none kV18 dc18 pm18 an18 cd18 ct18), sl18⟩) (e18 : PySem.W.codeIn K cd18 "excess" = true) (k18 : PySem.W.keepIn K (.ref f18) = true)
  (a19 : PySem.W.nsIn K mainGlobals "first_broken" = some (some (.ref f19))) (l19 : K.lookup f19 = some ⟨oc19, od19, .func (PySem.W.fnOf "first_broken" "first_broken" (defArgs (top 22)) (defBody (top 22)) (defScope (top 22)) .none kV19 dc19 pm19 an19 cd19 ct19), sl19⟩) (e19 : PySem.W.codeIn K cd19 "first_broken" = true) (k19 : PySem.W.keepIn K (.ref f19) = true)
  (a20 : PySem.W.nsIn K mainGlobals "keeps" = some (some (.ref f20))) (l20 : K.lookup f20 = some ⟨oc20, od20, .func (PySem.W.fnOf "keeps" "keeps" (defArgs (top 23)) (defBody (top 23)) (defScope (top 23)) .none kV20 dc20 pm20 an20 cd20 ct20), sl20⟩) (e20 : PySem.W.codeIn K cd20 "keeps" = true) (k20 : PySem.W.keepIn K (.ref f20) = true)
  (a21 : PySem.W.nsIn K mainGlobals "edge_course" = some (some (.ref f21))) (l21 : K.lookup f21 = some ⟨oc21, od21, .func (PySem.W.fnOf "edge_course" "edge_course" (defArgs (top 24)) (defBody (top 24)) (defScope (top 24)) .none kV21 dc21 pm21 an21 cd21 ct21), sl21⟩) (e21 : PySem.W.codeIn K cd21 "edge_course" = true) (k21 : PySem.W.keepIn K (.ref f21) = true)
  (a22 : PySem.W.nsIn K mainGlobals "all_edges" = some (some (.ref f22))) (l22 : K.lookup f22 = some ⟨oc22, od22, .func (PySem.W.fnOf "all_edges" "all_edges" (defArgs (top 25)) (defBody (top 25)) (defScope (top 25)) .none kV22 dc22 pm22 an22 cd22 ct22), sl22⟩) (e22 : PySem.W.codeIn K cd22 "all_edges" = true) (k22 : PySem.W.keepIn K (.ref f22) = true)
  (a23 : PySem.W.nsIn K mainGlobals "edges" = some (some (.ref f23))) (l23 : K.lookup f23 = some ⟨oc23, od23, .func (PySem.W.fnOf "edges" "edges" (defArgs (top 26)) (defBody (top 26)) (defScope (top 26)) .none kV23 dc23 pm23 an23 cd23 ct23), sl23⟩) (e23 : PySem.W.codeIn K cd23 "edges" = true) (k23 : PySem.W.keepIn K (.ref f23) = true)
  (a24 : PySem.W.nsIn K mainGlobals "check_event" = some (some (.ref f24))) (l24 : K.lookup f24 = some ⟨oc24, od24, .func (PySem.W.fnOf "check_event" "check_event" (defArgs (top 18)) (defBody (top 18)) (defScope (top 18)) .none kV24 dc24 pm24 an24 cd24 ct24), sl24⟩) (e24 : PySem.W.codeIn K cd24 "check_event" = true) (k24 : PySem.W.keepIn K (.ref f24) = true)
  (a25 : PySem.W.nsIn K mainGlobals "walk_end" = some (some (.ref f25))) (l25 : K.lookup f25 = some ⟨oc25, od25, .func (PySem.W.fnOf "walk_end" "walk_end" (defArgs (top 27)) (defBody (top 27)) (defScope (top 27)) .none kV25 dc25 pm25 an25 cd25 ct25), sl25⟩) (e25 : PySem.W.codeIn K cd25 "walk_end" = true) (k25 : PySem.W.keepIn K (.ref f25) = true)
  (a26 : PySem.W.nsIn K mainGlobals "is_walk" = some (some (.ref f26))) (l26 : K.lookup f26 = some ⟨oc26, od26, .func (PySem.W.fnOf "is_walk" "is_walk" (defArgs (top 29)) (defBody (top 29)) (defScope (top 29)) .none kV26 dc26 pm26 an26 cd26 ct26), sl26⟩) (e26 : PySem.W.codeIn K cd26 "is_walk" = true) (k26 : PySem.W.keepIn K (.ref f26) = true)
  (a27 : PySem.W.nsIn K mainGlobals "weight_sum" = some (some (.ref f27))) (l27 : K.lookup f27 = some ⟨oc27, od27, .func (PySem.W.fnOf "weight_sum" "weight_sum" (defArgs (top 28)) (defBody (top 28)) (defScope (top 28)) .none kV27 dc27 pm27 an27 cd27 ct27), sl27⟩) (e27 : PySem.W.codeIn K cd27 "weight_sum" = true) (k27 : PySem.W.keepIn K (.ref f27) = true)
  (a28 : PySem.W.nsIn K mainGlobals "walk_length" = some (some (.ref f28))) (l28 : K.lookup f28 = some ⟨oc28, od28, .func (PySem.W.fnOf "walk_length" "walk_length" (defArgs (top 30)) (defBody (top 30)) (defScope (top 30)) .none kV28 dc28 pm28 an28 cd28 ct28), sl28⟩) (e28 : PySem.W.codeIn K cd28 "walk_length" = true) (k28 : PySem.W.keepIn K (.ref f28) = true)
  (a29 : PySem.W.nsIn K mainGlobals "turned" = some (some (.ref f29))) (l29 : K.lookup f29 = some ⟨oc29, od29, .func (PySem.W.fnOf "turned" "turned" (defArgs (top 35)) (defBody (top 35)) (defScope (top 35)) .none kV29 dc29 pm29 an29 cd29 ct29), sl29⟩) (e29 : PySem.W.codeIn K cd29 "turned" = true) (k29 : PySem.W.keepIn K (.ref f29) = true)
  (a30 : PySem.W.nsIn K mainGlobals "are_events" = some (some (.ref f30))) (l30 : K.lookup f30 = some ⟨oc30, od30, .func (PySem.W.fnOf "are_events" "are_events" (defArgs (top 32)) (defBody (top 32)) (defScope (top 32)) .none kV30 dc30 pm30 an30 cd30 ct30), sl30⟩) (e30 : PySem.W.codeIn K cd30 "are_events" = true) (k30 : PySem.W.keepIn K (.ref f30) = true)
  (a31 : PySem.W.nsIn K mainGlobals "is_order" = some (some (.ref f31))) (l31 : K.lookup f31 = some ⟨oc31, od31, .func (PySem.W.fnOf "is_order" "is_order" (defArgs (top 33)) (defBody (top 33)) (defScope (top 33)) .none kV31 dc31 pm31 an31 cd31 ct31), sl31⟩) (e31 : PySem.W.codeIn K cd31 "is_order" = true) (k31 : PySem.W.keepIn K (.ref f31) = true)
  (a32 : PySem.W.nsIn K mainGlobals "renamed" = some (some (.ref f32))) (l32 : K.lookup f32 = some ⟨oc32, od32, .func (PySem.W.fnOf "renamed" "renamed" (defArgs (top 36)) (defBody (top 36)) (defScope (top 36)) .none kV32 dc32 pm32 an32 cd32 ct32), sl32⟩) (e32 : PySem.W.codeIn K cd32 "renamed" = true) (k32 : PySem.W.keepIn K (.ref f32) = true)
  (a33 : PySem.W.nsIn K mainGlobals "is_choice" = some (some (.ref f33))) (l33 : K.lookup f33 = some ⟨oc33, od33, .func (PySem.W.fnOf "is_choice" "is_choice" (defArgs (top 34)) (defBody (top 34)) (defScope (top 34)) .none kV33 dc33 pm33 an33 cd33 ct33), sl33⟩) (e33 : PySem.W.codeIn K cd33 "is_choice" = true) (k33 : PySem.W.keepIn K (.ref f33) = true)
  (a34 : PySem.W.nsIn K mainGlobals "part" = some (some (.ref f34))) (l34 : K.lookup f34 = some ⟨oc34, od34, .func (PySem.W.fnOf "part" "part" (defArgs (top 37)) (defBody (top 37)) (defScope (top 37)) .none kV34 dc34 pm34 an34 cd34 ct34), sl34⟩) (e34 : PySem.W.codeIn K cd34 "part" = true) (k34 : PySem.W.keepIn K (.ref f34) = true)
  (a35 : PySem.W.nsIn K mainGlobals "with_rule" = some (some (.ref f35))) (l35 : K.lookup f35 = some ⟨oc35, od35, .func (PySem.W.fnOf "with_rule" "with_rule" (defArgs (top 38)) (defBody (top 38)) (defScope (top 38)) .none kV35 dc35 pm35 an35 cd35 ct35), sl35⟩) (e35 : PySem.W.codeIn K cd35 "with_rule" = true) (k35 : PySem.W.keepIn K (.ref f35) = true)
  (a36 : PySem.W.nsIn K mainGlobals "_law_told" = some (some (.ref f36))) (l36 : K.lookup f36 = some ⟨oc36, od36, .func (PySem.W.fnOf "_law_told" "_law_told" (defArgs (top 48)) (defBody (top 48)) (defScope (top 48)) .none kV36 dc36 pm36 an36 cd36 ct36), sl36⟩) (e36 : PySem.W.codeIn K cd36 "_law_told" = true) (k36 : PySem.W.keepIn K (.ref f36) = true)
  (a37 : PySem.W.nsIn K mainGlobals "_law_rule" = some (some (.ref f37))) (l37 : K.lookup f37 = some ⟨oc37, od37, .func (PySem.W.fnOf "_law_rule" "_law_rule" (defArgs (top 44)) (defBody (top 44)) (defScope (top 44)) .none kV37 dc37 pm37 an37 cd37 ct37), sl37⟩) (e37 : PySem.W.codeIn K cd37 "_law_rule" = true) (k37 : PySem.W.keepIn K (.ref f37) = true)
  (a38 : PySem.W.nsIn K mainGlobals "law" = some (some (.ref f38))) (l38 : K.lookup f38 = some ⟨oc38, od38, .func (PySem.W.fnOf "law" "law" (defArgs (top 49)) (defBody (top 49)) (defScope (top 49)) .none kV38 dc38 pm38 an38 cd38 ct38), sl38⟩) (e38 : PySem.W.codeIn K cd38 "law" = true) (k38 : PySem.W.keepIn K (.ref f38) = true)
  (z0 : PySem.W.nsIn K mainGlobals "ValueError" = some none) (z1 : PySem.W.nsIn K mainGlobals "abs" = some none) (z2 : PySem.W.nsIn K mainGlobals "all" = some none) (z3 : PySem.W.nsIn K mainGlobals "bool" = some none) (z4 : PySem.W.nsIn K mainGlobals "enumerate" = some none) (z5 : PySem.W.nsIn K mainGlobals "int" = some none) (z6 : PySem.W.nsIn K mainGlobals "isinstance" = some none) (z7 : PySem.W.nsIn K mainGlobals "len" = some none) (z8 : PySem.W.nsIn K mainGlobals "list" = some none) (z9 : PySem.W.nsIn K mainGlobals "range" = some none) (z10 : PySem.W.nsIn K mainGlobals "sorted" = some none) (z11 : PySem.W.nsIn K mainGlobals "str" = some none) (z12 : PySem.W.nsIn K mainGlobals "sum" = some none) (z13 : PySem.W.nsIn K mainGlobals "tuple" = some none) (z14 : PySem.W.nsIn K mainGlobals "zip" = some none) (y0 : PySem.W.nsIn K mainGlobals "GREATEST_SIDE" = some (some (.int 100 tk0))) (y1 : PySem.W.nsIn K mainGlobals "GREATEST_TIME" = some (some (.int 1000 tk1))) (y2 : PySem.W.nsIn K mainGlobals "MOST_EVENTS" = some (some (.int 6 tk2))) (y3 : PySem.W.nsIn K mainGlobals "MOST_RULES" = some (some (.int 12 tk3)))
  (pure : t_law { nx := fun _ => False, rt := fun d => d = .bool true } (none :: some .strm :: List.replicate (N_law.length - 2) none)) :
    ∃ fd : FuncData, (∀ (s : Shared) (v : Value), BindsTo s fd ⟨[v], []⟩ [("script", v)]) ∧ ∀ base : Heap, K.In base → base.Ns mainGlobals mg → FnOk l.prog w K mg base CX0 11 fa fd ["script"] (spLaw K) := by
  have T : Txt mg := ⟨PySem.W.mg_none_of X G z0, PySem.W.mg_none_of X G z1, PySem.W.mg_none_of X G z2, PySem.W.mg_none_of X G z3, PySem.W.mg_none_of X G z4, PySem.W.mg_none_of X G z5, PySem.W.mg_none_of X G z6, PySem.W.mg_none_of X G z7, PySem.W.mg_none_of X G z8, PySem.W.mg_none_of X G z9, PySem.W.mg_none_of X G z10, PySem.W.mg_none_of X G z11, PySem.W.mg_none_of X G z12, PySem.W.mg_none_of X G z13, PySem.W.mg_none_of X G z14, ⟨_, PySem.W.mg_of X G y0⟩, ⟨_, PySem.W.mg_of X G y1⟩, ⟨_, PySem.W.mg_of X G y2⟩, ⟨_, PySem.W.mg_of X G y3⟩⟩
  have d0 : Df K mg "_law_stream" (top 40) := ⟨_, _, fun_mk (st := (top 40)) l0 e0 k0, PySem.W.mg_of X G a0⟩
  have d1 : Df K mg "_law_next" (top 41) := ⟨_, _, fun_mk (st := (top 41)) l1 e1 k1, PySem.W.mg_of X G a1⟩
  have d2 : Df K mg "_law_times" (top 45) := ⟨_, _, fun_mk (st := (top 45)) l2 e2 k2, PySem.W.mg_of X G a2⟩
  have d3 : Df K mg "_law_pick" (top 42) := ⟨_, _, fun_mk (st := (top 42)) l3 e3 k3, PySem.W.mg_of X G a3⟩
  have d4 : Df K mg "_law_edges" (top 46) := ⟨_, _, fun_mk (st := (top 46)) l4 e4 k4, PySem.W.mg_of X G a4⟩
  have d5 : Df K mg "_law_drawn_walk" (top 47) := ⟨_, _, fun_mk (st := (top 47)) l5 e5 k5, PySem.W.mg_of X G a5⟩
  have d6 : Df K mg "_law_order" (top 43) := ⟨_, _, fun_mk (st := (top 43)) l6 e6 k6, PySem.W.mg_of X G a6⟩
  have d7 : Df K mg "is_whole" (top 9) := ⟨_, _, fun_mk (st := (top 9)) l7 e7 k7, PySem.W.mg_of X G a7⟩
  have d8 : Df K mg "is_integer" (top 10) := ⟨_, _, fun_mk (st := (top 10)) l8 e8 k8, PySem.W.mg_of X G a8⟩
  have d9 : Df K mg "is_side" (top 12) := ⟨_, _, fun_mk (st := (top 12)) l9 e9 k9, PySem.W.mg_of X G a9⟩
  have d10 : Df K mg "is_event" (top 11) := ⟨_, _, fun_mk (st := (top 11)) l10 e10 k10, PySem.W.mg_of X G a10⟩
  have d11 : Df K mg "is_rule" (top 13) := ⟨_, _, fun_mk (st := (top 13)) l11 e11 k11, PySem.W.mg_of X G a11⟩
  have d12 : Df K mg "is_net" (top 14) := ⟨_, _, fun_mk (st := (top 14)) l12 e12 k12, PySem.W.mg_of X G a12⟩
  have d13 : Df K mg "check_net" (top 16) := ⟨_, _, fun_mk (st := (top 16)) l13 e13 k13, PySem.W.mg_of X G a13⟩
  have d14 : Df K mg "is_times" (top 15) := ⟨_, _, fun_mk (st := (top 15)) l14 e14 k14, PySem.W.mg_of X G a14⟩
  have d15 : Df K mg "check_times" (top 17) := ⟨_, _, fun_mk (st := (top 17)) l15 e15 k15, PySem.W.mg_of X G a15⟩
  have d16 : Df K mg "rule_excess" (top 19) := ⟨_, _, fun_mk (st := (top 19)) l16 e16 k16, PySem.W.mg_of X G a16⟩
  have d17 : Df K mg "rule_excesses" (top 20) := ⟨_, _, fun_mk (st := (top 20)) l17 e17 k17, PySem.W.mg_of X G a17⟩
  have d18 : Df K mg "excess" (top 21) := ⟨_, _, fun_mk (st := (top 21)) l18 e18 k18, PySem.W.mg_of X G a18⟩
  have d19 : Df K mg "first_broken" (top 22) := ⟨_, _, fun_mk (st := (top 22)) l19 e19 k19, PySem.W.mg_of X G a19⟩
  have d20 : Df K mg "keeps" (top 23) := ⟨_, _, fun_mk (st := (top 23)) l20 e20 k20, PySem.W.mg_of X G a20⟩
  have d21 : Df K mg "edge_course" (top 24) := ⟨_, _, fun_mk (st := (top 24)) l21 e21 k21, PySem.W.mg_of X G a21⟩
  have d22 : Df K mg "all_edges" (top 25) := ⟨_, _, fun_mk (st := (top 25)) l22 e22 k22, PySem.W.mg_of X G a22⟩
  have d23 : Df K mg "edges" (top 26) := ⟨_, _, fun_mk (st := (top 26)) l23 e23 k23, PySem.W.mg_of X G a23⟩
  have d24 : Df K mg "check_event" (top 18) := ⟨_, _, fun_mk (st := (top 18)) l24 e24 k24, PySem.W.mg_of X G a24⟩
  have d25 : Df K mg "walk_end" (top 27) := ⟨_, _, fun_mk (st := (top 27)) l25 e25 k25, PySem.W.mg_of X G a25⟩
  have d26 : Df K mg "is_walk" (top 29) := ⟨_, _, fun_mk (st := (top 29)) l26 e26 k26, PySem.W.mg_of X G a26⟩
  have d27 : Df K mg "weight_sum" (top 28) := ⟨_, _, fun_mk (st := (top 28)) l27 e27 k27, PySem.W.mg_of X G a27⟩
  have d28 : Df K mg "walk_length" (top 30) := ⟨_, _, fun_mk (st := (top 30)) l28 e28 k28, PySem.W.mg_of X G a28⟩
  have d29 : Df K mg "turned" (top 35) := ⟨_, _, fun_mk (st := (top 35)) l29 e29 k29, PySem.W.mg_of X G a29⟩
  have d30 : Df K mg "are_events" (top 32) := ⟨_, _, fun_mk (st := (top 32)) l30 e30 k30, PySem.W.mg_of X G a30⟩
  have d31 : Df K mg "is_order" (top 33) := ⟨_, _, fun_mk (st := (top 33)) l31 e31 k31, PySem.W.mg_of X G a31⟩
  have d32 : Df K mg "renamed" (top 36) := ⟨_, _, fun_mk (st := (top 36)) l32 e32 k32, PySem.W.mg_of X G a32⟩
  have d33 : Df K mg "is_choice" (top 34) := ⟨_, _, fun_mk (st := (top 34)) l33 e33 k33, PySem.W.mg_of X G a33⟩
  have d34 : Df K mg "part" (top 37) := ⟨_, _, fun_mk (st := (top 37)) l34 e34 k34, PySem.W.mg_of X G a34⟩
  have d35 : Df K mg "with_rule" (top 38) := ⟨_, _, fun_mk (st := (top 38)) l35 e35 k35, PySem.W.mg_of X G a35⟩
  have d36 : Df K mg "_law_told" (top 48) := ⟨_, _, fun_mk (st := (top 48)) l36 e36 k36, PySem.W.mg_of X G a36⟩
  have d37 : Df K mg "_law_rule" (top 44) := ⟨_, _, fun_mk (st := (top 44)) l37 e37 k37, PySem.W.mg_of X G a37⟩
  have e := hfa.symm.trans (PySem.W.mg_of X G a38)
  cases e
  refine ⟨PySem.W.fnOf "law" "law" (defArgs (top 49)) (defBody (top 49)) (defScope (top 49)) .none kV38 dc38 pm38 an38 cd38 ct38, fun s v => .of_eq rfl, fun base _ _ => ?_⟩
  have X_0 : XC l.prog w K mg base 0 C0 := ⟨PySem.W.mg_of X G xa0, ⟨⟨_, _, _, _, _, _, _, _, _, _, _, _, _, _, _, xl0, by rfl⟩, xg0, xz0, ya0, xu0⟩, xj0, ⟨xh0, xi0, xz0, yb0⟩,
    ⟨fI0, _, xk0, xo0, ini_ok (fun_mk (st := (clsInit (top 2))) xp0 xt0 xy0) ⟨rfl, rfl, rfl, by decide +kernel, rfl, by decide +kernel, by decide +kernel⟩ rfl (by decide) (fun cdv A outer s H Q E => ⟨pv 0, pv 1, rfl⟩), (fun_mk (st := (clsInit (top 2))) xp0 xt0 xy0).binds (ps := ["self", "name"]) fun _ _ _ _ _ _ us hl => match us, hl with | [_, _], _ => rfl⟩⟩
  have X_2 : XC l.prog w K mg base 2 C2 := ⟨PySem.W.mg_of X G xa2, ⟨⟨_, _, _, _, _, _, _, _, _, _, _, _, _, _, _, xl2, by rfl⟩, xg2, xz2, ya2, xu2⟩, xj2, ⟨xh2, xi2, xz2, yb2⟩,
    ⟨fI2, _, xk2, xo2, ini_ok (fun_mk (st := (clsInit (top 3))) xp2 xt2 xy2) ⟨rfl, rfl, rfl, by decide +kernel, rfl, by decide +kernel, by decide +kernel⟩ rfl (by decide) (fun cdv A outer s H Q E => ⟨pv 0, pv 1, rfl⟩), (fun_mk (st := (clsInit (top 3))) xp2 xt2 xy2).binds (ps := ["self", "what"]) fun _ _ _ _ _ _ us hl => match us, hl with | [_, _], _ => rfl⟩⟩
  have N_BadValue : mg "BadValue" = some (.ref B_BadValue) := PySem.W.mg_of X G ha_BadValue
  have E_BadValue : ExF K mg B_BadValue [some true, none, some false] := by
    intro c b C hc hm
    match c, hc with
    | 0, hc => cases (X_0.gC.symm.trans hm); cases hc; exact PySem.W.exm_ref hb_BadValue hc_BadValue hd_BadValue he_BadValue_0
    | 1, hc => simp at hc
    | 2, hc => cases (X_2.gC.symm.trans hm); cases hc; exact PySem.W.exm_ref hb_BadValue hc_BadValue hd_BadValue he_BadValue_2
    | n + 3, hc => simp at hc
  have N_BideError : mg "BideError" = some (.ref B_BideError) := PySem.W.mg_of X G ha_BideError
  have E_BideError : ExF K mg B_BideError [some true, none, some true] := by
    intro c b C hc hm
    match c, hc with
    | 0, hc => cases (X_0.gC.symm.trans hm); cases hc; exact PySem.W.exm_ref hb_BideError hc_BideError hd_BideError he_BideError_0
    | 1, hc => simp at hc
    | 2, hc => cases (X_2.gC.symm.trans hm); cases hc; exact PySem.W.exm_ref hb_BideError hc_BideError hd_BideError he_BideError_2
    | n + 3, hc => simp at hc
  have I_BadValue : KitF K mg (.ref B_BadValue) [some true, none, some false] := by
    intro c b C hc hm
    match c, hc with
    | 0, hc => cases (X_0.gC.symm.trans hm); cases hc; exact ⟨kit_ref hc_BadValue hd_BadValue he_BadValue_0 X_0.oc, ⟨xh0, xi0, xz0, yb0, yc0, yf, yg, yd0⟩⟩
    | 1, hc => simp at hc
    | 2, hc => cases (X_2.gC.symm.trans hm); cases hc; exact ⟨kit_ref hc_BadValue hd_BadValue he_BadValue_2 X_2.oc, ⟨xh2, xi2, xz2, yb2, yc2, yf, yg, yd2⟩⟩
    | n + 3, hc => simp at hc
  have I_BideError : KitF K mg (.ref B_BideError) [some true, none, some true] := by
    intro c b C hc hm
    match c, hc with
    | 0, hc => cases (X_0.gC.symm.trans hm); cases hc; exact ⟨kit_ref hc_BideError hd_BideError he_BideError_0 X_0.oc, ⟨xh0, xi0, xz0, yb0, yc0, yf, yg, yd0⟩⟩
    | 1, hc => simp at hc
    | 2, hc => cases (X_2.gC.symm.trans hm); cases hc; exact ⟨kit_ref hc_BideError hd_BideError he_BideError_2 X_2.oc, ⟨xh2, xi2, xz2, yb2, yc2, yf, yg, yd2⟩⟩
    | n + 3, hc => simp at hc
  have I_ValueError : KitF K mg (.type "ValueError") [some true, none, some true] := by
    intro c b C hc hm
    match c, hc with
    | 0, hc => cases (X_0.gC.symm.trans hm); cases hc; exact ⟨kit_ve ye0, ⟨xh0, xi0, xz0, yb0, yc0, yf, yg, yd0⟩⟩
    | 1, hc => simp at hc
    | 2, hc => cases (X_2.gC.symm.trans hm); cases hc; exact ⟨kit_ve ye2, ⟨xh2, xi2, xz2, yb2, yc2, yf, yg, yd2⟩⟩
    | n + 3, hc => simp at hc
  have G_L_stream : Fx l.prog w K mg base 1 "_law_stream" ["script"] (spStream K) := fx_L_stream d0 T 
  have G_L_next : Fx l.prog w K mg base 1 "_law_next" ["stream", "many"] (spS K 1 f_next) := fx_L_next d1 T 
  have G_L_times : Fx l.prog w K mg base 2 "_law_times" ["stream", "size", "far"] (spS K 2 f_L_times) := fx_L_times d2 T G_L_next
  have G_L_pick : Fx l.prog w K mg base 2 "_law_pick" ["stream", "rows"] (spS K 1 f_L_pick) := fx_L_pick d3 T G_L_next
  have G_L_edges : Fx l.prog w K mg base 1 "_law_edges" ["net"] (spD K 1 f_L_edges) := fx_L_edges d4 T 
  have G_L_drawn_walk : Fx l.prog w K mg base 3 "_law_drawn_walk" ["stream", "net", "start", "most"] (spS K 3 f_L_drawn_walk) := fx_L_drawn_walk d5 T G_L_next G_L_pick G_L_edges
  have G_L_order : Fx l.prog w K mg base 2 "_law_order" ["stream", "many"] (spS K 1 f_L_order) := fx_L_order d6 T G_L_next
  have G_is_whole : Fx l.prog w K mg base 1 "is_whole" ["value"] (spD K 1 f_is_whole) := fx_is_whole d7 T 
  have G_is_integer : Fx l.prog w K mg base 2 "is_integer" ["value", "least", "greatest"] (spD K 3 f_is_integer) := fx_is_integer d8 T G_is_whole
  have G_is_side : Fx l.prog w K mg base 3 "is_side" ["value"] (spD K 1 f_is_side) := fx_is_side d9 T G_is_integer
  have G_is_event : Fx l.prog w K mg base 3 "is_event" ["value", "size"] (spD K 2 f_is_event) := fx_is_event d10 T G_is_integer
  have G_is_rule : Fx l.prog w K mg base 4 "is_rule" ["value", "size"] (spD K 2 f_is_rule) := fx_is_rule d11 T G_is_side G_is_event
  have G_is_net : Fx l.prog w K mg base 5 "is_net" ["value"] (spD K 1 f_is_net) := fx_is_net d12 T G_is_integer G_is_rule
  have G_check_net : Fx l.prog w K mg base 6 "check_net" ["net"] (spD K 1 f_check_net) := fx_check_net d13 T G_is_net
  have GX_check_net : FxX l.prog w K mg base 6 "check_net" ["net"] 1 f_check_net fX_check_net := fxX_check_net G_check_net d13 T G_is_net  X_0 X_2
  have G_is_times : Fx l.prog w K mg base 3 "is_times" ["value", "net"] (spD K 2 f_is_times) := fx_is_times d14 T G_is_integer
  have G_check_times : Fx l.prog w K mg base 4 "check_times" ["net", "times"] (spD K 2 f_check_times) := fx_check_times d15 T G_is_times
  have GX_check_times : FxX l.prog w K mg base 4 "check_times" ["net", "times"] 2 f_check_times fX_check_times := fxX_check_times G_check_times d15 T G_is_times  X_0 X_2
  have G_rule_excess : Fx l.prog w K mg base 1 "rule_excess" ["rule", "times"] (spD K 2 f_rule_excess) := fx_rule_excess d16 T 
  have G_rule_excesses : Fx l.prog w K mg base 2 "rule_excesses" ["net", "times"] (spD K 2 f_rule_excesses) := fx_rule_excesses d17 T G_rule_excess
  have G_excess : Fx l.prog w K mg base 7 "excess" ["net", "times"] (spD K 2 f_excess) := fx_excess d18 T G_check_net G_check_times G_rule_excesses
  have GX_excess : FxX l.prog w K mg base 7 "excess" ["net", "times"] 2 f_excess fX_excess := fxX_excess G_excess d18 T G_check_net G_check_times G_rule_excesses GX_check_net GX_check_times X_0 X_2
  have G_first_broken : Fx l.prog w K mg base 8 "first_broken" ["net", "times"] (spD K 2 f_first_broken) := fx_first_broken d19 T G_excess
  have GX_first_broken : FxX l.prog w K mg base 8 "first_broken" ["net", "times"] 2 f_first_broken fX_first_broken := fxX_first_broken G_first_broken d19 T G_excess GX_excess X_0 X_2
  have G_keeps : Fx l.prog w K mg base 9 "keeps" ["net", "times"] (spD K 2 f_keeps) := fx_keeps d20 T G_first_broken
  have GX_keeps : FxX l.prog w K mg base 9 "keeps" ["net", "times"] 2 f_keeps fX_keeps := fxX_keeps G_keeps d20 T G_first_broken GX_first_broken X_0 X_2
  have G_edge_course : Fx l.prog w K mg base 3 "edge_course" ["net", "value"] (spD K 2 f_edge_course) := fx_edge_course d21 T G_is_integer
  have G_all_edges : Fx l.prog w K mg base 4 "all_edges" ["net"] (spD K 1 f_all_edges) := fx_all_edges d22 T G_edge_course
  have G_edges : Fx l.prog w K mg base 7 "edges" ["net"] (spD K 1 f_edges) := fx_edges d23 T G_check_net G_all_edges
  have GX_edges : FxX l.prog w K mg base 7 "edges" ["net"] 1 f_edges fX_edges := fxX_edges G_edges d23 T G_check_net G_all_edges GX_check_net X_0 X_2
  have G_check_event : Fx l.prog w K mg base 4 "check_event" ["net", "name", "event"] (spD K 3 f_check_event) := fx_check_event d24 T G_is_event
  have GX_check_event : FxX l.prog w K mg base 4 "check_event" ["net", "name", "event"] 3 f_check_event fX_check_event := fxX_check_event G_check_event d24 T G_is_event  X_0 X_2
  have G_walk_end : Fx l.prog w K mg base 4 "walk_end" ["net", "start", "value"] (spD K 3 f_walk_end) := fx_walk_end d25 T G_edge_course
  have G_is_walk : Fx l.prog w K mg base 7 "is_walk" ["net", "start", "end", "value"] (spD K 4 f_is_walk) := fx_is_walk d26 T G_check_net G_check_event G_walk_end
  have GX_is_walk : FxX l.prog w K mg base 7 "is_walk" ["net", "start", "end", "value"] 4 f_is_walk fX_is_walk := fxX_is_walk G_is_walk d26 T G_check_net G_check_event G_walk_end GX_check_net GX_check_event X_0 X_2
  have G_weight_sum : Fx l.prog w K mg base 4 "weight_sum" ["net", "walk"] (spD K 2 f_weight_sum) := fx_weight_sum d27 T G_edge_course
  have G_walk_length : Fx l.prog w K mg base 7 "walk_length" ["net", "walk"] (spD K 2 f_walk_length) := fx_walk_length d28 T G_check_net G_weight_sum G_walk_end
  have GX_walk_length : FxX l.prog w K mg base 7 "walk_length" ["net", "walk"] 2 f_walk_length fX_walk_length := fxX_walk_length G_walk_length d28 T G_check_net G_weight_sum G_walk_end GX_check_net X_0 X_2
  have G_turned : Fx l.prog w K mg base 7 "turned" ["net"] (spD K 1 f_turned) := fx_turned d29 T G_check_net
  have GX_turned : FxX l.prog w K mg base 7 "turned" ["net"] 1 f_turned fX_turned := fxX_turned G_turned d29 T G_check_net GX_check_net X_0 X_2
  have G_are_events : Fx l.prog w K mg base 4 "are_events" ["value", "size"] (spD K 2 f_are_events) := fx_are_events d30 T G_is_event
  have G_is_order : Fx l.prog w K mg base 5 "is_order" ["value", "size"] (spD K 2 f_is_order) := fx_is_order d31 T G_are_events
  have G_renamed : Fx l.prog w K mg base 7 "renamed" ["net", "order"] (spD K 2 f_renamed) := fx_renamed d32 T G_check_net G_is_order
  have GX_renamed : FxX l.prog w K mg base 7 "renamed" ["net", "order"] 2 f_renamed fX_renamed := fxX_renamed G_renamed d32 T G_check_net G_is_order GX_check_net X_0 X_2
  have G_is_choice : Fx l.prog w K mg base 5 "is_choice" ["value", "size"] (spD K 2 f_is_choice) := fx_is_choice d33 T G_are_events
  have G_part : Fx l.prog w K mg base 7 "part" ["net", "chosen"] (spD K 2 f_part) := fx_part d34 T G_check_net G_is_choice
  have GX_part : FxX l.prog w K mg base 7 "part" ["net", "chosen"] 2 f_part fX_part := fxX_part G_part d34 T G_check_net G_is_choice GX_check_net X_0 X_2
  have G_with_rule : Fx l.prog w K mg base 7 "with_rule" ["net", "rule"] (spD K 2 f_with_rule) := fx_with_rule d35 T G_check_net G_is_rule
  have GX_with_rule : FxX l.prog w K mg base 7 "with_rule" ["net", "rule"] 2 f_with_rule fX_with_rule := fxX_with_rule G_with_rule d35 T G_check_net G_is_rule GX_check_net X_0 X_2
  have G_L_told : Fx l.prog w K mg base 10 "_law_told" ["word", "parts"] (spD K 2 f_L_told) := fx_L_told d36 T G_keeps G_excess G_first_broken G_edges G_is_walk G_walk_length G_turned G_renamed G_part G_with_rule GX_keeps GX_excess GX_first_broken GX_edges GX_is_walk GX_walk_length GX_turned GX_renamed GX_part GX_with_rule X_0 X_2 N_BadValue E_BadValue N_BideError E_BideError I_BadValue I_BideError I_ValueError
  have G_L_rule : Fx l.prog w K mg base 3 "_law_rule" ["stream", "size", "far"] (spS K 2 f_L_rule) := fx_L_rule d37 T G_L_next G_L_pick
  exact fx_law (fun_mk (st := (top 49)) l38 e38 k38) T G_L_stream G_L_times G_L_next G_L_drawn_walk G_L_order G_L_told G_L_rule G_L_pick pure
theorem walk {l : PySem.W.OpenLaw} {q : Program} {loose : List Str} {XP : (Str → Option Value) → Heap → Prop} {YP : World → Heap → Prop} {d : DefRec} {K : Params → PySem.W.Frag} (hn : l.most = some 63) (hdf : d.params.defaults = [])
    (hY : ∀ (w : World) (h : Heap), YP w h → (K w.params).In h)
    (F : ∀ (w : World) (mg : Str → Option Value) (fa : Addr) (h : Heap), (K w.params).In h → h.Ns mainGlobals mg → mg d.name = some (.ref fa) →
      ∃ fd : FuncData, (∀ (s : Shared) (u : Value), BindsTo s fd ⟨[u], []⟩ [("script", u)]) ∧ ∀ base : Heap, (K w.params).In base → base.Ns mainGlobals mg → FnOk l.prog w (K w.params) mg base CX0 11 fa fd ["script"] (spLaw (K w.params))) :
    PySem.W.WalkO q loose XP YP l.row.toRowW d [] (fun f vs => PySem.call f vs) :=
  L2.walk_of (n := 63) (k := 11) (x := "script") (CX := fun _ => CX0) (sp := fun w => spLaw (K w.params)) hn (by decide) hdf ⟨rfl, by decide, by decide⟩ hY F (fun _ _ a ns hl _ hS => ⟨a, ns, rfl, hS, hl, fun _ => rfl⟩) fun _ _ _ _ _ z => z
end Law
open PySem PySem.W PyProof.Rows in
set_option maxRecDepth 100000 in
set_option maxHeartbeats 0 in
theorem PySem.Challenge.cw_allbide_k07_refusals_of_nets_holds : PySem.Challenge.rw_allbide_k07_refusals_of_nets.Holds := by
  w_on; o_law; k_head; (case hw => w_witness2)
  k_fill
  refine Law.walk (l := PySem.Challenge.rw_allbide_k07_refusals_of_nets) rfl rfl (fun w h Y => PySem.W.kIn_of Y) ?F
  case F =>
    intro w mg fa h KX G hmg
    refine' Law.all_mk KX G hmg ?a0 ?l0 ?e0 ?k0 ?a1 ?l1 ?e1 ?k1 ?a2 ?l2 ?e2 ?k2 ?a3 ?l3 ?e3 ?k3 ?a4 ?l4 ?e4 ?k4 ?a5 ?l5 ?e5 ?k5 ?a6 ?l6 ?e6 ?k6 ?a7 ?l7 ?e7 ?k7 ?a8 ?l8 ?e8 ?k8 ?a9 ?l9 ?e9 ?k9 ?a10 ?l10 ?e10 ?k10 ?a11 ?l11 ?e11 ?k11 ?a12 ?l12 ?e12 ?k12 ?a13 ?l13 ?e13 ?k13 ?a14 ?l14 ?e14 ?k14 ?a15 ?l15 ?e15 ?k15 ?a16 ?l16 ?e16 ?k16 ?a17 ?l17 ?e17 ?k17 ?a18 ?l18 ?e18 ?k18 ?a19 ?l19 ?e19 ?k19 ?a20 ?l20 ?e20 ?k20 ?a21 ?l21 ?e21 ?k21 ?a22 ?l22 ?e22 ?k22 ?a23 ?l23 ?e23 ?k23 ?a24 ?l24 ?e24 ?k24 ?a25 ?l25 ?e25 ?k25 ?a26 ?l26 ?e26 ?k26 ?a27 ?l27 ?e27 ?k27 ?a28 ?l28 ?e28 ?k28 ?a29 ?l29 ?e29 ?k29 ?a30 ?l30 ?e30 ?k30 ?a31 ?l31 ?e31 ?k31 ?a32 ?l32 ?e32 ?k32 ?a33 ?l33 ?e33 ?k33 ?a34 ?l34 ?e34 ?k34 ?a35 ?l35 ?e35 ?k35 ?a36 ?l36 ?e36 ?k36 ?a37 ?l37 ?e37 ?k37 ?a38 ?l38 ?e38 ?k38 ?xa0 ?xl0 ?xg0 ?xh0 ?xi0 ?xj0 ?xk0 ?xo0 ?xp0 ?xt0 ?xu0 ?xy0 ?xz0 ?ya0 ?yb0 ?xa2 ?xl2 ?xg2 ?xh2 ?xi2 ?xj2 ?xk2 ?xo2 ?xp2 ?xt2 ?xu2 ?xy2 ?xz2 ?ya2 ?yb2 ?yc0 ?yd0 ?ye0 ?yc2 ?yd2 ?ye2 ?yf ?yg ?ha_BadValue ?hb_BadValue ?hc_BadValue ?hd_BadValue ?he_BadValue_0 ?he_BadValue_2 ?ha_BideError ?hb_BideError ?hc_BideError ?hd_BideError ?he_BideError_0 ?he_BideError_2 ?z0 ?z1 ?z2 ?z3 ?z4 ?z5 ?z6 ?z7 ?z8 ?z9 ?z10 ?z11 ?z12 ?z13 ?z14 ?y0 ?y1 ?y2 ?y3 Law.pure_law
    (case a0 => k_is)
    (case l0 => k_is)
    (case e0 => k_is)
    (case k0 => k_is)
    (case a1 => k_is)
    (case l1 => k_is)
    (case e1 => k_is)
    (case k1 => k_is)
    (case a2 => k_is)
    (case l2 => k_is)
    (case e2 => k_is)
    (case k2 => k_is)
    (case a3 => k_is)
    (case l3 => k_is)
    (case e3 => k_is)
    (case k3 => k_is)
    (case a4 => k_is)
    (case l4 => k_is)
    (case e4 => k_is)
    (case k4 => k_is)
    (case a5 => k_is)
    (case l5 => k_is)
    (case e5 => k_is)
    (case k5 => k_is)
    (case a6 => k_is)
    (case l6 => k_is)
    (case e6 => k_is)
    (case k6 => k_is)
    (case a7 => k_is)
    (case l7 => k_is)
    (case e7 => k_is)
    (case k7 => k_is)
    (case a8 => k_is)
    (case l8 => k_is)
    (case e8 => k_is)
    (case k8 => k_is)
    (case a9 => k_is)
    (case l9 => k_is)
    (case e9 => k_is)
    (case k9 => k_is)
    (case a10 => k_is)
    (case l10 => k_is)
    (case e10 => k_is)
    (case k10 => k_is)
    (case a11 => k_is)
    (case l11 => k_is)
    (case e11 => k_is)
    (case k11 => k_is)
    (case a12 => k_is)
    (case l12 => k_is)
    (case e12 => k_is)
    (case k12 => k_is)
    (case a13 => k_is)
    (case l13 => k_is)
    (case e13 => k_is)
    (case k13 => k_is)
    (case a14 => k_is)
    (case l14 => k_is)
    (case e14 => k_is)
    (case k14 => k_is)
    (case a15 => k_is)
    (case l15 => k_is)
    (case e15 => k_is)
    (case k15 => k_is)
    (case a16 => k_is)
    (case l16 => k_is)
    (case e16 => k_is)
    (case k16 => k_is)
    (case a17 => k_is)
    (case l17 => k_is)
    (case e17 => k_is)
    (case k17 => k_is)
    (case a18 => k_is)
    (case l18 => k_is)
    (case e18 => k_is)
    (case k18 => k_is)
    (case a19 => k_is)
    (case l19 => k_is)
    (case e19 => k_is)
    (case k19 => k_is)
    (case a20 => k_is)
    (case l20 => k_is)
    (case e20 => k_is)
    (case k20 => k_is)
    (case a21 => k_is)
    (case l21 => k_is)
    (case e21 => k_is)
    (case k21 => k_is)
    (case a22 => k_is)
    (case l22 => k_is)
    (case e22 => k_is)
    (case k22 => k_is)
    (case a23 => k_is)
    (case l23 => k_is)
    (case e23 => k_is)
    (case k23 => k_is)
    (case a24 => k_is)
    (case l24 => k_is)
    (case e24 => k_is)
    (case k24 => k_is)
    (case a25 => k_is)
    (case l25 => k_is)
    (case e25 => k_is)
    (case k25 => k_is)
    (case a26 => k_is)
    (case l26 => k_is)
    (case e26 => k_is)
    (case k26 => k_is)
    (case a27 => k_is)
    (case l27 => k_is)
    (case e27 => k_is)
    (case k27 => k_is)
    (case a28 => k_is)
    (case l28 => k_is)
    (case e28 => k_is)
    (case k28 => k_is)
    (case a29 => k_is)
    (case l29 => k_is)
    (case e29 => k_is)
    (case k29 => k_is)
    (case a30 => k_is)
    (case l30 => k_is)
    (case e30 => k_is)
    (case k30 => k_is)
    (case a31 => k_is)
    (case l31 => k_is)
    (case e31 => k_is)
    (case k31 => k_is)
    (case a32 => k_is)
    (case l32 => k_is)
    (case e32 => k_is)
    (case k32 => k_is)
    (case a33 => k_is)
    (case l33 => k_is)
    (case e33 => k_is)
    (case k33 => k_is)
    (case a34 => k_is)
    (case l34 => k_is)
    (case e34 => k_is)
    (case k34 => k_is)
    (case a35 => k_is)
    (case l35 => k_is)
    (case e35 => k_is)
    (case k35 => k_is)
    (case a36 => k_is)
    (case l36 => k_is)
    (case e36 => k_is)
    (case k36 => k_is)
    (case a37 => k_is)
    (case l37 => k_is)
    (case e37 => k_is)
    (case k37 => k_is)
    (case a38 => k_is)
    (case l38 => k_is)
    (case e38 => k_is)
    (case k38 => k_is)
    (case xa0 => k_is)
    (case xl0 => k_is)
    (case xg0 => k_is)
    (case xh0 => k_is)
    (case xi0 => k_is)
    (case xj0 => k_is)
    (case xk0 => k_is)
    (case xo0 => k_is)
    (case xp0 => k_is)
    (case xt0 => k_is)
    (case xu0 => k_is)
    (case xy0 => k_is)
    (case xz0 => k_is)
    (case ya0 => k_is)
    (case yb0 => k_is)
    (case xa2 => k_is)
    (case xl2 => k_is)
    (case xg2 => k_is)
    (case xh2 => k_is)
    (case xi2 => k_is)
    (case xj2 => k_is)
    (case xk2 => k_is)
    (case xo2 => k_is)
    (case xp2 => k_is)
    (case xt2 => k_is)
    (case xu2 => k_is)
    (case xy2 => k_is)
    (case xz2 => k_is)
    (case ya2 => k_is)
    (case yb2 => k_is)
    (case yc0 => k_is)
    (case yd0 => k_is)
    (case ye0 => k_is)
    (case yc2 => k_is)
    (case yd2 => k_is)
    (case ye2 => k_is)
    (case yf => k_is)
    (case yg => k_is)
    (case ha_BadValue => k_is)
    (case hb_BadValue => k_is)
    (case hc_BadValue => k_is)
    (case hd_BadValue => k_is)
    (case he_BadValue_0 => k_is)
    (case he_BadValue_2 => k_is)
    (case ha_BideError => k_is)
    (case hb_BideError => k_is)
    (case hc_BideError => k_is)
    (case hd_BideError => k_is)
    (case he_BideError_0 => k_is)
    (case he_BideError_2 => k_is)
    (case z0 => k_is)
    (case z1 => k_is)
    (case z2 => k_is)
    (case z3 => k_is)
    (case z4 => k_is)
    (case z5 => k_is)
    (case z6 => k_is)
    (case z7 => k_is)
    (case z8 => k_is)
    (case z9 => k_is)
    (case z10 => k_is)
    (case z11 => k_is)
    (case z12 => k_is)
    (case z13 => k_is)
    (case z14 => k_is)
    (case y0 => k_is)
    (case y1 => k_is)
    (case y2 => k_is)
    (case y3 => k_is)
