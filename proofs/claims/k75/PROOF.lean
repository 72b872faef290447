import PyProof.Rows.All
import Wide.All
import OpenK.AllK
import Wide.FinOn
import HandS.ForMost
import HandS.IsInst
import HandS.TupAny
import HandS.TupMul
import HandS.Style
import HandS.Zip
import KE.GoesEnum
import KE.KRevSl
import HandS.Conv
import HandS.Dict
import HandS.SortKw
import HandS.SetFor
import HandS.More
import HandS.NoneIn
import HandS.Deep
import HandS.Exc
import HandS.ExcOwn
import HandS.ExcInit
import HandS.ExcField
import HandS.WordsExc
import HandS.ExcIs
import KE.KExcIs
import HandS.DictComp
import HandS.ListItems
import KE.KSortTupAny
import HandS.Keys
import HandS.SortInts
import HandS.SlotsOwn
import HandS.ExcValue
import KE.GoesZip
import KE.GoesMore
import KE.SortData
import KE.KDictZip
import KE.DatumOrd
import HandS.TryOnly
import KE.KDictPairs
import HandS.Codes
import PyProof.StrOps2
import HandS.FStr
import HandS.Replace
import HandS.More
import KE.KDictZip
import HandS.ReplaceLit
import KE.GoesRaise
import PySem.Challenge.RW_allbide_k75_problems_of_texts
set_option Elab.async false
set_option linter.all false
set_option maxRecDepth 100000
set_option maxHeartbeats 8000000
namespace GR
section
variable {X : Type} (sv ev : X → Nat) (wv : X → Int) (es : List X)
def wlen (p : List X) : Int := (p.map wv).sum
def IsW : Nat → Nat → List X → Prop
  | i, j, [] => i = j
  | i, j, x :: p => x ∈ es ∧ sv x = i ∧ IsW (ev x) j p
variable {sv ev wv es}
theorem wlen_nil : wlen wv ([] : List X) = 0 := rfl
theorem wlen_cons (x : X) (p : List X) : wlen wv (x :: p) = wv x + wlen wv p := by unfold wlen; rw [List.map_cons, List.sum_cons]
theorem wlen_append : ∀ (p q : List X), wlen wv (p ++ q) = wlen wv p + wlen wv q
  | [], q => by rw [List.nil_append, wlen_nil]; omega
  | x :: p, q => by rw [List.cons_append, wlen_cons, wlen_cons, wlen_append p q]; omega
theorem wlen_one (x : X) : wlen wv [x] = wv x := by rw [wlen_cons, wlen_nil]; omega
theorem isW_append : ∀ {p q : List X} {i j : Nat}, IsW sv ev es i j (p ++ q) ↔ ∃ m, IsW sv ev es i m p ∧ IsW sv ev es m j q
  | [], q, i, j => ⟨fun h => ⟨i, rfl, h⟩, fun ⟨m, h1, h2⟩ => by cases (show i = m from h1); exact h2⟩
  | x :: p, q, i, j => by
    constructor
    · intro ⟨h1, h2, h3⟩
      obtain ⟨m, h4, h5⟩ := isW_append.mp h3
      exact ⟨m, ⟨h1, h2, h4⟩, h5⟩
    · intro ⟨m, ⟨h1, h2, h3⟩, h4⟩
      exact ⟨h1, h2, isW_append.mpr ⟨m, h3, h4⟩⟩
theorem isW_one {x : X} (h : x ∈ es) : IsW sv ev es (sv x) (ev x) [x] := ⟨h, rfl, rfl⟩
/-! ### the vertices of a walk, and a round in a long one -/
def vx (ev : X → Nat) (i : Nat) (p : List X) : List Nat := i :: p.map ev
/-! ### no round below 0 -/
variable (sv ev wv es) in
def NoNeg : Prop := ∀ (i : Nat) (p : List X), IsW sv ev es i i p → 0 ≤ wlen wv p
/-! ### the least length of the walks from i to j -/
variable (sv ev wv es) in
/-- o is the least length of a walk from i to j, none if there is no walk -/
structure Dst (i j : Nat) (o : Option Int) : Prop where
  ex : ∀ L, o = some L → ∃ p, IsW sv ev es i j p ∧ wlen wv p = L
  le : ∀ p, IsW sv ev es i j p → ∃ L, o = some L ∧ L ≤ wlen wv p
theorem Dst.uniq {i j : Nat} {o o' : Option Int} (h : Dst sv ev wv es i j o) (h' : Dst sv ev wv es i j o') : o = o' := by
  match o, o' with
  | none, none => rfl
  | some L, none =>
    obtain ⟨p, h1, _⟩ := h.ex L rfl
    obtain ⟨_, h2, _⟩ := h'.le p h1
    cases h2
  | none, some L =>
    obtain ⟨p, h1, _⟩ := h'.ex L rfl
    obtain ⟨_, h2, _⟩ := h.le p h1
    cases h2
  | some L, some L' =>
    obtain ⟨p, h1, h2⟩ := h.ex L rfl
    obtain ⟨q, h3, h4⟩ := h'.ex L' rfl
    obtain ⟨_, e1, l1⟩ := h.le q h3
    obtain ⟨_, e2, l2⟩ := h'.le p h1
    cases e1; cases e2
    congr 1
    omega
/-! options as numbers with infinity -/
def omin : Option Int → Option Int → Option Int
  | none, b => b
  | some a, none => some a
  | some a, some b => some (if b < a then b else a)
def oadd : Option Int → Option Int → Option Int
  | some a, some b => some (a + b)
  | _, _ => none
/-- a is at most b -/
def ole : Option Int → Option Int → Prop
  | _, none => True
  | none, some _ => False
  | some a, some b => a ≤ b
theorem ole_refl (a : Option Int) : ole a a := by cases a <;> simp [ole]
theorem ole_trans {a b c : Option Int} (h : ole a b) (h' : ole b c) : ole a c := by
  cases a <;> cases b <;> cases c <;> simp_all [ole]; omega
theorem omin_cases (a b : Option Int) : omin a b = a ∨ omin a b = b := by
  cases a <;> cases b <;> simp [omin]; omega
theorem oadd_mono {a b c d : Option Int} (h1 : ole a b) (h2 : ole c d) : ole (oadd a c) (oadd b d) := by
  cases a <;> cases b <;> cases c <;> cases d <;> simp_all [ole, oadd]; omega
theorem Dst.ole {i j : Nat} {o : Option Int} (h : Dst sv ev wv es i j o) {p : List X} (hp : IsW sv ev es i j p) : ole o (some (wlen wv p)) := by
  obtain ⟨L, rfl, hl⟩ := h.le p hp
  exact hl
theorem Dst.self {i : Nat} (hz : NoNeg sv ev wv es) : Dst sv ev wv es i i (some 0) :=
  ⟨fun L e => by cases e; exact ⟨[], rfl, rfl⟩, fun p h => ⟨0, rfl, hz i p h⟩⟩
/-! ### a fold with what is done -/
theorem foldl_inv {α β : Type} {f : β → α → β} (P : List α → β → Prop) : ∀ {l : List α} {b : β}, P [] b → (∀ pre x c, x ∈ l → P pre c → P (pre ++ [x]) (f c x)) → P l (l.foldl f b) := by
  intro l b h0 hs
  have key : ∀ (r pre : List α) (c : β), (∀ x ∈ r, x ∈ l) → P pre c → P (pre ++ r) (r.foldl f c) := by
    intro r
    induction r with
    | nil => intro pre c _ h; rw [List.append_nil]; exact h
    | cons x r ih =>
      intro pre c hr h
      rw [List.foldl_cons]
      have := ih (pre ++ [x]) (f c x) (fun y hy => hr y (List.mem_cons_of_mem _ hy)) (hs pre x c (hr x List.mem_cons_self) h)
      rw [List.append_assoc] at this
      exact this
  have := key l [] b (fun _ h => h) h0
  rwa [List.nil_append] at this
/-! ### the table over each third one -/
abbrev Tb := Nat → Nat → Option Int
def upd2 (T : Tb) (i j : Nat) (o : Option Int) : Tb := fun a b => if a = i ∧ b = j then o else T a b
def fwCell (k : Nat) (T : Tb) (ij : Nat × Nat) : Tb := upd2 T ij.1 ij.2 (omin (T ij.1 ij.2) (oadd (T ij.1 k) (T k ij.2)))
def prs (n : Nat) : List (Nat × Nat) := (List.range n).flatMap fun i => (List.range n).map fun j => (i, j)
def fwSt (n : Nat) (T : Tb) (k : Nat) : Tb := (prs n).foldl (fwCell k) T
def fw (n : Nat) (T : Tb) : Tb := (List.range n).foldl (fwSt n) T
variable (sv ev wv es) in
def Sound (T : Tb) : Prop := ∀ i j L, T i j = some L → ∃ p, IsW sv ev es i j p ∧ wlen wv p = L
theorem Sound.upd {T : Tb} (h : Sound sv ev wv es T) {i j : Nat} {o : Option Int} (ho : ∀ L, o = some L → ∃ p, IsW sv ev es i j p ∧ wlen wv p = L) : Sound sv ev wv es (upd2 T i j o) := by
  intro a b L e
  unfold upd2 at e
  split at e
  · rename_i hab; obtain ⟨rfl, rfl⟩ := hab; exact ho L e
  · exact h a b L e
theorem Sound.add {T : Tb} (h : Sound sv ev wv es T) {i j k : Nat} {L : Int} (e : oadd (T i k) (T k j) = some L) : ∃ p, IsW sv ev es i j p ∧ wlen wv p = L := by
  cases e1 : T i k with
  | none => rw [e1] at e; cases e
  | some a =>
    cases e2 : T k j with
    | none => rw [e1, e2] at e; cases e
    | some b =>
      rw [e1, e2] at e
      cases e
      obtain ⟨p, p1, p2⟩ := h i k a e1
      obtain ⟨q, q1, q2⟩ := h k j b e2
      exact ⟨p ++ q, isW_append.mpr ⟨k, p1, q1⟩, by rw [wlen_append, p2, q2]⟩
theorem Sound.cell {T : Tb} (h : Sound sv ev wv es T) (k : Nat) (ij : Nat × Nat) : Sound sv ev wv es (fwCell k T ij) := by
  refine h.upd fun L e => ?_
  rcases omin_cases (T ij.1 ij.2) (oadd (T ij.1 k) (T k ij.2)) with z | z
  · rw [z] at e; exact h _ _ _ e
  · rw [z] at e; exact h.add e
theorem Sound.fw {T : Tb} (h : Sound sv ev wv es T) (n : Nat) : Sound sv ev wv es (GR.fw n T) := by
  unfold GR.fw
  refine foldl_inv (P := fun _ R => Sound sv ev wv es R) h fun _ k c _ hc => ?_
  unfold fwSt
  exact foldl_inv (P := fun _ R => Sound sv ev wv es R) hc fun _ x c _ h => h.cell k x
/-! ### tables of walks: one edge more, again and again -/
abbrev Wt (X : Type) := Nat → Option (List X)
def upd1 (R : Wt X) (j : Nat) (o : Option (List X)) : Wt X := fun b => if b = j then o else R b
variable (sv ev wv) in
def bfOne (row : Wt X) (R : Wt X) (x : X) : Wt X := match row (sv x) with
  | none => R
  | some p => (match R (ev x) with
    | none => upd1 R (ev x) (some (p ++ [x]))
    | some q => if wlen wv p + wv x < wlen wv q then upd1 R (ev x) (some (p ++ [x])) else R)
variable (wv) in
def oL (o : Option (List X)) : Option Int := o.map (wlen wv)
theorem bfOne_n {row R : Wt X} {x : X} (h : row (sv x) = none) : bfOne sv ev wv row R x = R := by unfold bfOne; rw [h]
theorem bfOne_a {row R : Wt X} {x : X} {p : List X} (h : row (sv x) = some p) (h2 : R (ev x) = none) : bfOne sv ev wv row R x = upd1 R (ev x) (some (p ++ [x])) := by unfold bfOne; rw [h]; dsimp only; rw [h2]
theorem bfOne_b {row R : Wt X} {x : X} {p q : List X} (h : row (sv x) = some p) (h2 : R (ev x) = some q) : bfOne sv ev wv row R x = if wlen wv p + wv x < wlen wv q then upd1 R (ev x) (some (p ++ [x])) else R := by unfold bfOne; rw [h]; dsimp only; rw [h2]
theorem bfOne_c {row R : Wt X} {x : X} {p : List X} (h : row (sv x) = some p) : (bfOne sv ev wv row R x = upd1 R (ev x) (some (p ++ [x])) ∧ ole (some (wlen wv p + wv x)) (oL wv (R (ev x)))) ∨ (bfOne sv ev wv row R x = R ∧ ole (oL wv (R (ev x))) (some (wlen wv p + wv x))) := by
  cases h2 : R (ev x) with
  | none => exact .inl ⟨bfOne_a h h2, True.intro⟩
  | some q =>
    rw [bfOne_b h h2]
    by_cases c : wlen wv p + wv x < wlen wv q
    · rw [if_pos c]; exact .inl ⟨rfl, Int.le_of_lt c⟩
    · rw [if_neg c]; exact .inr ⟨rfl, Int.not_lt.mp c⟩
theorem bfOne_le (row R : Wt X) (x : X) (j : Nat) : ole (oL wv (bfOne sv ev wv row R x j)) (oL wv (R j)) := by
  cases h : row (sv x) with
  | none => rw [bfOne_n h]; exact ole_refl _
  | some p =>
    rcases bfOne_c (ev := ev) (wv := wv) (R := R) h with ⟨e, l⟩ | ⟨e, l⟩
    · rw [e]
      unfold upd1
      split
      · rename_i z; subst z
        show ole (some (wlen wv (p ++ [x]))) _
        rw [wlen_append, wlen_one]; exact l
      · exact ole_refl _
    · rw [e]; exact ole_refl _
theorem bfOne_at (row R : Wt X) (x : X) : ole (oL wv (bfOne sv ev wv row R x (ev x))) (oadd (oL wv (row (sv x))) (some (wv x))) := by
  cases h : row (sv x) with
  | none => simp [oL, oadd, ole]
  | some p =>
    rcases bfOne_c (ev := ev) (wv := wv) (R := R) h with ⟨e, l⟩ | ⟨e, l⟩
    · rw [e]
      unfold upd1
      rw [if_pos rfl]
      show ole (some (wlen wv (p ++ [x]))) _
      rw [wlen_append, wlen_one]; exact ole_refl _
    · rw [e]; exact l
variable (sv ev wv es) in
def bfRow (row : Wt X) : Wt X := es.foldl (bfOne sv ev wv row) row
theorem bfRow_le (row : Wt X) (j : Nat) : ole (oL wv (bfRow sv ev wv es row j)) (oL wv (row j)) :=
  foldl_inv (f := bfOne sv ev wv row) (l := es) (b := row) (P := fun _ (R : Wt X) => ole (oL wv (R j)) (oL wv (row j))) (ole_refl _) fun _ x c _ h => ole_trans (bfOne_le row c x j) h
theorem bfRow_at (row : Wt X) {x : X} (hx : x ∈ es) : ole (oL wv (bfRow sv ev wv es row (ev x))) (oadd (oL wv (row (sv x))) (some (wv x))) :=
  foldl_inv (f := bfOne sv ev wv row) (l := es) (b := row) (P := fun pre (R : Wt X) => ∀ y ∈ pre, ole (oL wv (R (ev y))) (oadd (oL wv (row (sv y))) (some (wv y)))) (fun y hy => absurd hy List.not_mem_nil) (fun pre x c _ h y hy => by
    rcases List.mem_append.mp hy with hy | hy
    · exact ole_trans (bfOne_le row c x _) (h y hy)
    · obtain rfl := List.mem_singleton.mp hy
      exact bfOne_at row c y) x hx
theorem bfRow_from (row : Wt X) {j : Nat} {q : List X} (h : bfRow sv ev wv es row j = some q) : row j = some q ∨ ∃ x ∈ es, ∃ p, row (sv x) = some p ∧ ev x = j ∧ q = p ++ [x] := by
  refine foldl_inv (f := bfOne sv ev wv row) (l := es) (b := row) (P := fun _ R => ∀ j q, R j = some q → row j = some q ∨ ∃ x ∈ es, ∃ p, row (sv x) = some p ∧ ev x = j ∧ q = p ++ [x]) (fun _ _ h => .inl h) (fun pre x c hx ih j q h => ?_) j q h
  cases hp : row (sv x) with
  | none => rw [bfOne_n hp] at h; exact ih j q h
  | some p =>
    rcases bfOne_c (ev := ev) (wv := wv) (R := c) hp with ⟨e, _⟩ | ⟨e, _⟩
    · rw [e] at h
      unfold upd1 at h
      split at h
      · rename_i e; cases h; exact .inr ⟨x, hx, p, hp, e.symm, rfl⟩
      · exact ih j q h
    · rw [e] at h; exact ih j q h
variable (sv ev wv es) in
/-- a row of the walks from i with at most k edges -/
structure Kd (k i : Nat) (row : Wt X) : Prop where
  ok : ∀ j q, row j = some q → IsW sv ev es i j q ∧ q.length ≤ k
  le : ∀ j p, IsW sv ev es i j p → p.length ≤ k → ole (oL wv (row j)) (some (wlen wv p))
theorem Kd.zero (i : Nat) : Kd sv ev wv es 0 i (fun j => if i = j then some [] else none) := by
  refine ⟨fun j q h => ?_, fun j p h hl => ?_⟩
  · split at h
    · rename_i e; cases h; exact ⟨e, Nat.le_refl _⟩
    · cases h
  · match p, h, hl with
    | [], h, _ =>
      have e : i = j := h
      rw [if_pos e]
      exact Int.le_refl _
theorem Kd.succ {k i : Nat} {row : Wt X} (h : Kd sv ev wv es k i row) : Kd sv ev wv es (k + 1) i (bfRow sv ev wv es row) := by
  refine ⟨fun j q hq => ?_, fun j p hp hl => ?_⟩
  · rcases bfRow_from row hq with hq | ⟨x, hx, p, h1, rfl, rfl⟩
    · have := h.ok j q hq
      exact ⟨this.1, by omega⟩
    · have := h.ok _ p h1
      exact ⟨isW_append.mpr ⟨_, this.1, isW_one hx⟩, by rw [List.length_append]; simpa using this.2⟩
  · rcases List.eq_nil_or_concat p with rfl | ⟨p, x, rfl⟩
    · exact ole_trans (bfRow_le row j) (h.le j [] hp (Nat.zero_le _))
    · rw [List.concat_eq_append] at hp hl ⊢
      obtain ⟨m, h1, h2, h3, h4⟩ := isW_append.mp hp
      subst h3
      have h4 : ev x = j := h4
      subst h4
      rw [List.length_append] at hl
      have := h.le _ p h1 (by simp at hl; omega)
      rw [wlen_append, wlen_one]
      exact ole_trans (bfRow_at row h2) (oadd_mono this (ole_refl (some (wv x))))
end
end GR
namespace Z2
open PySem L2
abbrev Fg := PySem.W.Frag
abbrev D := PyData
/-- a dict whose keys are tuples of ints and texts, one's own: keys, where they lie, values -/
def dctO (w : World) (a : Addr) (xs : List (List Key × Addr × Value)) : HO := .ext fun h => (a == sysModules) = false ∧ xs.length ≤ sizeLine ∧ ∃ o es ep, h.get? a = some o ∧ o.ExactDict ∧ o.data = .dict es ep ∧
  (∀ P : Program, es.toList = xs.map (entryOfKey (tupleKind (mixKind P w)))) ∧ (xs.map (·.1)).Nodup
/-- plain values -/
inductive R0 : V → D → Prop
  | non : R0 .non .none
  | bl (b : Bool) : R0 (.bl b) (.bool b)
  | int (i : Int) : R0 (.int i) (.int i)
def kI (ns : List Int) : List Key := ns.map Sum.inl
/-- a dict whose keys are tuples of ints, with plain values, as data -/
inductive KF (K : Fg) (I : Hp) : List (List Key × Addr × Value) → List (D × D) → Prop
  | nil : KF K I [] []
  | cons {ns : List Int} {b : Addr} {u : Value} {v : V} {d : D} {xs : List (List Key × Addr × Value)} {kvs : List (D × D)} : SqT K I b (ns.map V.int) → RelV v u → R0 v d → KF K I xs kvs → KF K I ((kI ns, b, u) :: xs) ((.tuple (ns.map PyData.int), d) :: kvs)
mutual
inductive Rp (K : Fg) (I : Hp) : V → D → Prop
  | non : Rp K I .non .none
  | bl (b : Bool) : Rp K I (.bl b) (.bool b)
  | int (i : Int) : Rp K I (.int i) (.int i)
  | str (x : Str) : Rp K I (.str x) (.str x)
  | lst {a : Addr} {vs : List V} {ds : List D} : I a = some (.lst vs) → Rps K I vs ds → Rp K I (.ref a) (.list ds)
  | tup {a : Addr} {vs : List V} {ds : List D} : SqT K I a vs → Rps K I vs ds → Rp K I (.ref a) (.tuple ds)
  | dic {a : Addr} {w : World} {xs : List (List Key × Addr × Value)} {kvs : List (D × D)} : I a = some (dctO w a xs) → KF K I xs kvs → Rp K I (.ref a) (.dict kvs)
inductive Rps (K : Fg) (I : Hp) : List V → List D → Prop
  | nil : Rps K I [] []
  | cons {v : V} {vs : List V} {d : D} {ds : List D} : Rp K I v d → Rps K I vs ds → Rps K I (v :: vs) (d :: ds)
end
theorem Same.sqt {K : Fg} {H H' : Hp} {a : Addr} {xs : List V} (e : Same H H') (h : SqT K H a xs) : SqT K H' a xs := by
  rcases h with (h | ⟨o, h⟩) | h
  · exact .inl (.inl (e _ _ h))
  · exact .inl (.inr ⟨o, e _ _ h⟩)
  · exact .inr h
theorem KF.mono {K : Fg} {I I' : Hp} (e : Same I I') : ∀ {xs : List (List Key × Addr × Value)} {ks : List (D × D)}, KF K I xs ks → KF K I' xs ks
  | _, _, .nil => .nil
  | _, _, .cons h1 h2 h3 t => .cons (Same.sqt e h1) h2 h3 (KF.mono e t)
section
variable {K : Fg} {I I' : Hp}
theorem R0.rp {v : V} {d : D} (h : R0 v d) : Rp K I v d := by
  cases h with
  | non => exact .non
  | bl b => exact .bl b
  | int i => exact .int i
mutual
theorem Rp.mono (e : Same I I') : ∀ (d : D) (v : V), Rp K I v d → Rp K I' v d
  | .none, _, h => by cases h; exact .non
  | .bool _, _, h => by cases h; exact .bl _
  | .int _, _, h => by cases h; exact .int _
  | .str _, _, h => by cases h; exact .str _
  | .list ds, _, h => by
    cases h with
    | lst h1 h2 => exact .lst (e _ _ h1) (Rps.mono e ds _ h2)
  | .tuple ds, _, h => by
    cases h with
    | tup h1 h2 => exact .tup (Same.sqt e h1) (Rps.mono e ds _ h2)
  | .dict _, _, h => by
    cases h with
    | dic h1 h2 => exact .dic (e _ _ h1) (KF.mono e h2)
theorem Rps.mono (e : Same I I') : ∀ (ds : List D) (vs : List V), Rps K I vs ds → Rps K I' vs ds
  | [], _, h => by cases h; exact .nil
  | d :: ds, _, h => by
    cases h with
    | cons h1 h2 => exact .cons (Rp.mono e d _ h1) (Rps.mono e ds _ h2)
end
mutual
theorem Rp.dp {H : Hp} (e : Same I H) : ∀ (d : D) (v : V), d.canLay0 = true → Rp K I v d → Dp K H v d
  | .none, _, _, h => by cases h; exact .non
  | .bool _, _, _, h => by cases h; exact .bl _
  | .int _, _, _, h => by cases h; exact .int _
  | .str _, _, _, h => by cases h; exact .str _
  | .list ds, _, c, h => by
    cases h with
    | lst h1 h2 => exact .lst (SqL.of (e _ _ h1)) (Rps.dp e ds _ (by simpa [PyData.canLay0] using c) h2)
  | .tuple ds, _, c, h => by
    cases h with
    | tup h1 h2 => exact .tup (Same.sqt e h1) (Rps.dp e ds _ (by simpa [PyData.canLay0] using c) h2)
  | .dict _, _, c, h => by simp [PyData.canLay0] at c
theorem Rps.dp {H : Hp} (e : Same I H) : ∀ (ds : List D) (vs : List V), PyData.canLayAll0 ds = true → Rps K I vs ds → DpAll K H vs ds
  | [], _, _, h => by cases h; exact .nil
  | d :: ds, _, c, h => by
    have c : (d.canLay0 && PyData.canLayAll0 ds) = true := by simpa [PyData.canLayAll0] using c
    rw [Bool.and_eq_true] at c
    cases h with
    | cons h1 h2 => exact .cons (Rp.dp e d _ c.1 h1) (Rps.dp e ds _ c.2 h2)
end
theorem Rps.length : ∀ {vs : List V} {ds : List D}, Rps K I vs ds → vs.length = ds.length
  | _, _, .nil => rfl
  | _, _, .cons _ t => by rw [List.length_cons, List.length_cons, Rps.length t]
theorem Rps.get : ∀ {vs : List V} {ds : List D} {i : Nat} {x : V}, Rps K I vs ds → vs[i]? = some x → ∃ d, ds[i]? = some d ∧ Rp K I x d
  | _, _, _, _, .nil, e => by simp at e
  | _, _, 0, _, .cons r _, e => by simp at e; subst e; exact ⟨_, rfl, r⟩
  | _, _, i + 1, x, .cons _ t, e => by
    obtain ⟨u, h1, h2⟩ := Rps.get (i := i) (x := x) t (by simpa using e)
    exact ⟨u, by simpa using h1, h2⟩
theorem Rps.got : ∀ {vs : List V} {ds : List D} {i : Nat} {d : D}, Rps K I vs ds → ds[i]? = some d → ∃ x, vs[i]? = some x ∧ Rp K I x d
  | _, _, _, _, .nil, e => by simp at e
  | _, _, 0, _, .cons r _, e => by simp at e; subst e; exact ⟨_, rfl, r⟩
  | _, _, i + 1, x, .cons _ t, e => by
    obtain ⟨u, h1, h2⟩ := Rps.got (i := i) (d := x) t (by simpa using e)
    exact ⟨u, by simpa using h1, h2⟩
theorem Rps.append : ∀ {vs ws : List V} {ds es : List D}, Rps K I vs ds → Rps K I ws es → Rps K I (vs ++ ws) (ds ++ es)
  | _, _, _, _, .nil, s => s
  | _, _, _, _, .cons r t, s => .cons r (Rps.append t s)
theorem Rps.take : ∀ {vs : List V} {ds : List D} (n : Nat), Rps K I vs ds → Rps K I (vs.take n) (ds.take n)
  | _, _, 0, _ => .nil
  | _, _, _ + 1, .nil => .nil
  | _, _, n + 1, .cons r t => .cons r (Rps.take n t)
theorem Rps.drop : ∀ {vs : List V} {ds : List D} (n : Nat), Rps K I vs ds → Rps K I (vs.drop n) (ds.drop n)
  | _, _, 0, r => r
  | _, _, _ + 1, .nil => .nil
  | _, _, n + 1, .cons _ t => Rps.drop n t
theorem Rps.set {x : V} {d : D} (r : Rp K I x d) : ∀ {vs : List V} {ds : List D} (i : Nat), Rps K I vs ds → Rps K I (vs.set i x) (ds.set i d)
  | _, _, _, .nil => .nil
  | _, _, 0, .cons _ t => .cons r t
  | _, _, i + 1, .cons q t => .cons q (Rps.set r i t)
theorem Rps.rep {vs : List V} {ds : List D} (r : Rps K I vs ds) : ∀ n : Nat, Rps K I (List.replicate n vs).flatten (List.replicate n ds).flatten
  | 0 => .nil
  | n + 1 => by
    rw [List.replicate_succ, List.replicate_succ, List.flatten_cons, List.flatten_cons]
    exact Rps.append r (Rps.rep r n)
/-- ints as ints -/
theorem Rps.ints : ∀ {vs : List V} {ns : List Int}, Rps K I vs (ns.map PyData.int) → vs = ns.map V.int
  | _, [], h => by cases h; rfl
  | _, n :: ns, h => by
    cases h with
    | cons h1 h2 => cases h1; rw [List.map_cons, Rps.ints h2]
theorem Rps.bools : ∀ {vs : List V} {ns : List Bool}, Rps K I vs (ns.map PyData.bool) → vs = ns.map V.bl
  | _, [], h => by cases h; rfl
  | _, n :: ns, h => by
    cases h with
    | cons h1 h2 => cases h1; rw [List.map_cons, Rps.bools h2]
end
/-! ### worlds -/
structure Gr (m : Option Addr) (I H I' H' : Hp) : Prop where
  ii : Same I I'
  ih : Same I' H'
  hh : ∀ a o, H a = some o → m ≠ some a → H' a = some o
  fr : ∀ a, I a = none → H a ≠ none → I' a = none
  th : ∀ a, H a ≠ none → H' a ≠ none
/-- the draws' list at s: the numbers, the cell, the place -/
def Strm (I H : Hp) (s : Addr) : Prop := I s = none ∧ ∃ (l : Addr) (c k : Int) (ns : List Int), H s = some (.lst [.ref l, .int c, .int k]) ∧ I l = some (.lst (ns.map V.int)) ∧ 0 ≤ k
inductive KD (K : Fg) (I : Hp) : List (List Key × Addr × Value) → List (List Key × D) → Prop
  | nil : KD K I [] []
  | cons {k : List Key} {b : Addr} {u : Value} {v : V} {d : D} {xs : List (List Key × Addr × Value)} {ks : List (List Key × D)} : SqT K I b (k.map kV) → RelV v u → Rp K I v d → KD K I xs ks → KD K I ((k, b, u) :: xs) ((k, d) :: ks)
theorem KD.mono {K : Fg} {I I' : Hp} (e : Same I I') : ∀ {xs : List (List Key × Addr × Value)} {ks : List (List Key × D)}, KD K I xs ks → KD K I' xs ks
  | _, _, .nil => .nil
  | _, _, .cons h1 h2 h3 t => .cons (Same.sqt e h1) h2 (Rp.mono e _ _ h3) (KD.mono e t)
/-- a dict of one's own whose keys are ints -/
inductive KDI (K : Fg) (I : Hp) : List (Key × V) → List (Int × D) → Prop
  | nil : KDI K I [] []
  | cons {i : Int} {v : V} {d : D} {xs : List (Key × V)} {ks : List (Int × D)} : Rp K I v d → KDI K I xs ks → KDI K I ((.inl i, v) :: xs) ((i, d) :: ks)
theorem KDI.mono {K : Fg} {I I' : Hp} (e : Same I I') : ∀ {xs : List (Key × V)} {ks : List (Int × D)}, KDI K I xs ks → KDI K I' xs ks
  | _, _, .nil => .nil
  | _, _, .cons h t => .cons (Rp.mono e _ _ h) (KDI.mono e t)
/-- rows of one's own -/
inductive MR (K : Fg) (H0 I H : Hp) : List Addr → List (List D) → Prop
  | nil : MR K H0 I H [] []
  | cons {b : Addr} {vs : List V} {ds : List D} {bs : List Addr} {rows : List (List D)} : H0 b = none → I b = none → H b = some (.lst vs) → Rps K I vs ds → b ∉ bs → MR K H0 I H bs rows → MR K H0 I H (b :: bs) (ds :: rows)
theorem MR.stays {K : Fg} {H0 I H I' H' : Hp} {bs : List Addr} {rows : List (List D)} (ii : Same I I') (m : MR K H0 I H bs rows) (h : ∀ b ∈ bs, H0 b = none → I b = none → H b ≠ none → I' b = none ∧ H' b = H b) : MR K H0 I' H' bs rows := by
  induction m with
  | nil => exact .nil
  | @cons b vs ds bs rows h1 h2 h3 h4 h5 t ih =>
    obtain ⟨g1, g2⟩ := h b List.mem_cons_self h1 h2 (by rw [h3]; exact fun z => nomatch z)
    exact .cons h1 g1 (g2.trans h3) (Rps.mono ii _ _ h4) h5 (ih fun c hc => h c (List.mem_cons_of_mem _ hc))
theorem MR.live {K : Fg} {H0 I H : Hp} {bs : List Addr} {rows : List (List D)} (m : MR K H0 I H bs rows) : ∀ b ∈ bs, H0 b = none ∧ I b = none ∧ ∃ vs, H b = some (.lst vs) := by
  induction m with
  | nil => exact fun b hb => absurd hb List.not_mem_nil
  | @cons b vs ds bs rows h1 h2 h3 h4 h5 t ih =>
    intro c hc
    rcases List.mem_cons.mp hc with rfl | hc
    · exact ⟨h1, h2, _, h3⟩
    · exact ih c hc
/-- what is lent to a function: a list or a dict that another one owns -/
inductive Lnt where
  | l (ds : List D) | d (w : World) (ks : List (List Key × D))
def LntR (K : Fg) (I H : Hp) (a : Addr) : Lnt → Prop
  | .l ds => ∃ vs, H a = some (.lst vs) ∧ Rps K I vs ds
  | .d w ks => ∃ xs, H a = some (dctO w a xs) ∧ KD K I xs ks
theorem LntR.stays {K : Fg} {I I' H H' : Hp} {a : Addr} {x : Lnt} (h : LntR K I H a x) (ii : Same I I') (k : ∀ o, H a = some o → H' a = some o) : LntR K I' H' a x := by
  cases x with
  | l ds => obtain ⟨vs, h1, h2⟩ := h; exact ⟨vs, k _ h1, Rps.mono ii _ _ h2⟩
  | d w ks => obtain ⟨xs, h1, h2⟩ := h; exact ⟨xs, k _ h1, KD.mono ii h2⟩
/-- an instance's fields that are data; those that are lists of its own; there are no others -/
def FldD (K : Fg) (I : Hp) (vs : List (Str × V)) (fs : List (Str × D)) : Prop := ∀ f d, (f, d) ∈ fs → ∃ u, vs.lookup f = some u ∧ Rp K I u d
theorem FldD.mono {K : Fg} {I I' : Hp} {vs : List (Str × V)} {fs : List (Str × D)} (e : Same I I') (h : FldD K I vs fs) : FldD K I' vs fs := fun f d m => by
  obtain ⟨u, h1, h2⟩ := h f d m
  exact ⟨u, h1, Rp.mono e d u h2⟩
def FldL (vs : List (Str × V)) (fs : List (Str × D)) (ls : List (Str × Addr × List D)) : Prop := (∀ f b ds, (f, b, ds) ∈ ls → vs.lookup f = some (.ref b)) ∧ ∀ f, fs.lookup f = none → ls.lookup f = none → vs.lookup f = none
inductive Sl where
  | dat (d : D) | own (ds : List D) | strm | dct (w : World) (ks : List (List Key × D)) | dki (ks : List (Int × D)) | mat (rows : List (List D)) | lnt (x : Lnt) | rng (n : Int) | obj (a C : Addr) (fs : List (Str × D)) (ls : List (Str × Addr × List D)) | obf (a C : Addr) (fs : List (Str × D))
abbrev Ev := List (Option Sl)
structure P0 where
  m : Option Addr
  I0 : Hp
  H0 : Hp
  B : Hp
/-- a step of the world -/
structure Stp (p : P0) (I H I' H' : Hp) : Prop where
  gr : Gr p.m I H I' H'
  st : ∀ s, p.m = some s → Strm I H s → Strm I' H' s
def SlR (K : Fg) (p : P0) (I H : Hp) : Sl → V → Prop
  | .dat d, v => Rp K I v d
  | .own ds, v => ∃ a vs, v = .ref a ∧ p.H0 a = none ∧ I a = none ∧ H a = some (.lst vs) ∧ Rps K I vs ds
  | .strm, v => ∃ a, v = .ref a ∧ p.m = some a
  | .dct w ks, v => ∃ a xs, v = .ref a ∧ p.H0 a = none ∧ I a = none ∧ H a = some (dctO w a xs) ∧ KD K I xs ks
  | .dki ks, v => ∃ a xs, v = .ref a ∧ p.H0 a = none ∧ I a = none ∧ H a = some (.dK xs) ∧ KDI K I xs ks
  | .rng n, v => ∃ a, v = .ref a ∧ I a = some (.rng 0 n)
  | .mat rows, v => ∃ (a : Addr) (bs : List Addr), v = .ref a ∧ p.H0 a = none ∧ I a = none ∧ H a = some (.lst (bs.map V.ref)) ∧ a ∉ bs ∧ MR K p.H0 I H bs rows
  | .lnt x, v => ∃ a, v = .ref a ∧ p.H0 a ≠ none ∧ p.m ≠ some a ∧ LntR K I H a x
  | .obj a C fs ls, v => v = .ref a ∧ (∃ (dx : Addr) (vs : List (Str × V)), I a = some (.ins C dx vs) ∧ FldD K I vs fs ∧ FldL vs fs ls) ∧ MR K p.H0 I H (ls.map (·.2.1)) (ls.map (·.2.2))
  | .obf a C fs, v => v = .ref a ∧ ∃ (dx : Addr) (vs : List (Str × V)), I a = some (.ins C dx vs) ∧ FldD K I vs fs ∧ FldL vs fs []
/-- the cells that a name's own lists take -/
def Cell (x : Sl) (v : V) (H : Hp) (c : Addr) : Prop := match x with
  | .own _ => v = .ref c
  | .mat _ => v = .ref c ∨ ∃ (a : Addr) (bs : List Addr), v = .ref a ∧ H a = some (.lst (bs.map V.ref)) ∧ c ∈ bs
  | .obj _ _ _ ls => c ∈ ls.map (·.2.1)
  | _ => False
def isMat : Sl → Bool | .mat _ => true | .obj _ _ _ _ => true | _ => false
def isTop : Sl → Bool | .mat _ => true | _ => false
theorem top_mat {x : Sl} (h : isTop x = true) : isMat x = true := by cases x <;> first | rfl | exact h
/-- what two names own is apart, where one is a table of rows -/
def SepM (env : Ev) (σ : L2.St) (H : Hp) : Prop := ∀ (i j : Nat) (x y : Sl) (u v : V) (c : Addr), i ≠ j → (isMat x || isMat y) = true → env[i]? = some (some x) → env[j]? = some (some y) → σ[i]? = some (some u) → σ[j]? = some (some v) → Cell x u H c → ¬ Cell y v H c
/-- dicts at two names are two dicts -/
def SepD (env : Ev) (σ : L2.St) : Prop := ∀ (i j : Nat) (w w' : World) (x y : List (List Key × D)) (a : Addr), i ≠ j → env[i]? = some (some (.dct w x)) → env[j]? = some (some (.dct w' y)) → σ[i]? = some (some (.ref a)) → σ[j]? ≠ some (some (.ref a))
structure Rel (K : Fg) (p : P0) (env : Ev) (σ : L2.St) (I H : Hp) : Prop where
  gr : Gr p.m p.I0 p.H0 I H
  sl : ∀ (i : Nat) (x : Sl), env[i]? = some (some x) → ∃ v : V, σ[i]? = some (some v) ∧ SlR K p I H x v
  sep : ∀ (i j : Nat) (x y : List D) (a : Addr), i ≠ j → env[i]? = some (some (.own x)) → env[j]? = some (some (.own y)) → σ[i]? = some (some (.ref a)) → σ[j]? ≠ some (some (.ref a))
  st : ∀ s, p.m = some s → p.H0 s ≠ none ∧ Strm I H s
  bs : Same p.B I
  sd : SepD env σ
  sm : SepM env σ H
theorem Gr.refl {m : Option Addr} {I H : Hp} (e : Same I H) : Gr m I H I H := ⟨Same.refl _, e, fun _ _ h _ => h, fun _ h _ => h, fun _ h => h⟩
theorem Gr.trans {m : Option Addr} {I H I1 H1 I2 H2 : Hp} (a : Gr m I H I1 H1) (b : Gr m I1 H1 I2 H2) : Gr m I H I2 H2 :=
  ⟨a.ii.trans b.ii, b.ih, fun c o h n => b.hh c o (a.hh c o h n) n, fun c h n => b.fr c (a.fr c h n) (a.th c n), fun c h => b.th c (a.th c h)⟩
theorem Gr.weak {m : Option Addr} {I H I1 H1 : Hp} (a : Gr none I H I1 H1) : Gr m I H I1 H1 :=
  ⟨a.ii, a.ih, fun c o h _ => a.hh c o h (fun q => nomatch q), a.fr, a.th⟩
theorem Gr.new {m : Option Addr} {I H : Hp} {p : Addr} {o : HO} (e : Same I H) (hp : H p = none) : Gr m I H (upd I p o) (upd H p o) := by
  have ip : I p = none := Same.free e hp
  refine ⟨fun b u h => ?_, fun b u h => ?_, fun b u h _ => ?_, fun b h n => ?_, fun b h => ?_⟩
  · rw [upd_ne (ne_of_none h ip)]; exact h
  · by_cases hb : b = p
    · subst hb; rw [upd_same] at h ⊢; exact h
    · rw [upd_ne hb] at h ⊢; exact e _ _ h
  · rw [upd_ne (ne_of_none h hp)]; exact h
  · have hb : b ≠ p := fun q => n (by rw [q]; exact hp)
    rw [upd_ne hb]; exact h
  · have hb : b ≠ p := fun q => h (by rw [q]; exact hp)
    rw [upd_ne hb]; exact h
/-- a new thing of one's own -/
theorem Gr.fresh {m : Option Addr} {I H : Hp} {p : Addr} {o : HO} (e : Same I H) (hp : H p = none) : Gr m I H I (upd H p o) := by
  refine ⟨Same.refl _, fun b u h => ?_, fun b u h _ => ?_, fun b h n => h, fun b h => ?_⟩
  · rw [upd_ne (ne_of_none (e _ _ h) hp)]; exact e _ _ h
  · rw [upd_ne (ne_of_none h hp)]; exact h
  · have hb : b ≠ p := fun q => h (by rw [q]; exact hp)
    rw [upd_ne hb]; exact h
theorem Strm.grow {I H I' H' : Hp} {s : Addr} (g : Gr none I H I' H') (h : Strm I H s) : Strm I' H' s := by
  obtain ⟨h0, l, c, k, ns, h1, h2, h3⟩ := h
  exact ⟨g.fr _ h0 (by rw [h1]; exact fun q => nomatch q), l, c, k, ns, g.hh _ _ h1 (fun q => nomatch q), g.ii _ _ h2, h3⟩
theorem Stp.refl {p : P0} {I H : Hp} (e : Same I H) : Stp p I H I H := ⟨Gr.refl e, fun _ _ h => h⟩
theorem Stp.trans {p : P0} {I H I1 H1 I2 H2 : Hp} (a : Stp p I H I1 H1) (b : Stp p I1 H1 I2 H2) : Stp p I H I2 H2 :=
  ⟨a.gr.trans b.gr, fun s e h => b.st s e (a.st s e h)⟩
theorem Stp.of {p : P0} {I H I1 H1 : Hp} (a : Gr none I H I1 H1) : Stp p I H I1 H1 := ⟨a.weak, fun _ _ h => h.grow a⟩
theorem Stp.ii {p : P0} {I H I1 H1 : Hp} (a : Stp p I H I1 H1) : Same I I1 := a.gr.ii
theorem Stp.ih {p : P0} {I H I1 H1 : Hp} (a : Stp p I H I1 H1) : Same I1 H1 := a.gr.ih
theorem refs_inj : ∀ {bs cs : List Addr}, bs.map V.ref = cs.map V.ref → bs = cs
  | [], [], _ => rfl
  | [], _ :: _, h => by simp at h
  | _ :: _, [], h => by simp at h
  | b :: bs, c :: cs, h => by
    rw [List.map_cons, List.map_cons] at h
    injection h with h1 h2
    injection h1 with h1
    rw [h1, refs_inj h2]
theorem cell_to {x : Sl} {v : V} {H H' : Hp} {c : Addr} (k : isTop x = true → ∀ a, v = .ref a → H' a = H a) (h : Cell x v H' c) : Cell x v H c := by
  cases x with
  | mat rows =>
    rcases h with h | ⟨a, bs, e1, e2, e3⟩
    · exact .inl h
    · exact .inr ⟨a, bs, e1, by rw [← k rfl a e1]; exact e2, e3⟩
  | own ds => exact h
  | dat d => exact h
  | rng _ => exact h
  | obj _ _ _ _ => exact h
  | obf _ _ _ => exact h
  | strm => exact h
  | dct w ks => exact h
  | dki ks => exact h
  | lnt x => exact h
theorem cell_live {K : Fg} {p : P0} {I H : Hp} {x : Sl} {v : V} {c : Addr} (s : SlR K p I H x v) (h : Cell x v H c) : p.H0 c = none ∧ I c = none ∧ ∃ vs, H c = some (.lst vs) := by
  cases x with
  | mat rows =>
    obtain ⟨a, bs, rfl, e2, e3, e4, e5, e6⟩ := s
    rcases h with h | ⟨a', bs', f1, f2, f3⟩
    · cases h
      exact ⟨e2, e3, _, e4⟩
    · cases f1
      rw [e4] at f2
      have f2 := HO.lst.inj (Option.some.inj f2)
      have : bs = bs' := refs_inj f2
      subst this
      exact e6.live c f3
  | own ds =>
    obtain ⟨a, vs, rfl, e2, e3, e4, e5⟩ := s
    cases h
    exact ⟨e2, e3, _, e4⟩
  | dat d => exact h.elim
  | rng _ => exact h.elim
  | obf _ _ _ => exact h.elim
  | obj _ _ _ _ => exact s.2.2.live c h
  | strm => exact h.elim
  | dct w ks => exact h.elim
  | dki ks => exact h.elim
  | lnt x => exact h.elim
theorem SepM.keep {env : Ev} {σ : L2.St} {H H' : Hp} (h : SepM env σ H) (k : ∀ (i : Nat) (x : Sl) (u : V) (a : Addr), env[i]? = some (some x) → isTop x = true → σ[i]? = some (some u) → u = .ref a → H' a = H a) : SepM env σ H' :=
  fun i j x y u v c n hm e1 e2 s1 s2 c1 c2 => h i j x y u v c n hm e1 e2 s1 s2 (cell_to (fun m a e => k i x u a e1 m s1 e) c1) (cell_to (fun m a e => k j y v a e2 m s2 e) c2)
section
variable {K : Fg} {p : P0} {env : Ev} {σ : L2.St} {I H I' H' : Hp}
theorem Rel.same (r : Rel K p env σ I H) : Same I H := r.gr.ih
theorem Rel.stp (r : Rel K p env σ I H) (s : Stp p I H I' H') : Rel K p env σ I' H' := by
  refine ⟨r.gr.trans s.gr, fun i x e => ?_, r.sep, fun a e => ⟨(r.st a e).1, s.st a e (r.st a e).2⟩, r.bs.trans s.ii, r.sd, r.sm.keep fun i x u a e hm su eu => ?_⟩
  rotate_left
  · obtain ⟨v, hv, h⟩ := r.sl i x e
    rw [su] at hv
    cases hv
    cases x <;> first | (cases hm) | skip
    obtain ⟨a', bs, e1, e2, e3, e4, _, _⟩ := h
    rw [eu] at e1
    cases e1
    have ne : p.m ≠ some a := fun q => (r.st a q).1 e2
    rw [s.gr.hh a _ e4 ne, e4]
  obtain ⟨v, hv, h⟩ := r.sl i x e
  refine ⟨v, hv, ?_⟩
  cases x with
  | dat d => exact Rp.mono s.ii d v h
  | rng _ => obtain ⟨a_, e1_, e2_⟩ := h; exact ⟨a_, e1_, (s.ii) _ _ e2_⟩
  | obf _ _ _ => obtain ⟨e1, dx, vs, e2, e3, e4⟩ := h; exact ⟨e1, dx, vs, s.ii _ _ e2, e3.mono s.ii, e4⟩
  | obj _ _ _ _ =>
    obtain ⟨e1, ⟨dx, vs, e2, e3, e4⟩, e6⟩ := h
    have ne : ∀ b, p.H0 b = none → p.m ≠ some b := fun b z q => (r.st b q).1 z
    refine ⟨e1, ⟨dx, vs, s.ii _ _ e2, e3.mono s.ii, e4⟩, e6.stays s.ii fun b hb z1 z2 z3 => ⟨s.gr.fr b z2 z3, ?_⟩⟩
    cases hz : H b with
    | none => exact absurd hz z3
    | some o => exact s.gr.hh b o hz (ne b z1)
  | own ds =>
    obtain ⟨a, vs, e1, e2, e3, e4, e5⟩ := h
    have ne : p.m ≠ some a := fun q => (r.st a q).1 e2
    exact ⟨a, vs, e1, e2, s.gr.fr a e3 (by rw [e4]; exact fun q => nomatch q), s.gr.hh a _ e4 ne, Rps.mono s.ii ds vs e5⟩
  | strm => exact h
  | lnt x =>
    obtain ⟨a, e1, e2, e3, e4⟩ := h
    exact ⟨a, e1, e2, e3, e4.stays s.ii fun o q => s.gr.hh a o q e3⟩
  | dct w ks =>
    obtain ⟨a, vs, e1, e2, e3, e4, e5⟩ := h
    have ne : p.m ≠ some a := fun q => (r.st a q).1 e2
    exact ⟨a, vs, e1, e2, s.gr.fr a e3 (by rw [e4]; exact fun q => nomatch q), s.gr.hh a _ e4 ne, KD.mono s.ii e5⟩
  | dki ks =>
    obtain ⟨a, vs, e1, e2, e3, e4, e5⟩ := h
    have ne : p.m ≠ some a := fun q => (r.st a q).1 e2
    exact ⟨a, vs, e1, e2, s.gr.fr a e3 (by rw [e4]; exact fun q => nomatch q), s.gr.hh a _ e4 ne, KDI.mono s.ii e5⟩
  | mat rows =>
    obtain ⟨a, bs, e1, e2, e3, e4, e5, e6⟩ := h
    have ne : ∀ b, p.H0 b = none → p.m ≠ some b := fun b z q => (r.st b q).1 z
    refine ⟨a, bs, e1, e2, s.gr.fr a e3 (by rw [e4]; exact fun q => nomatch q), s.gr.hh a _ e4 (ne a e2), e5, e6.stays s.ii fun b hb z1 z2 z3 => ⟨s.gr.fr b z2 z3, ?_⟩⟩
    cases hz : H b with
    | none => exact absurd hz z3
    | some o => exact s.gr.hh b o hz (ne b z1)
theorem Rel.grow (r : Rel K p env σ I H) (g : Gr none I H I' H') : Rel K p env σ I' H' := r.stp (.of g)
theorem getSet {α : Type} {l : List α} {i j : Nat} {x y : α} (h : (l.set i x)[j]? = some y) : (i = j ∧ y = x ∧ i < l.length) ∨ (i ≠ j ∧ l[j]? = some y) := by
  by_cases e : i = j
  · subst e
    by_cases q : i < l.length
    · rw [List.getElem?_set_self q] at h
      exact .inl ⟨rfl, (Option.some.inj h).symm, q⟩
    · rw [List.getElem?_eq_none (by rw [List.length_set]; omega)] at h; cases h
  · rw [List.getElem?_set_ne e] at h
    exact .inr ⟨e, h⟩
end
theorem SepD.set {env : Ev} {σ : L2.St} (h : SepD env σ) (i : Nat) (x : Option Sl) (v : Option V) (hx : ∀ w ks, x ≠ some (.dct w ks)) : SepD (env.set i x) (σ.set i v) := by
  intro j k w w' y z a n e1 e2 e3 e4
  rcases getSet e1 with ⟨_, q, _⟩ | ⟨n1, q1⟩
  · exact hx _ _ q.symm
  · rcases getSet e2 with ⟨_, q, _⟩ | ⟨n2, q2⟩
    · exact hx _ _ q.symm
    · rw [List.getElem?_set_ne n1] at e3
      rw [List.getElem?_set_ne n2] at e4
      exact h j k w w' y z a n q1 q2 e3 e4
theorem SepD.setE {env : Ev} {σ : L2.St} (h : SepD env σ) (i : Nat) (x : Option Sl) (hx : ∀ w ks, x ≠ some (.dct w ks)) : SepD (env.set i x) σ := by
  intro j k w w' y z a n e1 e2 e3 e4
  rcases getSet e1 with ⟨_, q, _⟩ | ⟨n1, q1⟩
  · exact hx _ _ q.symm
  · rcases getSet e2 with ⟨_, q, _⟩ | ⟨n2, q2⟩
    · exact hx _ _ q.symm
    · exact h j k w w' y z a n q1 q2 e3 e4
theorem SepM.set {env : Ev} {σ : L2.St} {H : Hp} (h : SepM env σ H) (i : Nat) (x : Option Sl) (v : Option V) (hx : ∀ y, x = some y → ∀ (u : V) (c : Addr), ¬ Cell y u H c) : SepM (env.set i x) (σ.set i v) H := by
  intro j k y z u1 u2 c n hm e1 e2 e3 e4 c1 c2
  rcases getSet e1 with ⟨_, q, _⟩ | ⟨n1, q1⟩
  · exact hx y q.symm u1 c c1
  · rcases getSet e2 with ⟨_, q, _⟩ | ⟨n2, q2⟩
    · exact hx z q.symm u2 c c2
    · rw [List.getElem?_set_ne n1] at e3
      rw [List.getElem?_set_ne n2] at e4
      exact h j k y z u1 u2 c n hm q1 q2 e3 e4 c1 c2
theorem SepM.setE {env : Ev} {σ : L2.St} {H : Hp} (h : SepM env σ H) (i : Nat) (x : Option Sl) (hx : ∀ y, x = some y → ∀ (u : V) (c : Addr), Cell y u H c → ∃ w, env[i]? = some (some w) ∧ Cell w u H c ∧ isMat w = isMat y) : SepM (env.set i x) σ H := by
  intro j k y z u1 u2 c n hm e1 e2 e3 e4 c1 c2
  rcases getSet e1 with ⟨rfl, q, _⟩ | ⟨n1, q1⟩
  · obtain ⟨w, ew, cw, mw⟩ := hx y q.symm u1 c c1
    rcases getSet e2 with ⟨rfl, q', _⟩ | ⟨n2, q2⟩
    · exact n rfl
    · exact h _ k w z u1 u2 c n (by rw [mw]; exact hm) ew q2 e3 e4 cw c2
  · rcases getSet e2 with ⟨rfl, q, _⟩ | ⟨n2, q2⟩
    · obtain ⟨w, ew, cw, mw⟩ := hx z q.symm u2 c c2
      exact h j _ y w u1 u2 c n (by rw [mw]; exact hm) q1 ew e3 e4 c1 cw
    · exact h j k y z u1 u2 c n hm q1 q2 e3 e4 c1 c2
structure RelL (K : Fg) (p : P0) (env : Ev) (σ : L2.St) (I H : Hp) : Prop where
  r : Rel K p env σ I H
  len : env.length = σ.length
theorem RelL.stp {K : Fg} {p : P0} {env : Ev} {σ : L2.St} {I H I' H' : Hp} (r : RelL K p env σ I H) (s : Stp p I H I' H') : RelL K p env σ I' H' := ⟨r.r.stp s, r.len⟩
theorem RelL.same {K : Fg} {p : P0} {env : Ev} {σ : L2.St} {I H : Hp} (r : RelL K p env σ I H) : Same I H := r.r.gr.ih
section
variable {K : Fg} {p : P0} {env : Ev} {σ : L2.St} {I H I' H' : Hp}
theorem RelL.rebase (r : RelL K p env σ I H) {B : Hp} (h : Same B I) : RelL K { p with B := B } env σ I H :=
  ⟨⟨r.r.gr, r.r.sl, r.r.sep, r.r.st, h, r.r.sd, r.r.sm⟩, r.len⟩
/-- a name is given data -/
theorem RelL.setDat (r : RelL K p env σ I H) {v : V} {d : D} (h : Rp K I v d) (i : Nat) : RelL K p (env.set i (some (.dat d))) (σ.set i (some v)) I H := by
  refine ⟨⟨r.r.gr, fun j x e => ?_, fun j k x y a n e1 e2 e3 e4 => ?_, r.r.st, r.r.bs, r.r.sd.set _ _ _ (fun _ _ z => nomatch z), r.r.sm.set _ _ _ (fun _ z _ _ c => by cases z; exact c)⟩, by rw [List.length_set, List.length_set]; exact r.len⟩
  · rcases getSet e with ⟨rfl, q, hl⟩ | ⟨n, q⟩
    · cases q
      exact ⟨v, List.getElem?_set_self (by rw [← r.len]; exact hl), h⟩
    · obtain ⟨u, hu, q⟩ := r.r.sl j x q
      exact ⟨u, by rw [List.getElem?_set_ne n]; exact hu, q⟩
  · rcases getSet e1 with ⟨_, q, _⟩ | ⟨n1, q1⟩
    · cases q
    · rcases getSet e2 with ⟨_, q, _⟩ | ⟨n2, q2⟩
      · cases q
      · rw [List.getElem?_set_ne n1] at e3
        rw [List.getElem?_set_ne n2] at e4
        exact r.r.sep j k x y a n q1 q2 e3 e4
/-- a name is given a list of its own -/
theorem RelL.setOwn (r : RelL K p env σ I H) {a : Addr} {vs : List V} {ds : List D} (h0 : p.H0 a = none) (h1 : I a = none) (h2 : H a = some (.lst vs)) (h3 : Rps K I vs ds)
    (hn : ∀ (j : Nat) (x : List D), env[j]? = some (some (.own x)) → σ[j]? ≠ some (some (.ref a))) (hc : ∀ (j : Nat) (x : Sl) (v : V), env[j]? = some (some x) → isMat x = true → σ[j]? = some (some v) → ¬ Cell x v H a) (i : Nat) : RelL K p (env.set i (some (.own ds))) (σ.set i (some (.ref a))) I H := by
  refine ⟨⟨r.r.gr, fun j x e => ?_, fun j k x y b n e1 e2 e3 e4 => ?_, r.r.st, r.r.bs, r.r.sd.set _ _ _ (fun _ _ z => nomatch z), fun j k y z u1 u2 c n hm e1 e2 e3 e4 c1 c2 => ?_⟩, by rw [List.length_set, List.length_set]; exact r.len⟩
  rotate_left
  rotate_left
  · rcases getSet e1 with ⟨rfl, q, hl⟩ | ⟨n1, q1⟩
    · rw [List.getElem?_set_self (by rw [← r.len]; exact hl)] at e3
      cases e3
      cases q
      cases c1
      rcases getSet e2 with ⟨z, _, _⟩ | ⟨n2, q2⟩
      · exact n z
      · rw [List.getElem?_set_ne n2] at e4
        exact hc k z u2 q2 (by simpa [isMat] using hm) e4 c2
    · rw [List.getElem?_set_ne n1] at e3
      rcases getSet e2 with ⟨rfl, q, hl⟩ | ⟨n2, q2⟩
      · rw [List.getElem?_set_self (by rw [← r.len]; exact hl)] at e4
        cases e4
        cases q
        cases c2
        exact hc j y u1 q1 (by simpa [isMat] using hm) e3 c1
      · rw [List.getElem?_set_ne n2] at e4
        exact r.r.sm j k y z u1 u2 c n hm q1 q2 e3 e4 c1 c2
  · rcases getSet e with ⟨rfl, q, hl⟩ | ⟨n, q⟩
    · cases q
      exact ⟨_, List.getElem?_set_self (by rw [← r.len]; exact hl), a, vs, rfl, h0, h1, h2, h3⟩
    · obtain ⟨u, hu, q⟩ := r.r.sl j x q
      exact ⟨u, by rw [List.getElem?_set_ne n]; exact hu, q⟩
  · rcases getSet e1 with ⟨rfl, q, hl⟩ | ⟨n1, q1⟩
    · rw [List.getElem?_set_self (by rw [← r.len]; exact hl)] at e3
      cases e3
      rcases getSet e2 with ⟨z, _, _⟩ | ⟨n2, q2⟩
      · exact n z
      · rw [List.getElem?_set_ne n2] at e4
        exact hn k y q2 e4
    · rw [List.getElem?_set_ne n1] at e3
      rcases getSet e2 with ⟨rfl, q, hl⟩ | ⟨n2, q2⟩
      · rw [List.getElem?_set_self (by rw [← r.len]; exact hl)] at e4
        cases e4
        exact hn j x q1 e3
      · rw [List.getElem?_set_ne n2] at e4
        exact r.r.sep j k x y b n q1 q2 e3 e4
/-- the own list at a is changed -/
theorem RelL.mutOwn (r : RelL K p env σ I H) {i : Nat} {ds ds' : List D} {a : Addr} {vs' : List V} (e : env[i]? = some (some (.own ds))) (hv : σ[i]? = some (some (.ref a))) (h : Rps K I vs' ds') :
    RelL K p (env.set i (some (.own ds'))) σ I (upd H a (.lst vs')) := by
  obtain ⟨v, hv2, a, vs, e1, e2, e3, e4, e5⟩ := r.r.sl i _ e
  rw [hv] at hv2; cases hv2; cases e1
  have nI : ∀ b o, I b = some o → b ≠ a := fun b o q => ne_of_none q e3
  have nm : p.m ≠ some a := fun q => (r.r.st _ q).1 e2
  have hmat : ∀ (j : Nat) (x : Sl) (v : V), env[j]? = some (some x) → isMat x = true → σ[j]? = some (some v) → ¬ Cell x v H a := fun j x v f1 m f2 c =>
    r.r.sm i j (.own ds) x (.ref a) v a (fun z => by subst z; rw [e] at f1; cases f1; cases m) (by rw [m]; simp [isMat]) e f1 hv f2 rfl c
  refine ⟨⟨⟨r.r.gr.ii, fun b o q => by rw [upd_ne (nI b o q)]; exact r.r.gr.ih b o q, fun b o q n => ?_, r.r.gr.fr, fun b q => ?_⟩, fun j x q => ?_, fun j k x y b n q1 q2 q3 q4 => ?_, fun s q => ⟨(r.r.st s q).1, ?_⟩, r.r.bs, r.r.sd.setE _ _ (fun _ _ z => nomatch z),
      (r.r.sm.setE i (some (.own ds')) (fun y z u c cc => by cases z; exact ⟨_, e, cc, rfl⟩)).keep fun j x u b q m su eu => upd_ne fun z => by
        rcases getSet q with ⟨rfl, w, _⟩ | ⟨_, q⟩
        · cases w; cases m
        · subst z
          refine hmat j x u q (top_mat m) su ?_
          cases x <;> first | (cases m) | skip
          exact .inl eu⟩,
    by rw [List.length_set]; exact r.len⟩
  · rw [upd_ne (ne_of_none q e2)]; exact r.r.gr.hh b o q n
  · by_cases hb : b = a
    · rw [hb, upd_same]; exact fun q => nomatch q
    · rw [upd_ne hb]; exact r.r.gr.th b q
  · rcases getSet q with ⟨rfl, z, hl⟩ | ⟨n, z⟩
    · cases z
      exact ⟨_, hv, a, vs', rfl, e2, e3, upd_same, h⟩
    · obtain ⟨u, hu, z2⟩ := r.r.sl j x z
      refine ⟨u, hu, ?_⟩
      cases x with
      | dat d => exact z2
      | rng _ => exact z2
      | obf _ _ _ => exact z2
      | obj _ _ _ _ =>
        obtain ⟨f1, f2, f6⟩ := z2
        exact ⟨f1, f2, f6.stays (Same.refl _) fun c hc z1 z2 z3 => ⟨z2, upd_ne fun w => hmat j _ _ z rfl hu (by rw [← w]; exact hc)⟩⟩
      | own es =>
        obtain ⟨b, ws, f1, f2, f3, f4, f5⟩ := z2
        subst f1
        have nb : b ≠ a := fun w => r.r.sep i j ds es a n e z hv (by rw [← w]; exact hu)
        exact ⟨b, ws, rfl, f2, f3, by rw [upd_ne nb]; exact f4, f5⟩
      | strm => exact z2
      | lnt x =>
        obtain ⟨b, f1, f2, f3, f4⟩ := z2
        have nb : b ≠ a := fun w => f2 (by rw [w]; exact e2)
        exact ⟨b, f1, f2, f3, f4.stays (Same.refl _) fun o q => by rw [upd_ne nb]; exact q⟩
      | dct w ks =>
        obtain ⟨b, ws, f1, f2, f3, f4, f5⟩ := z2
        subst f1
        have nb : b ≠ a := fun w => by
          rw [w, e4] at f4
          exact nomatch f4
        exact ⟨b, ws, rfl, f2, f3, by rw [upd_ne nb]; exact f4, f5⟩
      | dki ks =>
        obtain ⟨b, ws, f1, f2, f3, f4, f5⟩ := z2
        subst f1
        have nb : b ≠ a := fun w => by
          rw [w, e4] at f4
          exact nomatch f4
        exact ⟨b, ws, rfl, f2, f3, by rw [upd_ne nb]; exact f4, f5⟩
      | mat rows =>
        obtain ⟨b, bs, f1, f2, f3, f4, f5, f6⟩ := z2
        subst f1
        have nb : b ≠ a := fun w => hmat j _ _ z rfl hu (.inl (by rw [w]))
        refine ⟨b, bs, rfl, f2, f3, by rw [upd_ne nb]; exact f4, f5, f6.stays (Same.refl _) fun c hc z1 z2 z3 => ⟨z2, upd_ne fun w => ?_⟩⟩
        exact hmat j _ _ z rfl hu (.inr ⟨b, bs, rfl, f4, by rw [← w]; exact hc⟩)
  · have own : ∀ (l : Nat) (x : List D), (env.set i (some (Sl.own ds')))[l]? = some (some (Sl.own x)) → ∃ y : List D, env[l]? = some (some (Sl.own y)) := fun l x w => by
      rcases getSet w with ⟨rfl, _, _⟩ | ⟨_, w⟩
      · exact ⟨_, e⟩
      · exact ⟨_, w⟩
    obtain ⟨x2, w1⟩ := own j x q1
    obtain ⟨y2, w2⟩ := own k y q2
    exact r.r.sep j k x2 y2 b n w1 w2 q3 q4
  · obtain ⟨f0, l, c, k, ns, f1, f2, f3⟩ := (r.r.st s q).2
    have ns2 : s ≠ a := fun w => nm (by rw [q, w])
    exact ⟨f0, l, c, k, ns, by rw [upd_ne ns2]; exact f1, f2, f3⟩
/-- an own list becomes data -/
theorem RelL.freeze (r : RelL K p env σ I H) {i : Nat} {ds : List D} (e : env[i]? = some (some (.own ds))) : ∃ I', Same I I' ∧ RelL K p (env.set i (some (.dat (.list ds)))) σ I' H := by
  obtain ⟨v, hv, a, vs, rfl, e2, e3, e4, e5⟩ := r.r.sl i _ e
  have ii : Same I (upd I a (.lst vs)) := fun b o q => by rw [upd_ne (ne_of_none q e3)]; exact q
  have nm : p.m ≠ some a := fun q => (r.r.st _ q).1 e2
  have hmat : ∀ (j : Nat) (x : Sl) (v : V), env[j]? = some (some x) → isMat x = true → σ[j]? = some (some v) → ¬ Cell x v H a := fun j x v f1 m f2 c =>
    r.r.sm i j (.own ds) x (.ref a) v a (fun z => by subst z; rw [e] at f1; cases f1; cases m) (by rw [m]; simp [isMat]) e f1 hv f2 rfl c
  refine ⟨upd I a (.lst vs), ii, ⟨⟨r.r.gr.ii.trans ii, fun b o q => ?_, r.r.gr.hh, fun b q n => ?_, r.r.gr.th⟩, fun j x q => ?_, fun j k x y b n q1 q2 q3 q4 => ?_, fun s q => ⟨(r.r.st s q).1, ?_⟩, r.r.bs.trans ii, r.r.sd.setE _ _ (fun _ _ z => nomatch z), r.r.sm.setE _ _ (fun y z u c cc => by cases z; exact cc.elim)⟩, by rw [List.length_set]; exact r.len⟩
  · by_cases hb : b = a
    · subst hb; rw [upd_same] at q; cases q; exact e4
    · rw [upd_ne hb] at q; exact r.r.gr.ih b o q
  · have hb : b ≠ a := fun w => n (by rw [w]; exact e2)
    rw [upd_ne hb]; exact r.r.gr.fr b q n
  · rcases getSet q with ⟨rfl, z, hl⟩ | ⟨n, z⟩
    · cases z
      exact ⟨_, hv, .lst upd_same (Rps.mono ii ds vs e5)⟩
    · obtain ⟨u, hu, z2⟩ := r.r.sl j x z
      refine ⟨u, hu, ?_⟩
      cases x with
      | dat d => exact Rp.mono ii d u z2
      | rng _ => obtain ⟨a_, e1_, e2_⟩ := z2; exact ⟨a_, e1_, (ii) _ _ e2_⟩
      | obf _ _ _ => obtain ⟨f1, dx, vs, f2, f3, f4⟩ := z2; exact ⟨f1, dx, vs, ii _ _ f2, f3.mono ii, f4⟩
      | obj _ _ _ _ =>
        obtain ⟨f1, ⟨dx, vs2, f2, f3, f4⟩, f6⟩ := z2
        refine ⟨f1, ⟨dx, vs2, ii _ _ f2, f3.mono ii, f4⟩, f6.stays ii fun c hc z1 z2 z3 => ⟨?_, rfl⟩⟩
        rw [upd_ne fun w => hmat j _ _ z rfl hu (by rw [← w]; exact hc)]
        exact z2
      | own es =>
        obtain ⟨b, ws, f1, f2, f3, f4, f5⟩ := z2
        subst f1
        have nb : b ≠ a := fun w => r.r.sep i j ds es a n e z hv (by rw [← w]; exact hu)
        exact ⟨b, ws, rfl, f2, by rw [upd_ne nb]; exact f3, f4, Rps.mono ii es ws f5⟩
      | strm => exact z2
      | lnt x =>
        obtain ⟨b, f1, f2, f3, f4⟩ := z2
        exact ⟨b, f1, f2, f3, f4.stays ii fun o q => q⟩
      | dct w ks =>
        obtain ⟨b, ws, f1, f2, f3, f4, f5⟩ := z2
        subst f1
        have nb : b ≠ a := fun w => by
          rw [w, e4] at f4
          exact nomatch f4
        exact ⟨b, ws, rfl, f2, by rw [upd_ne nb]; exact f3, f4, KD.mono ii f5⟩
      | dki ks =>
        obtain ⟨b, ws, f1, f2, f3, f4, f5⟩ := z2
        subst f1
        have nb : b ≠ a := fun w => by
          rw [w, e4] at f4
          exact nomatch f4
        exact ⟨b, ws, rfl, f2, by rw [upd_ne nb]; exact f3, f4, KDI.mono ii f5⟩
      | mat rows =>
        obtain ⟨b, bs, f1, f2, f3, f4, f5, f6⟩ := z2
        subst f1
        have nb : b ≠ a := fun w => hmat j _ _ z rfl hu (.inl (by rw [w]))
        refine ⟨b, bs, rfl, f2, by rw [upd_ne nb]; exact f3, f4, f5, f6.stays ii fun c hc z1 z2 z3 => ⟨?_, rfl⟩⟩
        rw [upd_ne fun w => hmat j _ _ z rfl hu (.inr ⟨b, bs, rfl, f4, by rw [← w]; exact hc⟩)]
        exact z2
  · rcases getSet q1 with ⟨_, z, _⟩ | ⟨n1, z1⟩
    · cases z
    · rcases getSet q2 with ⟨_, z, _⟩ | ⟨n2, z2⟩
      · cases z
      · exact r.r.sep j k x y b n z1 z2 q3 q4
  · obtain ⟨f0, l, c, k, ns, f1, f2, f3⟩ := (r.r.st s q).2
    have ns2 : s ≠ a := fun w => nm (by rw [q, w])
    exact ⟨by rw [upd_ne ns2]; exact f0, l, c, k, ns, f1, ii _ _ f2, f3⟩
/-- a cell that nobody here knows is changed -/
theorem RelL.beside (r : RelL K p env σ I H) {a : Addr} {o : HO} (h0 : p.H0 a = none) (h1 : I a = none) (hx : ∀ w xs, H a ≠ some (dctO w a xs)) (hx2 : ∀ xs, H a ≠ some (.dK xs)) (hmat : ∀ (j : Nat) (x : Sl) (v : V), env[j]? = some (some x) → isMat x = true → σ[j]? = some (some v) → ¬ Cell x v H a) (hn : ∀ (j : Nat) (x : List D), env[j]? = some (some (.own x)) → σ[j]? ≠ some (some (.ref a))) : RelL K p env σ I (upd H a o) := by
  have nm : p.m ≠ some a := fun q => (r.r.st _ q).1 h0
  refine ⟨⟨⟨r.r.gr.ii, fun b u q => by rw [upd_ne (ne_of_none q h1)]; exact r.r.gr.ih b u q, fun b u q n => by rw [upd_ne (ne_of_none q h0)]; exact r.r.gr.hh b u q n, r.r.gr.fr, fun b q => ?_⟩, fun j x q => ?_, r.r.sep, fun s q => ⟨(r.r.st s q).1, ?_⟩, r.r.bs, r.r.sd, r.r.sm.keep fun j x u b q m su eu => upd_ne fun z => by
      subst z
      refine hmat j x u q (top_mat m) su ?_
      cases x <;> first | (cases m) | skip
      exact .inl eu⟩, r.len⟩
  · by_cases hb : b = a
    · rw [hb, upd_same]; exact fun q => nomatch q
    · rw [upd_ne hb]; exact r.r.gr.th b q
  · obtain ⟨u, hu, z2⟩ := r.r.sl j x q
    refine ⟨u, hu, ?_⟩
    cases x with
    | dat d => exact z2
    | rng _ => exact z2
    | obf _ _ _ => exact z2
    | obj _ _ _ _ =>
      obtain ⟨f1, f2, f6⟩ := z2
      exact ⟨f1, f2, f6.stays (Same.refl _) fun c hc z1 z2 z3 => ⟨z2, upd_ne fun w => hmat j _ _ q rfl hu (by rw [← w]; exact hc)⟩⟩
    | own es =>
      obtain ⟨b, ws, f1, f2, f3, f4, f5⟩ := z2
      subst f1
      have nb : b ≠ a := fun w => hn j es q (by rw [← w]; exact hu)
      exact ⟨b, ws, rfl, f2, f3, by rw [upd_ne nb]; exact f4, f5⟩
    | strm => exact z2
    | lnt x =>
      obtain ⟨b, f1, f2, f3, f4⟩ := z2
      have nb : b ≠ a := fun w => f2 (by rw [w]; exact h0)
      exact ⟨b, f1, f2, f3, f4.stays (Same.refl _) fun o q => by rw [upd_ne nb]; exact q⟩
    | dct w ks =>
      obtain ⟨b, ws, f1, f2, f3, f4, f5⟩ := z2
      subst f1
      have nb : b ≠ a := fun z => by
        subst z
        exact hx _ _ f4
      exact ⟨b, ws, rfl, f2, f3, by rw [upd_ne nb]; exact f4, f5⟩
    | dki ks =>
      obtain ⟨b, ws, f1, f2, f3, f4, f5⟩ := z2
      subst f1
      have nb : b ≠ a := fun z => by
        subst z
        exact hx2 _ f4
      exact ⟨b, ws, rfl, f2, f3, by rw [upd_ne nb]; exact f4, f5⟩
    | mat rows =>
      obtain ⟨b, bs, f1, f2, f3, f4, f5, f6⟩ := z2
      subst f1
      have nb : b ≠ a := fun w => hmat j _ _ q rfl hu (.inl (by rw [w]))
      refine ⟨b, bs, rfl, f2, f3, by rw [upd_ne nb]; exact f4, f5, f6.stays (Same.refl _) fun c hc z1 z2 z3 => ⟨z2, upd_ne fun w => ?_⟩⟩
      exact hmat j _ _ q rfl hu (.inr ⟨b, bs, rfl, f4, by rw [← w]; exact hc⟩)
  · obtain ⟨f0, l, c, k, ns, f1, f2, f3⟩ := (r.r.st s q).2
    have ns2 : s ≠ a := fun w => nm (by rw [q, w])
    exact ⟨f0, l, c, k, ns, by rw [upd_ne ns2]; exact f1, f2, f3⟩
theorem RelL.cellBack (r : RelL K p env σ I H) (s : Stp p I H I' H') {j : Nat} {x : Sl} {v : V} {c : Addr} (e : env[j]? = some (some x)) (sv : σ[j]? = some (some v)) (h : Cell x v H' c) : Cell x v H c := by
  obtain ⟨u, hu, sl⟩ := r.r.sl j x e
  rw [sv] at hu
  cases hu
  refine cell_to (fun m a ea => ?_) h
  cases x <;> first | (cases m) | skip
  obtain ⟨a', bs, e1, e2, e3, e4, _, _⟩ := sl
  rw [ea] at e1
  cases e1
  rw [s.gr.hh a _ e4 (fun q => (r.r.st a q).1 e2), e4]
theorem RelL.freshCell (r : RelL K p env σ I H) (s : Stp p I H I' H') {l : Addr} (h0 : H l = none) : ∀ (j : Nat) (x : Sl) (v : V), env[j]? = some (some x) → isMat x = true → σ[j]? = some (some v) → ¬ Cell x v H' l := by
  intro j x v e m sv c
  have c' := r.cellBack s e sv c
  obtain ⟨u, hu, sl⟩ := r.r.sl j x e
  rw [sv] at hu
  cases hu
  obtain ⟨_, _, vs, hv⟩ := cell_live sl c'
  rw [h0] at hv
  cases hv
def wipeE (env : Ev) : List Nat → Ev
  | [] => env
  | v :: vs => (wipeE env vs).set v none
theorem RelL.wipe (r : RelL K p env σ I H) : ∀ vs : List Nat, RelL K p (wipeE env vs) (wipe σ vs) I H
  | [] => r
  | v :: vs => by
    have q := RelL.wipe r vs
    refine ⟨⟨q.r.gr, fun j x e => ?_, fun j k x y a n e1 e2 e3 e4 => ?_, q.r.st, q.r.bs, by unfold wipeE L2.wipe; exact q.r.sd.set _ _ _ (fun _ _ z => nomatch z), by unfold wipeE L2.wipe; exact q.r.sm.set _ _ _ (fun _ z => nomatch z)⟩, by unfold wipeE L2.wipe; rw [List.length_set, List.length_set]; exact q.len⟩
    · unfold wipeE at e
      rcases getSet e with ⟨_, z, _⟩ | ⟨n, z⟩
      · cases z
      · obtain ⟨u, hu, z2⟩ := q.r.sl j x z
        exact ⟨u, by unfold L2.wipe; rw [List.getElem?_set_ne n]; exact hu, z2⟩
    · unfold wipeE at e1 e2
      unfold L2.wipe at e3 e4
      rcases getSet e1 with ⟨_, z, _⟩ | ⟨n1, z1⟩
      · cases z
      · rcases getSet e2 with ⟨_, z, _⟩ | ⟨n2, z2⟩
        · cases z
        · rw [List.getElem?_set_ne n1] at e3
          rw [List.getElem?_set_ne n2] at e4
          exact q.r.sep j k x y a n z1 z2 e3 e4
theorem wipe_set {i : Nat} {x : Option V} : ∀ {vs : List Nat} {σ : L2.St}, i ∈ vs → L2.wipe (σ.set i x) vs = L2.wipe σ vs
  | [], _, h => absurd h (by simp)
  | v :: vs, σ, h => by
    unfold L2.wipe
    by_cases hi : i ∈ vs
    · rw [wipe_set hi]
    · have e : i = v := by
        rcases List.mem_cons.mp h with h | h
        · exact h
        · exact absurd h hi
      subst e
      have : ∀ (us : List Nat) (τ : L2.St), i ∉ us → L2.wipe (τ.set i x) us = (L2.wipe τ us).set i x := by
        intro us
        induction us with
        | nil => intro τ _; rfl
        | cons u us ih =>
          intro τ hu
          unfold L2.wipe
          rw [ih τ (fun z => hu (List.mem_cons_of_mem _ z)), List.set_comm _ _ (fun z => hu (by rw [← z]; exact List.mem_cons_self))]
      rw [this vs σ hi, List.set_set]
end
end Z2
namespace Z2
open PySem L2
abbrev T2E := Ev → (D → Prop) → Prop
abbrev T2T := Ev → (Bool → Prop) → Prop
abbrev T2A := Ev → (List D → Prop) → Prop
abbrev R1D := D → (D → Prop) → Prop
abbrev R2D := D → D → (D → Prop) → Prop
abbrev RCD := List D → (D → Prop) → Prop
def SE (K : Fg) (te : TE) (t : T2E) : Prop := ∀ (p : P0) (env : Ev) (σ : L2.St) (I H : Hp) (Q2 : D → Prop) (Q : VK), RelL K p env σ I H → t env Q2 →
  (∀ d v I' H', Q2 d → Stp p I H I' H' → Rp K I' v d → Q v H') → te σ H Q
def SA (K : Fg) (n : Nat) (ta : TA) (t : T2A) : Prop := ∀ (p : P0) (env : Ev) (σ : L2.St) (I H : Hp) (Q2 : List D → Prop) (Q : List V → Hp → Prop), RelL K p env σ I H → t env Q2 →
  (∀ ds vs I' H', Q2 ds → vs.length = n → Stp p I H I' H' → Rps K I' vs ds → Q vs H') → ta σ H Q
def ST (K : Fg) (tt : TT) (t : T2T) : Prop := ∀ (p : P0) (env : Ev) (σ : L2.St) (I H : Hp) (Q2 : Bool → Prop) (Q : Bool → Hp → Prop), RelL K p env σ I H → t env Q2 →
  (∀ b I' H', Q2 b → Stp p I H I' H' → Q b H') → tt σ H Q
/-- a list that is new -/
def SO (K : Fg) (te : TE) (t : T2A) : Prop := ∀ (p : P0) (env : Ev) (σ : L2.St) (I H : Hp) (Q2 : List D → Prop) (Q : VK), RelL K p env σ I H → t env Q2 →
  (∀ ds a vs I' H', Q2 ds → Stp p I H I' H' → H a = none → I' a = none → H' a = some (.lst vs) → Rps K I' vs ds → Q (.ref a) H') → te σ H Q
theorem Stp.lay {p : P0} {I H I' H' : Hp} {a : Addr} {vs : List V} (s : Stp p I H I' H') (h0 : H a = none) (h1 : I' a = none) (h2 : H' a = some (.lst vs)) : Stp p I H (upd I' a (.lst vs)) H' ∧ Same I' (upd I' a (.lst vs)) := by
  have ii : Same I' (upd I' a (.lst vs)) := fun b o q => by rw [upd_ne (ne_of_none q h1)]; exact q
  refine ⟨⟨⟨s.ii.trans ii, fun b o q => ?_, s.gr.hh, fun b q n => ?_, s.gr.th⟩, fun c e h => ?_⟩, ii⟩
  · by_cases hb : b = a
    · subst hb; rw [upd_same] at q; cases q; exact h2
    · rw [upd_ne hb] at q; exact s.ih b o q
  · have hb : b ≠ a := fun w => n (by rw [w]; exact h0)
    rw [upd_ne hb]; exact s.gr.fr b q n
  · obtain ⟨f0, l, x, k, ns, f1, f2, f3⟩ := s.st c e h
    have hc : c ≠ a := fun w => by
      obtain ⟨_, _, _, _, _, g1, _⟩ := h
      rw [w, h0] at g1; cases g1
    exact ⟨by rw [upd_ne hc]; exact f0, l, x, k, ns, f1, ii _ _ f2, f3⟩
def tList (t : T2A) : T2E := fun env Q => t env fun ds => Q (.list ds)
theorem se_own {K : Fg} {te : TE} {t : T2A} (h : SO K te t) : SE K te (tList t) := by
  intro p env σ I H Q2 Q r q k
  refine h p env σ I H _ Q r q fun ds a vs I' H' q2 s h0 h1 h2 h3 => ?_
  obtain ⟨s2, ii⟩ := s.lay h0 h1 h2
  exact k _ _ _ _ q2 s2 (.lst upd_same (Rps.mono ii ds vs h3))
/-! ### names, constants -/
def dVar (i : Nat) : T2E := fun env Q => match env[i]? with | some (some (.dat d)) => Q d | _ => False
def dC (d : D) : T2E := fun _ Q => Q d
theorem se_var {K : Fg} (i : Nat) : SE K (tVar i) (dVar i) := by
  intro p env σ I H Q2 Q r q k
  unfold dVar at q
  cases e : env[i]? with
  | none => rw [e] at q; exact q.elim
  | some o =>
    cases o with
    | none => rw [e] at q; exact q.elim
    | some x =>
      cases x with
      | own _ => rw [e] at q; exact q.elim
      | strm => rw [e] at q; exact q.elim
      | dct _ _ => rw [e] at q; exact q.elim
      | dki _ => rw [e] at q; exact q.elim
      | rng _ => rw [e] at q; exact q.elim
      | obj _ _ _ _ => rw [e] at q; exact q.elim
      | obf _ _ _ => rw [e] at q; exact q.elim
      | lnt _ => rw [e] at q; exact q.elim
      | mat _ => rw [e] at q; exact q.elim
      | dat d =>
        rw [e] at q
        obtain ⟨v, hv, h⟩ := r.r.sl i _ e
        exact ⟨v, hv, k d v I H q (.refl r.same) h⟩
theorem se_int {K : Fg} {n : Int} : SE K (tC (.int n)) (dC (.int n)) := fun _ _ _ I H _ _ r q k => k _ _ I H q (.refl r.same) (.int n)
theorem se_bl {K : Fg} {n : Bool} : SE K (tC (.bl n)) (dC (.bool n)) := fun _ _ _ I H _ _ r q k => k _ _ I H q (.refl r.same) (.bl n)
theorem se_non {K : Fg} : SE K (tC .non) (dC .none) := fun _ _ _ I H _ _ r q k => k _ _ I H q (.refl r.same) .non
theorem se_str {K : Fg} {x : Str} : SE K (tC (.str x)) (dC (.str x)) := fun _ _ _ I H _ _ r q k => k _ _ I H q (.refl r.same) (.str x)
/-! ### operators -/
def Sim1 (K : Fg) (r : V → Hp → VK → Prop) (r2 : R1D) : Prop := ∀ (I H : Hp) (x : V) (dx : D) (Q2 : D → Prop) (Q : VK), Same I H → Rp K I x dx → r2 dx Q2 →
  (∀ d v I' H', Q2 d → Gr none I H I' H' → Rp K I' v d → Q v H') → r x H Q
def Sim2 (K : Fg) (r : R2) (r2 : R2D) : Prop := ∀ (I H : Hp) (x y : V) (dx dy : D) (Q2 : D → Prop) (Q : VK), Same I H → Rp K I x dx → Rp K I y dy → r2 dx dy Q2 →
  (∀ d v I' H', Q2 d → Gr none I H I' H' → Rp K I' v d → Q v H') → r x y H Q
def SimC (K : Fg) (r : List V → Hp → VK → Prop) (r2 : RCD) : Prop := ∀ (I H : Hp) (vs : List V) (ds : List D) (Q2 : D → Prop) (Q : VK), Same I H → Rps K I vs ds → r2 ds Q2 →
  (∀ d v I' H', Q2 d → Gr none I H I' H' → Rp K I' v d → Q v H') → r vs H Q
/-- a call that hands back a new list -/
def SimCO (K : Fg) (r : List V → Hp → VK → Prop) (r2 : List D → (List D → Prop) → Prop) : Prop := ∀ (I H : Hp) (vs : List V) (ds : List D) (Q2 : List D → Prop) (Q : VK), Same I H → Rps K I vs ds → r2 ds Q2 →
  (∀ es a ws, Q2 es → H a = none → Rps K I ws es → Q (.ref a) (upd H a (.lst ws))) → r vs H Q
def Sim2O (K : Fg) (r : R2) (r2 : D → D → (List D → Prop) → Prop) : Prop := ∀ (I H : Hp) (x y : V) (dx dy : D) (Q2 : List D → Prop) (Q : VK), Same I H → Rp K I x dx → Rp K I y dy → r2 dx dy Q2 →
  (∀ es a ws, Q2 es → H a = none → Rps K I ws es → Q (.ref a) (upd H a (.lst ws))) → r x y H Q
def dOp (r : R2D) (a b : T2E) : T2E := fun env Q => a env fun x => b env fun y => r x y Q
def dOpO (r : D → D → (List D → Prop) → Prop) (a b : T2E) : T2A := fun env Q => a env fun x => b env fun y => r x y Q
def dUn (r : R1D) (a : T2E) : T2E := fun env Q => a env fun x => r x Q
def dCB (r : RCD) (a : T2A) : T2E := fun env Q => a env fun ds => r ds Q
def dCBO (r : List D → (List D → Prop) → Prop) (a : T2A) : T2A := fun env Q => a env fun ds => r ds Q
section
variable {K : Fg} {ta tb tc : TE} {a b c : T2E} {r : R2} {r2 : R2D}
theorem se_op (h : Sim2 K r r2) (ha : SE K ta a) (hb : SE K tb b) : SE K (tOp r ta tb) (dOp r2 a b) := by
  intro p env σ I H Q2 Q rl q k
  refine ha p env σ I H _ _ rl q fun d v I1 H1 q1 s1 h1 => ?_
  refine hb p env σ I1 H1 _ _ (rl.stp s1) q1 fun e w I3 H3 q3 s3 h3 => ?_
  exact h I3 H3 v w d e Q2 Q s3.ih (Rp.mono s3.ii d v h1) h3 q3 fun d' v' I' H' q' g r' => k d' v' I' H' q' ((s1.trans s3).trans (.of g)) r'
theorem se_un {r : V → Hp → VK → Prop} {r2 : R1D} (h : Sim1 K r r2) (ha : SE K ta a) : SE K (tUn r ta) (dUn r2 a) := by
  intro p env σ I H Q2 Q rl q k
  refine ha p env σ I H _ _ rl q fun d v I1 H1 q1 s1 h1 => ?_
  exact h I1 H1 v d Q2 Q s1.ih h1 q1 fun d' v' I' H' q' g r' => k d' v' I' H' q' (s1.trans (.of g)) r'
theorem se_cb {r : List V → Hp → VK → Prop} {r2 : RCD} {n : Nat} {t : TA} {u : T2A} (h : SimC K r r2) (ha : SA K n t u) : SE K (tCB r t) (dCB r2 u) := by
  intro p env σ I H Q2 Q rl q k
  refine ha p env σ I H _ _ rl q fun ds vs I1 H1 q1 hl s1 h1 => ?_
  exact h I1 H1 vs ds Q2 Q s1.ih h1 q1 fun d' v' I' H' q' g r' => k d' v' I' H' q' (s1.trans (.of g)) r'
theorem Stp.fresh {p : P0} {I H : Hp} {a : Addr} {o : HO} (e : Same I H) (h : H a = none) : Stp p I H I (upd H a o) := .of (Gr.fresh e h)
/-! arguments, displays -/
def dNil : T2A := fun _ Q => Q []
def dCons (a : T2E) (t : T2A) : T2A := fun env Q => a env fun x => t env fun xs => Q (x :: xs)
theorem sa_nil : SA K 0 tNil dNil := fun _ _ _ I H _ _ r q k => k _ _ I H q rfl (.refl r.same) .nil
theorem sa_cons {n : Nat} {t : TA} {u : T2A} (ha : SE K ta a) (ht : SA K n t u) : SA K (n + 1) (tCons ta t) (dCons a u) := by
  intro p env σ I H Q2 Q rl q k
  refine ha p env σ I H _ _ rl q fun d v I1 H1 q1 s1 h1 => ?_
  refine ht p env σ I1 H1 _ _ (rl.stp s1) q1 fun ds vs I3 H3 q3 hl s3 h3 => ?_
  exact k _ _ I3 H3 q3 (by rw [List.length_cons, hl]) (s1.trans s3) (.cons (Rp.mono s3.ii d v h1) h3)
def dTup (t : T2A) : T2E := fun env Q => t env fun ds => Q (.tuple ds)
theorem le_line {n : Nat} (h : n ≤ 1000000) : n ≤ sizeLine := Nat.le_trans h (by decide)
theorem lt_line {n : Nat} (h : n < 1000000) : n < sizeLine := Nat.lt_of_lt_of_le h (by decide)
theorem se_tup {n : Nat} {t : TA} {u : T2A} (ht : SA K n t u) (hn : n ≤ 1000000 := by decide) : SE K (tTup t) (dTup u) := by
  intro p env σ I H Q2 Q rl q k
  refine ht p env σ I H _ _ rl q fun ds vs I1 H1 q1 hl s1 h1 => ⟨le_line (by rw [hl]; exact hn), fun l h0 => ?_⟩
  have g := Gr.new (m := none) (o := .tup vs) s1.ih h0
  exact k _ _ _ _ q1 (s1.trans (.of g)) (.tup (SqT.of upd_same) (Rps.mono g.ii ds vs h1))
theorem so_lst {n : Nat} {t : TA} {u : T2A} (ht : SA K n t u) (hn : n ≤ 1000000 := by decide) : SO K (tLst t) u := by
  intro p env σ I H Q2 Q rl q k
  refine ht p env σ I H _ _ rl q fun ds vs I1 H1 q1 hl s1 h1 => ⟨le_line (by rw [hl]; exact hn), fun l h0 => ?_⟩
  have hn : H l = none := by
    cases e : H l with
    | none => rfl
    | some o => exact absurd h0 (s1.gr.th l (by rw [e]; exact fun z => nomatch z))
  exact k ds l vs I1 _ q1 (s1.trans (Stp.fresh s1.ih h0)) hn (Same.free s1.ih h0) upd_same h1
/-! tests -/
def dB (a : T2E) : T2T := fun env Q => a env fun d => match d with | .bool b => Q b | _ => False
theorem st_test (ha : SE K ta a) : ST K (tTest ta) (dB a) := by
  intro p env σ I H Q2 Q rl q k
  refine ha p env σ I H _ _ rl q fun d v I1 H1 q1 s1 h1 => ?_
  cases d <;> first | exact q1.elim | skip
  cases h1
  exact ⟨_, rfl, k _ _ _ q1 s1⟩
variable {t u : TT} {t2 u2 : T2T}
def dAnd (t u : T2T) : T2T := fun env Q => t env fun c => if c = true then u env Q else Q false
def dOr (t u : T2T) : T2T := fun env Q => t env fun c => if c = true then Q true else u env Q
def dNot (t : T2T) : T2T := fun env Q => t env fun c => Q (!c)
theorem st_and (h1 : ST K t t2) (h2 : ST K u u2) : ST K (tAnd t u) (dAnd t2 u2) := by
  intro p env σ I H Q2 Q rl q k
  refine h1 p env σ I H _ _ rl q fun c I1 H1 q1 s1 => ?_
  cases c with
  | true =>
    rw [if_pos rfl] at q1 ⊢
    exact h2 p env σ I1 H1 _ _ (rl.stp s1) q1 fun c I2 H2 q2 s2 => k c I2 H2 q2 (s1.trans s2)
  | false =>
    rw [if_neg Bool.false_ne_true] at q1 ⊢
    exact k _ _ _ q1 s1
theorem st_or (h1 : ST K t t2) (h2 : ST K u u2) : ST K (tOr t u) (dOr t2 u2) := by
  intro p env σ I H Q2 Q rl q k
  refine h1 p env σ I H _ _ rl q fun c I1 H1 q1 s1 => ?_
  cases c with
  | false =>
    rw [if_neg Bool.false_ne_true] at q1 ⊢
    exact h2 p env σ I1 H1 _ _ (rl.stp s1) q1 fun c I2 H2 q2 s2 => k c I2 H2 q2 (s1.trans s2)
  | true =>
    rw [if_pos rfl] at q1 ⊢
    exact k _ _ _ q1 s1
theorem st_not (h1 : ST K t t2) : ST K (tNot t) (dNot t2) := by
  intro p env σ I H Q2 Q rl q k
  exact h1 p env σ I H _ _ rl q fun c I1 H1 q1 s1 => k _ _ _ q1 s1
theorem st_yes : ST K tYes (fun _ Q => Q true) := fun _ _ _ I H _ _ r q k => k _ I H q (.refl r.same)
/-- and, or, not as values -/
def dAndV (a b : T2E) : T2E := fun env Q => a env fun d => match d with | .bool c => if c = true then b env Q else Q (.bool false) | _ => False
def dOrV (a b : T2E) : T2E := fun env Q => a env fun d => match d with | .bool c => if c = true then Q (.bool true) else b env Q | _ => False
def dNotV (a : T2E) : T2E := fun env Q => a env fun d => match d with | .bool c => Q (.bool (!c)) | _ => False
theorem se_and (ha : SE K ta a) (hb : SE K tb b) : SE K (tAndV ta tb) (dAndV a b) := by
  intro p env σ I H Q2 Q rl q k
  refine ha p env σ I H _ _ rl q fun d v I1 H1 q1 s1 h1 => ?_
  cases d <;> first | exact q1.elim | skip
  rename_i c
  cases h1
  refine ⟨c, rfl, ?_⟩
  cases c with
  | true =>
    dsimp only at q1
    rw [if_pos rfl] at q1 ⊢
    exact hb p env σ I1 H1 _ _ (rl.stp s1) q1 fun d v I2 H2 q2 s2 h2 => k d v I2 H2 q2 (s1.trans s2) h2
  | false =>
    dsimp only at q1
    rw [if_neg Bool.false_ne_true] at q1 ⊢
    exact k _ _ _ _ q1 s1 (.bl _)
theorem se_or (ha : SE K ta a) (hb : SE K tb b) : SE K (tOrV ta tb) (dOrV a b) := by
  intro p env σ I H Q2 Q rl q k
  refine ha p env σ I H _ _ rl q fun d v I1 H1 q1 s1 h1 => ?_
  cases d <;> first | exact q1.elim | skip
  rename_i c
  cases h1
  refine ⟨c, rfl, ?_⟩
  cases c with
  | false =>
    dsimp only at q1
    rw [if_neg Bool.false_ne_true] at q1 ⊢
    exact hb p env σ I1 H1 _ _ (rl.stp s1) q1 fun d v I2 H2 q2 s2 h2 => k d v I2 H2 q2 (s1.trans s2) h2
  | true =>
    dsimp only at q1
    rw [if_pos rfl] at q1 ⊢
    exact k _ _ _ _ q1 s1 (.bl _)
theorem se_not (ha : SE K ta a) : SE K (tNotV ta) (dNotV a) := by
  intro p env σ I H Q2 Q rl q k
  refine ha p env σ I H _ _ rl q fun d v I1 H1 q1 s1 h1 => ?_
  cases d <;> first | exact q1.elim | skip
  rename_i c
  cases h1
  exact ⟨c, rfl, k _ _ _ _ q1 s1 (.bl _)⟩
def dIf (t : T2T) (a b : T2E) : T2E := fun env Q => t env fun c => if c = true then a env Q else b env Q
theorem se_if (h1 : ST K t t2) (ha : SE K ta a) (hb : SE K tb b) : SE K (tIf t ta tb) (dIf t2 a b) := by
  intro p env σ I H Q2 Q rl q k
  refine h1 p env σ I H _ _ rl q fun c I1 H1 q1 s1 => ?_
  cases c with
  | true =>
    rw [if_pos rfl] at q1 ⊢
    exact ha p env σ I1 H1 _ _ (rl.stp s1) q1 fun d v I2 H2 q2 s2 h2 => k d v I2 H2 q2 (s1.trans s2) h2
  | false =>
    rw [if_neg Bool.false_ne_true] at q1 ⊢
    exact hb p env σ I1 H1 _ _ (rl.stp s1) q1 fun d v I2 H2 q2 s2 h2 => k d v I2 H2 q2 (s1.trans s2) h2
def dChain (r r' : R2D) (a b c : T2E) : T2E := fun env Q => a env fun x => b env fun y => r x y fun z => match z with | .bool k => if k = true then c env fun w => r' y w Q else Q (.bool false) | _ => False
theorem se_chain {r' : R2} {r2' : R2D} (h : Sim2 K r r2) (h' : Sim2 K r' r2') (ha : SE K ta a) (hb : SE K tb b) (hc : SE K tc c) : SE K (tChain r r' ta tb tc) (dChain r2 r2' a b c) := by
  intro p env σ I H Q2 Q rl q k
  refine ha p env σ I H _ _ rl q fun d v I1 H1 q1 s1 h1 => ?_
  refine hb p env σ I1 H1 _ _ (rl.stp s1) q1 fun e w I3 H3 q3 s3 h3 => ?_
  refine h I3 H3 v w d e _ _ s3.ih (Rp.mono s3.ii d v h1) h3 q3 fun z zv I4 H4 q4 g4 r4 => ?_
  cases z <;> first | exact q4.elim | skip
  rename_i c
  cases r4
  have s4 := (s1.trans s3).trans (Stp.of g4)
  refine ⟨c, rfl, ?_⟩
  cases c with
  | false =>
    dsimp only at q4
    rw [if_neg Bool.false_ne_true] at q4 ⊢
    exact k _ _ _ _ q4 s4 (.bl _)
  | true =>
    dsimp only at q4
    rw [if_pos rfl] at q4 ⊢
    refine hc p env σ I4 H4 _ _ (rl.stp s4) q4 fun f u I5 H5 q5 s5 h5 => ?_
    exact h' I5 H5 w u e f Q2 Q s5.ih (Rp.mono (g4.ii.trans s5.ii) e w h3) h5 q5 fun d' v' I' H' q' g r' => k d' v' I' H' q' ((s4.trans s5).trans (.of g)) r'
end
/-! ### the operators by values -/
section
variable {K : Fg}
def d2I (g : Int → Int → D) : R2D := fun x y Q => match x, y with | .int i, .int j => Q (g i j) | _, _ => False
def d2IC (C : Int → Int → Prop) (g : Int → Int → D) : R2D := fun x y Q => match x, y with | .int i, .int j => C i j ∧ Q (g i j) | _, _ => False
theorem s2_int {g : Int → Int → Int} : Sim2 K (rI0 fun i j => .int (g i j)) (d2I fun i j => .int (g i j)) := by
  intro I H x y dx dy Q2 Q e hx hy q k
  unfold d2I at q
  split at q
  · cases hx; cases hy; exact ⟨_, _, rfl, rfl, k _ _ I H q (.refl e) (.int _)⟩
  · exact q.elim
theorem s2_bool {g : Int → Int → Bool} : Sim2 K (rI0 fun i j => .bl (g i j)) (d2I fun i j => .bool (g i j)) := by
  intro I H x y dx dy Q2 Q e hx hy q k
  unfold d2I at q
  split at q
  · cases hx; cases hy; exact ⟨_, _, rfl, rfl, k _ _ I H q (.refl e) (.bl _)⟩
  · exact q.elim
theorem s2_intC {C : Int → Int → Prop} {g : Int → Int → Int} : Sim2 K (rI C fun i j => .int (g i j)) (d2IC C fun i j => .int (g i j)) := by
  intro I H x y dx dy Q2 Q e hx hy q k
  unfold d2IC at q
  split at q
  · cases hx; cases hy; exact ⟨_, _, rfl, rfl, q.1, k _ _ I H q.2 (.refl e) (.int _)⟩
  · exact q.elim
theorem Rps.nil_iff {I : Hp} {vs : List V} {ds : List D} (h : Rps K I vs ds) : vs = [] ↔ ds = [] := by
  cases h with
  | nil => simp
  | cons _ _ => simp
/-- t + u of tuples -/
def dCatT : R2D := fun x y Q => match x, y with | .tuple xs, .tuple ys => xs.length + ys.length ≤ 1000000 ∧ Q (.tuple (xs ++ ys)) | _, _ => False
theorem s2_catT : Sim2 K (rCatA K) dCatT := by
  intro I H x y dx dy Q2 Q e hx hy q k
  unfold dCatT at q
  split at q
  · obtain ⟨hl, q⟩ := q
    cases hx with
    | tup h1 h2 =>
      cases hy with
      | tup h3 h4 =>
        rename_i a vs b ws
        refine ⟨a, b, vs, ws, rfl, rfl, Same.sqt e h1, Same.sqt e h3, le_line (by rw [h2.length, h4.length]; exact hl), fun z => ?_, fun z z2 => ?_, fun z z2 l h0 => ?_⟩
        · subst z
          cases h2
          exact k _ _ I H q (.refl e) (.tup h3 h4)
        · subst z2
          cases h4
          rw [List.append_nil] at q
          exact k _ _ I H q (.refl e) (.tup h1 h2)
        · have g := Gr.new (m := none) (o := .tup (vs ++ ws)) e h0
          exact k _ _ _ _ q g (.tup (SqT.of upd_same) (Rps.append (Rps.mono g.ii _ _ h2) (Rps.mono g.ii _ _ h4)))
  · exact q.elim
/-- xs + ys of lists -/
def dCatL : D → D → (List D → Prop) → Prop := fun x y Q => match x, y with | .list xs, .list ys => xs.length + ys.length ≤ 1000000 ∧ Q (xs ++ ys) | _, _ => False
theorem s2_catL : Sim2O K rCat dCatL := by
  intro I H x y dx dy Q2 Q e hx hy q k
  unfold dCatL at q
  split at q
  · obtain ⟨hl, q⟩ := q
    cases hx with
    | lst h1 h2 =>
      cases hy with
      | lst h3 h4 =>
        rename_i a vs b ws
        exact ⟨a, b, vs, ws, rfl, rfl, e _ _ h1, e _ _ h3, le_line (by rw [h2.length, h4.length]; exact hl), fun l h0 => k _ l _ q h0 (Rps.append h2 h4)⟩
  · exact q.elim
/-- xs * n of lists -/
def dRepL : D → D → (List D → Prop) → Prop := fun x y Q => match x, y with | .list xs, .int n => -1000000 ≤ n ∧ n ≤ 1000000 ∧ xs.length * n.toNat ≤ 1000000 ∧ Q (List.replicate n.toNat xs).flatten | _, _ => False
theorem s2_repL : Sim2O K rRep dRepL := by
  intro I H x y dx dy Q2 Q e hx hy q k
  unfold dRepL at q
  split at q
  · obtain ⟨n1, n2, hl, q⟩ := q
    cases hx with
    | lst h1 h2 =>
      cases hy
      rename_i a vs
      exact ⟨a, _, vs, rfl, rfl, e _ _ h1, by omega, by omega, le_line (by rw [h2.length]; exact hl), fun l h0 => k _ l _ q h0 (Rps.rep h2 _)⟩
  · exact q.elim
/-- t * n of tuples -/
def dRepT : R2D := fun x y Q => match x, y with | .tuple xs, .int n => xs ≠ [] ∧ 2 ≤ n ∧ n ≤ 1000 ∧ xs.length ≤ 1000 ∧ Q (.tuple (List.replicate n.toNat xs).flatten) | _, _ => False
theorem s2_repT : Sim2 K (rRepT K) dRepT := by
  intro I H x y dx dy Q2 Q e hx hy q k
  unfold dRepT at q
  split at q
  · obtain ⟨hn, n1, n2, hl, q⟩ := q
    cases hx with
    | tup h1 h2 =>
      cases hy
      rename_i a vs
      refine ⟨a, _, vs, rfl, rfl, Same.sqt e h1, fun z => hn ((Rps.nil_iff h2).mp z), n1, n2, by rw [h2.length]; exact hl, fun l h0 => ?_⟩
      exact k _ _ _ _ q (Gr.new e h0) (.tup (SqT.of upd_same) (Rps.rep (Rps.mono (Gr.new (m := none) e h0).ii _ _ h2) _))
  · exact q.elim
/-- == and != -/
def dEq : R2D := fun x y Q => SeqAt.shaped x = true ∧ SeqAt.shaped y = true ∧ Q (.bool (PyData.eqv x y))
def dNe : R2D := fun x y Q => SeqAt.shaped x = true ∧ SeqAt.shaped y = true ∧ Q (.bool (!PyData.eqv x y))
theorem s2_eq : Sim2 K (rEqD K) dEq := fun I H x y dx dy Q2 Q e hx hy q k => ⟨dx, dy, Rp.dp e dx x (SeqAt.canLay_of_shaped q.1) hx, Rp.dp e dy y (SeqAt.canLay_of_shaped q.2.1) hy, q.1, q.2.1, k _ _ I H q.2.2 (.refl e) (.bl _)⟩
theorem s2_ne : Sim2 K (rNeD K) dNe := fun I H x y dx dy Q2 Q e hx hy q k => ⟨dx, dy, Rp.dp e dx x (SeqAt.canLay_of_shaped q.1) hx, Rp.dp e dy y (SeqAt.canLay_of_shaped q.2.1) hy, q.1, q.2.1, k _ _ I H q.2.2 (.refl e) (.bl _)⟩
/-- is None -/
def isNone : D → Bool | .none => true | _ => false
theorem Rp.isNone {I : Hp} {v : V} {d : D} (h : Rp K I v d) : decide (v = V.non) = isNone d := by
  cases h with
  | non => exact decide_eq_true rfl
  | bl _ => exact decide_eq_false (fun q => nomatch q)
  | int _ => exact decide_eq_false (fun q => nomatch q)
  | str _ => exact decide_eq_false (fun q => nomatch q)
  | lst _ _ => exact decide_eq_false (fun q => nomatch q)
  | tup _ _ => exact decide_eq_false (fun q => nomatch q)
  | dic _ _ => exact decide_eq_false (fun q => nomatch q)
def dIsN : R2D := fun x y Q => match y with | .none => Q (.bool (isNone x)) | _ => False
def dNotN : R2D := fun x y Q => match y with | .none => Q (.bool (!isNone x)) | _ => False
theorem s2_isN : Sim2 K (fun x y H Q => y = .non ∧ Q (.bl (decide (x = .non))) H) dIsN := by
  intro I H x y dx dy Q2 Q e hx hy q k
  unfold dIsN at q
  split at q
  · cases hy
    refine ⟨rfl, ?_⟩
    rw [Rp.isNone hx]
    exact k _ _ I H q (.refl e) (.bl _)
  · exact q.elim
/-- is of bools -/
def dIsB : R2D := fun x y Q => match x, y with | .bool a, .bool b => Q (.bool (decide (a = b))) | _, _ => False
/-- x in xs, flat things -/
def flatD : D → Bool | .none => true | .bool _ => true | .int _ => true | .str _ => true | _ => false
theorem Rp.flat {I : Hp} {v : V} {d : D} (h : Rp K I v d) (f : flatD d = true) : flatV v = true := by
  cases h <;> first | rfl | exact nomatch f
theorem Rps.flat {I : Hp} : ∀ {vs : List V} {ds : List D}, Rps K I vs ds → ds.all flatD = true → vs.all flatV = true
  | _, _, .nil, _ => rfl
  | _, _, .cons r t, f => by
    rw [List.all_cons, Bool.and_eq_true] at f ⊢
    exact ⟨Rp.flat r f.1, Rps.flat t f.2⟩
def seqOf : D → Option (List D) | .list xs => some xs | .tuple xs => some xs | _ => none
theorem Rp.seq {I H : Hp} {v : V} {d : D} {ds : List D} (e : Same I H) (h : Rp K I v d) (q : seqOf d = some ds) : ∃ a vs, v = .ref a ∧ (SqL K H a vs ∨ SqT K H a vs) ∧ Rps K I vs ds := by
  cases h with
  | lst h1 h2 => cases q; exact ⟨_, _, rfl, .inl (SqL.of (e _ _ h1)), h2⟩
  | tup h1 h2 => cases q; exact ⟨_, _, rfl, .inr (Same.sqt e h1), h2⟩
  | _ => cases q
/-- x in xs -/
theorem eqV_of {I : Hp} {v w : V} {d e : D} (h : Rp K I v d) (h2 : Rp K I w e) (f : flatD d = true) (f2 : flatD e = true) : eqV v w = PyData.eqv d e := by
  cases h <;> cases h2 <;> first | rfl | exact nomatch f | exact nomatch f2
theorem any_of {I : Hp} {w : V} {e : D} (h2 : Rp K I w e) (f2 : flatD e = true) : ∀ {vs : List V} {ds : List D}, Rps K I vs ds → ds.all flatD = true → inV w vs = ds.any fun d => PyData.eqv d e
  | _, _, .nil, _ => rfl
  | v :: vs, d :: ds, .cons r t, f => by
    rw [List.all_cons, Bool.and_eq_true] at f
    have q := any_of h2 f2 t f.2
    unfold inV at q ⊢
    rw [List.any_cons, List.any_cons, q, eqV_of r h2 f.1 f2]
def dIn (neg : Bool) : R2D := fun x y Q => match seqOf y with | some ds => flatD x = true ∧ ds.all flatD = true ∧ Q (.bool (if neg then !(ds.any fun d => PyData.eqv d x) else ds.any fun d => PyData.eqv d x)) | none => False
theorem s2_in {neg : Bool} : Sim2 K (rIn K neg) (dIn neg) := by
  intro I H x y dx dy Q2 Q e hx hy q k
  unfold dIn at q
  split at q
  · rename_i ds e2
    obtain ⟨f1, f2, q⟩ := q
    obtain ⟨a, vs, rfl, h1, h2⟩ := Rp.seq e hy e2
    refine ⟨a, vs, rfl, h1, Rp.flat hx f1, Rps.flat h2 f2, ?_⟩
    rw [any_of hx f1 h2 f2]
    exact k _ _ I H q (.refl e) (.bl _)
  · exact q.elim
/-! ### subscripts, slices -/
def dIx : R2D := fun x y Q => match y with
  | .int i => (match seqOf x with | some ds => (match atI ds i with | some d => Q d | none => False) | none => False)
  | _ => False
theorem atI_rp {I : Hp} {vs : List V} {ds : List D} {i : Int} {d : D} (h : Rps K I vs ds) (e : atI ds i = some d) : ∃ v, atI vs i = some v ∧ Rp K I v d := by
  unfold atI at e ⊢
  rw [h.length]
  cases q : ixN ds.length i with
  | none => rw [q] at e; cases e
  | some j =>
    rw [q] at e
    exact h.got e
theorem s2_ix : Sim2 K (rIx K) dIx := by
  intro I H x y dx dy Q2 Q e hx hy q k
  unfold dIx at q
  split at q
  · rename_i i
    split at q
    · rename_i ds e2
      split at q
      · rename_i d e3
        obtain ⟨a, vs, rfl, h1, h2⟩ := Rp.seq e hx e2
        obtain ⟨v, h3, h4⟩ := atI_rp h2 e3
        cases hy
        rcases h1 with h1 | h1
        · exact .inl ⟨a, vs, i, v, rfl, rfl, h1, h3, k _ _ I H q (.refl e) h4⟩
        · exact .inr (.inl ⟨a, vs, i, v, rfl, rfl, h1, h3, k _ _ I H q (.refl e) h4⟩)
      · exact q.elim
    · exact q.elim
  · exact q.elim
def cutD (ds : List D) (lo hi : Option Int) : List D := (ds.drop (HT.sIx ds.length 0 lo)).take (HT.sIx ds.length ds.length hi - HT.sIx ds.length 0 lo)
theorem Rps.cut {I : Hp} {vs : List V} {ds : List D} (h : Rps K I vs ds) (lo hi : Option Int) : Rps K I (cutV vs lo hi) (cutD ds lo hi) := by
  unfold cutV cutD
  rw [h.length]
  exact (h.drop _).take _
abbrev T2O := Ev → (Option Int → Prop) → Prop
def SOp (K : Fg) (to : TO) (t : T2O) : Prop := ∀ (p : P0) (env : Ev) (σ : L2.St) (I H : Hp) (Q2 : Option Int → Prop) (Q : Option Int → Hp → Prop), RelL K p env σ I H → t env Q2 →
  (∀ o I' H', Q2 o → Stp p I H I' H' → Q o H') → to σ H Q
def dNoPart : T2O := fun _ Q => Q none
def dPart (a : T2E) : T2O := fun env Q => a env fun d => match d with | .int i => Q (some i) | _ => False
theorem sop_none : SOp K tNoPart dNoPart := fun _ _ _ I H _ _ r q k => k _ I H q (.refl r.same)
theorem sop_some {ta : TE} {a : T2E} (ha : SE K ta a) : SOp K (tPart ta) (dPart a) := by
  intro p env σ I H Q2 Q rl q k
  refine ha p env σ I H _ _ rl q fun d v I1 H1 q1 s1 h1 => ?_
  cases d <;> first | exact q1.elim | skip
  cases h1
  exact ⟨_, rfl, k _ _ _ q1 s1⟩
/-- t[lo:hi] of a tuple -/
def dSlT (a : T2E) (l u : T2O) : T2E := fun env Q => a env fun x => l env fun lo => u env fun hi => match x with | .tuple ds => Q (.tuple (cutD ds lo hi)) | _ => False
theorem cut_whole {α : Type} {xs : List α} {lo hi : Option Int} (h : HT.sIx xs.length 0 lo = 0 ∧ HT.sIx xs.length xs.length hi = xs.length) : (xs.drop (HT.sIx xs.length 0 lo)).take (HT.sIx xs.length xs.length hi - HT.sIx xs.length 0 lo) = xs := by
  rw [h.1, h.2]
  simp
/-- xs[lo:hi] of a list -/
def dSlL (a : T2E) (l u : T2O) : T2A := fun env Q => a env fun x => l env fun lo => u env fun hi => match x with | .list ds => Q (cutD ds lo hi) | _ => False
/-! ### built-in calls -/
def dLen : RCD := fun ds Q => match ds with | [x] => (match seqOf x with | some xs => Q (.int xs.length) | none => False) | _ => False
theorem Rps.one {I : Hp} {vs : List V} {d : D} (h : Rps K I vs [d]) : ∃ v, vs = [v] ∧ Rp K I v d := by
  cases h with
  | cons h1 h2 => cases h2; exact ⟨_, rfl, h1⟩
theorem Rps.two {I : Hp} {vs : List V} {d e : D} (h : Rps K I vs [d, e]) : ∃ v w, vs = [v, w] ∧ Rp K I v d ∧ Rp K I w e := by
  cases h with
  | cons h1 h2 =>
    obtain ⟨w, rfl, h3⟩ := h2.one
    exact ⟨_, _, rfl, h1, h3⟩
theorem sc_len : SimC K (fun xs H Q => ∃ p ys, xs = [.ref p] ∧ (SqL K H p ys ∨ SqT K H p ys) ∧ Q (.int ys.length) H) dLen := by
  intro I H vs ds Q2 Q e h q k
  unfold dLen at q
  split at q
  · rename_i x
    split at q
    · rename_i xs e2
      obtain ⟨v, rfl, h1⟩ := h.one
      obtain ⟨a, ws, rfl, h2, h3⟩ := Rp.seq e h1 e2
      refine ⟨a, ws, rfl, h2, ?_⟩
      rw [h3.length]
      exact k _ _ I H q (.refl e) (.int _)
    · exact q.elim
  · exact q.elim
/-- tuple(xs) -/
def dTupOf : RCD := fun ds Q => match ds with | [x] => (match seqOf x with | some xs => Q (.tuple xs) | none => False) | _ => False
theorem sc_tuple : SimC K (fun xs H Q => ∃ p ys, xs = [.ref p] ∧ ((SqL K H p ys ∧ ∀ l, H l = none → Q (.ref l) (upd H l (.tup ys))) ∨ (SqT K H p ys ∧ Q (.ref p) H))) dTupOf := by
  intro I H vs ds Q2 Q e h q k
  unfold dTupOf at q
  split at q
  · rename_i x
    split at q
    · rename_i xs e2
      obtain ⟨v, rfl, h1⟩ := h.one
      cases h1 with
      | lst e3 e4 =>
        rename_i a ws ds
        cases e2
        refine ⟨a, ws, rfl, .inl ⟨SqL.of (e _ _ e3), fun l h0 => ?_⟩⟩
        have g := Gr.new (m := none) (o := .tup ws) e h0
        exact k _ _ _ _ q g (.tup (SqT.of upd_same) (Rps.mono g.ii _ _ e4))
      | tup e3 e4 =>
        rename_i a ws ds
        cases e2
        exact ⟨a, ws, rfl, .inr ⟨Same.sqt e e3, k _ _ I H q (.refl e) (.tup e3 e4)⟩⟩
      | _ => cases e2
    · exact q.elim
  · exact q.elim
/-- list(xs) -/
def dListOf : List D → (List D → Prop) → Prop := fun ds Q => match ds with | [x] => (match seqOf x with | some xs => Q xs | none => False) | _ => False
def dInt1 (g : Int → D) : RCD := fun ds Q => match ds with | [.int i] => Q (g i) | _ => False
def dIntOf : RCD := fun ds Q => match ds with | [.int i] => Q (.int i) | [.bool b] => Q (.int (if b then 1 else 0)) | _ => False
theorem sc_int : SimC K (fun xs H Q => (∃ i, xs = [.int i] ∧ Q (.int i) H) ∨ ∃ k, xs = [.bl k] ∧ Q (.int (if k then 1 else 0)) H) dIntOf := by
  intro I H vs ds Q2 Q e h q k
  unfold dIntOf at q
  split at q
  · obtain ⟨v, rfl, h1⟩ := h.one
    cases h1
    exact .inl ⟨_, rfl, k _ _ I H q (.refl e) (.int _)⟩
  · obtain ⟨v, rfl, h1⟩ := h.one
    cases h1
    exact .inr ⟨_, rfl, k _ _ I H q (.refl e) (.int _)⟩
  · exact q.elim
def dInt2 (g : Int → Int → Int) : RCD := fun ds Q => match ds with | [.int i, .int j] => Q (.int (g i j)) | _ => False
/-- a text of an int: whatever it is, it is a text -/
def dStrOf : RCD := fun ds Q => match ds with | [.int i] => i.natAbs.log2 < 1920 ∧ Q (.str (toString i : Str)) | _ => False
theorem sc_str : SimC K (fun xs H Q => ∃ i, xs = [.int i] ∧ i.natAbs.log2 < 1920 ∧ Q (.str (toString i)) H) dStrOf := by
  intro I H vs ds Q2 Q e h q k
  unfold dStrOf at q
  split at q
  · obtain ⟨v, rfl, h1⟩ := h.one
    cases h1
    exact ⟨_, rfl, q.1, k _ _ I H q.2 (.refl e) (.str _)⟩
  · exact q.elim
def allBool : List D → Option (List Bool)
  | [] => some []
  | .bool b :: ds => (allBool ds).map (b :: ·)
  | _ :: _ => none
def allInt : List D → Option (List Int)
  | [] => some []
  | .int b :: ds => (allInt ds).map (b :: ·)
  | _ :: _ => none
theorem allBool_of : ∀ {ds : List D} {bs : List Bool}, allBool ds = some bs → ds = bs.map PyData.bool
  | [], _, h => by cases h; rfl
  | .bool b :: ds, bs, h => by
    unfold allBool at h
    cases e : allBool ds with
    | none => rw [e] at h; cases h
    | some cs =>
      rw [e] at h
      cases h
      rw [allBool_of e]; rfl
  | .none :: _, _, h => by cases h
  | .int _ :: _, _, h => by cases h
  | .str _ :: _, _, h => by cases h
  | .list _ :: _, _, h => by cases h
  | .tuple _ :: _, _, h => by cases h
  | .dict _ :: _, _, h => by cases h
def dBools (g : List Bool → Bool) : RCD := fun ds Q => match ds with | [.list xs] => (match allBool xs with | some bs => Q (.bool (g bs)) | none => False) | _ => False
theorem sc_all : SimC K (rAll K) (dBools fun bs => bs.all id) := by
  intro I H vs ds Q2 Q e h q k
  unfold dBools at q
  split at q
  · split at q
    · rename_i xs bs e2
      obtain ⟨v, rfl, h1⟩ := h.one
      cases h1 with
      | lst h3 h4 =>
        rename_i a ws
        have z := allBool_of e2
        subst z
        have z := h4.bools
        subst z
        exact ⟨a, bs, rfl, SqL.of (e _ _ h3), k _ _ I H q (.refl e) (.bl _)⟩
    · exact q.elim
  · exact q.elim
def dSum : RCD := fun ds Q => match ds with | [.list xs] => (match allInt xs with | some bs => Q (.int bs.sum) | none => False) | _ => False
/-- sorted(xs) of ints -/
def dSorted : List D → (List D → Prop) → Prop := fun ds Q => match ds with
  | [.list xs] => (match allInt xs with | some ns => ns.length < 64 ∧ ∀ ns' : List Int, ns'.Perm ns → ns'.Pairwise (· ≤ ·) → Q (ns'.map PyData.int) | none => False) | _ => False
/-! ### isinstance -/
def tyD : D → String
  | .none => "NoneType" | .bool _ => "bool" | .int _ => "int" | .str _ => "str" | .list _ => "list" | .tuple _ => "tuple" | .dict _ => "dict"
theorem Rp.ty {I H : Hp} {v : V} {d : D} (e : Same I H) (h : Rp K I v d) : TyX K H v (.type (tyD d)) ∨ (tyD d = "dict" ∧ ∃ a w xs, v = .ref a ∧ H a = some (dctO w a xs)) := by
  cases h with
  | non => exact .inl (.base .non)
  | bl b => exact .inl (.base (.bl b))
  | int b => exact .inl (.base (.int b))
  | str b => exact .inl (.base (.str b))
  | lst h1 h2 => exact .inl (.base (.lst (e _ _ h1)))
  | tup h1 h2 =>
    rcases Same.sqt e h1 with (h | ⟨o, h⟩) | ⟨o, its, n, hk, hc, _⟩
    · exact .inl (.base (.tup h))
    · exact .inl (.fTuple h)
    · exact .inl (.kTuple hk hc)
  | dic h1 h2 => exact .inr ⟨rfl, _, _, _, rfl, e _ _ h1⟩
end
/-- isinstance, also of a dict of one's own -/
def rIsi2 (K : Fg) : List V → Hp → VK → Prop := fun xs H Q => rIsi K xs H Q ∨ ∃ (a : Addr) (w : World) (ys : List (List Key × Addr × Value)) (c : V) (u : Value) (b : Bool), xs = [.ref a, c] ∧ ClsV c u ∧ H a = some (dctO w a ys) ∧ PySem.W.kitOne K (.type "dict") u = some b ∧ Q (.bl b) H
theorem call_isi2 {X : Cx} : CallR X (.builtin "isinstance") (rIsi2 X.K) := by
  intro pins s σ H xs us Q I r h
  rcases h with h | ⟨a, w, ys, c, u, b, rfl, k, ea, e, q⟩
  · exact call_isi pins s σ H xs us Q I r h
  · obtain ⟨u1, u2, rfl, r1, r2⟩ := vals2 r
    have e2 := k.eq r2
    subst e2
    cases (show u1 = Value.ref a from r1)
    obtain ⟨⟨z1, z2, o, es, ep, h1, h2, _⟩, _, _⟩ := (show ObjOk X.prog X.w H s.heap a (dctO w a ys) from I.hok a _ ea)
    exact PySem.W.kia_one PySem.W.kitx_dict I.kIn ⟨o, h1, h2.1⟩ e (fun z => nomatch z) fun tk => ⟨.bl b, H, I.tok tk, rfl, q⟩
def isT (T : String) : D → Bool
  | .bool _ => T == "bool" || T == "int" | d => T == tyD d
def tyTab (K : Fg) (T : String) : Prop := PySem.W.kitOne K (.type "NoneType") (.type T) = some (T == "NoneType") ∧ PySem.W.kitOne K (.type "bool") (.type T) = some (T == "bool" || T == "int") ∧ PySem.W.kitOne K (.type "int") (.type T) = some (T == "int") ∧
  PySem.W.kitOne K (.type "str") (.type T) = some (T == "str") ∧ PySem.W.kitOne K (.type "list") (.type T) = some (T == "list") ∧ PySem.W.kitOne K (.type "tuple") (.type T) = some (T == "tuple") ∧ PySem.W.kitOne K (.type "dict") (.type T) = some (T == "dict")
theorem tyTab_is {K : Fg} {T : String} (t : tyTab K T) (d : D) : PySem.W.kitOne K (.type (tyD d)) (.type T) = some (isT T d) := by
  obtain ⟨h1, h2, h3, h4, h5, h6, h7⟩ := t
  cases d <;> assumption
def dIsi (T : String) (a : T2E) : T2E := fun env Q => a env fun d => Q (.bool (isT T d))
theorem se_isi {K : Fg} {T : String} {ta : TE} {a : T2E} (t : tyTab K T) (ha : SE K ta a) : SE K (tCB (rIsi2 K) (tCons ta (tCons (tC (.ty T)) tNil))) (dIsi T a) := by
  intro p env σ I H Q2 Q rl q k
  refine ha p env σ I H _ _ rl q fun d v I1 H1 q1 s1 h1 => ?_
  have tt := tyTab_is t d
  rcases Rp.ty s1.ih h1 with z | ⟨z, a, w, ys, rfl, z2⟩
  · exact .inl ⟨v, .ty T, _, _, isT T d, rfl, .ty T, z, tt, k _ _ _ _ q1 s1 (.bl _)⟩
  · rw [z] at tt
    exact .inr ⟨a, w, ys, .ty T, _, isT T d, rfl, .ty T, z2, tt, k _ _ _ _ q1 s1 (.bl _)⟩
end Z2
namespace Z2
open PySem L2
structure Ends2 where
  nx : Ev → Prop
  rt : D → Prop
  bk : Ev → Prop := fun _ => False
  ct : Ev → Prop := fun _ => False
  rd : World → List (List Key × D) → Prop := fun _ _ => False
  re : Ev → D → Prop := fun _ _ => False
  rv : Ev → Nat → Prop := fun _ _ => False
abbrev T2S := Ends2 → Ev → Prop
structure EndsR (K : Fg) (p : P0) (D2 : Ends2) (E : Ends) : Prop where
  nx : ∀ env σ I H, D2.nx env → RelL K p env σ I H → E.nx σ H
  rt : ∀ d v I H, D2.rt d → Gr p.m p.I0 p.H0 I H → (∀ s, p.m = some s → Strm I H s) → Rp K I v d → E.rt v H
  bk : ∀ env σ I H, D2.bk env → RelL K p env σ I H → E.bk σ H
  ct : ∀ env σ I H, D2.ct env → RelL K p env σ I H → E.ct σ H
  rd : ∀ w ks a xs I H, D2.rd w ks → Gr p.m p.I0 p.H0 I H → p.H0 a = none → I a = none → H a = some (dctO w a xs) → KD K I xs ks → E.rt (.ref a) H
  re : ∀ env σ I H d v, D2.re env d → RelL K p env σ I H → Rp K I v d → E.rt v H
  rv : ∀ env σ I H i v, D2.rv env i → RelL K p env σ I H → σ[i]? = some (some v) → E.rt v H
def SS (K : Fg) (ts : TS) (t : T2S) : Prop := ∀ (p : P0) (env : Ev) (σ : L2.St) (I H : Hp) (D2 : Ends2) (E : Ends), RelL K p env σ I H → t D2 env → EndsR K p D2 E → ts E σ H
theorem RelL.grow' {K : Fg} {p : P0} {env : Ev} {σ : L2.St} {I H I' H' : Hp} (r : RelL K p env σ I H) (g : Gr none I H I' H') : RelL K p env σ I' H' := r.stp (.of g)
theorem wipe_wipe (σ : L2.St) (vs : List Nat) : L2.wipe (L2.wipe σ vs) vs = L2.wipe σ vs := by
  refine List.ext_getElem? fun i => ?_
  by_cases h : i ∈ vs
  · have : ∀ (us : List Nat) (τ : L2.St), i ∈ us → (L2.wipe τ us)[i]? = if i < τ.length then some none else none := by
      intro us
      induction us with
      | nil => intro τ h; exact absurd h (by simp)
      | cons u us ih =>
        intro τ h
        unfold L2.wipe
        by_cases hu : u = i
        · subst hu
          by_cases hl : u < τ.length
          · rw [if_pos hl, List.getElem?_set_self (by rw [wipe_length]; exact hl)]
          · rw [if_neg hl, List.getElem?_eq_none (by rw [List.length_set, wipe_length]; omega)]
        · rw [List.getElem?_set_ne hu]
          exact ih τ (by
            rcases List.mem_cons.mp h with h | h
            · exact absurd h.symm hu
            · exact h)
    rw [this vs _ h, this vs _ h, wipe_length]
  · rw [wipe_out h]
/-! ### targets -/
abbrev T2G := D → Ev → (Ev → Prop) → Prop
abbrev T2Gs := List D → Ev → (Ev → Prop) → Prop
def SG (K : Fg) (vs : List Nat) (g : TG) (t : T2G) : Prop := ∀ (p : P0) (env : Ev) (σ : L2.St) (I H : Hp) (v : V) (d : D) (Q2 : Ev → Prop) (Q : L2.St → Hp → Prop), RelL K p env σ I H → Rp K I v d → t d env Q2 →
  (∀ env' σ' I' H', Q2 env' → RelL K p env' σ' I' H' → Stp p I H I' H' → L2.wipe σ' vs = L2.wipe σ vs → Q σ' H') → g v σ H Q
def SGs (K : Fg) (n : Nat) (vs : List Nat) (g : TGs) (t : T2Gs) : Prop := ∀ (p : P0) (env : Ev) (σ : L2.St) (I H : Hp) (xs : List V) (ds : List D) (Q2 : Ev → Prop) (Q : L2.St → Hp → Prop), RelL K p env σ I H → Rps K I xs ds → t ds env Q2 →
  (∀ env' σ' I' H', Q2 env' → RelL K p env' σ' I' H' → Stp p I H I' H' → L2.wipe σ' vs = L2.wipe σ vs → Q σ' H') → g xs σ H Q
def gN (i : Nat) : T2G := fun d env Q => Q (env.set i (some (.dat d)))
section
variable {K : Fg} {vs : List Nat}
theorem sg_name (i : Nat) (h : i ∈ vs := by decide) : SG K vs (gName i) (gN i) := fun p env σ I H v d Q2 Q r hv q k => k _ _ I H q (r.setDat hv i) (.refl r.same) (wipe_set h)
def gsNil : T2Gs := fun ds env Q => match ds with | [] => Q env | _ => False
def gsCons (t : T2G) (u : T2Gs) : T2Gs := fun ds env Q => match ds with | d :: es => t d env fun env' => u es env' Q | _ => False
theorem sgs_nil : SGs K 0 vs gNil gsNil := by
  intro p env σ I H xs ds Q2 Q r h q k
  unfold gsNil at q
  split at q
  · cases h; exact ⟨rfl, k _ _ I H q r (.refl r.same) rfl⟩
  · exact q.elim
theorem sgs_cons {n : Nat} {g : TG} {gs : TGs} {t : T2G} {u : T2Gs} (h1 : SG K vs g t) (h2 : SGs K n vs gs u) : SGs K (n + 1) vs (gCons g gs) (gsCons t u) := by
  intro p env σ I H xs ds Q2 Q r h q k
  unfold gsCons at q
  split at q
  · cases h with
    | cons a b =>
      rename_i d es v ws
      refine ⟨v, ws, rfl, h1 p env σ I H v d _ _ r a q fun env1 σ1 I1 H1 q1 r1 s1 w1 => ?_⟩
      exact h2 p env1 σ1 I1 H1 ws es _ _ r1 (Rps.mono s1.ii _ _ b) q1 fun env2 σ2 I2 H2 q2 r2 s2 w2 => k _ _ _ _ q2 r2 (s1.trans s2) (w2.trans w1)
  · exact q.elim
/-- a, b = t, a tuple -/
def gT (n : Nat) (t : T2Gs) : T2G := fun d env Q => match d with | .tuple ds => ds.length = n ∧ t ds env Q | .list ds => ds.length = n ∧ t ds env Q | _ => False
/-- a tuple or a list, unpacked -/
def gSq (K : Fg) (n : Nat) (t : TGs) : TG := fun v σ H Q => gTup K n t v σ H Q ∨ gUnl K n t v σ H Q
theorem pg_sq {X : Cx} {pos : Pos} {es : List Expr} {k : Nat} {t : TGs} {n : Nat} (hc : X.calm = true) (h : PGs X es t) (e1 : (assignEach es X.env).length = n := by rfl) (e2 : List.findIdx? (fun x => x.fst) (assignEach es X.env) = none := by rfl) : PG X (.Tuple es k pos) (gSq X.K n t) :=
  ⟨fun pins s σ H v u Q I r q => q.elim (fun q => (pg_tup hc h e1 e2).run pins s σ H v u Q I r q) (fun q => (pg_unl hc h e1 e2).run pins s σ H v u Q I r q)⟩
theorem sg_tup {n : Nat} {gs : TGs} {t : T2Gs} (h : SGs K n vs gs t) : SG K vs (gSq K n gs) (gT n t) := by
  intro p env σ I H v d Q2 Q r hv q k
  unfold gT at q
  split at q
  · cases hv with
    | tup h1 h2 =>
      exact .inl ⟨_, _, rfl, Same.sqt r.same h1, by rw [h2.length]; exact q.1, h p env σ I H _ _ _ _ r h2 q.2 k⟩
  · cases hv with
    | lst h1 h2 =>
      exact .inr ⟨_, _, rfl, SqL.of (r.same _ _ h1), by rw [h2.length]; exact q.1, h p env σ I H _ _ _ _ r h2 q.2 k⟩
  · exact q.elim
end
/-! ### what is walked -/
abbrev T2I := Ev → (List D → Prop) → Prop
structure ItR (K : Fg) (I : Hp) (J : It) (ds : List D) : Prop where
  go : ∀ i I' H', Same I I' → Same I' H' → i < ds.length → J.go i H'
  stop : ∀ i I' H', Same I I' → Same I' H' → i = ds.length → J.stop i H'
  yld : ∀ i x I' H' H'', Same I I' → Same I' H' → i < ds.length → J.yld i H' x H'' → ∃ I'' d, Gr none I' H' I'' H'' ∧ ds[i]? = some d ∧ Rp K I'' x d
def SI (K : Fg) (wi : TI) (t : T2I) : Prop := ∀ (p : P0) (env : Ev) (σ : L2.St) (I H : Hp) (Q2 : List D → Prop) (R : It → Hp → Prop), RelL K p env σ I H → t env Q2 →
  (∀ ds J I' H', Q2 ds → Stp p I H I' H' → ItR K I' J ds → R J H') → wi σ H R
section
variable {K : Fg}
theorem itr_list {I : Hp} {a : Addr} {vs : List V} {ds : List D} (h : I a = some (.lst vs)) (r : Rps K I vs ds) : ItR K I (Itl K a) ds where
  go := fun i I' H' e1 e2 hi => by
    obtain ⟨v, hv, _⟩ := r.got (List.getElem?_eq_getElem hi)
    exact ⟨vs, v, SqL.of (e2 _ _ (e1 _ _ h)), hv⟩
  stop := fun i I' H' e1 e2 hi => ⟨vs, SqL.of (e2 _ _ (e1 _ _ h)), by rw [r.length]; omega⟩
  yld := fun i x I' H' H'' e1 e2 hi y => by
    obtain ⟨rfl, y⟩ := y
    obtain ⟨d, hd, q⟩ := r.get (y vs (SqL.of (e2 _ _ (e1 _ _ h))))
    exact ⟨I', d, .refl e2, hd, Rp.mono e1 _ _ q⟩
theorem itr_tup {I : Hp} {a : Addr} {vs : List V} {ds : List D} (h : SqT K I a vs) (r : Rps K I vs ds) : ItR K I (Itt K a) ds where
  go := fun i I' H' e1 e2 hi => by
    obtain ⟨v, hv, _⟩ := r.got (List.getElem?_eq_getElem hi)
    exact ⟨vs, v, Same.sqt e2 (Same.sqt e1 h), hv⟩
  stop := fun i I' H' e1 e2 hi => ⟨vs, Same.sqt e2 (Same.sqt e1 h), by rw [r.length]; omega⟩
  yld := fun i x I' H' H'' e1 e2 hi y => by
    obtain ⟨rfl, y⟩ := y
    obtain ⟨d, hd, q⟩ := r.get (y vs (Same.sqt e2 (Same.sqt e1 h)))
    exact ⟨I', d, .refl e2, hd, Rp.mono e1 _ _ q⟩
def dRange (lo : Int) (n : Nat) : List D := (List.range n).map fun (i : Nat) => PyData.int (lo + i)
theorem itr_range {I : Hp} (lo : Int) (n : Nat) : ItR K I (Itr lo n) (dRange lo n) where
  go := fun i I' H' e1 e2 hi => by
    unfold dRange at hi
    rw [List.length_map, List.length_range] at hi
    exact hi
  stop := fun i I' H' e1 e2 hi => by
    unfold dRange at hi
    rw [List.length_map, List.length_range] at hi
    show _ ≤ _
    omega
  yld := fun i x I' H' H'' e1 e2 hi y => by
    obtain ⟨rfl, rfl⟩ := y
    refine ⟨I', .int (lo + i), .refl e2, ?_, .int _⟩
    unfold dRange at hi ⊢
    rw [List.length_map, List.length_range] at hi
    rw [List.getElem?_map, List.getElem?_range hi]
    rfl
def dEnum (ds : List D) : List D := (List.range ds.length).map fun i => PyData.tuple [.int (i : Nat), ds.getD i .none]
def dZip : List D → List D → List D
  | x :: xs, y :: ys => .tuple [x, y] :: dZip xs ys
  | _, _ => []
def diL (a : T2E) : T2I := fun env Q => a env fun d => match d with | .list ds => Q ds | _ => False
def diT (a : T2E) : T2I := fun env Q => a env fun d => match d with | .tuple ds => Q ds | _ => False
def diR1 (t : T2A) : T2I := fun env Q => t env fun ds => match ds with | [.int j] => -1000000 ≤ j ∧ j ≤ 1000000 ∧ Q (dRange 0 j.toNat) | _ => False
def diR2 (t : T2A) : T2I := fun env Q => t env fun ds => match ds with | [.int i, .int j] => (-1000000 ≤ i ∧ i ≤ 1000000) ∧ (-1000000 ≤ j ∧ j ≤ 1000000) ∧ Q (dRange i (j - i).toNat) | _ => False
theorem si_range1 {n : Nat} {t : TA} {u : T2A} (h : SA K n t u) : SI K (iRng1 t) (diR1 u) := by
  intro p env σ I H Q2 R rl q k
  refine h p env σ I H _ _ rl q fun ds vs I1 H1 q1 hl s1 h1 => ?_
  split at q1
  · obtain ⟨v, rfl, h2⟩ := h1.one
    cases h2
    exact ⟨_, rfl, by omega, by omega, k _ _ _ _ q1.2.2 s1 (itr_range _ _)⟩
  · exact q1.elim
def diEnum (t : T2A) : T2I := fun env Q => t env fun ds => match ds with | [.list xs] => Q (dEnum xs) | _ => False
def diZip (t : T2A) : T2I := fun env Q => t env fun ds => match ds with | [.list xs, .list ys] => Q (dZip xs ys) | [.tuple xs, .tuple ys] => Q (dZip xs ys) | _ => False
end
/-! ### comprehensions -/
def lcD (g : T2G) (tt : T2T) (te : T2E) (env : Ev) : List D → (List D → Prop) → Prop
  | [], Q => Q []
  | d :: ds, Q => g d env fun env1 => tt env1 fun b => if b = true then te env1 fun y => lcD g tt te env ds fun ys => Q (y :: ys) else lcD g tt te env ds Q
def dLc (ti : T2I) (g : T2G) (tt : T2T) (te : T2E) (vs : List Nat) : T2A := fun env Q => ti env fun ds => ds.length ≤ 1000000 ∧ lcD g tt te (wipeE env vs) ds Q
section
variable {K : Fg}
theorem so_lc {wi : TI} {g : TG} {tt : TT} {te : TE} {ti : T2I} {g2 : T2G} {tt2 : T2T} {te2 : T2E} {vs : List Nat} (hi : SI K wi ti) (hg : SG K vs g g2) (ht : ST K tt tt2) (he : SE K te te2) : SO K (tLc wi g tt te vs) (dLc ti g2 tt2 te2 vs) := by
  intro p env σ I H Q2 Q rl q k
  refine hi p env σ I H _ _ rl q fun ds J I1 H1 ⟨hlen, q1⟩ s1 it => ?_
  intro D hD
  have rl1 := rl.stp s1
  have hD0 : p.H0 D = none := by
    cases e : p.H0 D with
    | none => rfl
    | some o => exact absurd hD (rl1.r.gr.th D (by rw [e]; exact fun z => nomatch z))
  have hDI : I1 D = none := Same.free s1.ih hD
  have hDH : H D = none := by
    cases e : H D with
    | none => rfl
    | some o => exact absurd hD (s1.gr.th D (by rw [e]; exact fun z => nomatch z))
  have hm : p.m ≠ some D := fun e => (rl1.r.st D e).1 hD0
  have hown : ∀ (j : Nat) (x : List PyData), env[j]? = some (some (Sl.own x)) → σ[j]? ≠ some (some (V.ref D)) := fun j x e z => by
    obtain ⟨v, hv, a, ws, rfl, _, _, e4, _⟩ := rl1.r.sl j _ e
    rw [hv] at z
    cases z
    rw [hD] at e4; cases e4
  refine ⟨fun i m H' => m = ds.length - i ∧ i ≤ ds.length ∧ ∃ I' acc ys, RelL K p env σ I' H' ∧ Stp p I1 H1 I' H' ∧ I' D = none ∧ H' D = some (.lst acc) ∧ Rps K I' acc ys ∧ acc.length ≤ i ∧ lcD g2 tt2 te2 (wipeE env vs) (ds.drop i) fun zs => Q2 (ys ++ zs),
    ⟨ds.length, by simp, Nat.zero_le _, I1, [], [], rl1.beside hD0 hDI (fun _ _ z => by rw [hD] at z; cases z) (fun _ z => by rw [hD] at z; cases z) (rl1.freshCell (.refl rl1.same) hD) hown, Stp.fresh s1.ih hD, hDI, upd_same, .nil, Nat.le_refl _, q1⟩, ?_⟩
  rintro i m H' ⟨rfl, hi', I', acc, ys, r', st', hDI', hDH', rp, hacc, q'⟩
  by_cases hlt : i < ds.length
  · refine .inr ⟨it.go i I' H' st'.ii st'.ih hlt, fun H'' => ∃ I'' acc ys, RelL K p env σ I'' H'' ∧ Stp p I1 H1 I'' H'' ∧ I'' D = none ∧ H'' D = some (.lst acc) ∧ Rps K I'' acc ys ∧ acc.length ≤ i + 1 ∧ lcD g2 tt2 te2 (wipeE env vs) (ds.drop (i + 1)) fun zs => Q2 (ys ++ zs),
      fun H'' z => ⟨ds.length - (i + 1), by omega, rfl, by omega, z⟩, fun x H2 y => ?_⟩
    obtain ⟨I2, d, g1, hd, rd⟩ := it.yld i x I' H' H2 st'.ii st'.ih hlt y
    have hdrop : ds.drop i = d :: ds.drop (i + 1) := by
      have hdd : ds[i] = d := Option.some.inj ((List.getElem?_eq_getElem hlt).symm.trans hd)
      rw [List.drop_eq_getElem_cons hlt, hdd]
    rw [hdrop] at q'
    have st2 := st'.trans (Stp.of (p := p) g1)
    have r2 := r'.grow' g1
    have q2 : g2 d (wipeE env vs) (fun env1 => tt2 env1 fun b => if b = true then te2 env1 fun y => lcD g2 tt2 te2 (wipeE env vs) (ds.drop (i + 1)) fun zs => Q2 (ys ++ (y :: zs)) else lcD g2 tt2 te2 (wipeE env vs) (ds.drop (i + 1)) fun zs => Q2 (ys ++ zs)) := q'
    have keepD : ∀ {I3 H3 I4 H4}, Stp p I3 H3 I4 H4 → I3 D = none → H3 D = some (.lst acc) → I4 D = none ∧ H4 D = some (.lst acc) := fun s a b =>
      ⟨s.gr.fr D a (by rw [b]; exact fun z => nomatch z), s.gr.hh D _ b hm⟩
    obtain ⟨d2, d3⟩ := keepD (Stp.of (p := p) g1) hDI' hDH'
    refine hg p (wipeE env vs) (L2.wipe σ vs) I2 H2 x d _ _ (r2.wipe vs) rd q2 fun env1 σ1 I3 H3 q3 r3 s3 w3 => ⟨by rw [w3]; exact wipe_wipe σ vs, ?_⟩
    obtain ⟨d4, d5⟩ := keepD s3 d2 d3
    refine ht p env1 σ1 I3 H3 _ _ r3 q3 fun b I4 H4 q4 s4 => ?_
    obtain ⟨d6, d7⟩ := keepD s4 d4 d5
    have s34 := s3.trans s4
    cases b with
    | false =>
      rw [if_neg Bool.false_ne_true] at q4 ⊢
      exact ⟨I4, acc, ys, r2.stp s34, st2.trans s34, d6, d7, Rps.mono (g1.ii.trans s34.ii) _ _ rp, by omega, q4⟩
    | true =>
      rw [if_pos rfl] at q4 ⊢
      refine he p env1 σ1 I4 H4 _ _ (r3.stp s4) q4 fun e v I5 H5 q5 s5 r5 => ?_
      obtain ⟨d8, d9⟩ := keepD s5 d6 d7
      have s35 := s34.trans s5
      have st5 := st2.trans s35
      have r6 := (r2.stp s35)
      refine ⟨acc, d9, Nat.lt_of_le_of_lt hacc (Nat.lt_of_lt_of_le hlt (le_line hlen)), I5, acc ++ [v], ys ++ [e], r6.beside hD0 d8 (fun _ _ z => by rw [d9] at z; exact nomatch z) (fun _ z => by rw [d9] at z; exact nomatch z) (rl1.freshCell st5 hD) hown, ⟨⟨st5.ii, fun b o z => by rw [upd_ne (ne_of_none z d8)]; exact st5.ih b o z, fun b o z n => ?_, st5.gr.fr, fun b z => ?_⟩, fun s e1 e2 => ?_⟩, d8, upd_same,
        Rps.append (Rps.mono (g1.ii.trans s35.ii) _ _ rp) (.cons r5 .nil), by rw [List.length_append, List.length_singleton]; omega, ?_⟩
      · have hb : b ≠ D := fun w => by rw [w, hD] at z; cases z
        rw [upd_ne hb]; exact st5.gr.hh b o z n
      · have hb : b ≠ D := fun w => z (by rw [w]; exact hD)
        rw [upd_ne hb]; exact st5.gr.th b z
      · obtain ⟨f0, l, c, n, ns, f1, f2, f3⟩ := st5.st s e1 e2
        have hs : s ≠ D := fun w => hm (by rw [e1, w])
        exact ⟨f0, l, c, n, ns, by rw [upd_ne hs]; exact f1, f2, f3⟩
      · have ee : ∀ zs : List PyData, (ys ++ [e]) ++ zs = ys ++ (e :: zs) := fun zs => by rw [List.append_assoc]; rfl
        simp only [ee]
        exact q5
  · have hi2 : i = ds.length := by omega
    subst hi2
    rw [List.drop_length] at q'
    have q' : Q2 (ys ++ []) := q'
    rw [List.append_nil] at q'
    exact .inl ⟨it.stop _ I' H' st'.ii st'.ih rfl, k ys D acc I' H' q' (s1.trans st') hDH hDI' hDH' rp⟩
end
end Z2
namespace Z2
open PySem PySem.Spec PyProof.Rows L2
def dSeq (t u : T2S) : T2S := fun E env => t { E with nx := u E } env
def dNext : T2S := fun E env => E.nx env
def dAsg (t : T2E) (g : T2G) : T2S := fun E env => t env fun d => g d env E.nx
def dAsgO (t : T2A) (i : Nat) : T2S := fun E env => t env fun ds => E.nx (env.set i (some (.own ds)))
def dDrop (t : T2E) : T2S := fun E env => t env fun _ => E.nx env
def dRet (t : T2E) : T2S := fun E env => t env E.rt
def dRetN : T2S := fun E _ => E.rt .none
def dIfS (c : T2T) (t u : T2S) : T2S := fun E env => c env fun b => if b = true then t E env else u E env
def dNever : T2S := fun _ _ => False
def dBreak : T2S := fun E env => E.bk env
def dCont : T2S := fun E env => E.ct env
def forD (g : T2G) (tb : T2S) (E : Ends2) : List D → Ev → Prop
  | [] => E.nx
  | d :: ds => fun env => g d env fun env1 => tb { E with nx := forD g tb E ds, ct := forD g tb E ds, bk := E.nx } env1
def dFor (ti : T2I) (g : T2G) (tb : T2S) : T2S := fun E env => ti env fun ds => forD g tb E ds env
def dFrz (i : Nat) (t : T2S) : T2S := fun E env => match env[i]? with | some (some (.own ds)) => t E (env.set i (some (.dat (.list ds)))) | some (some (.dat _)) => t E env | _ => False
def dApp (i : Nat) (t : T2E) : T2S := fun E env => match env[i]? with | some (some (.own ds)) => t env fun d => ds.length < 1000000 ∧ E.nx (env.set i (some (.own (ds ++ [d])))) | _ => False
def dExt (i : Nat) (t : T2E) : T2S := fun E env => match env[i]? with | some (some (.own ds)) => t env fun d => (match d with | .list es => ds.length + es.length ≤ 1000000 ∧ E.nx (env.set i (some (.own (ds ++ es)))) | _ => False) | _ => False
def dSetIx (i : Nat) (t u : T2E) : T2S := fun E env => match env[i]? with
  | some (some (.own ds)) => t env fun d => u env fun k => (match k with | .int j => (match ixN ds.length j with | some n => E.nx (env.set i (some (.own (ds.set n d)))) | none => False) | _ => False)
  | _ => False
section
variable {K : Fg} {ts us : TS} {t u : T2S} {te tf : TE} {t2 u2 : T2E}
theorem ss_seq (h1 : SS K ts t) (h2 : SS K us u) : SS K (tSeq ts us) (dSeq t u) := fun p env σ I H D2 E r q e =>
  h1 p env σ I H _ _ r q ⟨fun env' σ' I' H' q' r' => h2 p env' σ' I' H' _ _ r' q' e, e.rt, e.bk, e.ct, e.rd, e.re, e.rv⟩
theorem ss_next : SS K tNext dNext := fun p env σ I H D2 E r q e => e.nx _ _ _ _ q r
theorem ss_never : SS K tNever dNever := fun p env σ I H D2 E r q e => q.elim
theorem ss_asg {vs : List Nat} {g : TG} {g2 : T2G} (h : SE K te t2) (hg : SG K vs g g2) : SS K (tAsg te g) (dAsg t2 g2) := fun p env σ I H D2 E r q e =>
  h p env σ I H _ _ r q fun d v I' H' q' s rp => hg p env σ I' H' v d _ _ (r.stp s) rp q' fun env' σ' I2 H2 q2 r2 _ _ => e.nx _ _ _ _ q2 r2
theorem ss_set {i : Nat} (h : SE K te t2) : SS K (tAsg te (gName i)) (dAsg t2 (gN i)) := ss_asg (vs := [i]) h (sg_name i (List.mem_singleton.mpr rfl))
theorem ss_asgO {i : Nat} {a : T2A} (h : SO K te a) : SS K (tAsg te (gName i)) (dAsgO a i) := fun p env σ I H D2 E r q e =>
  h p env σ I H _ _ r q fun ds l vs I' H' q' s h0 h1 h2 h3 => by
    have r' := r.stp s
    refine e.nx _ _ _ _ q' (r'.setOwn ?_ h1 h2 h3 (fun j x e z => ?_) ?_ i)
    · cases e0 : p.H0 l with
      | none => rfl
      | some o => exact absurd h0 (r.r.gr.th l (by rw [e0]; exact fun z => nomatch z))
    · obtain ⟨v, hv, a, ws, rfl, _, _, e4, _⟩ := r.r.sl j _ e
      rw [hv] at z
      cases z
      rw [h0] at e4; cases e4
    · exact r.freshCell s h0
theorem ss_drop (h : SE K te t2) : SS K (tDrop te) (dDrop t2) := fun p env σ I H D2 E r q e =>
  h p env σ I H _ _ r q fun d v I' H' q' s rp => e.nx _ _ _ _ q' (r.stp s)
theorem ss_ret (h : SE K te t2) : SS K (tRet te) (dRet t2) := fun p env σ I H D2 E r q e =>
  h p env σ I H _ _ r q fun d v I' H' q' s rp => e.rt d v I' H' q' (r.r.gr.trans s.gr) (fun a ea => s.st a ea (r.r.st a ea).2) rp
theorem ss_if {c : TT} {c2 : T2T} (h : ST K c c2) (h1 : SS K ts t) (h2 : SS K us u) : SS K (tIfS c ts us) (dIfS c2 t u) := by
  intro p env σ I H D2 E r q e
  refine h p env σ I H _ _ r q fun b I' H' q' s => ?_
  cases b with
  | true =>
    rw [if_pos rfl] at q' ⊢
    exact h1 p env σ I' H' _ _ (r.stp s) q' e
  | false =>
    rw [if_neg Bool.false_ne_true] at q' ⊢
    exact h2 p env σ I' H' _ _ (r.stp s) q' e
theorem ss_frz (i : Nat) (h : SS K ts t) : SS K ts (dFrz i t) := by
  intro p env σ I H D2 E r q e
  unfold dFrz at q
  split at q
  · rename_i ds e2
    obtain ⟨I', _, r'⟩ := r.freeze e2
    exact h p _ σ I' H _ _ r' q e
  · exact h p _ σ I H _ _ r q e
  · exact q.elim
theorem ss_for {wi : TI} {g : TG} {ti : T2I} {g2 : T2G} {vs : List Nat} (hi : SI K wi ti) (hg : SG K vs g g2) (hb : SS K ts t) : SS K (tFor wi g ts) (dFor ti g2 t) := by
  intro p env σ I H D2 E r q e
  refine hi p env σ I H _ _ r q fun ds J I1 H1 q1 s1 it => ?_
  refine ⟨fun i m σ' H' => m = ds.length - i ∧ i ≤ ds.length ∧ ∃ env' I', RelL K p env' σ' I' H' ∧ Same I1 I' ∧ forD g2 t D2 (ds.drop i) env', ⟨ds.length, by simp, Nat.zero_le _, env, I1, r.stp s1, Same.refl _, q1⟩, ?_⟩
  rintro i m σ' H' ⟨rfl, hi', env', I', r', ii, q'⟩
  by_cases hlt : i < ds.length
  · refine .inr ⟨it.go i I' H' ii r'.same hlt, fun σ2 H2 => ∃ env2 I2, RelL K p env2 σ2 I2 H2 ∧ Same I1 I2 ∧ forD g2 t D2 (ds.drop (i + 1)) env2, fun σ2 H2 z => ⟨ds.length - (i + 1), by omega, rfl, by omega, z⟩, fun x H2 y => ?_⟩
    obtain ⟨I2, d, g1, hd, rd⟩ := it.yld i x I' H' H2 ii r'.same hlt y
    have hdrop : ds.drop i = d :: ds.drop (i + 1) := by
      have hdd : ds[i] = d := Option.some.inj ((List.getElem?_eq_getElem hlt).symm.trans hd)
      rw [List.drop_eq_getElem_cons hlt, hdd]
    rw [hdrop] at q'
    refine hg p env' σ' I2 H2 x d _ _ (r'.grow' g1) rd q' fun env3 σ3 I3 H3 q3 r3 s3 _ => ?_
    have i3 := (ii.trans g1.ii).trans s3.ii
    have back : ∀ {env σ I H}, RelL K { p with B := I1 } env σ I H → RelL K p env σ I H ∧ Same I1 I := fun {env σ I H} z => ⟨z.rebase ((r.stp s1).r.bs.trans z.r.bs), z.r.bs⟩
    exact hb { p with B := I1 } env3 σ3 I3 H3 _ _ (r3.rebase i3) q3 ⟨fun env4 σ4 I4 H4 q4 r4 => ⟨env4, I4, (back r4).1, (back r4).2, q4⟩, e.rt, fun env4 σ4 I4 H4 q4 r4 => e.nx _ _ _ _ q4 (back r4).1,
      fun env4 σ4 I4 H4 q4 r4 => ⟨env4, I4, (back r4).1, (back r4).2, q4⟩, e.rd, fun env4 σ4 I4 H4 d v q4 r4 rp => e.re _ _ _ _ _ _ q4 (back r4).1 rp, fun env4 σ4 I4 H4 i v q4 r4 hv => e.rv _ _ _ _ _ _ q4 (back r4).1 hv⟩
  · have hi2 : i = ds.length := by omega
    subst hi2
    rw [List.drop_length] at q'
    exact .inl ⟨it.stop _ I' H' ii r'.same rfl, e.nx _ _ _ _ q' r'⟩
/-! own lists that change -/
theorem ss_app (i : Nat) (h : SE K te t2) : SS K (tDrop (tBM K "list" rAppend (tVar i) (tCons te tNil))) (dApp i t2) := by
  intro p env σ I H D2 E r q e
  unfold dApp at q
  split at q
  · rename_i ds e2
    obtain ⟨v, hv, a, vs, rfl, _, _, e4, e5⟩ := r.r.sl i _ e2
    refine ⟨_, hv, .inl ⟨rfl, _, SqL.of e4⟩, h p env σ I H _ _ r q fun d v I1 H1 ⟨hl, q1⟩ s1 r1 => ?_⟩
    have r' := r.stp s1
    obtain ⟨v', hv', a', ws, rfl, _, _, f4, f5⟩ := r'.r.sl i _ e2
    rw [hv] at hv'; cases hv'
    refine ⟨a, ws, v, rfl, rfl, f4, lt_line (by rw [f5.length]; exact hl), ?_⟩
    exact e.nx _ _ _ _ q1 (r'.mutOwn e2 hv (Rps.append f5 (.cons r1 .nil)))
  · exact q.elim
end
/-! ### calls, promises -/
/-- a def over data: n arguments, what it does -/
def spD (K : Fg) (n : Nat) (f : RCD) : Sp := fun vs H Q _ => ∃ (I : Hp) (ds : List D) (Q2 : D → Prop), vs.length = n ∧ Same I H ∧ Rps K I vs ds ∧ f ds Q2 ∧ ∀ d v I' H', Q2 d → Gr none I H I' H' → Rp K I' v d → Q v H'
/-- .. whose first argument is the draws' list -/
def spS (K : Fg) (n : Nat) (f : RCD) : Sp := fun vs H Q _ => ∃ (I : Hp) (a : Addr) (ws : List V) (ds : List D) (Q2 : D → Prop), vs = .ref a :: ws ∧ ws.length = n ∧ Same I H ∧ Strm I H a ∧ Rps K I ws ds ∧ f ds Q2 ∧
  ∀ d v I' H', Q2 d → Gr (some a) I H I' H' → Strm I' H' a → Rp K I' v d → Q v H'
def dCallS (i : Nat) (f : RCD) (t : T2A) : T2E := fun env Q => (match env[i]? with | some (some .strm) => True | _ => False) ∧ t env fun ds => f ds Q
section
variable {K : Fg} {n : Nat} {f : RCD} {E : XK} {ta : TA} {t : T2A}
theorem se_call (h : SA K n ta t) : SE K (tCall (spD K n f) [] E ta) (dCB f t) := by
  intro p env σ I H Q2 Q rl q k
  refine h p env σ I H _ _ rl q fun ds vs I1 H1 q1 hl s1 h1 => ?_
  rw [List.append_nil]
  exact ⟨I1, ds, Q2, hl, s1.ih, h1, q1, fun d v I' H' q' g r' => k d v I' H' q' (s1.trans (.of g)) r'⟩
theorem se_callS (i : Nat) (h : SA K n ta t) : SE K (tCall (spS K n f) [] E (tCons (tVar i) ta)) (dCallS i f t) := by
  intro p env σ I H Q2 Q rl q k
  obtain ⟨q0, q⟩ := q
  split at q0
  · rename_i e2
    obtain ⟨v, hv, a, rfl, ha⟩ := rl.r.sl i _ e2
    refine ⟨_, hv, h p env σ I H _ _ rl q fun ds vs I1 H1 q1 hl s1 h1 => ?_⟩
    show spS K n f ((V.ref a :: vs) ++ []) H1 Q E
    rw [List.append_nil]
    have r1 := rl.stp s1
    exact ⟨I1, a, vs, ds, Q2, rfl, hl, s1.ih, (r1.r.st a ha).2, h1, q1, fun d v I' H' q' g st r' => k d v I' H' q' (s1.trans ⟨by rw [ha]; exact g, fun s es _ => by rw [ha] at es; cases es; exact st⟩) r'⟩
  · exact q0.elim
end
def envD (N n : Nat) (ds : List D) : Ev := ds.map (fun d => some (.dat d)) ++ List.replicate (N - n) none
def bodyD (N n : Nat) (t : T2S) : RCD := fun ds Q => ds.length = n ∧ t { nx := fun _ => Q .none, rt := Q } (envD N n ds)
def bodyS (N n : Nat) (t : T2S) : RCD := fun ds Q => ds.length = n ∧ t { nx := fun _ => Q .none, rt := Q } (some .strm :: envD N n ds)
theorem env_get {N n : Nat} {ds : List D} {i : Nat} {x : Sl} (h : (envD N n ds)[i]? = some (some x)) : ∃ d, x = .dat d ∧ ds[i]? = some d := by
  unfold envD at h
  by_cases hi : i < ds.length
  · rw [List.getElem?_append_left (by rw [List.length_map]; exact hi), List.getElem?_map] at h
    cases e : ds[i]? with
    | none => rw [e] at h; cases h
    | some d => rw [e] at h; cases h; exact ⟨d, rfl, rfl⟩
  · rw [List.getElem?_append_right (by rw [List.length_map]; omega), List.getElem?_replicate] at h
    split at h <;> cases h
theorem start_get {N : List Str} {vs : List V} {i : Nat} {v : V} (h : vs[i]? = some v) : (L2.start N vs)[i]? = some (some v) := by
  unfold L2.start
  have hi := (List.getElem?_eq_some_iff.mp h).1
  rw [List.getElem?_append_left (by rw [List.length_map]; exact hi), List.getElem?_map, h]
  rfl
theorem body_ok {K : Fg} {N : List Str} {n : Nat} {ts : TS} {t : T2S} (h : SS K ts t) {vs : List V} {H : Hp} {Q : VK} {E : XK} (q : spD K n (bodyD N.length n t) vs H Q E) : ts { nx := fun _ H' => Q .non H', rt := Q } (L2.start N vs) H := by
  obtain ⟨I, ds, Q2, hl, e, r, ⟨hd, q⟩, k⟩ := q
  refine h ⟨none, I, H, I⟩ _ (L2.start N vs) I H _ _ ⟨⟨.refl e, fun i x z => ?_, fun i j x y a _ z _ _ => ?_, (fun s z => nomatch z), Same.refl _, fun i j w w' x y a _ z _ _ => (by obtain ⟨d, z, _⟩ := env_get z; cases z), fun i j x y u v c _ hm z1 z2 _ _ _ => by
      obtain ⟨d1, z1, _⟩ := env_get z1
      obtain ⟨d2, z2, _⟩ := env_get z2
      cases z1
      cases z2
      cases hm⟩, ?_⟩ q ⟨fun env σ I' H' q' r' => k _ _ _ _ q' r'.r.gr .non, fun d v I' H' q' g _ r' => k _ _ _ _ q' g r', fun _ _ _ _ z => z.elim, fun _ _ _ _ z => z.elim, fun _ _ _ _ _ _ z => z.elim, fun _ _ _ _ _ _ z => z.elim, fun _ _ _ _ _ _ z => z.elim⟩
  · obtain ⟨d, rfl, hd⟩ := env_get z
    obtain ⟨v, hv, rv⟩ := r.got hd
    exact ⟨v, start_get hv, rv⟩
  · obtain ⟨d, z, _⟩ := env_get z
    cases z
  · unfold envD L2.start
    rw [List.length_append, List.length_append, List.length_map, List.length_map, List.length_replicate, List.length_replicate, hl, hd]
theorem body_okS {K : Fg} {N : List Str} {n : Nat} {ts : TS} {t : T2S} (h : SS K ts t) {vs : List V} {H : Hp} {Q : VK} {E : XK} (q : spS K n (bodyS (N.length - 1) n t) vs H Q E) (hN : 1 ≤ N.length) : ts { nx := fun _ H' => Q .non H', rt := Q } (L2.start N vs) H := by
  obtain ⟨I, a, ws, ds, Q2, rfl, hl, e, st, r, ⟨hd, q⟩, k⟩ := q
  have hs : L2.start N (V.ref a :: ws) = some (V.ref a) :: (ws.map some ++ List.replicate (N.length - 1 - ws.length) none) := by
    unfold L2.start
    rw [List.map_cons, List.cons_append, List.length_cons, Nat.sub_add_eq, Nat.sub_right_comm]
  rw [hs]
  have hH : H a ≠ none := by
    obtain ⟨_, _, _, _, _, z, _⟩ := st
    rw [z]; exact fun w => nomatch w
  refine h ⟨some a, I, H, I⟩ _ _ I H _ _ ⟨⟨.refl e, fun i x z => ?_, fun i j x y b _ z _ _ => ?_, fun s z => by cases z; exact ⟨hH, st⟩, Same.refl _, fun i j w w' x y b _ z _ _ => (by
      cases i with
      | zero => rw [List.getElem?_cons_zero] at z; cases z
      | succ i => rw [List.getElem?_cons_succ] at z; obtain ⟨d, z, _⟩ := env_get z; cases z), fun i j x y u v c _ hm z1 z2 _ _ _ => by
      have k : ∀ (i : Nat) (x : Sl), (some Sl.strm :: envD (N.length - 1) n ds)[i]? = some (some x) → isMat x = false := fun i x z => by
        cases i with
        | zero => rw [List.getElem?_cons_zero] at z; cases z; rfl
        | succ i => rw [List.getElem?_cons_succ] at z; obtain ⟨d, z, _⟩ := env_get z; cases z; rfl
      rw [k i x z1, k j y z2] at hm
      cases hm⟩, ?_⟩ q
    ⟨fun env σ I' H' q' r' => k _ _ _ _ q' r'.r.gr (r'.r.st a rfl).2 .non, fun d v I' H' q' g s r' => k _ _ _ _ q' g (s a rfl) r', fun _ _ _ _ z => z.elim, fun _ _ _ _ z => z.elim, fun _ _ _ _ _ _ z => z.elim, fun _ _ _ _ _ _ z => z.elim, fun _ _ _ _ _ _ z => z.elim⟩
  · cases i with
    | zero =>
      rw [List.getElem?_cons_zero] at z ⊢
      cases z
      exact ⟨_, rfl, a, rfl, rfl⟩
    | succ i =>
      rw [List.getElem?_cons_succ] at z ⊢
      obtain ⟨d, rfl, hd⟩ := env_get z
      obtain ⟨v, hv, rv⟩ := r.got hd
      refine ⟨v, ?_, rv⟩
      have hi := (List.getElem?_eq_some_iff.mp hv).1
      rw [List.getElem?_append_left (by rw [List.length_map]; exact hi), List.getElem?_map, hv]
      rfl
  · cases i with
    | zero => rw [List.getElem?_cons_zero] at z; cases z
    | succ i =>
      rw [List.getElem?_cons_succ] at z
      obtain ⟨d, z, _⟩ := env_get z
      cases z
  · unfold envD
    rw [List.length_cons, List.length_cons, List.length_append, List.length_append, List.length_map, List.length_map, List.length_replicate, List.length_replicate, hl, hd]
section
variable {P : Program} {w : World} {K : Fg} {mg : Str → Option Value} {base : Heap}
theorem fn_ok {x qual : Str} {st : Stmt} {f : Addr} {fd : FuncData} {N ps : List Str} {k n : Nat} {t : T2S} (F : Fun K x qual st f fd) (S : FnScope N ps (defScope st)) (hn : ps.length = n)
    (hb : ∀ (cdv : Value) (A : Around) (outer : List Env) (s : Shared) (H : Hp) (Q : VK) (E : XK), Room k (A.deeper (envOfC qual (defScope st) s.heap.objs.size f cdv)) →
      ∃ ts, PSs (cxOf CX0 P w K mg base N qual (defScope st) f cdv A outer s H E).nox (defBody st) ts ∧ SS K ts t) : FnOk P w K mg base CX0 (k + 1) f fd ps (spD K n (bodyD N.length n t)) := by
  refine F.ok S (fun vs H Q E h => ?_) fun cdv A outer s H vs Q E hr h => ?_
  · obtain ⟨_, _, _, hl, _⟩ := h
    rw [hl, hn]
  · obtain ⟨ts, h1, h2⟩ := hb cdv A outer s H Q E hr
    exact ⟨ts, h1, body_ok h2 h⟩
theorem fn_okS {x qual : Str} {st : Stmt} {f : Addr} {fd : FuncData} {N ps : List Str} {k n : Nat} {t : T2S} (F : Fun K x qual st f fd) (S : FnScope N ps (defScope st)) (hn : ps.length = n + 1) (hN : 1 ≤ N.length)
    (hb : ∀ (cdv : Value) (A : Around) (outer : List Env) (s : Shared) (H : Hp) (Q : VK) (E : XK), Room k (A.deeper (envOfC qual (defScope st) s.heap.objs.size f cdv)) →
      ∃ ts, PSs (cxOf CX0 P w K mg base N qual (defScope st) f cdv A outer s H E).nox (defBody st) ts ∧ SS K ts t) : FnOk P w K mg base CX0 (k + 1) f fd ps (spS K n (bodyS (N.length - 1) n t)) := by
  refine F.ok S (fun vs H Q E h => ?_) fun cdv A outer s H vs Q E hr h => ?_
  · obtain ⟨_, _, ws, _, _, rfl, hl, _⟩ := h
    rw [List.length_cons, hl, hn]
  · obtain ⟨ts, h1, h2⟩ := hb cdv A outer s H Q E hr
    exact ⟨ts, h1, body_okS h2 h hN⟩
end
end Z2
namespace Z2
open PySem PySem.Spec PyProof.Rows L2
/-! ### operators of several kinds -/
section
variable {K : Fg}
theorem Sim2O.sim {r : R2} {r2 : D → D → (List D → Prop) → Prop} (h : Sim2O K r r2) : Sim2 K r (fun x y Q => r2 x y fun ds => Q (.list ds)) := fun I H x y dx dy Q2 Q e hx hy q k =>
  h I H x y dx dy _ Q e hx hy q fun es a ws q' h0 r' => k _ _ _ _ q' (Gr.new e h0) (.lst upd_same (Rps.mono (Gr.new (m := none) (o := .lst ws) e h0).ii _ _ r'))
def dAdd : R2D := fun x y Q => match x, y with
  | .int i, .int j => Q (.int (i + j)) | .tuple xs, .tuple ys => xs.length + ys.length ≤ 1000000 ∧ Q (.tuple (xs ++ ys)) | .list xs, .list ys => xs.length + ys.length ≤ 1000000 ∧ Q (.list (xs ++ ys)) | _, _ => False
abbrev rAddA (K : Fg) : R2 := fun x y H Q => (rI0 (fun i j => V.int (i + j)) x y H Q ∨ rCatA K x y H Q) ∨ rCat x y H Q
theorem op_addA {X : Cx} : OpR X (binaryOp .Add) (rAddA X.K) := OpR.or (OpR.or op_add op_catA) op_cat
theorem s2_add : Sim2 K (rAddA K) dAdd := by
  intro I H x y dx dy Q2 Q e hx hy q k
  unfold dAdd at q
  split at q
  · exact .inl (.inl (s2_int (g := fun i j => i + j) I H x y _ _ Q2 Q e hx hy q k))
  · exact .inl (.inr (s2_catT I H x y _ _ Q2 Q e hx hy q k))
  · exact .inr (s2_catL.sim I H x y _ _ Q2 Q e hx hy q k)
  · exact q.elim
def dMul : R2D := fun x y Q => match x, y with
  | .int i, .int j => CMul i j ∧ Q (.int (i * j)) | .list xs, .int n => -1000000 ≤ n ∧ n ≤ 1000000 ∧ xs.length * n.toNat ≤ 1000000 ∧ Q (.list (List.replicate n.toNat xs).flatten)
  | .tuple xs, .int n => xs ≠ [] ∧ 2 ≤ n ∧ n ≤ 1000 ∧ xs.length ≤ 1000 ∧ Q (.tuple (List.replicate n.toNat xs).flatten) | _, _ => False
abbrev rMulA (K : Fg) : R2 := fun x y H Q => (rI CMul (fun i j => V.int (i * j)) x y H Q ∨ rRepT K x y H Q) ∨ rRep x y H Q
theorem op_mulA {X : Cx} : OpR X (binaryOp .Mult) (rMulA X.K) := OpR.or (OpR.or op_mul op_repT) op_rep
theorem s2_mul : Sim2 K (rMulA K) dMul := by
  intro I H x y dx dy Q2 Q e hx hy q k
  unfold dMul at q
  split at q
  · exact .inl (.inl (s2_intC (C := CMul) (g := fun i j => i * j) I H x y _ _ Q2 Q e hx hy q k))
  · exact .inr (s2_repL.sim I H x y _ _ Q2 Q e hx hy q k)
  · exact .inl (.inr (s2_repT I H x y _ _ Q2 Q e hx hy q k))
  · exact q.elim
def dSub : R2D := d2I fun i j => .int (i - j)
def dDiv : R2D := d2IC CDiv fun i j => .int (i / j)
def dMod : R2D := d2IC (fun _ j => 0 < j) fun i j => .int (i % j)
def dPow : R2D := d2IC CPow fun i j => .int (i ^ j.toNat)
def dLt : R2D := d2I fun i j => .bool (decide (i < j))
def dLe : R2D := d2I fun i j => .bool (decide (i ≤ j))
def dGt : R2D := d2I fun i j => .bool (decide (j < i))
def dGe : R2D := d2I fun i j => .bool (decide (j ≤ i))
theorem s2_sub : Sim2 K (rI0 fun i j => .int (i - j)) dSub := s2_int (g := fun i j => i - j)
theorem s2_lt : Sim2 K (rI0 fun i j => .bl (decide (i < j))) dLt := s2_bool (g := fun i j => decide (i < j))
theorem s2_le : Sim2 K (rI0 fun i j => .bl (decide (i ≤ j))) dLe := s2_bool (g := fun i j => decide (i ≤ j))
theorem s2_gt : Sim2 K (rI0 fun i j => .bl (decide (j < i))) dGt := s2_bool (g := fun i j => decide (j < i))
theorem s2_ge : Sim2 K (rI0 fun i j => .bl (decide (j ≤ i))) dGe := s2_bool (g := fun i j => decide (j ≤ i))
def dNeg : R1D := fun x Q => match x with | .int i => Q (.int (-i)) | _ => False
theorem s1_neg : Sim1 K (rU fun i => .int (-i)) dNeg := by
  intro I H x dx Q2 Q e hx q k
  unfold dNeg at q
  split at q
  · cases hx; exact ⟨_, rfl, k _ _ I H q (.refl e) (.int _)⟩
  · exact q.elim
/-- a slice -/
def dSl (a : T2E) (l u : T2O) : T2E := fun env Q => a env fun x => l env fun lo => u env fun hi => match x with | .tuple ds => Q (.tuple (cutD ds lo hi)) | .list ds => Q (.list (cutD ds lo hi)) | _ => False
abbrev rSlAny (K : Fg) : V → Option Int → Option Int → Hp → VK → Prop := fun x lo hi H Q => rSlA K x lo hi H Q ∨ rSlL K x lo hi H Q
theorem sl_any {X : Cx} : L2.SlR X (rSlAny X.K) := L2.SlR.or sl_tupA sl_list
/-- truth -/
def dTru (a : T2E) : T2T := fun env Q => a env fun d => match d with
  | .bool b => Q b | .none => Q false | .int i => Q (i != 0) | .list ds => Q (!ds.isEmpty) | .tuple ds => Q (!ds.isEmpty) | .str x => x.length ≤ 1000000 ∧ Q ((x.length : Int) != 0) | _ => False
theorem Rps.isEmpty {I : Hp} {vs : List V} {ds : List D} (h : Rps K I vs ds) : vs.isEmpty = ds.isEmpty := by cases h <;> rfl
theorem st_truth {ta : TE} {a : T2E} (ha : SE K ta a) : ST K (fun σ H Q => ta σ H fun x H' => ∃ k, TruV K x H' k ∧ Q k H') (dTru a) := by
  intro p env σ I H Q2 Q rl q k
  refine ha p env σ I H _ _ rl q fun d v I1 H1 q1 s1 h1 => ?_
  cases h1 with
  | non => exact ⟨_, rfl, k _ _ _ q1 s1⟩
  | bl b => exact ⟨_, rfl, k _ _ _ q1 s1⟩
  | int b => exact ⟨_, rfl, k _ _ _ q1 s1⟩
  | str b => exact ⟨_, ⟨le_line q1.1, rfl⟩, k _ _ _ q1.2 s1⟩
  | lst e1 e2 => exact ⟨_, .inl ⟨_, SqL.of (s1.ih _ _ e1), rfl⟩, by rw [e2.isEmpty]; exact k _ _ _ q1 s1⟩
  | tup e1 e2 => exact ⟨_, .inr (.inl ⟨_, Same.sqt s1.ih e1, rfl⟩), by rw [e2.isEmpty]; exact k _ _ _ q1 s1⟩
  | dic _ _ => exact q1.elim
/-- a list or a tuple, walked -/
def iSeq (K : Fg) (tl : TE) : TI := fun σ H R => tl σ H fun x H1 => (∃ a xs, x = .ref a ∧ SqL K H1 a xs ∧ R (Itl K a) H1) ∨ ∃ a xs, x = .ref a ∧ SqT K H1 a xs ∧ R (Itt K a) H1
def diS (a : T2E) : T2I := fun env Q => a env fun d => match d with | .list ds => Q ds | .tuple ds => Q ds | _ => False
theorem si_seq {ta : TE} {a : T2E} (ha : SE K ta a) : SI K (iSeq K ta) (diS a) := by
  intro p env σ I H Q2 R rl q k
  refine ha p env σ I H _ _ rl q fun d v I1 H1 q1 s1 h1 => ?_
  cases d <;> first | exact q1.elim | skip
  · cases h1 with
    | lst h2 h3 => exact .inl ⟨_, _, rfl, SqL.of (s1.ih _ _ h2), k _ _ _ _ q1 s1 (itr_list h2 h3)⟩
  · cases h1 with
    | tup h2 h3 => exact .inr ⟨_, _, rfl, Same.sqt s1.ih h2, k _ _ _ _ q1 s1 (itr_tup h2 h3)⟩
end
theorem pi_seq {X : Cx} {tg l : Expr} {tl : TE} (hl : PE X l tl) : PI X tg l (iSeq X.K tl) := ⟨fun pins s σ H R I h =>
  thn (hl.run pins s σ H _ I h) fun v s1 ⟨x, H1, I1, r1, q1⟩ => by
    have fp : ∀ b ∈ [s1.heap.objs.size], FpOk X pins H1 b := fun b hb => by
      rw [List.mem_singleton.mp hb]; exact I1.fpOk (Nat.le_refl _) (I1.hok.fresh (Nat.le_refl _))
    rcases q1 with ⟨a, xs, rfl, hq, q⟩ | ⟨a, xs, rfl, hq, q⟩
    · cases r1
      obtain ⟨its, rv, pl, _⟩ := I1.list hq
      exact wpAny_pyIter_list pl.isList ⟨_, [s1.heap.objs.size], _, _, H1, rfl, I1.kept (t' := s1.toks) fun b o e => Heap.get?_push_of_some _ e, turn_list a _, ⟨_, Heap.get?_push_size _ rfl, rfl, rfl⟩, fp, q⟩
    · cases r1
      obtain ⟨its, rv, pl, _⟩ := I1.tuple hq
      exact wpAny_pyIter_tuple (show s1.heap.IsTuple a its.toArray from pl) ⟨_, [s1.heap.objs.size], _, _, H1, rfl, I1.kept (t' := s1.toks) fun b o e => Heap.get?_push_of_some _ e, turn_tuple a _, ⟨_, Heap.get?_push_size _ rfl, rfl, rfl⟩, fp, q⟩⟩
/-! ### the text's own names -/
theorem pe_gint {X : Cx} {x : Str} {n : Int} {pos : Pos} (h : ∃ t, X.mg x = some (.int n t)) (hg : Gl X x) (hd : (x == ("__debug__" : Str)) = false := by decide) : PE X (.Name x pos) (tC (.int n)) := by
  obtain ⟨t, h⟩ := h
  exact pe_glob hg h ⟨t, rfl⟩ hd
/-- a def of the text's top -/
def Df (K : Fg) (mg : Str → Option Value) (x : Str) (st : Stmt) : Prop := ∃ f fd, Fun K x x st f fd ∧ mg x = some (.ref f)
/-- a def that keeps its promise -/
structure Fx (P : Program) (w : World) (K : Fg) (mg : Str → Option Value) (base : Heap) (k : Nat) (x : Str) (ps : List Str) (sp : Sp) : Prop where
  ex : ∃ f fd, FnOk P w K mg base CX0 k f fd ps sp ∧ mg x = some (.ref f) ∧ PySem.W.keepIn K (.ref f) = true ∧ Binds K fd ps []
section
variable {P : Program} {w : World} {K : Fg} {mg : Str → Option Value} {base : Heap} {x : Str} {ps : List Str} {sp : Sp}
theorem pe_fx {X : Cx} {k : Nat} {p pos : Pos} {e : Expr} {es : List Expr} {t : TA} (G : Fx X.prog X.w X.K X.mg X.base k x ps sp) (hr : Room k X.A) (hg : Gl X x) (ha : PA X (e :: es) t) (hdb : (x == ("__debug__" : Str)) = false := by decide)
    (he : starEach (e :: es) X.env = (false, eval e X.env) :: starEach es X.env := by rfl) (hpl : (backTo pos (starEach es X.env)).any (·.1) = false := by rfl) : PE X (.Call (.Name x p) (e :: es) [] pos) (tCall sp [] E0 t) := by
  obtain ⟨f, fd, F, hm, hk, hb⟩ := G.ex
  exact pe_call F hr hg hm hk hb .nil pass0 ha hdb he hpl
/-- how a def of the top binds -/
def BindsBy (x : Str) (st : Stmt) (ps : List Str) : Prop := ∀ (kV doc pm : Value) (an : Option Addr) (cdv ct : Value) (us : List Value), us.length = ps.length → bindArgs (PySem.W.fnOf x x (defArgs st) (defBody st) (defScope st) .none kV doc pm an cdv ct) ⟨us, []⟩ = pure (ps.zip us)
theorem fx_of {st : Stmt} {N : List Str} {k n : Nat} {t : T2S} (d : Df K mg x st) (S : FnScope N ps (defScope st)) (bb : BindsBy x st ps) (hn : ps.length = n)
    (hb : ∀ (f : Addr) (cdv : Value) (A : Around) (outer : List Env) (s : Shared) (H : Hp) (Q : VK) (E : XK), Room k (A.deeper (envOfC x (defScope st) s.heap.objs.size f cdv)) →
      ∃ ts, PSs (cxOf CX0 P w K mg base N x (defScope st) f cdv A outer s H E).nox (defBody st) ts ∧ SS K ts t) : Fx P w K mg base (k + 1) x ps (spD K n (bodyD N.length n t)) := by
  obtain ⟨f, fd, F, hm⟩ := d
  exact ⟨f, fd, fn_ok F S hn (hb f), hm, F.kp, F.binds bb⟩
theorem fx_ofS {st : Stmt} {N : List Str} {k n : Nat} {t : T2S} (d : Df K mg x st) (S : FnScope N ps (defScope st)) (bb : BindsBy x st ps) (hn : ps.length = n + 1) (hN : 1 ≤ N.length)
    (hb : ∀ (f : Addr) (cdv : Value) (A : Around) (outer : List Env) (s : Shared) (H : Hp) (Q : VK) (E : XK), Room k (A.deeper (envOfC x (defScope st) s.heap.objs.size f cdv)) →
      ∃ ts, PSs (cxOf CX0 P w K mg base N x (defScope st) f cdv A outer s H E).nox (defBody st) ts ∧ SS K ts t) : Fx P w K mg base (k + 1) x ps (spS K n (bodyS (N.length - 1) n t)) := by
  obtain ⟨f, fd, F, hm⟩ := d
  exact ⟨f, fd, fn_okS F S hn hN (hb f), hm, F.kp, F.binds bb⟩
theorem Fx.imp {k : Nat} {sp' : Sp} (G : Fx P w K mg base k x ps sp) (h : ∀ vs H Q E, sp' vs H Q E → sp vs H Q E) : Fx P w K mg base k x ps sp' := by
  obtain ⟨f, fd, F, hm, hk, hb⟩ := G.ex
  exact ⟨f, fd, F.imp h, hm, hk, hb⟩
end
theorem spD_imp {K : Fg} {n : Nat} {f g : RCD} (h : ∀ ds Q, ds.length = n → g ds Q → f ds Q) : ∀ vs H Q E, spD K n g vs H Q E → spD K n f vs H Q E := fun vs H Q E ⟨I, ds, Q2, hl, e, r, q, k⟩ =>
  ⟨I, ds, Q2, hl, e, r, h ds Q2 (by rw [← r.length]; exact hl) q, k⟩
/-! ### classes as values -/
theorem ty_tuple {K : Fg} : tyTab K "tuple" := ⟨kit_ty (by decide +kernel), kit_ty (by decide +kernel), kit_ty (by decide +kernel), kit_ty (by decide +kernel), kit_ty (by decide +kernel), kit_ty (by decide +kernel), kit_ty (by decide +kernel)⟩
theorem ty_list {K : Fg} : tyTab K "list" := ⟨kit_ty (by decide +kernel), kit_ty (by decide +kernel), kit_ty (by decide +kernel), kit_ty (by decide +kernel), kit_ty (by decide +kernel), kit_ty (by decide +kernel), kit_ty (by decide +kernel)⟩
theorem ty_int {K : Fg} : tyTab K "int" := ⟨kit_ty (by decide +kernel), kit_ty (by decide +kernel), kit_ty (by decide +kernel), kit_ty (by decide +kernel), kit_ty (by decide +kernel), kit_ty (by decide +kernel), kit_ty (by decide +kernel)⟩
theorem ty_bool {K : Fg} : tyTab K "bool" := ⟨kit_ty (by decide +kernel), kit_ty (by decide +kernel), kit_ty (by decide +kernel), kit_ty (by decide +kernel), kit_ty (by decide +kernel), kit_ty (by decide +kernel), kit_ty (by decide +kernel)⟩
theorem ty_str {K : Fg} : tyTab K "str" := ⟨kit_ty (by decide +kernel), kit_ty (by decide +kernel), kit_ty (by decide +kernel), kit_ty (by decide +kernel), kit_ty (by decide +kernel), kit_ty (by decide +kernel), kit_ty (by decide +kernel)⟩
theorem bt_isi : bootBuiltins ("isinstance" : Str) = some (.builtin "isinstance") := by decide +kernel
theorem bt_all : bootBuiltins ("all" : Str) = some (.builtin "all") := by decide +kernel
theorem bt_abs : bootBuiltins ("abs" : Str) = some (.builtin "abs") := by decide +kernel
theorem bt_tuple : bootBuiltins ("tuple" : Str) = some (.type "tuple") := by decide +kernel
theorem bt_list : bootBuiltins ("list" : Str) = some (.type "list") := by decide +kernel
theorem bt_int : bootBuiltins ("int" : Str) = some (.type "int") := by decide +kernel
theorem bt_bool : bootBuiltins ("bool" : Str) = some (.type "bool") := by decide +kernel
theorem bt_str : bootBuiltins ("str" : Str) = some (.type "str") := by decide +kernel
/-! ### the draws -/
def spStream (K : Fg) : Sp := fun vs H Q _ => ∃ (a : Addr) (ns : List Int), vs = [.ref a] ∧ SqL K H a (ns.map V.int) ∧
  ∀ p l H', H' p = some (.lst [.ref l, .int 0, .int 0]) → H' l = some (.lst (ns.map V.int)) → p ≠ l → Q (.ref p) H'
def f_next : RCD := fun ds Q => ∃ n : Int, ds = [.int n] ∧ 0 < n ∧ n < 1073741824 ∧ ∀ d : Int, 0 ≤ d → d < n → Q (.int d)
def rInt : List V → Hp → VK → Prop := fun xs H Q => (∃ i, xs = [.int i] ∧ Q (.int i) H) ∨ ∃ k, xs = [.bl k] ∧ Q (.int (if k then 1 else 0)) H
def rAbs : List V → Hp → VK → Prop := fun xs H Q => ∃ i, xs = [.int i] ∧ Q (.int (if i < 0 then -i else i)) H
def rLenQ (K : Fg) : List V → Hp → VK → Prop := fun xs H Q => ∃ p ys, xs = [.ref p] ∧ (SqL K H p ys ∨ SqT K H p ys) ∧ Q (.int ys.length) H
abbrev iAdd (a b : TE) : TE := tOp (rI0 fun i j => .int (i + j)) a b
abbrev iMul (a b : TE) : TE := tOp (rI CMul fun i j => .int (i * j)) a b
abbrev iMod (a b : TE) : TE := tOp (rI (fun _ j => 0 < j) fun i j => .int (i % j)) a b
abbrev iDiv (a b : TE) : TE := tOp (rI CDiv fun i j => .int (i / j)) a b
abbrev iPow (a b : TE) : TE := tOp (rI CPow fun i j => .int (i ^ j.toNat)) a b
abbrev iLt (a b : TE) : TE := tOp (rI0 fun i j => .bl (decide (i < j))) a b
abbrev iAt (K : Fg) (a b : TE) : TE := tOp (rIxL K) a b
abbrev iInt (a : TE) : TE := tCB rInt (tCons a tNil)
/-- the cell is made anew -/
def t_refill (K : Fg) : TS :=
  tSeq (tAsg (iAt K (tVar 0) (tC (.int 2))) (gName 2)) (tSeq (tAsg (iAdd (tC (.int 7)) (tVar 2)) (gName 3))
    (tSeq (tIfS (tTest (iLt (tVar 2) (tCB (rLenQ K) (tCons (iAt K (tVar 0) (tC (.int 0))) tNil)))) (tAsg (tCB rAbs (tCons (iAt K (iAt K (tVar 0) (tC (.int 0))) (tVar 2)) tNil)) (gName 3)) tNext)
    (tSeq (tIfS (tTest (iLt (tVar 3) (iPow (tC (.int 10)) (tC (.int 18)))))
        (tSeq (tAsg (iMod (iInt (iAdd (iAdd (iMul (tVar 3) (tC (.int 48271))) (iMul (tVar 2) (tC (.int 69621)))) (tC (.int 11)))) (tC (.int 2147483647))) (gName 3))
          (tAsg (iAdd (iMul (iMod (iInt (iAdd (iMul (tVar 3) (tC (.int 16807))) (tC (.int 13)))) (tC (.int 2147483647))) (tC (.int 65537))) (tVar 3)) (gName 3))) tNext)
    (tSeq (tAsg (tVar 3) (gSub (tVar 0) (tC (.int 1)) rSetL)) (tAsg (iAdd (tVar 2) (tC (.int 1))) (gSub (tVar 0) (tC (.int 2)) rSetL))))))
def t_next (K : Fg) : TS :=
  tSeq (tIfS (tTest (tOp rEq (iAt K (tVar 0) (tC (.int 1))) (tC (.int 0)))) (t_refill K) tNext)
    (tSeq (tAsg (iMod (iInt (iAt K (tVar 0) (tC (.int 1)))) (tVar 1)) (gName 4)) (tSeq (tAsg (iDiv (iAt K (tVar 0) (tC (.int 1))) (tVar 1)) (gSub (tVar 0) (tC (.int 1)) rSetL)) (tRet (tVar 4))))
/-- the stream's list in any state -/
structure Drw (I H H' : Hp) (a l : Addr) (ns : List Int) : Prop where
  il : I l = some (.lst (ns.map V.int))
  ia : I a = none
  hh : ∀ b o, H b = some o → b ≠ a → H' b = some o
  th : ∀ b, H b ≠ none → H' b ≠ none
  ih : Same I H'
theorem Drw.put {I H H' : Hp} {a l : Addr} {ns : List Int} (d : Drw I H H' a l ns) (o : HO) : Drw I H (upd H' a o) a l ns :=
  ⟨d.il, d.ia, fun b u q n => by rw [upd_ne n]; exact d.hh b u q n, fun b q => by
    by_cases hb : b = a
    · rw [hb, upd_same]; exact fun z => nomatch z
    · rw [upd_ne hb]; exact d.th b q, fun b u q => by rw [upd_ne (ne_of_none q d.ia)]; exact d.ih b u q⟩
theorem next_ok {K : Fg} {s1 s2 s3 s4 s5 : Str} {vs : List V} {H : Hp} {Q : VK} {E : XK} (q : spS K 1 f_next vs H Q E) : t_next K { nx := fun _ H' => Q .non H', rt := Q } (L2.start [s1, s2, s3, s4, s5] vs) H := by
  obtain ⟨I, a, ws, ds, Q2, rfl, hl, e, ⟨ia, l, c, k, ns, ha, il, hk⟩, r, ⟨n, rfl, n0, n1, q⟩, post⟩ := q
  obtain ⟨v, rfl, rv⟩ := r.one
  cases rv
  have d0 : Drw I H H a l ns := ⟨il, ia, fun _ _ h _ => h, fun _ h => h, e⟩
  -- behind the first statement
  have tail : ∀ (c k : Int) (H' : Hp) (o2 o3 : Option V), Drw I H H' a l ns → H' a = some (.lst [.ref l, .int c, .int k]) → 0 ≤ k →
      tSeq (tAsg (iMod (iInt (iAt K (tVar 0) (tC (.int 1)))) (tVar 1)) (gName 4)) (tSeq (tAsg (iDiv (iAt K (tVar 0) (tC (.int 1))) (tVar 1)) (gSub (tVar 0) (tC (.int 1)) rSetL)) (tRet (tVar 4)))
        { nx := fun _ H' => Q .non H', rt := Q } [some (.ref a), some (.int n), o2, o3, none] H' := by
    intro c k H' o2 o3 d h hk
    refine ⟨_, rfl, a, _, 1, .int c, rfl, rfl, SqL.of h, rfl, .inl ⟨c, rfl, ?_⟩⟩
    refine ⟨_, rfl, c, n, rfl, rfl, n0, ?_⟩
    refine ⟨_, rfl, a, _, 1, .int c, rfl, rfl, SqL.of h, rfl, _, rfl, c, n, rfl, rfl, ⟨n0, n1⟩, ?_⟩
    refine ⟨_, rfl, a, _, 1, 1, rfl, rfl, h, rfl, ?_⟩
    refine ⟨_, rfl, ?_⟩
    have d2 := d.put (.lst ([V.ref l, .int c, .int k].set 1 (.int (c / n))))
    refine post _ _ I _ (q _ (Int.emod_nonneg _ (by omega)) (Int.emod_lt_of_pos _ n0)) ⟨Same.refl _, d2.ih, fun b o z m => d2.hh b o z (fun w => m (by rw [w])), fun b z _ => z, d2.th⟩ ⟨ia, l, c / n, k, ns, upd_same, il, hk⟩ (.int _)
  refine ⟨_, rfl, a, _, 1, .int c, rfl, rfl, SqL.of ha, rfl, rfl, _, rfl, ?_⟩
  refine ite2 (fun _ => ?_) (fun _ => tail c k H none none d0 ha hk)
  have hL : H l = some (.lst (ns.map V.int)) := e _ _ il
  refine ⟨_, rfl, a, _, 2, .int k, rfl, rfl, SqL.of ha, rfl, ?_⟩
  refine ⟨_, rfl, 7, k, rfl, rfl, ?_⟩
  refine ⟨_, rfl, _, rfl, a, _, 0, .ref l, rfl, rfl, SqL.of ha, rfl, l, _, rfl, .inl (SqL.of hL), k, _, rfl, rfl, _, rfl, ?_⟩
  have rest : ∀ cell : Int, tSeq (tIfS (tTest (iLt (tVar 3) (iPow (tC (.int 10)) (tC (.int 18)))))
        (tSeq (tAsg (iMod (iInt (iAdd (iAdd (iMul (tVar 3) (tC (.int 48271))) (iMul (tVar 2) (tC (.int 69621)))) (tC (.int 11)))) (tC (.int 2147483647))) (gName 3))
          (tAsg (iAdd (iMul (iMod (iInt (iAdd (iMul (tVar 3) (tC (.int 16807))) (tC (.int 13)))) (tC (.int 2147483647))) (tC (.int 65537))) (tVar 3)) (gName 3))) tNext)
      (tSeq (tAsg (tVar 3) (gSub (tVar 0) (tC (.int 1)) rSetL)) (tAsg (iAdd (tVar 2) (tC (.int 1))) (gSub (tVar 0) (tC (.int 2)) rSetL)))
      { nx := (tSeq (tAsg (iMod (iInt (iAt K (tVar 0) (tC (.int 1)))) (tVar 1)) (gName 4)) (tSeq (tAsg (iDiv (iAt K (tVar 0) (tC (.int 1))) (tVar 1)) (gSub (tVar 0) (tC (.int 1)) rSetL)) (tRet (tVar 4)))) { nx := fun _ H' => Q .non H', rt := Q }, rt := Q }
      [some (.ref a), some (.int n), some (.int k), some (.int cell), none] H := by
    intro cell
    have fin : ∀ cell : Int, tSeq (tAsg (tVar 3) (gSub (tVar 0) (tC (.int 1)) rSetL)) (tAsg (iAdd (tVar 2) (tC (.int 1))) (gSub (tVar 0) (tC (.int 2)) rSetL))
        { nx := (tSeq (tAsg (iMod (iInt (iAt K (tVar 0) (tC (.int 1)))) (tVar 1)) (gName 4)) (tSeq (tAsg (iDiv (iAt K (tVar 0) (tC (.int 1))) (tVar 1)) (gSub (tVar 0) (tC (.int 1)) rSetL)) (tRet (tVar 4)))) { nx := fun _ H' => Q .non H', rt := Q }, rt := Q }
        [some (.ref a), some (.int n), some (.int k), some (.int cell), none] H := by
      intro cell
      refine ⟨_, rfl, _, rfl, a, _, 1, 1, rfl, rfl, ha, rfl, ?_⟩
      refine ⟨_, rfl, k, 1, rfl, rfl, _, rfl, a, _, 2, 2, rfl, rfl, upd_same, rfl, ?_⟩
      exact tail cell (k + 1) _ _ _ ((d0.put _).put _) upd_same (by omega)
    refine ⟨_, rfl, 10, 18, rfl, rfl, ⟨by decide, by decide, by decide⟩, cell, _, rfl, rfl, _, rfl, ?_⟩
    refine ite2 (fun _ => ?_) (fun _ => fin cell)
    refine ⟨_, rfl, cell, 48271, rfl, rfl, .inr ⟨by decide, by decide⟩, _, rfl, k, 69621, rfl, rfl, .inr ⟨by decide, by decide⟩, _, _, rfl, rfl, _, 11, rfl, rfl, .inl ⟨_, rfl, _, 2147483647, rfl, rfl, (by show (0 : Int) < 2147483647; decide), ?_⟩⟩
    refine ⟨_, rfl, _, 16807, rfl, rfl, .inr ⟨by decide, by decide⟩, _, 13, rfl, rfl, .inl ⟨_, rfl, _, 2147483647, rfl, rfl, (by show (0 : Int) < 2147483647; decide), ?_⟩⟩
    exact ⟨_, 65537, rfl, rfl, .inr ⟨by decide, by decide⟩, _, rfl, _, _, rfl, rfl, fin _⟩
  refine ite2 (fun hlt => ?_) (fun _ => rest _)
  have hlt := of_decide_eq_true hlt
  have hb : k.toNat < ns.length := by rw [List.length_map] at hlt; omega
  have hat : atI (ns.map V.int) k = some (V.int ns[k.toNat]) := at_of (j := k.toNat) (by omega) (by rw [List.getElem?_map, List.getElem?_eq_getElem hb]; rfl)
  exact ⟨_, rfl, a, _, 0, .ref l, rfl, rfl, SqL.of ha, rfl, _, rfl, l, _, k, _, rfl, rfl, SqL.of hL, hat, _, rfl, rest _⟩
end Z2
namespace Z2
open PySem PySem.Spec PyProof.Rows L2
section
variable {P : Program} {w : World} {K : Fg} {mg : Str → Option Value} {base : Heap} {x : Str} {st : Stmt}
def rListOf (K : Fg) : List V → Hp → VK → Prop := fun xs H Q => ∃ p ys, xs = [.ref p] ∧ (SqL K H p ys ∨ SqT K H p ys) ∧ ∀ l, H l = none → Q (.ref l) (upd H l (.lst ys))
def t_stream (K : Fg) : TS := tRet (tLst (tCons (tCB (rListOf K) (tCons (tVar 0) tNil)) (tCons (tC (.int 0)) (tCons (tC (.int 0)) tNil))))
theorem fx_stream {s1 : Str} (d : Df K mg x st) (S : FnScope [s1] [s1] (defScope st)) (bb : BindsBy x st [s1])
    (hb : ∀ (f : Addr) (cdv : Value) (A : Around) (outer : List Env) (s : Shared) (H : Hp) (Q : VK) (E : XK), Room 0 (A.deeper (envOfC x (defScope st) s.heap.objs.size f cdv)) →
      PSs (cxOf CX0 P w K mg base [s1] x (defScope st) f cdv A outer s H E).nox (defBody st) (t_stream K)) : Fx P w K mg base 1 x [s1] (spStream K) := by
  obtain ⟨f, fd, F, hm⟩ := d
  refine ⟨f, fd, F.ok S (fun vs H Q E h => ?_) (fun cdv A outer s H vs Q E hr h => ⟨t_stream K, hb f cdv A outer s H Q E hr, ?_⟩), hm, F.kp, F.binds bb⟩
  · obtain ⟨a, ns, rfl, _⟩ := h
    rfl
  · obtain ⟨a, ns, rfl, hS, k⟩ := h
    refine ⟨_, rfl, a, _, rfl, .inl hS, fun l hl => ⟨by show 3 ≤ sizeLine; exact le_line (by decide), fun p hp => ?_⟩⟩
    have npl : p ≠ l := fun e => by rw [e, upd_same] at hp; cases hp
    exact k p l _ upd_same (by rw [upd_ne npl.symm]; exact upd_same) npl
theorem fx_next {s1 s2 s3 s4 s5 : Str} (d : Df K mg x st) (S : FnScope [s1, s2, s3, s4, s5] [s1, s2] (defScope st)) (bb : BindsBy x st [s1, s2])
    (hb : ∀ (f : Addr) (cdv : Value) (A : Around) (outer : List Env) (s : Shared) (H : Hp) (Q : VK) (E : XK), Room 0 (A.deeper (envOfC x (defScope st) s.heap.objs.size f cdv)) →
      PSs (cxOf CX0 P w K mg base [s1, s2, s3, s4, s5] x (defScope st) f cdv A outer s H E).nox (defBody st) (t_next K)) : Fx P w K mg base 1 x [s1, s2] (spS K 1 f_next) := by
  obtain ⟨f, fd, F, hm⟩ := d
  refine ⟨f, fd, F.ok S (fun vs H Q E h => ?_) (fun cdv A outer s H vs Q E hr h => ⟨t_next K, hb f cdv A outer s H Q E hr, next_ok h⟩), hm, F.kp, F.binds bb⟩
  obtain ⟨_, _, ws, _, _, rfl, hl, _⟩ := h
  rw [List.length_cons, hl]; rfl
/-! ### the law -/
def spLaw (K : Fg) : Sp := fun vs H Q _ => ∃ (a : Addr) (ns : List Int), vs = [.ref a] ∧ SqL K H a (ns.map V.int) ∧ ns.length ≤ 63 ∧ ∀ H', Q (.bl true) H'
theorem law_of {s1 : Str} {N : List Str} {k : Nat} {t : T2S} {f : Addr} {fd : FuncData} (F : Fun K "law" "law" st f fd) (S : FnScope N [s1] (defScope st)) (hN : 2 ≤ N.length)
    (pure : t { nx := fun _ => False, rt := fun d => d = .bool true } (none :: some .strm :: List.replicate (N.length - 2) none))
    (hb : ∀ (cdv : Value) (A : Around) (outer : List Env) (s : Shared) (H : Hp) (Q : VK) (E : XK), Room k (A.deeper (envOfC "law" (defScope st) s.heap.objs.size f cdv)) →
      ∃ ts, PSs (cxOf CX0 P w K mg base N "law" (defScope st) f cdv A outer s H E).nox (defBody st) (tSeq (tAsg (tCall (spStream K) [] E0 (tCons (tVar 0) tNil)) (gName 1)) ts) ∧ SS K ts t) : FnOk P w K mg base CX0 (k + 1) f fd [s1] (spLaw K) := by
  refine F.ok S (fun vs H Q E h => ?_) (fun cdv A outer s H vs Q E hr h => ?_)
  · obtain ⟨a, ns, rfl, _⟩ := h
    rfl
  · obtain ⟨ts, h1, h2⟩ := hb cdv A outer s H Q E hr
    refine ⟨_, h1, ?_⟩
    obtain ⟨a, ns, rfl, hS, _, k⟩ := h
    obtain ⟨m, hm⟩ : ∃ m, N.length = m + 2 := ⟨N.length - 2, by omega⟩
    have e0 : L2.start N [.ref a] = some (.ref a) :: none :: List.replicate m none := by
      unfold L2.start
      rw [hm]
      rfl
    rw [e0]
    refine ⟨_, rfl, a, ns, rfl, hS, fun p l H' hp hl npl => ?_⟩
    let I : Hp := fun b => if b = l then H' l else none
    have Il : I l = some (.lst (ns.map V.int)) := by show (if l = l then H' l else none) = _; rw [if_pos rfl]; exact hl
    have Ip : I p = none := if_neg npl
    have IH : Same I H' := fun b o q => by
      by_cases e : b = l
      · subst e
        rw [Il] at q
        rw [hl]; exact q
      · have z : I b = none := if_neg e
        rw [z] at q; cases q
    have em : N.length - 2 = m := by omega
    rw [em] at pure
    have hnone : ∀ {α : Type} (i : Nat) (x : α), (List.replicate m (none : Option α))[i]? ≠ some (some x) := fun {α} i x q => by
      rw [List.getElem?_replicate] at q
      split at q <;> cases q
    refine h2 ⟨some p, I, H', I⟩ _ _ I H' _ _ ⟨⟨.refl IH, fun i x q => ?_, fun i j x y b _ q _ _ => ?_, fun s es => ?_, .refl _, fun i j w w' x y b _ q _ _ => (by
      match i, q with
      | 0, q => cases q
      | 1, q => cases q
      | i + 2, q => exact absurd q (hnone i _)), fun i j x y u v c _ hm z1 z2 _ _ _ => by
      have k : ∀ (i : Nat) (x : Sl), (none :: some Sl.strm :: List.replicate m none)[i]? = some (some x) → isMat x = false := fun i x q => by
        match i, q with
        | 0, q => cases q
        | 1, q => cases q; rfl
        | i + 2, q => exact absurd q (hnone i _)
      rw [k i x z1, k j y z2] at hm
      cases hm⟩, ?_⟩ pure ⟨fun _ _ _ _ z => z.elim, fun d v I' H2 q _ _ r => ?_, fun _ _ _ _ z => z.elim, fun _ _ _ _ z => z.elim, fun _ _ _ _ _ _ z => z.elim, fun _ _ _ _ _ _ z => z.elim, fun _ _ _ _ _ _ z => z.elim⟩
    · match i, q with
      | 0, q => cases q
      | 1, q => cases q; exact ⟨.ref p, rfl, p, rfl, rfl⟩
      | i + 2, q => exact absurd q (hnone i x)
    · match i, q with
      | 0, q => cases q
      | 1, q => cases q
      | i + 2, q => exact absurd q (hnone i _)
    · cases es
      exact ⟨by show H' p ≠ none; rw [hp]; exact fun z => (by cases z), Ip, l, 0, 0, ns, hp, Il, Int.le_refl _⟩
    · show _ = (List.set (some (V.ref a) :: none :: List.replicate m none) 1 _).length
      rw [List.length_set]
      simp
    · have q : d = .bool true := q
      subst q
      cases r
      exact k H2
/-! ### the law's own equality -/
mutual
def sq : D → D → Bool
  | .none, d => (match d with | .none => true | _ => false)
  | .bool a, d => (match d with | .bool b => a == b | _ => false)
  | .int a, d => (match d with | .int b => a == b | _ => false)
  | .str a, d => (match d with | .str b => a == b | _ => false)
  | .list a, d => (match d with | .list b => sqs a b | _ => false)
  | .tuple a, d => (match d with | .tuple b => sqs a b | _ => false)
  | .dict _, _ => false
def sqs : List D → List D → Bool
  | [], ds => (match ds with | [] => true | _ => false)
  | x :: xs, ds => (match ds with | y :: ys => sq x y && sqs xs ys | [] => false)
end
def okD : Nat → D → Bool
  | 0, _ => false
  | n + 1, .list ds => decide (ds.length ≤ 1000000) && ds.all (okD n)
  | n + 1, .tuple ds => decide (ds.length ≤ 1000000) && ds.all (okD n)
  | _ + 1, .dict _ => false
  | _ + 1, _ => true
def f_equal (n : Nat) : RCD := fun ds Q => match ds with | [a, d] => okD n d = true ∧ PyData.canLay0 a = true ∧ PyData.canLay0 d = true ∧ Q (.bool (sq a d)) | _ => False
theorem fx_equal {eqName xa xd : Str} {n2 : Nat} {tb : Nat → T2S} {N : List Str} (d : Df K mg eqName st) (bb : BindsBy eqName st [xa, xd]) (hN : N.length = n2)
    (step : ∀ k n, Fx P w K mg base (k + 1) eqName [xa, xd] (spD K 2 (f_equal n)) → Fx P w K mg base (k + 2) eqName [xa, xd] (spD K 2 (bodyD N.length 2 (tb n))))
    (ok : ∀ n a d Q, okD (n + 1) d = true → PyData.canLay0 a = true → PyData.canLay0 d = true → Q (.bool (sq a d)) → bodyD N.length 2 (tb n) [a, d] Q) : ∀ n, Fx P w K mg base (n + 1) eqName [xa, xd] (spD K 2 (f_equal n))
  | 0 => by
    obtain ⟨f, fd, F, hm⟩ := d
    have no : ∀ vs H Q E, ¬ spD K 2 (f_equal 0) vs H Q E := fun vs H Q E ⟨I, ds, Q2, hl, _, r, q, _⟩ => by
      have e := r.length
      rw [hl] at e
      match ds, e, q with
      | [a, b], _, q => exact absurd q.1 (by simp [okD])
    exact ⟨f, fd, ⟨fun vs H Q E h => absurd h (no _ _ _ _), fun _ _ _ _ _ _ _ _ _ _ _ _ _ h => absurd h (no _ _ _ _)⟩, hm, F.kp, F.binds bb⟩
  | n + 1 => by
    have G := step n n (fx_equal d bb hN step ok n)
    refine G.imp (spD_imp fun ds Q hl q => ?_)
    match ds, hl, q with
    | [a, b], _, q => exact ok n a b Q q.1 q.2.1 q.2.2.1 q.2.2.2
end
end Z2
namespace Z2
open PySem PySem.Spec PyProof.Rows L2
theorem seq_gen {t u : T2S} {E : Ends2} {env : Ev} (h : ∀ N, N = u E → t { E with nx := N } env) : dSeq t u E env := h _ rfl
/-! ### plain data: lemmas -/
def isI : D → Bool | .int _ => true | .bool _ => true | _ => false
def isB : D → Bool | .bool _ => true | _ => false
def isS : D → Bool | .str _ => true | _ => false
def isTu : D → Bool | .tuple _ => true | _ => false
def isLi : D → Bool | .list _ => true | _ => false
theorem isT_int (d : D) : isT "int" d = isI d := by cases d <;> first | rfl | decide
theorem isT_bool (d : D) : isT "bool" d = isB d := by cases d <;> first | rfl | decide
theorem isT_str (d : D) : isT "str" d = isS d := by cases d <;> first | rfl | decide
theorem isT_tuple (d : D) : isT "tuple" d = isTu d := by cases d <;> first | rfl | decide
theorem isT_list (d : D) : isT "list" d = isLi d := by cases d <;> first | rfl | decide
inductive F2 {α β : Type} (P : α → β → Prop) : List α → List β → Prop
  | nil : F2 P [] []
  | cons {a : α} {b : β} {as : List α} {bs : List β} : P a b → F2 P as bs → F2 P (a :: as) (b :: bs)
theorem F2.length {α β : Type} {P : α → β → Prop} : ∀ {as : List α} {bs : List β}, F2 P as bs → as.length = bs.length
  | _, _, .nil => rfl
  | _, _, .cons _ t => by rw [List.length_cons, List.length_cons, F2.length t]
theorem F2.mapEq {α β : Type} {f : α → β} : ∀ {as : List α} {bs : List β}, F2 (fun a b => b = f a) as bs → bs = as.map f
  | _, _, .nil => rfl
  | _, _, .cons h t => by rw [List.map_cons, h, F2.mapEq t]
theorem F2.all {α β : Type} {P : α → β → Prop} {R : β → Prop} (h : ∀ a b, P a b → R b) : ∀ {as : List α} {bs : List β}, F2 P as bs → ∀ b ∈ bs, R b
  | _, _, .nil, b, hb => absurd hb (by simp)
  | _, _, .cons q t, b, hb => by
    rcases List.mem_cons.mp hb with rfl | hb
    · exact h _ _ q
    · exact F2.all h t b hb
/-- a comprehension, whatever its element draws -/
theorem lc_gen {g : T2G} {tt : T2T} {te : T2E} {env : Ev} (keep : D → Bool) (P : D → D → Prop) : ∀ {ds : List D} {Q : List D → Prop},
    (∀ d ∈ ds, ∀ (R : D → Prop) (N : Prop), (keep d = true → ∀ y, P d y → R y) → (keep d = false → N) → g d env fun env1 => tt env1 fun b => if b = true then te env1 R else N) →
    (∀ ys, F2 P (ds.filter keep) ys → Q ys) → lcD g tt te env ds Q
  | [], Q, h, q => q [] .nil
  | d :: ds, Q, h, q => by
    refine h d List.mem_cons_self _ _ (fun hk y hy => ?_) (fun hk => ?_)
    · refine lc_gen keep P (fun e he => h e (List.mem_cons_of_mem _ he)) fun ys hys => q (y :: ys) ?_
      rw [List.filter_cons_of_pos hk]
      exact .cons hy hys
    · refine lc_gen keep P (fun e he => h e (List.mem_cons_of_mem _ he)) fun ys hys => q ys ?_
      rw [List.filter_cons_of_neg (by rw [hk]; exact Bool.false_ne_true)]
      exact hys
theorem lc_all {g : T2G} {te : T2E} {env : Ev} {ds : List D} {Q : List D → Prop} (P : D → D → Prop) (h : ∀ d ∈ ds, ∀ R : D → Prop, (∀ y, P d y → R y) → g d env fun env1 => te env1 R) (q : ∀ ys, F2 P ds ys → Q ys) :
    lcD g (fun _ Q => Q true) te env ds Q :=
  lc_gen (fun _ => true) P (fun d hd R N h1 _ => h d hd R (h1 rfl)) fun ys hys => q ys (by rw [List.filter_eq_self.mpr (fun _ _ => rfl)] at hys; exact hys)
theorem lc_map {g : T2G} {te : T2E} {env : Ev} {ds : List D} {Q : List D → Prop} (f : D → D) (h : ∀ d ∈ ds, ∀ R : D → Prop, R (f d) → g d env fun env1 => te env1 R) (q : Q (ds.map f)) :
    lcD g (fun _ Q => Q true) te env ds Q :=
  lc_all (fun d y => y = f d) (fun d hd R hR => h d hd R (hR _ rfl)) fun ys hys => by rw [hys.mapEq]; exact q
theorem allBool_map {α : Type} (f : α → Bool) : ∀ xs : List α, allBool (xs.map fun x => PyData.bool (f x)) = some (xs.map f)
  | [] => rfl
  | x :: xs => by rw [List.map_cons, List.map_cons]; unfold allBool; rw [allBool_map f xs]; rfl
theorem mem_dRange {lo : Int} {n : Nat} {d : D} (h : d ∈ dRange lo n) : ∃ i : Nat, i < n ∧ d = .int (lo + i) := by
  unfold dRange at h
  obtain ⟨i, hi, rfl⟩ := List.mem_map.mp h
  exact ⟨i, List.mem_range.mp hi, rfl⟩
theorem dRange_length (lo : Int) (n : Nat) : (dRange lo n).length = n := by unfold dRange; rw [List.length_map, List.length_range]
theorem atI_int {α : Type} {xs : List α} {i : Int} {x : α} (h0 : 0 ≤ i) (h : xs[i.toNat]? = some x) : atI xs i = some x := by
  have := atI_nat h
  rwa [Int.toNat_of_nonneg h0] at this
theorem atI_ge {α : Type} {xs : List α} {i : Nat} {x : α} (h : xs[i]? = some x) : atI xs (0 + (i : Nat) : Int) = some x := by
  rw [Int.zero_add]; exact atI_nat h
/-- a loop by its invariant -/
theorem for_inv {g : T2G} {tb : T2S} {E : Ends2} {ds : List D} (Inv : Nat → Ev → Prop)
    (hs : ∀ i d env, ds[i]? = some d → Inv i env → ∀ N : Ev → Prop, (∀ env', Inv (i + 1) env' → N env') → g d env fun env1 => tb { E with nx := N, ct := N, bk := E.nx } env1)
    (hd : ∀ env, Inv ds.length env → E.nx env) {env : Ev} (h0 : Inv 0 env) : forD g tb E ds env := by
  have key : ∀ (k : Nat) (env : Ev), k ≤ ds.length → Inv (ds.length - k) env → forD g tb E (ds.drop (ds.length - k)) env := by
    intro k
    induction k with
    | zero =>
      intro env _ h
      rw [Nat.sub_zero] at h ⊢
      rw [List.drop_length]
      exact hd env h
    | succ k ih =>
      intro env hk h
      have hlt : ds.length - (k + 1) < ds.length := by omega
      have e : ds.drop (ds.length - (k + 1)) = ds[ds.length - (k + 1)] :: ds.drop (ds.length - k) := by
        rw [List.drop_eq_getElem_cons hlt]
        congr 2
        omega
      rw [e]
      refine hs _ _ env (List.getElem?_eq_getElem hlt) h _ fun env' h' => ih env' (by omega) ?_
      have z : ds.length - (k + 1) + 1 = ds.length - k := by omega
      rw [z] at h'
      exact h'
  have := key ds.length env (Nat.le_refl _) (by rw [Nat.sub_self]; exact h0)
  rw [Nat.sub_self, List.drop_zero] at this
  exact this
theorem sqs_all : ∀ (as bs : List D), as.length = bs.length → sqs as bs = (List.range bs.length).all fun i => sq (as.getD i .none) (bs.getD i .none)
  | [], [], _ => rfl
  | [], _ :: _, h => by simp at h
  | _ :: _, [], h => by simp at h
  | a :: as, b :: bs, h => by
    have ih := sqs_all as bs (by simpa using h)
    rw [List.length_cons, List.range_succ_eq_map, List.all_cons, List.all_map]
    unfold sqs
    dsimp only
    rw [ih]
    rfl
theorem sqs_len : ∀ (as bs : List D), sqs as bs = true → as.length = bs.length
  | [], [], _ => rfl
  | [], _ :: _, h => by simp [sqs] at h
  | _ :: _, [], h => by simp [sqs] at h
  | a :: as, b :: bs, h => by
    unfold sqs at h
    rw [Bool.and_eq_true] at h
    rw [List.length_cons, List.length_cons, sqs_len as bs h.2]
theorem shaped_int (i : Int) : SeqAt.shaped (.int i) = true := by first | rfl | decide
theorem shaped_bool (i : Bool) : SeqAt.shaped (.bool i) = true := by cases i <;> first | rfl | decide
theorem shaped_str {i : Str} (h : PyData.canLay0 (.str i) = true) : SeqAt.shaped (.str i) = true := by
  unfold SeqAt.shaped
  rw [h]
  simp [PyData.depth]
theorem canLayAll_mem : ∀ {ds : List D}, PyData.canLayAll0 ds = true → ∀ d ∈ ds, PyData.canLay0 d = true
  | [], _, d, hd => absurd hd (by simp)
  | x :: xs, h, d, hd => by
    unfold PyData.canLayAll0 at h
    rw [Bool.and_eq_true] at h
    rcases List.mem_cons.mp hd with rfl | hd
    · exact h.1
    · exact canLayAll_mem h.2 d hd
theorem canLayAll_of : ∀ {ds : List D}, (∀ d ∈ ds, PyData.canLay0 d = true) → PyData.canLayAll0 ds = true
  | [], _ => by unfold PyData.canLayAll0; rfl
  | x :: xs, h => by
    unfold PyData.canLayAll0
    rw [Bool.and_eq_true]
    exact ⟨h x List.mem_cons_self, canLayAll_of fun d hd => h d (List.mem_cons_of_mem _ hd)⟩
mutual
theorem sq_refl : ∀ {d : D}, PyData.canLay0 d = true → sq d d = true
  | .none, _ => by simp [sq]
  | .bool _, _ => by simp [sq]
  | .int _, _ => by simp [sq]
  | .str _, _ => by simp [sq]
  | .list ds, h => by
    unfold PyData.canLay0 at h
    unfold sq
    exact sqs_refl h
  | .tuple ds, h => by
    unfold PyData.canLay0 at h
    unfold sq
    exact sqs_refl h
  | .dict _, h => by simp [PyData.canLay0] at h
theorem sqs_refl : ∀ {ds : List D}, PyData.canLayAll0 ds = true → sqs ds ds = true
  | [], _ => by simp [sqs]
  | x :: xs, h => by
    unfold PyData.canLayAll0 at h
    rw [Bool.and_eq_true] at h
    unfold sqs
    dsimp only
    rw [Bool.and_eq_true]
    exact ⟨sq_refl h.1, sqs_refl h.2⟩
end
end Z2
namespace Z2
open PySem PySem.Spec PyProof.Rows L2
/-! ### enumerate of a tuple -/
abbrev tItr (t : Addr) : Obj := { cls := .type "tuple_iterator", data := .fields #[.ref t, .int 0 0] }
abbrev enO (i : Addr) : Obj := { cls := .type "enumerate", data := .fields #[.none, .bool false, .ref i, rawInt 0, .none, .none] }
open Sem (wp) in
open AutoSeq1 (wpAny_loadPart') in
theorem newT (t : Addr) (its : Array Value) (k : Nat) (dd : Option Addr) (sl : Array (Option Value)) :
    Meets (Builtin.«enumerate.__new__» ⟨[.type "enumerate", .ref t], []⟩) (fun _ R s => s.heap.get? t = some { cls := .type "tuple", dict := dd, data := .seq its k, slots := sl } ∧
      R (.ok (.ret (.ref (s.heap.push (tItr t)).objs.size))) { s with heap := (s.heap.push (tItr t)).push (enO s.heap.objs.size) }) :=
  .of_wp fun prog w A R s hh => by
    obtain ⟨hp, gs, dr, tk, os⟩ := s
    obtain ⟨ht, hh⟩ := hh
    have subE := sub_enumerate
    have isT : Heap.IsTuple (Shared.heap ⟨hp, gs, dr, tk, os⟩) t its := ⟨_, ht, rfl, k, rfl⟩
    wp_walk using wpAny_loadPart' ht
    refine wpAny_stack_any fun st => wpAny_pure ?_
    split
    · rename_i c _ _ _ _ _
      cases (c == Value.type "enumerate") <;> (wp_walk using wpAny_loadPart' ht, wpAny_pyIter_tuple isT; exact ⟨_, rfl, hh⟩)
    · wp_walk using wpAny_loadPart' ht, wpAny_pyIter_tuple isT
      exact ⟨_, rfl, hh⟩
theorem callT {prog : Program} {w : World} {A : Around} {E : Value → Shared → Prop} {s : Shared} {t : Addr} {its : Array Value} {Q : Value → Shared → Prop} (ht : s.heap.IsTuple t its)
    (h : ∀ h', IsEnum h' (s.heap.objs.size + 1) s.heap.objs.size 0 .none → h'.IsTupleIter s.heap.objs.size t 0 → (∀ b o, s.heap.get? b = some o → h'.get? b = some o) → Q (.ref (s.heap.objs.size + 1)) { s with heap := h' }) :
    wpAny (model prog w) A (call (.type "enumerate") [.ref t]) Q E s := by
  obtain ⟨⟨cl, dd, dt, sl⟩, e1, e2, k, e3⟩ := ht
  cases (show cl = .type "tuple" from e2)
  cases (show dt = .seq its k from e3)
  have sz : (s.heap.push (tItr t)).objs.size = s.heap.objs.size + 1 := Heap.size_push ..
  refine callType_new F.called_enumerate (by decide) (F.typeCall_enumerate_1 _) (F.newCall_enumerate_1 _) (fun obj => F.args_object_init_2 obj _) F.entry_enumerate_new (newT t its k dd sl) ⟨e1, ?_⟩
  show _ ∧ _
  rw [sz]
  have en : IsEnum ((s.heap.push (tItr t)).push (enO s.heap.objs.size)) (s.heap.objs.size + 1) s.heap.objs.size 0 .none := by
    have z := Heap.get?_push_size (s.heap.push (tItr t)) (o := enO s.heap.objs.size) rfl
    rw [sz] at z
    exact z
  exact ⟨⟨_, en, rfl⟩, h _ en ⟨_, Heap.get?_push_of_some _ (Heap.get?_push_size _ rfl), rfl, rfl⟩ fun b o x => Heap.get?_push_of_some _ (Heap.get?_push_of_some _ x)⟩
/-- each item of the tuple at a in a new pair -/
def IteT (K : Fg) (a : Addr) : It :=
  ⟨fun i H => ∃ (xs : List V) (x : V), SqT K H a xs ∧ xs[i]? = some x, fun i H v H' => ∃ T x, v = .ref T ∧ H T = none ∧ H' = upd H T (.tup [.int (i : Nat), x]) ∧ ∀ xs, SqT K H a xs → xs[i]? = some x, fun i H => ∃ xs : List V, SqT K H a xs ∧ xs.length = i⟩
def iEnumA (K : Fg) (ta : TA) : TI := fun σ H R => ta σ H fun vs H1 => ∃ a xs, vs = [.ref a] ∧ ((SqL K H1 a xs ∧ R (Ite K a) H1) ∨ (SqT K H1 a xs ∧ R (IteT K a) H1))
section
variable {K : Fg}
def diEnumA (t : T2A) : T2I := fun env Q => t env fun ds => match ds with | [.list xs] => Q (dEnum xs) | [.tuple xs] => Q (dEnum xs) | _ => False
end
end Z2
namespace Z2
open PySem PySem.Spec PyProof.Rows L2
/-! ### xs[::-1] -/
section
variable {prog : Program} {w : World} {A : Around} {E : Value → Shared → Prop} {s : Shared}
end
/-- t[::-1], xs[::-1]: a new thing -/
def rRev (K : Fg) : V → Hp → VK → Prop := fun x H Q => ∃ a xs, x = .ref a ∧ ((SqT K H a xs ∧ ∀ p, H p = none → Q (.ref p) (upd H p (.tup xs.reverse))) ∨ (SqL K H a xs ∧ ∀ p, H p = none → Q (.ref p) (upd H p (.lst xs.reverse))))
def tRev (K : Fg) (te : TE) (ts : TO) : TE := fun σ H Q => te σ H fun x H1 => ts σ H1 fun l H2 => l = some (-1) ∧ rRev K x H2 Q
def dRev (a : T2E) (l : T2O) : T2E := fun env Q => a env fun x => l env fun st => st = some (-1) ∧ match x with | .tuple ds => Q (.tuple ds.reverse) | .list ds => Q (.list ds.reverse) | _ => False
/-! ### max, min of a list of ints, of two ints -/
def maxD : List Int → Int
  | [] => 0
  | x :: xs => xs.foldl max x
def minD : List Int → Int
  | [] => 0
  | x :: xs => xs.foldl min x
def dMaxL : RCD := fun ds Q => match ds with | [.list xs] => (match allInt xs with | some bs => 0 < bs.length ∧ Q (.int (maxD bs)) | none => False) | _ => False
def dMinL : RCD := fun ds Q => match ds with | [.list xs] => (match allInt xs with | some bs => 0 < bs.length ∧ Q (.int (minD bs)) | none => False) | _ => False
end Z2
namespace Z2
open PySem PySem.Spec PyProof.Rows L2
/-! ### return tuple([left.pop(..) for ..]) -/
def popD (i : Nat) (g : T2G) (te : T2E) (vs : List Nat) : Ev → List D → (List D → Prop) → Prop
  | _, [], Q => Q []
  | env, d :: ds, Q => match env[i]? with
    | some (some (.own xs)) => g d (wipeE env vs) fun env1 => te env1 fun k => match k with
      | .int j => (match ixN xs.length j with | some m => (match xs[m]? with | some y => -(2 ^ 63) ≤ j ∧ j < 2 ^ 63 ∧ popD i g te vs (env.set i (some (.own (xs.eraseIdx m)))) ds fun ys => Q (y :: ys) | none => False) | none => False)
      | _ => False
    | _ => False
def dRetPop (i : Nat) (ti : T2I) (g : T2G) (te : T2E) (vs : List Nat) : T2S := fun E env => ti env fun ds => ds.length ≤ 1000000 ∧ popD i g te vs env ds fun ys => E.rt (.tuple ys)
abbrev rTupOf (K : Fg) : List V → Hp → VK → Prop := fun xs H Q => ∃ p ys, xs = [.ref p] ∧ ((SqL K H p ys ∧ ∀ l, H l = none → Q (.ref l) (upd H l (.tup ys))) ∨ (SqT K H p ys ∧ Q (.ref p) H))
theorem Rps.erase {K : Fg} {I : Hp} : ∀ {vs : List V} {ds : List D} (n : Nat), Rps K I vs ds → Rps K I (vs.eraseIdx n) (ds.eraseIdx n)
  | _, _, _, .nil => .nil
  | _, _, 0, .cons _ t => t
  | _, _, n + 1, .cons h t => .cons h (Rps.erase n t)
/-! ### list(range(n)), len of a list of one's own -/
def dLstRg (a : T2E) : T2A := fun env Q => a env fun d => match d with | .int j => 0 ≤ j ∧ j ≤ 1000000 ∧ Q (dRange 0 j.toNat) | _ => False
def dLenOwn (i : Nat) : T2E := fun env Q => match env[i]? with | some (some (.own ds)) => Q (.int (ds.length : Nat)) | _ => False
end Z2
namespace Z2
open PySem PySem.Spec PyProof.Rows L2
/-! ### dicts of one's own: keys are tuples of ints and texts -/
section
variable {X : Cx} {pins : List (Addr × Obj)} {σ : L2.St} {H : Hp} {s : Shared} {a b : Addr} {xs : List (List Key × Addr × Value)} {k : List Key}
end
def tDNew (w : World) : TE := fun _ H Q => ∀ p, H p = none → Q (.ref p) (upd H p (dctO w p []))
def tDG (K : Fg) (w : World) (td ty : TE) : TE := fun σ H Q => td σ H fun x H1 => ty σ H1 fun y H2 => ∃ a xs b k p v, x = .ref a ∧ y = .ref b ∧ H2 a = some (dctO w a xs) ∧ (∀ x ∈ xs, SqT K H2 x.2.1 (x.1.map kV)) ∧ SqT K H2 b (k.map kV) ∧ atKey xs k = some p ∧ RelV v p.2 ∧ Q v H2
def tDPut (K : Fg) (w : World) (td ty tv : TE) : TS := fun D σ H => tv σ H fun v H1 => td σ H1 fun x H2 => ty σ H2 fun y H3 => ∃ a xs b k, x = .ref a ∧ y = .ref b ∧ H3 a = some (dctO w a xs) ∧ (∀ x ∈ xs, SqT K H3 x.2.1 (x.1.map kV)) ∧ SqT K H3 b (k.map kV) ∧ xs.length < sizeLine ∧ ∀ u, RelV v u → D.nx σ (upd H3 a (dctO w a (storedH xs k b u)))
/-! over data -/
def keyD1 : D → Option Key | .int i => some (.inl i) | .str x => some (.inr x) | _ => none
def keyDs : List D → Option (List Key)
  | [] => some []
  | d :: ds => match keyD1 d, keyDs ds with | some k, some ks => some (k :: ks) | _, _ => none
def keyD : D → Option (List Key) | .tuple ds => keyDs ds | _ => none
def valD (ks : List (List Key × D)) (k : List Key) : Option D := (ks.find? fun x => decide (x.1 = k)).map (·.2)
def putD (ks : List (List Key × D)) (k : List Key) (d : D) : List (List Key × D) := if (valD ks k).isSome then ks.map fun x => if x.1 = k then (x.1, d) else x else ks ++ [(k, d)]
section
variable {K : Fg} {I : Hp}
theorem KD.keys : ∀ {xs : List (List Key × Addr × Value)} {ks : List (List Key × D)}, KD K I xs ks → ∀ x ∈ xs, SqT K I x.2.1 (x.1.map kV)
  | _, _, .nil, x, hx => absurd hx List.not_mem_nil
  | _, _, .cons h1 h2 h3 t, x, hx => by
    rcases List.mem_cons.mp hx with rfl | hx
    · exact h1
    · exact KD.keys t x hx
theorem KD.length : ∀ {xs : List (List Key × Addr × Value)} {ks : List (List Key × D)}, KD K I xs ks → xs.length = ks.length
  | _, _, .nil => rfl
  | _, _, .cons _ _ _ t => by rw [List.length_cons, List.length_cons, KD.length t]
theorem KD.val : ∀ {xs : List (List Key × Addr × Value)} {ks : List (List Key × D)}, KD K I xs ks → ∀ k, (valD ks k = none ∧ atKey xs k = none) ∨ ∃ d p v, valD ks k = some d ∧ atKey xs k = some p ∧ RelV v p.2 ∧ Rp K I v d
  | _, _, .nil, k => .inl ⟨rfl, rfl⟩
  | _, _, .cons (k := k1) (b := b) (u := u) (v := v) (d := d) (xs := xs) (ks := ks) h1 h2 h3 t, k => by
    by_cases c : k1 = k
    · refine .inr ⟨d, (b, u), v, ?_, ?_, h2, h3⟩
      · unfold valD; rw [List.find?_cons, decide_eq_true c]; rfl
      · unfold atKey; rw [List.find?_cons, decide_eq_true c]; rfl
    · have e1 : valD ((k1, d) :: ks) k = valD ks k := by unfold valD; rw [List.find?_cons, decide_eq_false c]
      have e2 : atKey ((k1, b, u) :: xs) k = atKey xs k := by unfold atKey; rw [List.find?_cons, decide_eq_false c]
      rw [e1, e2]
      exact KD.val t k
theorem KD.repl {k : List Key} {u : Value} {v : V} {d : D} (h2 : RelV v u) (h3 : Rp K I v d) : ∀ {xs : List (List Key × Addr × Value)} {ks : List (List Key × D)}, KD K I xs ks → KD K I (xs.map (putAt k u)) (ks.map fun x => if x.1 = k then (x.1, d) else x)
  | _, _, .nil => .nil
  | _, _, .cons (k := k1) (b := b) (u := u1) (v := v1) (d := d1) (xs := xs) (ks := ks) g1 g2 g3 t => by
    rw [List.map_cons, List.map_cons]
    unfold putAt
    by_cases c : k1 = k
    · dsimp only
      rw [if_pos c, if_pos c]
      exact .cons g1 h2 h3 (KD.repl h2 h3 t)
    · dsimp only
      rw [if_neg c, if_neg c]
      exact .cons g1 g2 g3 (KD.repl h2 h3 t)
theorem KD.snoc {k : List Key} {b : Addr} {u : Value} {v : V} {d : D} (h1 : SqT K I b (k.map kV)) (h2 : RelV v u) (h3 : Rp K I v d) : ∀ {xs : List (List Key × Addr × Value)} {ks : List (List Key × D)}, KD K I xs ks → KD K I (xs ++ [(k, b, u)]) (ks ++ [(k, d)])
  | _, _, .nil => .cons h1 h2 h3 .nil
  | _, _, .cons g1 g2 g3 t => .cons g1 g2 g3 (KD.snoc h1 h2 h3 t)
theorem KD.put {k : List Key} {b : Addr} {u : Value} {v : V} {d : D} (h1 : SqT K I b (k.map kV)) (h2 : RelV v u) (h3 : Rp K I v d) {xs : List (List Key × Addr × Value)} {ks : List (List Key × D)} (h : KD K I xs ks) : KD K I (storedH xs k b u) (putD ks k d) := by
  unfold storedH putD
  rcases h.val k with ⟨e1, e2⟩ | ⟨d0, p, v0, e1, e2, _, _⟩
  · rw [e1, e2]
    exact KD.snoc h1 h2 h3 h
  · rw [e1, e2]
    exact KD.repl h2 h3 h
end
section
variable {K : Fg} {p : P0} {env : Ev} {σ : L2.St} {I H I' H' : Hp}
end
theorem _root_.L2.Room.units1 {k : Nat} {A : Around} (r : L2.Room k A) : A.units + 1 < cLine := by
  have := r.un
  omega
def dNewD (w : World) (i : Nat) : T2S := fun E env => E.nx (env.set i (some (.dct w [])))
def dPutD (w : World) (i : Nat) (tk tv : T2E) : T2S := fun E env => tv env fun v => match env[i]? with
  | some (some (.dct w' ks)) => w' = w ∧ ks.length < 1000000 ∧ tk env fun kd => (match keyD kd with | some k => E.nx (env.set i (some (.dct w (putD ks k v)))) | none => False)
  | _ => False
def dGetD (w : World) (i : Nat) (tk : T2E) : T2E := fun env Q => match env[i]? with
  | some (some (.dct w' ks)) => w' = w ∧ tk env fun kd => (match keyD kd with | some k => (match valD ks k with | some d => Q d | none => False) | none => False)
  | _ => False
section
variable {K : Fg}
end
end Z2
namespace Z2
open PySem PySem.Spec PyProof.Rows L2
/-! ### is not of bools; a reversed list of one's own -/
def dNotBl : R2D := fun x y Q => match x, y with | .bool a, .bool b => Q (.bool (!decide (a = b))) | _, _ => False
def dRevO (a : T2E) (l : T2O) : T2A := fun env Q => a env fun x => l env fun st => st = some (-1) ∧ match x with | .list ds => Q ds.reverse | _ => False
end Z2
namespace Z2
open PySem PySem.Spec PyProof.Rows L2
/-! ### tables: lists of rows of one's own -/
section
variable {K : Fg} {H0 I H : Hp}
theorem MR.length {bs : List Addr} {rows : List (List D)} (m : MR K H0 I H bs rows) : bs.length = rows.length := by
  induction m with
  | nil => rfl
  | cons _ _ _ _ _ _ ih => rw [List.length_cons, List.length_cons, ih]
theorem MR.get {bs : List Addr} {rows : List (List D)} (m : MR K H0 I H bs rows) : ∀ (k : Nat) (ds : List D), rows[k]? = some ds → ∃ b vs, bs[k]? = some b ∧ H b = some (.lst vs) ∧ Rps K I vs ds := by
  induction m with
  | nil => intro k ds h; rw [List.getElem?_nil] at h; cases h
  | @cons b vs ds bs rows h1 h2 h3 h4 h5 t ih =>
    intro k es h
    cases k with
    | zero =>
      rw [List.getElem?_cons_zero] at h
      cases h
      exact ⟨b, vs, rfl, h3, h4⟩
    | succ k =>
      rw [List.getElem?_cons_succ] at h
      obtain ⟨c, ws, g1, g2, g3⟩ := ih k es h
      exact ⟨c, ws, by rw [List.getElem?_cons_succ]; exact g1, g2, g3⟩
theorem MR.set {bs : List Addr} {rows : List (List D)} (m : MR K H0 I H bs rows) : ∀ (k : Nat) (b : Addr) (vs' : List V) (ds' : List D), bs[k]? = some b → Rps K I vs' ds' → MR K H0 I (upd H b (.lst vs')) bs (rows.set k ds') := by
  induction m with
  | nil => intro k b vs' ds' h; rw [List.getElem?_nil] at h; cases h
  | @cons c vs ds bs rows h1 h2 h3 h4 h5 t ih =>
    intro k b vs' ds' h r
    cases k with
    | zero =>
      rw [List.getElem?_cons_zero] at h
      cases h
      rw [List.set_cons_zero]
      refine .cons h1 h2 upd_same r h5 (t.stays (Same.refl _) fun d hd z1 z2 z3 => ⟨z2, upd_ne fun w => ?_⟩)
      exact h5 (by rw [← w]; exact hd)
    | succ k =>
      rw [List.getElem?_cons_succ] at h
      rw [List.set_cons_succ]
      have hb : b ∈ bs := List.mem_of_getElem? h
      exact .cons h1 h2 (by rw [upd_ne fun w => h5 (by rw [w]; exact hb)]; exact h3) h4 h5 (ih k b vs' ds' h r)
theorem MR.snoc {bs : List Addr} {rows : List (List D)} {l : Addr} {vs : List V} {ds : List D} (m : MR K H0 I H bs rows) (g1 : H0 l = none) (g2 : I l = none) (g3 : H l = some (.lst vs)) (g4 : Rps K I vs ds) (g5 : l ∉ bs) : MR K H0 I H (bs ++ [l]) (rows ++ [ds]) := by
  induction m with
  | nil => exact .cons g1 g2 g3 g4 List.not_mem_nil .nil
  | @cons c vs' ds' bs rows h1 h2 h3 h4 h5 t ih =>
    refine .cons h1 h2 h3 h4 (fun z => ?_) (ih fun z => g5 (List.mem_cons_of_mem _ z))
    rcases List.mem_append.mp z with z | z
    · exact h5 z
    · rw [List.mem_singleton.mp z] at g5
      exact g5 List.mem_cons_self
end
section
variable {K : Fg} {p : P0} {env : Ev} {σ : L2.St} {I H I' H' : Hp}
end
/-- the row, the place that an index names -/
def atRow {α : Type} (rows : List α) (x : D) (f : Nat → α → Prop) : Prop := match x with | .int k => (match ixN rows.length k with | some k' => (match rows[k']? with | some row => f k' row | none => False) | none => False) | _ => False
/-- rows[a][b] -/
def dMIx (i : Nat) (t1 t2 : T2E) : T2E := fun env Q => match env[i]? with
  | some (some (.mat rows)) => t1 env fun x => atRow rows x fun _ row => t2 env fun y => atRow row y fun _ d => Q d
  | _ => False
/-- rows[a][b] = v -/
def dMSet (i : Nat) (t1 t2 tv : T2E) : T2S := fun E env => tv env fun v => match env[i]? with
  | some (some (.mat rows)) => t1 env fun x => atRow rows x fun k row => t2 env fun y => atRow row y fun j _ => E.nx (env.set i (some (.mat (rows.set k (row.set j v)))))
  | _ => False
section
variable {K : Fg} {ta tb tv : TE} {t1 t2 v2 : T2E}
end
section
variable {K : Fg} {p : P0} {env : Ev} {σ : L2.St} {I H I' H' : Hp}
end
def lcM (g : T2G) (te : T2A) (env : Ev) : List D → (List (List D) → Prop) → Prop
  | [], Q => Q []
  | d :: ds, Q => g d env fun env1 => te env1 fun row => lcM g te env ds fun rs => Q (row :: rs)
/-- rows = [[..] for ..]: a table of one's own -/
def dNewM (i : Nat) (ti : T2I) (g : T2G) (te : T2A) (vs : List Nat) : T2S := fun E env => ti env fun ds => ds.length ≤ 1000000 ∧ lcM g te (wipeE env vs) ds fun rows => E.nx (env.set i (some (.mat rows)))
theorem MR.low {K : Fg} {H0 H1 I H : Hp} {bs : List Addr} {rows : List (List D)} (m : MR K H0 I H bs rows) (h : ∀ c, H0 c = none → H1 c = none) : MR K H1 I H bs rows := by
  induction m with
  | nil => exact .nil
  | @cons b vs ds bs rows h1 h2 h3 h4 h5 t ih => exact .cons (h b h1) h2 h3 h4 h5 ih
section
variable {K : Fg} {p : P0} {env : Ev} {σ : L2.St} {I H I' H' : Hp}
end
def dFrzM (i : Nat) (t : T2S) : T2S := fun E env => match env[i]? with | some (some (.mat rows)) => t E (env.set i (some (.dat (.list (rows.map PyData.list))))) | some (some (.dat _)) => t E env | _ => False
/-! ### a, b = x, y -/
def dPar (i j : Nat) (t : T2A) : T2S := fun E env => t env fun ds => match ds with | [d, e] => E.nx ((env.set i (some (.dat d))).set j (some (.dat e))) | _ => False
end Z2
namespace Z2
open PySem PySem.Spec PyProof.Rows L2
theorem pe_gstr {X : Cx} {x : Str} {n : Str} {pos : Pos} (h : ∃ t, X.mg x = some (.str n t)) (hg : Gl X x) (hd : (x == ("__debug__" : Str)) = false := by decide) : PE X (.Name x pos) (tC (.str n)) := by
  obtain ⟨t, h⟩ := h
  exact pe_glob hg h ⟨t, rfl⟩ hd
section
variable {prog : Program} {w : World} {A : Around} {E : Value → Shared → Prop} {s : Shared}
end
abbrev rmaxDf (K : Fg) : List V → List V → Hp → VK → Prop := fun xs zs H Q => ∃ (p : Addr) (ns : List Int) (z : V), xs = [.ref p] ∧ zs = [z] ∧ SqL K H p (ns.map V.int) ∧ (ns = [] → Q z H) ∧ (ns ≠ [] → Q (.int (maxD ns)) H)
section
variable {prog : Program} {w : World} {A : Around} {E : Value → Shared → Prop} {s : Shared}
end
abbrev rminDf (K : Fg) : List V → List V → Hp → VK → Prop := fun xs zs H Q => ∃ (p : Addr) (ns : List Int) (z : V), xs = [.ref p] ∧ zs = [z] ∧ SqL K H p (ns.map V.int) ∧ (ns = [] → Q z H) ∧ (ns ≠ [] → Q (.int (minD ns)) H)
/-! ### while -/
def whileD (c : T2T) (tb : T2S) (E : Ends2) : Nat → Ev → Prop
  | 0, _ => False
  | n + 1, env => c env fun b => if b = true then tb { E with nx := whileD c tb E n, ct := whileD c tb E n, bk := E.nx } env else E.nx env
def dWhile (c : T2T) (tb : T2S) : T2S := fun E env => ∃ n, whileD c tb E n env
theorem ss_while {K : Fg} {tc : TT} {ts : TS} {c : T2T} {tb : T2S} (hc : ST K tc c) (hb : SS K ts tb) : SS K (tWhile tc ts) (dWhile c tb) := by
  rintro p env σ I H D2 E r ⟨n, q⟩ e
  refine ⟨fun m σ' H' => ∃ env' I', RelL K p env' σ' I' H' ∧ whileD c tb D2 m env', ⟨n, env, I, r, q⟩, ?_⟩
  rintro m σ' H' ⟨env', I', r', q'⟩
  match m, q' with
  | 0, q' => exact q'.elim
  | m + 1, q' =>
    refine hc p env' σ' I' H' _ _ r' q' fun b I1 H1 q1 s1 => ?_
    cases b with
    | true =>
      rw [if_pos rfl] at q1 ⊢
      exact ⟨fun σ' H' => ∃ env' I', RelL K p env' σ' I' H' ∧ whileD c tb D2 m env', fun σ2 H2 h => ⟨m, Nat.lt_succ_self _, h⟩,
        hb p env' σ' I1 H1 _ _ (r'.stp s1) q1 ⟨fun env4 σ4 I4 H4 q4 r4 => ⟨env4, I4, r4, q4⟩, e.rt, fun env4 σ4 I4 H4 q4 r4 => e.nx _ _ _ _ q4 r4, fun env4 σ4 I4 H4 q4 r4 => ⟨env4, I4, r4, q4⟩, e.rd, e.re, e.rv⟩⟩
    | false =>
      rw [if_neg (by decide)] at q1 ⊢
      exact e.nx _ _ _ _ q1 (r'.stp s1)
theorem while_inv {c : T2T} {tb : T2S} {E : Ends2} {env : Ev} (Inv : Ev → Prop) (μ : Ev → Nat) (h0 : Inv env)
    (hs : ∀ env, Inv env → ∀ N : Ev → Prop, (∀ env', Inv env' → μ env' < μ env → N env') → c env fun b => if b = true then tb { E with nx := N, ct := N, bk := E.nx } env else E.nx env) : dWhile c tb E env := by
  have key : ∀ (k : Nat) (env : Ev), Inv env → μ env < k → whileD c tb E k env := by
    intro k
    induction k with
    | zero => intro env _ h; exact absurd h (Nat.not_lt_zero _)
    | succ k ih => intro env h hk; exact hs env h _ fun env' h1 h2 => ih env' h1 (by omega)
  exact ⟨_, key _ env h0 (Nat.lt_succ_self _)⟩
/-! ### len(set(xs)) of different ints -/
def dLenSet (a : T2E) : T2E := fun env Q => a env fun d => match d with | .list xs => (match allInt xs with | some ns => ns.Nodup ∧ ns.length ≤ 4000 ∧ Q (.int (ns.length : Nat)) | none => False) | _ => False
/-! ### pop and remove of one's own list -/
def dPop (i : Nat) (t : T2E) : T2S := fun E env => match env[i]? with
  | some (some (.own ds)) => t env fun k => (match k with | .int j => (match ixN ds.length j with | some m => -(2 ^ 63) ≤ j ∧ j < 2 ^ 63 ∧ E.nx (env.set i (some (.own (ds.eraseIdx m)))) | none => False) | _ => False)
  | _ => False
def dPopA (i k : Nat) (t : T2E) : T2S := fun E env => match env[i]? with
  | some (some (.own ds)) => t env fun x => (match x with | .int j => (match ixN ds.length j with | some m => (match ds[m]? with | some y => -(2 ^ 63) ≤ j ∧ j < 2 ^ 63 ∧ E.nx ((env.set i (some (.own (ds.eraseIdx m)))).set k (some (.dat y))) | none => False) | none => False) | _ => False)
  | _ => False
/-- left.remove(x), of ints -/
def dRem (i : Nat) (t : T2E) : T2S := fun E env => match env[i]? with
  | some (some (.own ds)) => t env fun x => (match x with | .int k => (match allInt ds with | some ns => k ∈ ns ∧ E.nx (env.set i (some (.own ((ns.erase k).map PyData.int)))) | none => False) | _ => False)
  | _ => False
section
variable {K : Fg} {te : TE} {t2 : T2E}
end
/-! ### one's own list, read where it is -/
def ownD (i : Nat) (env : Ev) : Option (List D) := match env[i]? with | some (some (.own ds)) => some ds | some (some (.dat (.list ds))) => some ds | some (some (.dat (.tuple ds))) => some ds | _ => none
def dOLen (i : Nat) : T2E := fun env Q => match ownD i env with | some ds => Q (.int (ds.length : Nat)) | none => False
def dOTru (i : Nat) : T2T := fun env Q => match ownD i env with | some ds => Q (!ds.isEmpty) | none => False
def dOIx (i : Nat) (t : T2E) : T2E := fun env Q => match ownD i env with | some ds => t env fun x => (match x with | .int k => (match atI ds k with | some d => Q d | none => False) | _ => False) | none => False
section
variable {K : Fg} {ta : TE} {t2 : T2E}
theorem own_cell {p : P0} {env : Ev} {σ : L2.St} {I H : Hp} {i : Nat} {ds : List D} (r : RelL K p env σ I H) (e : ownD i env = some ds) :
    ∃ (a : Addr) (vs : List V), σ[i]? = some (some (.ref a)) ∧ Rps K I vs ds ∧ ((∀ I' H', Stp p I H I' H' → SqL K H' a vs) ∨ (∀ I' H', Stp p I H I' H' → SqT K H' a vs)) := by
  unfold ownD at e
  split at e
  · rename_i ds' e2
    cases e
    obtain ⟨v, hv, a, vs, rfl, f2, _, e4, e5⟩ := r.r.sl i _ e2
    exact ⟨a, vs, hv, e5, .inl fun I' H' s => SqL.of (s.gr.hh a _ e4 fun q => (r.r.st a q).1 f2)⟩
  · rename_i ds' e2
    cases e
    obtain ⟨v, hv, h⟩ := r.r.sl i _ e2
    have h : Rp K I v (.list ds) := h
    cases h with
    | lst h1 h2 => exact ⟨_, _, hv, h2, .inl fun I' H' s => SqL.of (s.ih _ _ (s.ii _ _ h1))⟩
  · rename_i ds' e2
    cases e
    obtain ⟨v, hv, h⟩ := r.r.sl i _ e2
    have h : Rp K I v (.tuple ds) := h
    cases h with
    | tup h1 h2 => exact ⟨_, _, hv, h2, .inr fun I' H' s => Same.sqt s.ih (Same.sqt s.ii h1)⟩
  · cases e
theorem se_oLen (i : Nat) : SE K (tCB (fun xs H Q => ∃ p ys, xs = [.ref p] ∧ (SqL K H p ys ∨ SqT K H p ys) ∧ Q (.int ys.length) H) (tCons (tVar i) tNil)) (dOLen i) := by
  intro p env σ I H Q2 Q r q k
  unfold dOLen at q
  split at q
  · rename_i ds e
    obtain ⟨a, vs, h1, h2, h3⟩ := own_cell r e
    refine ⟨_, h1, a, vs, rfl, h3.imp (fun z => z _ _ (.refl r.same)) (fun z => z _ _ (.refl r.same)), ?_⟩
    rw [h2.length]
    exact k _ _ I H q (.refl r.same) (.int _)
  · exact q.elim
structure ItRs (K : Fg) (p : P0) (I H : Hp) (J : It) (ds : List D) : Prop where
  go : ∀ i I' H', Stp p I H I' H' → i < ds.length → J.go i H'
  stop : ∀ i I' H', Stp p I H I' H' → i = ds.length → J.stop i H'
  yld : ∀ i x I' H' H'', Stp p I H I' H' → i < ds.length → J.yld i H' x H'' → ∃ I'' d, Gr none I' H' I'' H'' ∧ ds[i]? = some d ∧ Rp K I'' x d
def SIs (K : Fg) (wi : TI) (t : T2I) : Prop := ∀ (p : P0) (env : Ev) (σ : L2.St) (I H : Hp) (Q2 : List D → Prop) (R : It → Hp → Prop), RelL K p env σ I H → t env Q2 →
  (∀ ds J I' H', Q2 ds → Stp p I H I' H' → ItRs K p I' H' J ds → R J H') → wi σ H R
def diOwn (i : Nat) : T2I := fun env Q => match ownD i env with | some ds => Q ds | none => False
end
section
variable {P : Program} {w : World} {K : Fg} {mg : Str → Option Value} {base : Heap}
/-- a function that calls itself, so many deep -/
def frec (NL m : Nat) (tb : RCD → T2S) : Nat → RCD
  | 0 => fun _ _ => False
  | n + 1 => bodyD NL m (tb (frec NL m tb n))
end
section
variable {K : Fg}
def dCBK (r : List D → List D → (D → Prop) → Prop) (a k : T2A) : T2E := fun env Q => a env fun ds => k env fun es => r ds es Q
def SimCK (K : Fg) (r : List V → List V → Hp → VK → Prop) (r2 : List D → List D → (D → Prop) → Prop) : Prop := ∀ (I H : Hp) (vs ws : List V) (ds es : List D) (Q2 : D → Prop) (Q : VK), Same I H → Rps K I vs ds → Rps K I ws es → r2 ds es Q2 →
  (∀ d v I' H', Q2 d → Gr none I H I' H' → Rp K I' v d → Q v H') → r vs ws H Q
def dmaxDf : List D → List D → (D → Prop) → Prop := fun ds es Q => match ds, es with | [.list xs], [z] => (match allInt xs with | some ns => (ns = [] → Q z) ∧ (ns ≠ [] → Q (.int (maxD ns))) | none => False) | _, _ => False
def dminDf : List D → List D → (D → Prop) → Prop := fun ds es Q => match ds, es with | [.list xs], [z] => (match allInt xs with | some ns => (ns = [] → Q z) ∧ (ns ≠ [] → Q (.int (minD ns))) | none => False) | _, _ => False
end
end Z2
namespace Z2
open PySem PySem.Spec PyProof.Rows L2
/-! ### base lemmas of plain data -/
/-- a loop whose body is not looked into -/
theorem for_gen {ti : T2I} {g : T2G} {tb : T2S} {E : Ends2} {env : Ev} (h : ∀ B, B = tb → dFor ti g B E env) : dFor ti g tb E env := h _ rfl
theorem ite_t {c : Prop} [Decidable c] {a b : Prop} (h : c) (q : a) : ite c a b := by rw [if_pos h]; exact q
theorem ite_f {c : Prop} [Decidable c] {a b : Prop} (h : ¬ c) (q : b) : ite c a b := by rw [if_neg h]; exact q
def inI (v : D) (l g : Int) : Bool := match v with | .int i => decide (l ≤ i) && decide (i ≤ g) | _ => false
def whI : D → Bool | .int _ => true | _ => false
theorem inI_int {v : D} {l g : Int} (h : inI v l g = true) : ∃ i : Int, v = .int i ∧ l ≤ i ∧ i ≤ g := by
  unfold inI at h
  split at h
  · rw [Bool.and_eq_true] at h
    exact ⟨_, rfl, of_decide_eq_true h.1, of_decide_eq_true h.2⟩
  · cases h
theorem eqv_intD (a b : Int) : PyData.eqv (.int a) (.int b) = decide (a = b) := by
  unfold PyData.eqv
  by_cases h : a = b
  · subst h; simp
  · rw [decide_eq_false h]; exact beq_eq_false_iff_ne.mpr h
theorem eqv_str (a b : Str) : PyData.eqv (.str a) (.str b) = decide (a = b) := by
  show (a == b) = decide (a = b)
  by_cases c : a = b
  · rw [decide_eq_true c, c]
    exact beq_self_eq_true b
  · rw [decide_eq_false c]
    exact beq_eq_false_iff_ne.mpr c
theorem eqv_boolD (a b : Bool) : PyData.eqv (.bool a) (.bool b) = decide (a = b) := by cases a <;> cases b <;> rfl
/-- data without dicts, so many deep -/
structure okN (n : Nat) (d : D) : Prop where
  lay : PyData.canLay0 d = true
  dep : d.depth ≤ n
theorem okN.mono {n m : Nat} {d : D} (h : okN n d) (k : n ≤ m) : okN m d := ⟨h.lay, Nat.le_trans h.dep k⟩
theorem okN.int (n : Nat) (i : Int) : okN n (.int i) := ⟨rfl, Nat.zero_le _⟩
theorem okN.bool (n : Nat) (i : Bool) : okN n (.bool i) := ⟨rfl, Nat.zero_le _⟩
theorem okN.none (n : Nat) : okN n .none := ⟨rfl, Nat.zero_le _⟩
theorem okN.str {x : Str} (n : Nat) (h : PyData.canLay0 (.str x) = true) : okN n (.str x) := ⟨h, Nat.zero_le _⟩
theorem depthAll_le : ∀ {ds : List D} {n : Nat}, (∀ d ∈ ds, d.depth ≤ n) → PyData.depthAll ds ≤ n
  | [], _, _ => Nat.zero_le _
  | x :: xs, n, h => by
    unfold PyData.depthAll
    have h1 := h x List.mem_cons_self
    have h2 := depthAll_le (ds := xs) (n := n) fun d hd => h d (List.mem_cons_of_mem _ hd)
    first | exact Nat.max_le.mpr ⟨h1, h2⟩ | omega
theorem okN.tup {n : Nat} {ds : List D} (h : ∀ d ∈ ds, okN n d) : okN (n + 1) (.tuple ds) := by
  refine ⟨?_, ?_⟩
  · unfold PyData.canLay0
    exact canLayAll_of fun d hd => (h d hd).lay
  · unfold PyData.depth
    have := depthAll_le fun d hd => (h d hd).dep
    omega
theorem okN.list {n : Nat} {ds : List D} (h : ∀ d ∈ ds, okN n d) : okN (n + 1) (.list ds) := by
  refine ⟨?_, ?_⟩
  · unfold PyData.canLay0
    exact canLayAll_of fun d hd => (h d hd).lay
  · unfold PyData.depth
    have := depthAll_le fun d hd => (h d hd).dep
    omega
theorem okN.shaped {n : Nat} {d : D} (h : okN n d) (k : n ≤ 64 := by decide) : SeqAt.shaped d = true := by
  unfold SeqAt.shaped
  rw [h.lay, decide_eq_true (Nat.le_trans h.dep k)]
  rfl
mutual
theorem eqv_same : ∀ {d : D}, PyData.canLay0 d = true → PyData.eqv d d = true
  | .none, _ => rfl
  | .bool b, _ => by rw [eqv_boolD]; exact decide_eq_true rfl
  | .int b, _ => by rw [eqv_intD]; exact decide_eq_true rfl
  | .str b, _ => by rw [eqv_str]; exact decide_eq_true rfl
  | .list ds, h => by
    unfold PyData.canLay0 at h
    unfold PyData.eqv
    exact eqvAll_same h
  | .tuple ds, h => by
    unfold PyData.canLay0 at h
    unfold PyData.eqv
    exact eqvAll_same h
  | .dict _, h => by simp [PyData.canLay0] at h
theorem eqvAll_same : ∀ {ds : List D}, PyData.canLayAll0 ds = true → PyData.eqvAll ds ds = true
  | [], _ => rfl
  | x :: xs, h => by
    unfold PyData.canLayAll0 at h
    rw [Bool.and_eq_true] at h
    unfold PyData.eqvAll
    rw [eqv_same h.1, eqvAll_same h.2]
    rfl
end
theorem next_mk {n : Int} {Q : D → Prop} (h0 : 0 < n) (h1 : n < 1073741824) (q : ∀ d : Int, 0 ≤ d → d < n → Q (.int d)) : f_next [.int n] Q := ⟨n, rfl, h0, h1, q⟩
theorem atI_0 {α : Type} {x : α} {xs : List α} : atI (x :: xs) 0 = some x := atI_nat (j := 0) rfl
theorem atI_1 {α : Type} {x y : α} {xs : List α} : atI (x :: y :: xs) 1 = some y := atI_nat (j := 1) rfl
theorem atI_2 {α : Type} {x y z : α} {xs : List α} : atI (x :: y :: z :: xs) 2 = some z := atI_nat (j := 2) rfl
end Z2
namespace Z2
open PySem PySem.Spec PyProof.Rows L2
/-! `in` and `not in` of a list of data of any depth, also of an own list read in place -/
def dInD (neg : Bool) : R2D := fun x y Q => match y with | .list ds => SeqAt.shaped x = true ∧ SeqAt.shaped (.list ds) = true ∧ Q (.bool (if neg then !(ds.any fun d => PyData.eqv d x) else ds.any fun d => PyData.eqv d x)) | _ => False
section
variable {K : Fg} {ta : TE} {t2 : T2E}
/-- x in own list i -/
def dOInD (neg : Bool) (i : Nat) (t : T2E) : T2E := fun env Q => match env[i]? with
  | some (some (.own ds)) => t env fun x => SeqAt.shaped x = true ∧ SeqAt.shaped (.list ds) = true ∧ Q (.bool (if neg then !(ds.any fun d => PyData.eqv d x) else ds.any fun d => PyData.eqv d x))
  | some (some (.dat (.list ds))) => t env fun x => SeqAt.shaped x = true ∧ SeqAt.shaped (.list ds) = true ∧ Q (.bool (if neg then !(ds.any fun d => PyData.eqv d x) else ds.any fun d => PyData.eqv d x))
  | _ => False
end
end Z2
namespace Z2
open PySem PySem.Spec PyProof.Rows L2
theorem kI_kV (ns : List Int) : (kI ns).map kV = ns.map V.int := by
  unfold kI
  rw [List.map_map]
  rfl
theorem kI_inj : ∀ {ns ms : List Int}, kI ns = kI ms → ns = ms
  | [], [], _ => rfl
  | [], _ :: _, h => nomatch h
  | _ :: _, [], h => nomatch h
  | n :: ns, m :: ms, h => by
    have h : (Sum.inl n :: kI ns : List Key) = Sum.inl m :: kI ms := h
    injection h with h1 h2
    injection h1 with h1
    rw [h1, kI_inj h2]
def IKeys (K : Fg) (H : Hp) (xs : List (List Key × Addr × Value)) : Prop := ∀ x ∈ xs, ∃ ns, x.1 = kI ns ∧ SqT K H x.2.1 (ns.map V.int)
def rFG (K : Fg) : R2 := fun x y H Q => ∃ a w xs b ns p v, x = .ref a ∧ y = .ref b ∧ H a = some (dctO w a xs) ∧ IKeys K H xs ∧ SqT K H b (ns.map V.int) ∧ atKey xs (kI ns) = some p ∧ RelV v p.2 ∧ Q v H
def rFIn (K : Fg) (neg : Bool) : R2 := fun x y H Q => ∃ a w xs b ns, x = .ref b ∧ y = .ref a ∧ H a = some (dctO w a xs) ∧ IKeys K H xs ∧ SqT K H b (ns.map V.int) ∧ Q (.bl (if neg then !(atKey xs (kI ns)).isSome else (atKey xs (kI ns)).isSome)) H
/-! over data -/
def keyIs : List D → Option (List Int)
  | [] => some []
  | .int i :: ds => (keyIs ds).map (i :: ·)
  | _ => none
def keyI : D → Option (List Int) | .tuple ds => keyIs ds | _ => none
def getF (kvs : List (D × D)) (k : List Int) : Option D := (kvs.find? fun p => decide (keyI p.1 = some k)).map (·.2)
def dGetF : R2D := fun x y Q => match x with | .dict kvs => (match keyI y with | some k => (match getF kvs k with | some d => Q d | none => False) | none => False) | _ => False
def dInF (neg : Bool) : R2D := fun x y Q => match y with | .dict kvs => (match keyI x with | some k => Q (.bool (if neg then !(getF kvs k).isSome else (getF kvs k).isSome)) | none => False) | _ => False
def dInO (neg : Bool) (i : Nat) (t : T2E) : T2E := fun env Q => match env[i]? with
  | some (some (.dct _ ks)) => t env fun x => (match keyI x with | some k => (∀ y ∈ ks, ∃ ms, y.1 = kI ms) ∧ Q (.bool (if neg then !(valD ks (kI k)).isSome else (valD ks (kI k)).isSome)) | none => False)
  | some (some (.dat (.dict kvs))) => t env fun x => (match keyI x with | some k => Q (.bool (if neg then !(getF kvs k).isSome else (getF kvs k).isSome)) | none => False)
  | _ => False
theorem keyIs_ints : ∀ ns : List Int, keyIs (ns.map PyData.int) = some ns
  | [] => rfl
  | n :: ns => by
    show (keyIs (ns.map PyData.int)).map (n :: ·) = _
    rw [keyIs_ints ns]
    rfl
theorem keyI_ints (ns : List Int) : keyI (.tuple (ns.map PyData.int)) = some ns := keyIs_ints ns
section
variable {K : Fg} {I : Hp}
theorem KF.keys : ∀ {xs : List (List Key × Addr × Value)} {kvs : List (D × D)}, KF K I xs kvs → IKeys K I xs
  | _, _, .nil, x, hx => absurd hx List.not_mem_nil
  | _, _, .cons h1 h2 h3 t, x, hx => by
    rcases List.mem_cons.mp hx with rfl | hx
    · exact ⟨_, rfl, h1⟩
    · exact KF.keys t x hx
theorem KF.val : ∀ {xs : List (List Key × Addr × Value)} {kvs : List (D × D)}, KF K I xs kvs → ∀ k, (getF kvs k = none ∧ atKey xs (kI k) = none) ∨ ∃ d p v, getF kvs k = some d ∧ atKey xs (kI k) = some p ∧ RelV v p.2 ∧ R0 v d
  | _, _, .nil, k => .inl ⟨rfl, rfl⟩
  | _, _, .cons (ns := ns) (b := b) (u := u) (v := v) (d := d) (xs := xs) (kvs := kvs) h1 h2 h3 t, k => by
    by_cases c : ns = k
    · subst c
      refine .inr ⟨d, (b, u), v, ?_, ?_, h2, h3⟩
      · unfold getF; rw [List.find?_cons, keyI_ints, decide_eq_true rfl]; rfl
      · unfold atKey; rw [List.find?_cons, decide_eq_true rfl]; rfl
    · have e1 : getF ((.tuple (ns.map PyData.int), d) :: kvs) k = getF kvs k := by unfold getF; rw [List.find?_cons, keyI_ints, decide_eq_false (fun z => c (Option.some.inj z))]
      have e2 : atKey ((kI ns, b, u) :: xs) (kI k) = atKey xs (kI k) := by unfold atKey; rw [List.find?_cons, decide_eq_false (fun z => c (kI_inj z))]
      rw [e1, e2]
      exact KF.val t k
theorem IKeys.mono {H H' : Hp} {xs : List (List Key × Addr × Value)} (e : Same H H') (h : IKeys K H xs) : IKeys K H' xs := fun x hx => by
  obtain ⟨ns, e1, e2⟩ := h x hx
  exact ⟨ns, e1, Same.sqt e e2⟩
end
section
variable {K : Fg} {ta : TE} {t2 : T2E}
end
/-! ### an own dict becomes data -/
def scal : D → Bool | .none => true | .bool _ => true | .int _ => true | _ => false
def ksOf (is : List (List Int × D)) : List (List Key × D) := is.map fun q => (kI q.1, q.2)
def dicD (is : List (List Int × D)) : D := .dict (is.map fun q => (.tuple (q.1.map PyData.int), q.2))
theorem KD.kf {K : Fg} {I : Hp} : ∀ {is : List (List Int × D)} {xs : List (List Key × Addr × Value)}, KD K I xs (ksOf is) → (∀ q ∈ is, scal q.2 = true) → KF K I xs (is.map fun q => (.tuple (q.1.map PyData.int), q.2))
  | [], _, h, _ => by cases h; exact .nil
  | (ns, d) :: is, _, h, hs => by
    cases h with
    | cons h1 h2 h3 t =>
      rw [kI_kV] at h1
      have hd := hs (ns, d) List.mem_cons_self
      refine .cons h1 h2 ?_ (KD.kf t fun q hq => hs q (List.mem_cons_of_mem _ hq))
      cases h3 with
      | non => exact .non
      | bl b => exact .bl b
      | int i => exact .int i
      | str x => exact nomatch hd
      | lst _ _ => exact nomatch hd
      | tup _ _ => exact nomatch hd
      | dic _ _ => exact nomatch hd
def dFrzD (i : Nat) (t : T2S) : T2S := fun E env => match env[i]? with
  | some (some (.dct _ ks)) => ∃ is, ks = ksOf is ∧ (∀ q ∈ is, scal q.2 = true) ∧ t E (env.set i (some (.dat (dicD is))))
  | some (some (.dat _)) => t E env | _ => False
end Z2
namespace Z2
open PySem PySem.Spec PyProof.Rows L2
/-! ### x += an int, and an append of what is popped -/
def dAugA (i : Nat) (t : T2E) : T2S := fun E env => match env[i]? with
  | some (some (.dat (.int a))) => t env fun d => (match d with | .int b => E.nx (env.set i (some (.dat (.int (a + b))))) | _ => False)
  | _ => False
/-- xs.append(ys.pop(t)), i for xs, j for ys -/
def dAppPop (i j : Nat) (t : T2E) : T2S := fun E env => match env[i]? with
  | some (some (.own _)) => (match env[j]? with
    | some (some (.own es)) => t env fun x => (match x with
      | .int k => (match ixN es.length k with
        | some m => (match es[m]? with
          | some y => -(2 ^ 63) ≤ k ∧ k < 2 ^ 63 ∧ (match (env.set j (some (.own (es.eraseIdx m))))[i]? with
            | some (some (.own ds)) => ds.length < 1000000 ∧ E.nx ((env.set j (some (.own (es.eraseIdx m)))).set i (some (.own (ds ++ [y]))))
            | _ => False)
          | none => False)
        | none => False)
      | _ => False)
    | _ => False)
  | _ => False
section
variable {K : Fg} {te : TE} {t2 : T2E}
end
end Z2
namespace Z2
open PySem PySem.Spec PyProof.Rows L2
/-! ### list(range(a, b)) -/
def dLstRg2 (a b : T2E) : T2A := fun env Q => a env fun d => b env fun e => match d, e with
  | .int i, .int j => -1000000 ≤ i ∧ i ≤ 1000000 ∧ -1000000 ≤ j ∧ j ≤ 1000000 ∧ Q (dRange i (j - i).toNat)
  | _, _ => False
end Z2
namespace Z2
open PySem PySem.Spec PyProof.Rows L2
/-! ### dicts of one's own whose keys are ints -/
def valI (ks : List (Int × D)) (k : Int) : Option D := (ks.find? fun x => decide (x.1 = k)).map (·.2)
def putI (ks : List (Int × D)) (k : Int) (d : D) : List (Int × D) := if (ks.any fun x => decide (x.1 = k)) = true then ks.map (fun x => if x.1 = k then (x.1, d) else x) else ks ++ [(k, d)]
def noK : Option Sl → Bool | some (.dki _) => false | _ => true
section
variable {K : Fg} {I : Hp}
theorem KDI.length : ∀ {xs : List (Key × V)} {ks : List (Int × D)}, KDI K I xs ks → xs.length = ks.length
  | _, _, .nil => rfl
  | _, _, .cons _ t => by rw [List.length_cons, List.length_cons, KDI.length t]
theorem KDI.val : ∀ {xs : List (Key × V)} {ks : List (Int × D)}, KDI K I xs ks → ∀ k : Int, (valI ks k = none ∧ valV xs (Sum.inl k) = none) ∨ ∃ d v, valI ks k = some d ∧ valV xs (Sum.inl k) = some v ∧ Rp K I v d
  | _, _, .nil, k => .inl ⟨rfl, rfl⟩
  | _, _, .cons (i := i) (v := v) (d := d) (xs := xs) (ks := ks) h t, k => by
    by_cases c : i = k
    · subst c
      refine .inr ⟨d, v, ?_, valV_pos rfl, h⟩
      unfold valI
      rw [List.find?_cons, decide_eq_true rfl]
      rfl
    · have e1 : valI ((i, d) :: ks) k = valI ks k := by unfold valI; rw [List.find?_cons, decide_eq_false c]
      have e2 : valV (((Sum.inl i : Key), v) :: xs) (Sum.inl k) = valV xs (Sum.inl k) := valV_neg fun z => c (Sum.inl.inj z)
      rw [e1, e2]
      exact KDI.val t k
theorem KDI.any : ∀ {xs : List (Key × V)} {ks : List (Int × D)}, KDI K I xs ks → ∀ k : Int, (xs.any fun kv => decide (kv.1 = (Sum.inl k : Key))) = ks.any fun x => decide (x.1 = k)
  | _, _, .nil, k => rfl
  | _, _, .cons (i := i) h t, k => by
    rw [List.any_cons, List.any_cons, KDI.any t k]
    congr 1
    rw [Bool.eq_iff_iff, decide_eq_true_iff, decide_eq_true_iff]
    exact ⟨fun z => Sum.inl.inj z, fun z => by rw [show i = k from z]⟩
theorem KDI.repl {k : Int} {v : V} {d : D} (h1 : Rp K I v d) : ∀ {xs : List (Key × V)} {ks : List (Int × D)}, KDI K I xs ks → KDI K I (xs.map fun kv => if kv.1 = (Sum.inl k : Key) then (kv.1, v) else kv) (ks.map fun x => if x.1 = k then (x.1, d) else x)
  | _, _, .nil => .nil
  | _, _, .cons (i := i) (v := v1) (d := d1) h t => by
    rw [List.map_cons, List.map_cons]
    by_cases c : i = k
    · subst c
      rw [if_pos rfl, if_pos rfl]
      exact .cons h1 (KDI.repl h1 t)
    · rw [if_neg (fun z => c (Sum.inl.inj z)), if_neg c]
      exact .cons h (KDI.repl h1 t)
theorem KDI.snoc {k : Int} {v : V} {d : D} (h1 : Rp K I v d) : ∀ {xs : List (Key × V)} {ks : List (Int × D)}, KDI K I xs ks → KDI K I (xs ++ [(Sum.inl k, v)]) (ks ++ [(k, d)])
  | _, _, .nil => .cons h1 .nil
  | _, _, .cons h t => .cons h (KDI.snoc h1 t)
theorem KDI.put {k : Int} {v : V} {d : D} (h1 : Rp K I v d) {xs : List (Key × V)} {ks : List (Int × D)} (h : KDI K I xs ks) : KDI K I (putK xs (Sum.inl k) v) (putI ks k d) := by
  unfold putK putI
  rw [h.any k]
  split
  · exact KDI.repl h1 h
  · exact KDI.snoc h1 h
end
section
variable {K : Fg} {p : P0} {env : Ev} {σ : L2.St} {I H I' H' : Hp}
theorem RelL.setDki (r : RelL K p env σ I H) {a : Addr} {xs : List (Key × V)} {ks : List (Int × D)} (h0 : p.H0 a = none) (h1 : I a = none) (h2 : H a = some (.dK xs)) (h3 : KDI K I xs ks) (i : Nat) : RelL K p (env.set i (some (.dki ks))) (σ.set i (some (.ref a))) I H := by
  refine ⟨⟨r.r.gr, fun j x e => ?_, fun j k x y b n e1 e2 e3 e4 => ?_, r.r.st, r.r.bs, r.r.sd.set i _ _ (fun w ks z => nomatch z), r.r.sm.set _ _ _ (fun y z u c cc => by cases z; exact cc.elim)⟩, by rw [List.length_set, List.length_set]; exact r.len⟩
  · rcases getSet e with ⟨rfl, q, hl⟩ | ⟨n, q⟩
    · cases q
      exact ⟨_, List.getElem?_set_self (by rw [← r.len]; exact hl), a, xs, rfl, h0, h1, h2, h3⟩
    · obtain ⟨u, hu, q⟩ := r.r.sl j x q
      exact ⟨u, by rw [List.getElem?_set_ne n]; exact hu, q⟩
  · rcases getSet e1 with ⟨_, q, _⟩ | ⟨n1, q1⟩
    · cases q
    · rcases getSet e2 with ⟨_, q, _⟩ | ⟨n2, q2⟩
      · cases q
      · rw [List.getElem?_set_ne n1] at e3
        rw [List.getElem?_set_ne n2] at e4
        exact r.r.sep j k x y b n q1 q2 e3 e4
/-- the own dict at a is changed -/
theorem RelL.mutDki (r : RelL K p env σ I H) {i : Nat} {ks ks' : List (Int × D)} {a : Addr} {xs' : List (Key × V)} (e : env[i]? = some (some (.dki ks))) (hv : σ[i]? = some (some (.ref a))) (h : KDI K I xs' ks') (one : ∀ j ks2, env[j]? = some (some (.dki ks2)) → j = i) :
    RelL K p (env.set i (some (.dki ks'))) σ I (upd H a (.dK xs')) := by
  obtain ⟨v, hv2, a, vs, e1, e2, e3, e4, e5⟩ := r.r.sl i _ e
  rw [hv] at hv2; cases hv2; cases e1
  have nI : ∀ b o, I b = some o → b ≠ a := fun b o q => ne_of_none q e3
  have nm : p.m ≠ some a := fun q => (r.r.st _ q).1 e2
  refine ⟨⟨⟨r.r.gr.ii, fun b o q => by rw [upd_ne (nI b o q)]; exact r.r.gr.ih b o q, fun b o q n => ?_, r.r.gr.fr, fun b q => ?_⟩, fun j x q => ?_, fun j k x y b n q1 q2 q3 q4 => ?_, fun s q => ⟨(r.r.st s q).1, ?_⟩, r.r.bs, r.r.sd.setE i _ (fun w ks z => nomatch z),
      (r.r.sm.setE i (some (.dki ks')) (fun y z u c cc => by cases z; exact cc.elim)).keep fun j x u b q m su eu => upd_ne fun z => by
        rcases getSet q with ⟨rfl, w, _⟩ | ⟨_, q⟩
        · cases w; cases m
        · subst z
          obtain ⟨u', hu, sl⟩ := r.r.sl j x q
          rw [su] at hu
          cases hu
          cases x <;> first | (cases m) | skip
          obtain ⟨b', bs, f1, f2, f3, f4, _, _⟩ := sl
          rw [eu] at f1
          cases f1
          rw [e4] at f4
          exact nomatch f4⟩,
    by rw [List.length_set]; exact r.len⟩
  · rw [upd_ne (ne_of_none q e2)]; exact r.r.gr.hh b o q n
  · by_cases hb : b = a
    · rw [hb, upd_same]; exact fun q => nomatch q
    · rw [upd_ne hb]; exact r.r.gr.th b q
  · rcases getSet q with ⟨rfl, z, hl⟩ | ⟨n, z⟩
    · cases z
      exact ⟨_, hv, a, xs', rfl, e2, e3, upd_same, h⟩
    · obtain ⟨u, hu, z2⟩ := r.r.sl j x z
      refine ⟨u, hu, ?_⟩
      cases x with
      | dat d => exact z2
      | rng _ => exact z2
      | obf _ _ _ => exact z2
      | obj _ _ _ _ =>
        obtain ⟨f1, f2, f6⟩ := z2
        refine ⟨f1, f2, f6.stays (Same.refl _) fun c hc z1 z2 z3 => ⟨z2, upd_ne fun w => ?_⟩⟩
        obtain ⟨_, _, vs2, hv2⟩ := f6.live c hc
        rw [w, e4] at hv2
        exact nomatch hv2
      | own es =>
        obtain ⟨b, ws, f1, f2, f3, f4, f5⟩ := z2
        subst f1
        have nb : b ≠ a := fun w => by
          rw [w, e4] at f4
          exact nomatch f4
        exact ⟨b, ws, rfl, f2, f3, by rw [upd_ne nb]; exact f4, f5⟩
      | strm => exact z2
      | lnt x =>
        obtain ⟨b, f1, f2, f3, f4⟩ := z2
        have nb : b ≠ a := fun w => f2 (by rw [w]; exact e2)
        exact ⟨b, f1, f2, f3, f4.stays (Same.refl _) fun o q => by rw [upd_ne nb]; exact q⟩
      | dct w' ks2 =>
        obtain ⟨b, ws, f1, f2, f3, f4, f5⟩ := z2
        subst f1
        have nb : b ≠ a := fun w => by
          rw [w, e4] at f4
          exact nomatch f4
        exact ⟨b, ws, rfl, f2, f3, by rw [upd_ne nb]; exact f4, f5⟩
      | dki ks2 => exact absurd (one j ks2 z) (Ne.symm n)
      | mat rows =>
        obtain ⟨b, bs, f1, f2, f3, f4, f5, f6⟩ := z2
        subst f1
        have nb : b ≠ a := fun w => by
          rw [w, e4] at f4
          exact nomatch f4
        refine ⟨b, bs, rfl, f2, f3, by rw [upd_ne nb]; exact f4, f5, f6.stays (Same.refl _) fun c hc z1 z2 z3 => ⟨z2, upd_ne fun w => ?_⟩⟩
        obtain ⟨_, _, vs2, hv2⟩ := f6.live c hc
        rw [w, e4] at hv2
        exact nomatch hv2
  · have own : ∀ (l : Nat) (x : List D), (env.set i (some (Sl.dki ks')))[l]? = some (some (Sl.own x)) → env[l]? = some (some (Sl.own x)) := fun l x w => by
      rcases getSet w with ⟨rfl, z, _⟩ | ⟨_, w⟩
      · cases z
      · exact w
    exact r.r.sep j k x y b n (own j x q1) (own k y q2) q3 q4
  · obtain ⟨f0, l, c, k, ns, f1, f2, f3⟩ := (r.r.st s q).2
    have ns2 : s ≠ a := fun w => nm (by rw [q, w])
    exact ⟨f0, l, c, k, ns, by rw [upd_ne ns2]; exact f1, f2, f3⟩
theorem one_noK {i : Nat} (h : (env.set i none).all noK = true) : ∀ j ks2, env[j]? = some (some (.dki ks2)) → j = i := fun j ks2 e => by
  apply Classical.byContradiction
  intro n
  have e2 : (env.set i none)[j]? = some (some (.dki ks2)) := by rw [List.getElem?_set_ne (Ne.symm n)]; exact e
  have := List.all_eq_true.mp h _ (List.mem_of_getElem? e2)
  exact nomatch this
end
def dNewK (i : Nat) : T2S := fun E env => E.nx (env.set i (some (.dki [])))
def dPutK (i : Nat) (tk tv : T2E) : T2S := fun E env => tv env fun v => match env[i]? with
  | some (some (.dki ks)) => ks.length < 1000000 ∧ (env.set i none).all noK = true ∧ tk env fun kd => (match kd with | .int k => E.nx (env.set i (some (.dki (putI ks k v)))) | _ => False)
  | _ => False
def dGetK (i : Nat) (tk : T2E) : T2E := fun env Q => match env[i]? with
  | some (some (.dki ks)) => tk env fun kd => (match kd with | .int k => (match valI ks k with | some d => Q d | none => False) | _ => False)
  | _ => False
def dInK (neg : Bool) (i : Nat) (tk : T2E) : T2E := fun env Q => match env[i]? with
  | some (some (.dki ks)) => tk env fun kd => (match kd with | .int k => Q (.bool (if neg then !(valI ks k).isSome else (valI ks k).isSome)) | _ => False)
  | _ => False
def rKIn (neg : Bool) : R2 := fun x y H Q => ∃ a o, y = .ref a ∧ DGet H a x o ∧ Q (.bl (if neg then !o.isSome else o.isSome)) H
theorem op_kIn {X : Cx} (hu : X.A.units + 1 < cLine) : OpR X (compareOp .In) (rKIn false) := by
  intro pins s σ H x y v u Q I rx ry h
  obtain ⟨a, o, rfl, g, q⟩ := h
  obtain rfl : u = Value.ref a := ry
  exact d_in hu I g rx fun s' I' => ⟨.bl _, H, I', rfl, q⟩
section
variable {K : Fg}
theorem ss_newK (i : Nat) : SS K (tAsg tDNewK (gName i)) (dNewK i) := by
  intro p env σ I H D2 E r q e
  intro l h0
  have hl0 : p.H0 l = none := by
    cases e0 : p.H0 l with
    | none => rfl
    | some o => exact absurd h0 (r.r.gr.th l (by rw [e0]; exact fun z => nomatch z))
  have r1 := r.grow' (Gr.fresh (m := none) (o := .dK []) r.same h0)
  exact e.nx _ _ _ _ q (r1.setDki hl0 (Same.free r.same h0) upd_same .nil i)
theorem se_getK {te : TE} {t2 : T2E} (i : Nat) (h : SE K te t2) : SE K (tDGet (tVar i) te) (dGetK i t2) := by
  intro p env σ I H Q2 Q r q k
  unfold dGetK at q
  split at q
  · rename_i ks e2
    obtain ⟨v, hv, a, xs, rfl, f2, f3, f4, f5⟩ := r.r.sl i _ e2
    refine ⟨_, hv, h p env σ I H _ _ r q fun kd kv I1 H1 q1 s1 r1 => ?_⟩
    cases kd <;> first | exact q1.elim | skip
    rename_i j
    cases r1
    dsimp only at q1
    split at q1
    · rename_i d ed
      obtain ⟨v', hv', a', xs', e1', g2, g3, g4, g5⟩ := (r.stp s1).r.sl i _ e2
      subst e1'
      rw [hv] at hv'
      cases hv'
      rcases g5.val j with ⟨z, _⟩ | ⟨d', v', z1, z2, z3⟩
      · rw [z] at ed; cases ed
      · rw [z1] at ed
        cases ed
        have g := DGet.k (k := Sum.inl j) g4
        rw [z2] at g
        exact ⟨a, v', rfl, g, k _ _ _ _ q1 s1 z3⟩
    · exact q1.elim
  · exact q.elim
theorem se_inK {te : TE} {t2 : T2E} (neg : Bool) (i : Nat) (h : SE K te t2) : SE K (tOp (rKIn neg) te (tVar i)) (dInK neg i t2) := by
  intro p env σ I H Q2 Q r q k
  unfold dInK at q
  split at q
  · rename_i ks e2
    refine h p env σ I H _ _ r q fun kd kv I1 H1 q1 s1 r1 => ?_
    cases kd <;> first | exact q1.elim | skip
    rename_i j
    cases r1
    dsimp only at q1
    obtain ⟨v', hv', a', xs', e1', g2, g3, g4, g5⟩ := (r.stp s1).r.sl i _ e2
    subst e1'
    refine ⟨_, hv', a', _, rfl, DGet.k (k := Sum.inl j) g4, ?_⟩
    have e : (valV xs' (Sum.inl j : Key)).isSome = (valI ks j).isSome := by
      rcases g5.val j with ⟨z1, z2⟩ | ⟨d', v', z1, z2, z3⟩
      · rw [z1, z2]
        rfl
      · rw [z1, z2]
        rfl
    rw [e]
    exact k _ _ _ _ q1 s1 (.bl _)
  · exact q.elim
theorem ss_putK {tk tv : TE} {k2 v2 : T2E} (i : Nat) (hk : SE K tk k2) (hv : SE K tv v2) : SS K (sDPut (tVar i) tk tv) (dPutK i k2 v2) := by
  intro p env σ I H D2 E r q e
  refine hv p env σ I H _ _ r q fun d v I1 H1 q1 s1 r1 => ?_
  split at q1
  · rename_i ks e2
    obtain ⟨hl, hone, q1⟩ := q1
    have ra := r.stp s1
    obtain ⟨va, hva, a, xs, rfl, f2, f3, f4, f5⟩ := ra.r.sl i _ e2
    refine ⟨_, hva, hk p env σ I1 H1 _ _ ra q1 fun kd kv I2 H2 q2 s2 r2 => ?_⟩
    cases kd <;> first | exact q2.elim | skip
    rename_i j
    cases r2
    dsimp only at q2
    have rb := ra.stp s2
    obtain ⟨v', hv', a', xs', e1', g2, g3, g4, g5⟩ := rb.r.sl i _ e2
    subst e1'
    rw [hva] at hv'
    cases hv'
    refine ⟨a, _, rfl, DPut.k (k := Sum.inl j) g4 (lt_line (by rw [g5.length]; exact hl)), ?_⟩
    exact e.nx _ _ _ _ q2 (rb.mutDki e2 hva (KDI.put (Rp.mono s2.ii _ _ r1) g5) (one_noK hone))
  · exact q1.elim
end
end Z2
namespace Z2
open PySem PySem.Spec PyProof.Rows L2
/-! ### .get(key, other) and the truth of dicts whose keys are ints -/
def dGet2K (i : Nat) (tk td : T2E) : T2E := fun env Q => match env[i]? with
  | some (some (.dki ks)) => tk env fun kd => td env fun dv => (match kd with | .int k => Q ((valI ks k).getD dv) | _ => False)
  | _ => False
def dTruK (i : Nat) : T2T := fun env Q => match env[i]? with | some (some (.dki ks)) => Q (!ks.isEmpty) | _ => False
section
variable {K : Fg}
end
end Z2
namespace Z2
open PySem PySem.Spec PyProof.Rows L2
/-! ### exceptions of the text's classes, as data: the class's number, what its one field holds -/
def xname : Nat → Str
  | 0 => "BadValue" | 1 => "NotPossible" | 2 => "TooLarge" | 3 => "TextError" | _ => "BideError"
def xfld : Nat → Str
  | 0 => "name" | 1 => "why" | _ => "what"
abbrev T2X := Ev → Nat → D → Prop
abbrev RCX := List D → (D → Prop) → (Nat → D → Prop) → Prop
/-- what the fields hold: one field, or (class 3) a column and words -/
def XF (K : Fg) (I : Hp) (c : Nat) (kvs : List (Str × V)) (d : D) : Prop := (c ≠ 3 ∧ ∃ v, kvs = [(xfld c, v)] ∧ Rp K I v d) ∨
  (c = 3 ∧ ∃ v1 v2 d1 d2, kvs = [(("words" : Str), v2), (("column" : Str), v1)] ∧ d = .tuple [d1, d2] ∧ Rp K I v1 d1 ∧ Rp K I v2 d2)
theorem XF.mono {K : Fg} {I I' : Hp} (s : Same I I') {c : Nat} {kvs : List (Str × V)} {d : D} : XF K I c kvs d → XF K I' c kvs d
  | .inl ⟨h, v, e, r⟩ => .inl ⟨h, v, e, Rp.mono s _ _ r⟩
  | .inr ⟨h, v1, v2, d1, d2, e, e2, r1, r2⟩ => .inr ⟨h, v1, v2, d1, d2, e, e2, Rp.mono s _ _ r1, Rp.mono s _ _ r2⟩
/-- in the air -/
def RX (K : Fg) (mg : Str → Option Value) (I H : Hp) (c : Nat) (d : D) (cls : Value) (dx : Option Addr) : Prop :=
  ∃ (C a : Addr) (kvs : List (Str × V)), mg (xname c) = some (.ref C) ∧ cls = .ref C ∧ dx = some a ∧ H a = some (.xd kvs) ∧ XF K I c kvs d
/-- a def that may raise -/
def spDX (K : Fg) (mg : Str → Option Value) (n : Nat) (f : RCX) : Sp := fun vs H Q E => ∃ (I : Hp) (ds : List D) (Q2 : D → Prop) (X2 : Nat → D → Prop), vs.length = n ∧ Same I H ∧ Rps K I vs ds ∧ f ds Q2 X2 ∧
  (∀ d v I' H', Q2 d → Gr none I H I' H' → Rp K I' v d → Q v H') ∧ ∀ c e cls dx I' H', X2 c e → Gr none I H I' H' → RX K mg I' H' c e cls dx → E cls dx H'
def HX (K : Fg) (mg : Str → Option Value) (p : P0) (W : WX) (x : T2X) : Prop := ∀ env σ I H c e cls dx, RelL K p env σ I H → x env c e → RX K mg I H c e cls dx → W cls dx σ H
/-- readings under a condition on the state that steps keep -/
abbrev Cnd := P0 → L2.St → Hp → Hp → Prop
def SEG (K : Fg) (C : Cnd) (te : TE) (t : T2E) : Prop := ∀ (p : P0) (env : Ev) (σ : L2.St) (I H : Hp) (Q2 : D → Prop) (Q : VK), RelL K p env σ I H → C p σ I H → t env Q2 →
  (∀ d v I' H', Q2 d → Stp p I H I' H' → Rp K I' v d → Q v H') → te σ H Q
def SAG (K : Fg) (C : Cnd) (n : Nat) (ta : TA) (t : T2A) : Prop := ∀ (p : P0) (env : Ev) (σ : L2.St) (I H : Hp) (Q2 : List D → Prop) (Q : List V → Hp → Prop), RelL K p env σ I H → C p σ I H → t env Q2 →
  (∀ ds vs I' H', Q2 ds → vs.length = n → Stp p I H I' H' → Rps K I' vs ds → Q vs H') → ta σ H Q
def STG (K : Fg) (C : Cnd) (tt : TT) (t : T2T) : Prop := ∀ (p : P0) (env : Ev) (σ : L2.St) (I H : Hp) (Q2 : Bool → Prop) (Q : Bool → Hp → Prop), RelL K p env σ I H → C p σ I H → t env Q2 →
  (∀ b I' H', Q2 b → Stp p I H I' H' → Q b H') → tt σ H Q
def SSG (K : Fg) (C : Cnd) (ts : TS) (t : T2S) : Prop := ∀ (p : P0) (env : Ev) (σ : L2.St) (I H : Hp) (D2 : Ends2) (E : Ends), RelL K p env σ I H → C p σ I H → t D2 env → EndsR K p D2 E → ts E σ H
/-- steps keep it -/
def Kept (K : Fg) (C : Cnd) : Prop := ∀ p env σ I H I' H', RelL K p env σ I H → C p σ I H → Stp p I H I' H' → C p σ I' H'
section
variable {K : Fg} {C : Cnd} {te tf : TE} {t2 u2 : T2E} {ta : TA} {a2 : T2A} {ts us : TS} {t u : T2S} {n : Nat}
theorem seg_of (h : SE K te t2) : SEG K C te t2 := fun p env σ I H Q2 Q r _ q k => h p env σ I H Q2 Q r q k
theorem sag_of (h : SA K n ta a2) : SAG K C n ta a2 := fun p env σ I H Q2 Q r _ q k => h p env σ I H Q2 Q r q k
theorem stg_of {tt : TT} {c2 : T2T} (h : ST K tt c2) : STG K C tt c2 := fun p env σ I H Q2 Q r _ q k => h p env σ I H Q2 Q r q k
theorem ssg_of (h : SS K ts t) : SSG K C ts t := fun p env σ I H D2 E r _ q e => h p env σ I H D2 E r q e
theorem sag_nil : SAG K C 0 tNil dNil := sag_of sa_nil
theorem sag_cons (hk : Kept K C) (h : SEG K C te t2) (h2 : SAG K C n ta a2) : SAG K C (n + 1) (tCons te ta) (dCons t2 a2) := by
  intro p env σ I H Q2 Q rl hx q k
  refine h p env σ I H _ _ rl hx q fun d v I1 H1 q1 s1 r1 => ?_
  refine h2 p env σ I1 H1 _ _ (rl.stp s1) (hk _ _ _ _ _ _ _ rl hx s1) q1 fun ds vs I2 H2 q2 hl s2 r2 => ?_
  exact k _ _ _ _ q2 (by rw [List.length_cons, hl]) (s1.trans s2) (.cons (Rp.mono s2.ii _ _ r1) r2)
theorem seg_call {f : RCD} {E : XK} (h : SAG K C n ta a2) : SEG K C (tCall (spD K n f) [] E ta) (dCB f a2) := by
  intro p env σ I H Q2 Q rl hx q k
  refine h p env σ I H _ _ rl hx q fun ds vs I1 H1 q1 hl s1 h1 => ?_
  rw [List.append_nil]
  exact ⟨I1, ds, Q2, hl, s1.ih, h1, q1, fun d v I' H' q' g r' => k d v I' H' q' (s1.trans (.of g)) r'⟩
theorem seg_tup (h : SAG K C n ta a2) (hn : n ≤ 1000000 := by decide) : SEG K C (tTup ta) (dTup a2) := by
  intro p env σ I H Q2 Q rl hx q k
  refine h p env σ I H _ _ rl hx q fun ds vs I1 H1 q1 hl s1 h1 => ⟨le_line (by rw [hl]; exact hn), fun l h0 => ?_⟩
  have g := Gr.new (m := none) (o := .tup vs) s1.ih h0
  exact k _ _ _ _ q1 (s1.trans (.of g)) (.tup (SqT.of upd_same) (Rps.mono g.ii ds vs h1))
theorem ssg_seqC (hc : ∀ p σ I H σ' I' H', C p σ I H → C p σ' I' H') (h1 : SSG K C ts t) (h2 : SSG K C us u) : SSG K C (tSeq ts us) (dSeq t u) := fun p env σ I H D2 E r hx q e =>
  h1 p env σ I H _ _ r hx q ⟨fun env' σ' I' H' q' r' => h2 p env' σ' I' H' _ _ r' (hc _ _ _ _ _ _ _ hx) q' e, e.rt, e.bk, e.ct, e.rd, e.re, e.rv⟩
theorem ssg_if {c : TT} {c2 : T2T} (hk : Kept K C) (h : STG K C c c2) (h1 : SSG K C ts t) (h2 : SSG K C us u) : SSG K C (tIfS c ts us) (dIfS c2 t u) := by
  intro p env σ I H D2 E r hx q e
  refine h p env σ I H _ _ r hx q fun b I' H' q' s => ?_
  cases b with
  | true =>
    rw [if_pos rfl] at q' ⊢
    exact h1 p env σ I' H' _ _ (r.stp s) (hk _ _ _ _ _ _ _ r hx s) q' e
  | false =>
    rw [if_neg Bool.false_ne_true] at q' ⊢
    exact h2 p env σ I' H' _ _ (r.stp s) (hk _ _ _ _ _ _ _ r hx s) q' e
theorem ssg_asg {vs : List Nat} {g : TG} {g2 : T2G} (h : SEG K C te t2) (hg : SG K vs g g2) : SSG K C (tAsg te g) (dAsg t2 g2) := fun p env σ I H D2 E r hx q e =>
  h p env σ I H _ _ r hx q fun d v I' H' q' s rp => hg p env σ I' H' v d _ _ (r.stp s) rp q' fun env' σ' I2 H2 q2 r2 _ _ => e.nx _ _ _ _ q2 r2
theorem ssg_set {i : Nat} (h : SEG K C te t2) : SSG K C (tAsg te (gName i)) (dAsg t2 (gN i)) := ssg_asg (vs := [i]) h (sg_name i (List.mem_singleton.mpr rfl))
theorem ssg_drop (h : SEG K C te t2) : SSG K C (tDrop te) (dDrop t2) := fun p env σ I H D2 E r hx q e =>
  h p env σ I H _ _ r hx q fun d v I' H' q' s rp => e.nx _ _ _ _ q' (r.stp s)
theorem ssg_ret (h : SEG K C te t2) : SSG K C (tRet te) (dRet t2) := fun p env σ I H D2 E r hx q e =>
  h p env σ I H _ _ r hx q fun d v I' H' q' s rp => e.rt d v I' H' q' (r.r.gr.trans s.gr) (fun a ea => s.st a ea (r.r.st a ea).2) rp
theorem ssg_for {wi : TI} {g : TG} {ti : T2I} {g2 : T2G} {vs : List Nat} (hc : ∀ p σ I H σ' I' H' B, C p σ I H → Same p.B B → C { p with B := B } σ' I' H') (hi : SI K wi ti) (hg : SG K vs g g2) (hb : SSG K C ts t) : SSG K C (tFor wi g ts) (dFor ti g2 t) := by
  intro p env σ I H D2 E r hx q e
  refine hi p env σ I H _ _ r q fun ds J I1 H1 q1 s1 it => ?_
  refine ⟨fun i m σ' H' => m = ds.length - i ∧ i ≤ ds.length ∧ ∃ env' I', RelL K p env' σ' I' H' ∧ Same I1 I' ∧ forD g2 t D2 (ds.drop i) env', ⟨ds.length, by simp, Nat.zero_le _, env, I1, r.stp s1, Same.refl _, q1⟩, ?_⟩
  rintro i m σ' H' ⟨rfl, hi', env', I', r', ii, q'⟩
  by_cases hlt : i < ds.length
  · refine .inr ⟨it.go i I' H' ii r'.same hlt, fun σ2 H2 => ∃ env2 I2, RelL K p env2 σ2 I2 H2 ∧ Same I1 I2 ∧ forD g2 t D2 (ds.drop (i + 1)) env2, fun σ2 H2 z => ⟨ds.length - (i + 1), by omega, rfl, by omega, z⟩, fun x H2 y => ?_⟩
    obtain ⟨I2, d, g1, hd, rd⟩ := it.yld i x I' H' H2 ii r'.same hlt y
    have hdrop : ds.drop i = d :: ds.drop (i + 1) := by
      have hdd : ds[i] = d := Option.some.inj ((List.getElem?_eq_getElem hlt).symm.trans hd)
      rw [List.drop_eq_getElem_cons hlt, hdd]
    rw [hdrop] at q'
    refine hg p env' σ' I2 H2 x d _ _ (r'.grow' g1) rd q' fun env3 σ3 I3 H3 q3 r3 s3 _ => ?_
    have i3 := (ii.trans g1.ii).trans s3.ii
    have back : ∀ {env σ I H}, RelL K { p with B := I1 } env σ I H → RelL K p env σ I H ∧ Same I1 I := fun {env σ I H} z => ⟨z.rebase ((r.stp s1).r.bs.trans z.r.bs), z.r.bs⟩
    exact hb { p with B := I1 } env3 σ3 I3 H3 _ _ (r3.rebase i3) (hc _ _ _ _ _ _ _ _ hx (r.stp s1).r.bs) q3 ⟨fun env4 σ4 I4 H4 q4 r4 => ⟨env4, I4, (back r4).1, (back r4).2, q4⟩, e.rt, fun env4 σ4 I4 H4 q4 r4 => e.nx _ _ _ _ q4 (back r4).1,
      fun env4 σ4 I4 H4 q4 r4 => ⟨env4, I4, (back r4).1, (back r4).2, q4⟩, e.rd, fun env4 σ4 I4 H4 d v q4 r4 rp => e.re _ _ _ _ _ _ q4 (back r4).1 rp, fun env4 σ4 I4 H4 i v q4 r4 hv => e.rv _ _ _ _ _ _ q4 (back r4).1 hv⟩
  · have hi2 : i = ds.length := by omega
    subst hi2
    rw [List.drop_length] at q'
    exact .inl ⟨it.stop _ I' H' ii r'.same rfl, e.nx _ _ _ _ q' r'⟩
end
/-! ### a def that may raise: its body -/
abbrev CX1 (K : Fg) (mg : Str → Option Value) (W : WX) (x : T2X) : Cnd := fun p _ _ _ => HX K mg p W x
def dCBX (f : RCX) (x : T2X) (t : T2A) : T2E := fun env Q => t env fun ds => f ds Q (x env)
/-- raise C(..) -/
def dRaise (x : T2X) (c : Nat) (t : T2E) : T2S := fun _ env => t env fun d => x env c d
section
variable {K : Fg} {mg : Str → Option Value} {W : WX} {x : T2X} {te tf : TE} {t2 u2 : T2E} {ta : TA} {a2 : T2A} {n : Nat}
theorem cx1_kept : Kept K (CX1 K mg W x) := fun p env σ I H I' H' _ h _ => h
theorem cx1_hx {p : P0} {env : Ev} {σ σ' : L2.St} {I H I' H' : Hp} (h : CX1 K mg W x p σ' I' H') {c : Nat} {e : D} {cls : Value} {dx : Option Addr} (r : RelL K p env σ I H) (q : x env c e) (z : RX K mg I H c e cls dx) : W cls dx σ H :=
  h env σ I H c e cls dx r q z
theorem cx1_base : ∀ p σ I H σ' I' H' B, CX1 K mg W x p σ I H → Same p.B B → CX1 K mg W x { p with B := B } σ' I' H' := fun p σ I H σ' I' H' B h e env τ J G c d cls dx r q z =>
  h env τ J G c d cls dx (r.rebase (e.trans r.r.bs)) q z
theorem seg_callX {f : RCX} (h : SAG K (CX1 K mg W x) n ta a2) : SEG K (CX1 K mg W x) (tCallS (spDX K mg n f) (WE W) ta) (dCBX f x a2) := by
  intro p env σ I H Q2 Q rl hx q k
  refine h p env σ I H _ _ rl hx q fun ds vs I1 H1 q1 hl s1 h1 => ?_
  exact ⟨I1, ds, Q2, x env, hl, s1.ih, h1, q1, fun d v I' H' q' g r' => k d v I' H' q' (s1.trans (.of g)) r',
    fun c e cls dx I' H' q' g r' => cx1_hx hx (rl.stp (s1.trans (.of g))) q' r'⟩
end
/-! ### C's own __init__: one field -/
def spI (K : Fg) (f : Str) : Sp := fun vs H Q _ => ∃ (a C : Addr) (v : V), vs = [.ref a, v] ∧ OexC K C ∧ PySem.W.findIn K (.ref C) f = some none ∧ H a = some (exo a C none) ∧
  ∀ dx, H dx = none → dx ≠ a → Q .non (upd (upd H dx (exd dx [(f, v)])) a (exo a C (some dx)))
theorem upd_del {H : Hp} {a d : Addr} {o o' u u' : HO} (hn : H a = none) (hne : d ≠ a) : upd (del (upd (upd (upd H a o) d o') a u) a) d u' = upd H d u' := by
  funext b
  by_cases hd : b = d
  · subst hd; rw [upd_same, upd_same]
  · rw [upd_ne hd, upd_ne hd]
    by_cases ha : b = a
    · subst ha; rw [del_same, hn]
    · rw [del_ne ha, upd_ne ha, upd_ne hd, upd_ne ha]
/-- what the text says of the class number c -/
structure XC (P : Program) (w : World) (K : Fg) (mg : Str → Option Value) (base : Heap) (c : Nat) (C : Addr) : Prop where
  gC : mg (xname c) = some (.ref C)
  oc : OexC K C
  no : PySem.W.findIn K (.ref C) (xfld c) = some none
  xf : XfC K C
  ini : ∃ (fI : Addr) (fd : FuncData), PySem.W.findIn K (.ref C) "__init__" = some (some (.ref fI)) ∧ PySem.W.typeIn K (.ref fI) = some (.type "function") ∧ FnOk P w K mg base CX0 1 fI fd ["self", xfld c] (spI K (xfld c)) ∧ Binds K fd ["self", xfld c] []
theorem ini_ok {P : Program} {w : World} {K : Fg} {mg : Str → Option Value} {base : Heap} {qual : Str} {st : Stmt} {fI : Addr} {fd : FuncData} {f : Str} {p1 p2 p3 pos : Pos} (F : Fun K "__init__" qual st fI fd) (S : FnScope ["self", f] ["self", f] (defScope st))
    (hb : defBody st = [.Assign [.Attribute (.Name "self" p1) f p2] (.Name f p3) pos]) (hf : (f == ("__debug__" : Str)) = false)
    (hp : ∀ (cdv : Value) (A : Around) (outer : List Env) (s : Shared) (H : Hp) (Q : VK) (E : XK), PE (cxOf CX0 P w K mg base ["self", f] qual (defScope st) fI cdv A outer s H E).nox (.Name "self" p1) (tVar 0) ∧ PE (cxOf CX0 P w K mg base ["self", f] qual (defScope st) fI cdv A outer s H E).nox (.Name f p3) (tVar 1) ∧
      swapsWith (.Name f p3) (some (.Attribute (.Name "self" p1) f p2)) pos.line (cxOf CX0 P w K mg base ["self", f] qual (defScope st) fI cdv A outer s H E).nox.env = pure false) : FnOk P w K mg base CX0 1 fI fd ["self", f] (spI K f) := by
  refine F.ok S (fun vs H Q E h => ?_) fun cdv A outer s H vs Q E hr h => ⟨tSeq (tOst K f (tVar 0) (tVar 1)) tNext, ?_, ?_⟩
  · obtain ⟨_, _, _, rfl, _⟩ := h; rfl
  · rw [hb]
    obtain ⟨h1, h2, h3⟩ := hp cdv A outer s H Q E
    exact pss_cons (ps_ost h1 h2 h3) pss_nil
  · obtain ⟨a, C, v, rfl, T, hno, ea, k⟩ := h
    exact ⟨v, rfl, .ref a, rfl, a, C, rfl, T, hno, .inl ⟨ea, fun dx n ne => k dx n ne⟩⟩
/-- raise C(e) -/
def tRz (K : Fg) (W : WX) (C : Addr) (f : Str) (te : TE) : TS := fun _ σ H => tMkO C (spI K f) [] (tCons te tNil) σ H fun cls d H' => W cls d σ H'
theorem ssg_raise {P : Program} {w : World} {K : Fg} {mg : Str → Option Value} {base : Heap} {W : WX} {x : T2X} {te : TE} {t2 : T2E} {c : Nat} {C : Addr} (T : XC P w K mg base c C) (h : SE K te t2) (hc3 : c ≠ 3 := by decide) : SSG K (CX1 K mg W x) (tRz K W C (xfld c) te) (dRaise x c t2) := by
  intro p env σ I H D2 E rl hx q e
  refine h p env σ I H _ _ rl q fun d v I1 H1 q1 s1 r1 => ⟨by show 1 ≤ 1000; decide, fun a ha => ⟨a, C, v, rfl, T.oc, T.no, upd_same, fun dx hd hne => ⟨rfl, dx, [(xfld c, v)], upd_same, ?_, ?_, ?_⟩⟩⟩
  · rw [upd_ne hne, upd_same]
  · rw [upd_ne hne] at hd; exact hd
  · rw [upd_ne hne] at hd
    rw [upd_del ha hne]
    have r' := rl.stp s1
    have i1 : I1 dx = none := Same.free s1.ih hd
    have g : Gr none I1 H1 I1 (upd H1 dx (.xd [(xfld c, v)])) := ⟨Same.refl _, fun b o z => by
        rw [upd_ne (ne_of_none z i1)]; exact s1.ih _ _ z, fun b o z _ => by rw [upd_ne (ne_of_none z hd)]; exact z, fun b z _ => z, fun b z => by
        by_cases hb : b = dx
        · subst hb; rw [upd_same]; exact fun w => nomatch w
        · rw [upd_ne hb]; exact z⟩
    exact cx1_hx hx (r'.stp (.of g)) q1 ⟨C, dx, _, T.gC, rfl, rfl, upd_same, .inl ⟨hc3, v, rfl, r1⟩⟩
theorem ps_raise1 {X : Cx} {W : WX} {c : Nat} {C : Addr} {e : Expr} {te : TE} {p pos pos2 : Pos} (T : XC X.prog X.w X.K X.mg X.base c C) (hc : X.calm = true) (tk : Takes X W) (hr : Room 2 X.A) (hg : Gl X (xname c)) (he : PE X.nox e te)
    (hdb : (xname c == ("__debug__" : Str)) = false := by decide) (hs : starEach [e] X.env = (false, eval e X.env) :: starEach [] X.env := by rfl) (hpl : (backTo pos (starEach [] X.env)).any (·.1) = false := by rfl) :
    PS X (.Raise (some (.Call (.Name (xname c) p) [e] [] pos)) none pos2) (tRz X.K W C (xfld c) te) := by
  obtain ⟨fI, fd, h1, h2, h3, h4⟩ := T.ini
  exact ps_raise hc tk (pmk_oex (he := hs) (hpl := hpl) T.oc h1 h2 h3 hr h4 .nil pass0 hg T.gC (pa_cons he.nox pa_nil (hs := hs)) hdb)
/-! ### defs that keep such a promise -/
def orX (f : RCD) (g : RCX) : RCX := fun ds Q X => f ds Q ∨ g ds Q X
/-- by the plain reading, or by the one with raises -/
structure FxX (P : Program) (w : World) (K : Fg) (mg : Str → Option Value) (base : Heap) (k : Nat) (x : Str) (ps : List Str) (n : Nat) (f : RCD) (g : RCX) : Prop where
  pl : Fx P w K mg base k x ps (spD K n f)
  ex : ∃ f fd, FnOk P w K mg base (L2.CX P w) k f fd ps (spDX K mg n g) ∧ mg x = some (.ref f) ∧ PySem.W.keepIn K (.ref f) = true ∧ Binds K fd ps []
def bodyX (N n : Nat) (t : T2X → T2S) : RCX := fun ds Q X => ds.length = n ∧ t (fun _ => X) { nx := fun _ => Q .none, rt := Q } (envD N n ds)
section
variable {P : Program} {w : World} {K : Fg} {mg : Str → Option Value} {base : Heap} {x : Str} {ps : List Str} {sp : Sp}
theorem pe_fxX {X : Cx} {k n : Nat} {W : WX} {f0 : RCD} {g0 : RCX} {p pos : Pos} {e : Expr} {es : List Expr} {t : TA} (G : FxX X.prog X.w K mg X.base k x ps n f0 g0) (hK : X.K = K) (hM : X.mg = mg) (hr : Room k X.A) (hg : Gl X x) (tk : Takes X W) (ha : PA X (e :: es) t)
    (hdb : (x == ("__debug__" : Str)) = false := by decide) (hse : starEach (e :: es) X.env = (false, eval e X.env) :: starEach es X.env := by rfl) (hbk : (backTo pos (starEach es X.env)).any (·.1) = false := by rfl) :
    PE X (.Call (.Name x p) (e :: es) [] pos) (tCallS (spDX K mg n (orX f0 g0)) (WE W) t) := by
  subst hK hM
  obtain ⟨fa, fd, F, hm, hk, hb⟩ := G.ex
  obtain ⟨fa0, fd0, F0, hm0, _, hb0⟩ := G.pl.ex
  rw [hm] at hm0
  cases hm0
  constructor
  intro pins s σ H Q I h
  apply wpAny_Call_Name_kw
  refine ld_glob I hg hm (PySem.W.callWith_K (h₀ := X.base) I.ok.mod.kin hk ?_ hse hbk) hdb
  refine thn (ha.run pos pins s σ H _ I h) fun us s1 z => ?_
  obtain ⟨vs, H1, I1, r, J, ds, Q2, X2, hl, e1, r1, q, k1, k2⟩ := z
  refine ⟨I1.kIn, ?_⟩
  rcases q with q | q
  · exact run_fn (E := E0) F0 hr hb0 .nil pass0 I1 r (by rw [List.append_nil]; exact ⟨J, ds, Q2, hl, e1, r1, q, k1⟩)
  · exact run_fnS F hr hb (passAt tk σ) I1 r ⟨J, ds, Q2, X2, hl, e1, r1, q, k1, k2⟩
theorem bodyX_ok {N : List Str} {n : Nat} {E : XK} {t : T2X → T2S} {ts : TS} (h : ∀ x, SSG K (CX1 K mg (fun cls d _ H => E cls d H) x) ts (t x)) {vs : List V} {H : Hp} {Q : VK} (q : spDX K mg n (bodyX N.length n t) vs H Q E) : ts { nx := fun _ H' => Q .non H', rt := Q } (L2.start N vs) H := by
  obtain ⟨I, ds, Q2, X2, hl, e, r, ⟨hd, q⟩, k, kx⟩ := q
  refine h (fun _ => X2) ⟨none, I, H, I⟩ _ (L2.start N vs) I H _ _ ⟨⟨.refl e, fun i x z => ?_, fun i j x y a _ z _ _ => ?_, (fun s z => nomatch z), Same.refl _, fun i j w w' x y a _ z _ _ => (by obtain ⟨d, z, _⟩ := env_get z; cases z), fun i j x y u v c _ hm z1 z2 _ _ _ => by
      obtain ⟨d1, z1, _⟩ := env_get z1
      obtain ⟨d2, z2, _⟩ := env_get z2
      cases z1
      cases z2
      cases hm⟩, ?_⟩ (fun env σ I' H' c e cls dx r' qx z => kx c e cls dx I' H' qx r'.r.gr z) q ⟨fun env σ I' H' q' r' => k _ _ _ _ q' r'.r.gr .non, fun d v I' H' q' g _ r' => k _ _ _ _ q' g r', fun _ _ _ _ z => z.elim, fun _ _ _ _ z => z.elim, fun _ _ _ _ _ _ z => z.elim, fun _ _ _ _ _ _ z => z.elim, fun _ _ _ _ _ _ z => z.elim⟩
  · obtain ⟨d, rfl, hd⟩ := env_get z
    obtain ⟨v, hv, rv⟩ := r.got hd
    exact ⟨v, start_get hv, rv⟩
  · obtain ⟨d, z, _⟩ := env_get z
    cases z
  · unfold envD L2.start
    rw [List.length_append, List.length_append, List.length_map, List.length_map, List.length_replicate, List.length_replicate, hl, hd]
theorem fx_ofX {st : Stmt} {N : List Str} {k n : Nat} {f : RCD} {t : T2X → T2S} (G : Fx P w K mg base (k + 1) x ps (spD K n f)) (d : Df K mg x st) (S : FnScope N ps (defScope st)) (bb : BindsBy x st ps) (hn : ps.length = n)
    (hb : ∀ (f : Addr) (cdv : Value) (A : Around) (outer : List Env) (s : Shared) (H : Hp) (E : XK), Room k (A.deeper (envOfC x (defScope st) s.heap.objs.size f cdv)) →
      ∃ ts, PSs (cxOf (L2.CX P w) P w K mg base N x (defScope st) f cdv A outer s H E) (defBody st) ts ∧ ∀ y, SSG K (CX1 K mg (fun cls d _ H => E cls d H) y) ts (t y)) : FxX P w K mg base (k + 1) x ps n f (bodyX N.length n t) := by
  obtain ⟨fa', fd', F, hm⟩ := d
  refine ⟨G, fa', fd', F.okX S (fun vs H Q E h => ?_) (fun cdv A outer s H vs Q E hr h => ?_), hm, F.kp, F.binds bb⟩
  · obtain ⟨_, _, _, _, hl, _⟩ := h
    rw [hl, hn]
  · obtain ⟨ts, h1, h2⟩ := hb fa' cdv A outer s H E hr
    exact ⟨ts, h1, bodyX_ok h2 h⟩
end
/-! ### try: .. except C as e: .. (several) -/
def endsU (i : Nat) (D : Ends) : Ends := { nx := fun σ H => D.nx (σ.set i none) H, rt := D.rt, bk := fun σ H => D.bk (σ.set i none) H, ct := fun σ H => D.ct (σ.set i none) H }
structure Hnd where
  cv : Value
  i : Nat
  ts : Addr → Value → Option Addr → TS
def wHs (K : Fg) (Wout : WX) (D : Ends) : List Hnd → WX
  | [] => Wout
  | h :: r => fun cls d σ H => ∃ b, PySem.W.exmOne K cls h.cv = some b ∧ (b = true → ∀ a, H a = none → h.ts a cls d (endsU h.i D) (σ.set h.i (some (.ref a))) H) ∧ (b = false → wHs K Wout D r cls d σ H)
inductive HsOk (X : Cx) : List ExceptHandler → List Hnd → Prop
  | nil : HsOk X [] []
  | cons {x n : Str} {h : Hnd} {b₀ : Stmt} {suite : List Stmt} {np pos' : Pos} {hds : List ExceptHandler} {l : List Hnd} (hc : Names X x h.cv) (hi : X.N[h.i]? = some n) (hl : X.env.kindOf n = some .local)
      (hsu : ∀ (a : Addr) (oe : Obj) (cls : Value) (d : Option Addr) (pn : List (Addr × Obj)), Zc cls d oe → (∃ vs, oe.data = .fields vs) → PSs (X.suite a ((a, oe) :: pn)) (b₀ :: suite) (h.ts a cls d)) (r : HsOk X hds l) :
      HsOk X (.ExceptHandler (some (.Name x np)) (some n) (b₀ :: suite) pos' :: hds) (h :: l)
section
variable {X : Cx} {pins : List (Addr × Obj)} {H : Hp} {σ : L2.St}
/-- the clauses, one after the other; the exception at a lies on the ground -/
theorem hs_run {M : Unit} {B : Heap} {a : Addr} {cls : Value} {d : Option Addr} {sI sg : Shared} {D : Ends} {Wout : WX} (ok : X.Ok) (hst : X.stack = X.env :: X.outer) (hfr : X.env.frame = some X.env.locals) (hN : X.N.Nodup) (tk : Takes X Wout)
    (J : Inv X pins σ H sI) (nb : ∀ b o, sI.heap.get? b = some o → b ∉ frs X.stack → B.get? b = some o) (fl : HandSPX.FlyingZ B (X.env :: X.outer) a (Zc cls d) sg.heap) (up : sI.heap.UpToSlots sg.heap) (na : H a = none) (os : sg.os = sI.os) (ag : AllBare sg.gens) :
    ∀ {hds : List ExceptHandler} {l : List Hnd}, HsOk X hds l → wHs X.K Wout D l cls d σ H → wpAny (model X.prog X.w) X.A (handleBy (.ref a) X.env hds) (SP X pins D) X.xe sg := by
  have frameless : ∀ {h : Heap} {o : Obj} {vs : Array Value}, h.FunFrames B (X.env :: X.outer) → h.get? a = some o → o.data = .fields vs → a ∉ frs (X.env :: X.outer) := by
    intro h o vs ff e dd hm
    obtain ⟨_, o', e', hnf⟩ := ff.mem hm
    rw [e] at e'
    cases e'
    exact hnf _ dd
  obtain ⟨oe, vs, he, hz, hd⟩ := fl.there
  have nfr := frameless fl.2.2.1 he hd
  have nL : a ≠ X.env.locals := by
    intro z
    exact nfr (List.mem_filterMap.mpr ⟨X.env, List.mem_cons_self, by rw [hfr, z]⟩)
  have nF : a ∉ X.fs := by
    intro hm
    obtain ⟨e, h1, q⟩ := List.mem_filterMap.mp hm
    exact nfr (List.mem_filterMap.mpr ⟨e, List.mem_cons_of_mem _ h1, q⟩)
  have Jg : Inv X pins σ H sg := by
    have z := J.landed (s' := sg) nb fl.1 up os ag
    exact z
  have Sg := Jg.suite he hd na nL nF
  intro hds l hk
  induction hk with
  | nil =>
    intro w
    apply wpAny_handleBy_nil
    obtain ⟨k1, k2, k3, oe', vs', T, oT, ts', he', hz', hd', h1', hr'⟩ := id fl
    unfold PySem.passOn
    refine wpAny_bind (wpAny_field he' hd' h1' ?_)
    have hb : ¬ ((Value.ref T == Value.none) = true) := by simp
    rw [if_neg hb]
    have out : wpAny (model X.prog X.w) X.A (setFlight (.ref a) X.env.frame) (fun _ s4 => wpAny (model X.prog X.w) X.A (throw (.ref a) : Sem Flow) (SP X pins D) X.xe s4) X.xe sg := by
      rw [hfr]
      refine HandSPX.setFlight_upZ fl fun h4 hh4 up4 => ?_
      refine wpAny_throw (tk _ _ ⟨a, B, sI, pins, σ, H, cls, d, rfl, J, nb, up.trans up4, .inr (.inr ?_), na, os, ag, w⟩)
      rw [hst]
      exact hh4
    first | exact wpAny_bind (wpAny_pure (wpAny_bind out)) | exact wpAny_bind out
  | @cons x n h b₀ suite np pos' hds2 l2 hc hi hl hsu r ih =>
    intro w
    obtain ⟨b, hb1, hyes, hno⟩ := w
    refine wpAny_handleBy_cons (codeAny_handlers_test ?_) (fun q => nomatch q)
    have LT : PySem.W.Looks (model X.prog X.w) sg.heap (typeOf (.ref a)) cls := by
      intro A Q E s k q
      exact wpAny_typeOf_ref (k _ _ he) (by rw [hz.1]; exact q)
    have LM := PySem.W.exm_one (M := model X.prog X.w) Jg.kIn LT hb1
    have named : ∀ {Q : Value → Shared → Prop} {E : Value → Shared → Prop}, Q h.cv sg → wpAny (model X.prog X.w) (X.A.mark (some (.ref a))) (eval (.Name x np) X.env) Q E sg := by
      intro Q E q
      obtain ⟨hg, hdbg, hm | ⟨hm, hv, hnn⟩⟩ := hc
      · exact ld_glob (X := X.suite a ((a, oe) :: (X.pn ++ pins))) Sg hg hm q hdbg
      · exact ld_blt (X := X.suite a ((a, oe) :: (X.pn ++ pins))) Sg hg hm hv q hnn hdbg
    refine named (LM.here ?_)
    cases b with
    | true =>
      refine codeAny_handlers_suite_as (HandSPX.lands_againZ fl fun h4 fl4 up4 => ?_)
      have J4 : Inv X pins σ H { sg with heap := h4 } := by
        have z := J.landed (s' := { sg with heap := h4 }) nb fl4.1 (up.trans up4) os ag
        exact z
      obtain ⟨oe4, vs4, he4, hz4, hd4⟩ := fl4.there
      have S4 := J4.suite he4 hd4 na nL nF
      refine store_ok (X := X.suite a ((a, oe4) :: (X.pn ++ pins))) (v := .ref a) S4 hN hi (.inl hl) rfl (fun s5 S5 => ?_) (.inr hl)
      have body := (hsu a oe4 cls d (X.pn ++ pins) hz4 ⟨_, hd4⟩).run [] s5 _ H _ S5 (hyes rfl a na)
      have gone : ∀ {s6 : Shared} {σ6 : L2.St} {H6 : Hp} {Q : Shared → Prop}, Inv (X.suite a ((a, oe4) :: (X.pn ++ pins))) [] σ6 H6 s6 → (∀ s7, Inv X pins (σ6.set h.i none) H6 s7 → Q s7) →
          wpAny (model X.prog X.w) X.A (do bindName X.env n .none; unbindBehindTheSuite X.env n pos') (fun _ s7 => Q s7) X.xe s6 := by
        intro s6 σ6 H6 Q S6 hq
        exact gone_ok (S6.unsuite ok) hN hi hl hq
      refine wpAny_mono body (fun f s6 hsp => ?_) (fun _ _ z => False.elim z)
      cases f with
      | next => obtain ⟨σ6, H6, S6, q6⟩ := hsp; exact gone S6 fun s7 J7 => ⟨_, _, J7, q6⟩
      | brk => obtain ⟨σ6, H6, S6, q6⟩ := hsp; exact gone S6 fun s7 J7 => ⟨_, _, J7, q6⟩
      | cont => obtain ⟨σ6, H6, S6, q6⟩ := hsp; exact gone S6 fun s7 J7 => ⟨_, _, J7, q6⟩
      | ret u => obtain ⟨v6, σ6, H6, S6, r6, q6⟩ := hsp; exact gone S6 fun s7 J7 => ⟨_, _, _, J7, r6, q6⟩
    | false => exact ih (hno rfl)
theorem ps_tryH {body : List Stmt} {h₀ : ExceptHandler} {hds : List ExceptHandler} {l : List Hnd} {pos : Pos} {tb : WX → TS} {Wout : WX} (hst : X.stack = X.env :: X.outer) (hfr : X.env.frame = some X.env.locals) (hN : X.N.Nodup) (tk : Takes X Wout)
    (hb : ∀ (W : WX) (pn : List (Addr × Obj)) (xe : Value → Shared → Prop), Takes (X.tr pn xe) W → PassesOwn (model X.prog X.w) X.A X.env xe → PSs (X.tr pn xe) body (tb W))
    (hh : HsOk X (h₀ :: hds) l) : PS X (.Try body (h₀ :: hds) [] [] pos) (fun D σ H => tb (wHs X.K Wout D l) D σ H) := by
  constructor
  intro pins s σ H D I h
  have ok := I.ok
  have frm : X.A.frames = some (X.env :: X.outer) := by rw [ok.frames, hst]
  apply wpAny_Try_except
  refine wpAny_mono ((hb (wHs X.K Wout D l) (X.pn ++ pins) _ ?_ PassesOwn.looking).run [] s σ H D (I.toTry _) h) (fun f s1 hsp => ?_) (fun e s1 he => he)
  · intro u s' xx
    obtain ⟨a, B, sI, pins', σ', H', cls, d, eu, J', nb, up, sky, na, os, ag, w⟩ := xx
    subst eu
    have J : Inv X pins σ' H' sI := J'.ofTry ok
    have sky' : Sky B (X.env :: X.outer) a (Zc cls d) X.env.locals s'.heap := by
      rw [← hst]
      exact sky
    exact Sky.land Zc.steady frm hfr sky' fun h3 fl3 up3 => hs_run (M := ()) (sg := { s' with heap := h3 }) ok hst hfr hN tk J nb fl3 (up.trans up3) na os ag hh w
  · cases f with
    | next => obtain ⟨σ', H', J', q⟩ := hsp; exact wpAny_execs_nil ⟨σ', H', J'.ofTry ok, q⟩
    | brk => obtain ⟨σ', H', J', q⟩ := hsp; exact ⟨σ', H', J'.ofTry ok, q⟩
    | cont => obtain ⟨σ', H', J', q⟩ := hsp; exact ⟨σ', H', J'.ofTry ok, q⟩
    | ret u => obtain ⟨v, σ', H', J', r, q⟩ := hsp; exact ⟨v, σ', H', J'.ofTry ok, r, q⟩
end
/-! ### .. as data -/
structure H2 where
  cb : List (Option Bool)
  i : Nat
  u : Nat → D → T2S
def endsU2 (i : Nat) (E : Ends2) : Ends2 := { nx := fun env => env[i]? = some none ∧ E.nx env, rt := E.rt, bk := fun env => env[i]? = some none ∧ E.bk env, ct := fun env => env[i]? = some none ∧ E.ct env, rd := E.rd, re := fun env d => env[i]? = some none ∧ E.re env d, rv := fun env j => (env[i]? = some none ∧ j ≠ i) ∧ E.rv env j }
def dHs (E : Ends2) (env : Ev) (c : Nat) (e : D) : List H2 → Prop
  | [] => False
  | h :: r => match h.cb[c]? with
    | some (some true) => env[h.i]? = some none ∧ h.u c e (endsU2 h.i E) env
    | some (some false) => dHs E env c e r
    | _ => False
def dTry (l : List H2) (tb : T2X → T2S) : T2S := fun E env => tb (fun env' c e => dHs E env' c e l) E env
/-- what holds in a suite -/
abbrev CH (K : Fg) (mg : Str → Option Value) (i : Nat) (a : Addr) (cls : Value) (dx : Option Addr) (c : Nat) (e : D) : Cnd := fun _ σ I H => σ[i]? = some (some (.ref a)) ∧ RX K mg I H c e cls dx
structure HR (K : Fg) (mg : Str → Option Value) (h : Hnd) (h2 : H2) : Prop where
  i : h.i = h2.i
  ex : ∀ c b C, h2.cb[c]? = some (some b) → mg (xname c) = some (.ref C) → PySem.W.exmOne K (.ref C) h.cv = some b
  su : ∀ a cls dx c e, SSG K (CH K mg h.i a cls dx c e) (h.ts a cls dx) (h2.u c e)
inductive HRs (K : Fg) (mg : Str → Option Value) : List Hnd → List H2 → Prop
  | nil : HRs K mg [] []
  | cons {h : Hnd} {h2 : H2} {l : List Hnd} {l2 : List H2} : HR K mg h h2 → HRs K mg l l2 → HRs K mg (h :: l) (h2 :: l2)
section
variable {K : Fg} {mg : Str → Option Value}
theorem RelL.hole {p : P0} {env : Ev} {σ : L2.St} {I H : Hp} (r : RelL K p env σ I H) {i : Nat} (h : env[i]? = some none) (v : Option V) : RelL K p env (σ.set i v) I H := by
  have ne : ∀ {j : Nat} {x : Sl}, env[j]? = some (some x) → i ≠ j := fun {j x} e z => by
    rw [z, e] at h; cases h
  have gt : ∀ {j : Nat} {x : Sl}, env[j]? = some (some x) → (σ.set i v)[j]? = σ[j]? := fun {j x} e => List.getElem?_set_ne (ne e)
  refine ⟨⟨r.r.gr, fun j x e => ?_, fun j k x y a n e1 e2 e3 => ?_, r.r.st, r.r.bs, fun j k w w' x y a n e1 e2 e3 => ?_, fun j k x y u u' c n hm e1 e2 e3 e4 => ?_⟩, by rw [List.length_set]; exact r.len⟩
  · rw [gt e]; exact r.r.sl j x e
  · rw [gt e1] at e3; rw [gt e2]; exact r.r.sep j k x y a n e1 e2 e3
  · rw [gt e1] at e3; rw [gt e2]; exact r.r.sd j k w w' x y a n e1 e2 e3
  · rw [gt e1] at e3; rw [gt e2] at e4; exact r.r.sm j k x y u u' c n hm e1 e2 e3 e4
theorem RX.stp {p : P0} {env : Ev} {σ : L2.St} {I H I' H' : Hp} {c : Nat} {e : D} {cls : Value} {dx : Option Addr} (r : RelL K p env σ I H) (s : Stp p I H I' H') (h : RX K mg I H c e cls dx) : RX K mg I' H' c e cls dx := by
  obtain ⟨C, a, v, h1, h2, h3, h4, h5⟩ := h
  refine ⟨C, a, v, h1, h2, h3, s.gr.hh a _ h4 fun z => ?_, XF.mono s.ii h5⟩
  obtain ⟨_, _, l, x, k, ns, g, _⟩ := r.r.st a z
  rw [h4] at g
  cases g
theorem ch_kept {i : Nat} {a : Addr} {cls : Value} {dx : Option Addr} {c : Nat} {e : D} : Kept K (CH K mg i a cls dx c e) := fun p env σ I H I' H' r h s => ⟨h.1, h.2.stp r s⟩
theorem ss_try {l : List Hnd} {l2 : List H2} {tb : WX → TS} {tb2 : T2X → T2S} (hb : ∀ W x, SSG K (CX1 K mg W x) (tb W) (tb2 x)) (hl : HRs K mg l l2) : SS K (fun D σ H => tb (wHs K (fun _ _ _ _ => False) D l) D σ H) (dTry l2 tb2) := by
  intro p env σ I H D2 E r q e
  refine hb _ (fun env' c d => dHs D2 env' c d l2) p env σ I H D2 E r ?_ q e
  intro env' σ' I' H' c d cls dx r' qx z
  clear q hb
  revert qx
  induction hl with
  | nil => intro qx; exact qx.elim
  | @cons h h2 l l2 hh hl ih =>
    intro qx
    unfold dHs at qx
    have z' := z
    obtain ⟨C, a, v, h1, rfl, h3, h4, h5⟩ := z'
    split at qx
    · rename_i hcb
      refine ⟨true, hh.ex c true C hcb h1, fun _ a' na => ?_, (fun w => nomatch w)⟩
      obtain ⟨h0, qx⟩ := qx
      have rr := r'.hole h0 (some (.ref a'))
      have hlen : h2.i < σ'.length := by rw [← r'.len]; exact (List.getElem?_eq_some_iff.mp h0).1
      rw [hh.i]
      refine hh.su a' (.ref C) dx c d p env' _ I' H' _ _ rr ⟨by rw [hh.i]; exact List.getElem?_set_self hlen, z⟩ qx ⟨?_, e.rt, ?_, ?_, e.rd, fun env3 σ3 I3 H3 d v ⟨g0, g⟩ r3 rp => e.re _ _ _ _ _ _ g (r3.hole g0 none) rp, fun env3 σ3 I3 H3 j v ⟨⟨g0, gj⟩, g⟩ r3 hv => e.rv _ _ _ _ _ _ g (r3.hole g0 none) (by rw [List.getElem?_set_ne (Ne.symm gj)]; exact hv)⟩
      · intro env3 σ3 I3 H3 ⟨g0, g⟩ r3; exact e.nx _ _ _ _ g (r3.hole g0 none)
      · intro env3 σ3 I3 H3 ⟨g0, g⟩ r3; exact e.bk _ _ _ _ g (r3.hole g0 none)
      · intro env3 σ3 I3 H3 ⟨g0, g⟩ r3; exact e.ct _ _ _ _ g (r3.hole g0 none)
    · rename_i hcb
      exact ⟨false, hh.ex c false C hcb h1, (fun w => nomatch w), fun _ => ih qx⟩
    · exact qx.elim
/-- e.f in a suite -/
def dXf (c c0 : Nat) (e : D) : T2E := fun _ Q => c = c0 ∧ Q e
theorem seg_xf {i : Nat} {a C0 : Addr} {cls : Value} {dx : Option Addr} {c c0 : Nat} {e : D} (hC : mg (xname c0) = some (.ref C0)) (hc3 : c0 ≠ 3 := by decide) : SEG K (CH K mg i a cls dx c e) (tXf a cls dx C0 (xfld c0) (tVar i)) (dXf c c0 e) := by
  intro p env σ I H Q2 Q r hx q k
  obtain ⟨h0, C, dd, kvs, h1, h2, h3, h4, h5⟩ := hx
  obtain ⟨rfl, q⟩ := q
  rw [hC] at h1
  cases h1
  rcases h5 with ⟨_, v, rfl, h5⟩ | ⟨z, _⟩
  · exact ⟨_, h0, rfl, h2, dd, _, v, h3, h4, by simp [List.lookup], k _ _ _ _ q (.of (Gr.refl r.same)) h5⟩
  · exact absurd z hc3
/-- e.column, e.words of class 3 -/
def dXf3 (k c : Nat) (e : D) : T2E := fun _ Q => c = 3 ∧ ∃ d1 d2, e = .tuple [d1, d2] ∧ Q (if k = 0 then d1 else d2)
theorem seg_xfC {i : Nat} {a C0 : Addr} {cls : Value} {dx : Option Addr} {c : Nat} {e : D} (hC : mg (xname 3) = some (.ref C0)) : SEG K (CH K mg i a cls dx c e) (tXf a cls dx C0 "column" (tVar i)) (dXf3 0 c e) := by
  intro p env σ I H Q2 Q r hx q k
  obtain ⟨h0, C, dd, kvs, h1, h2, h3, h4, h5⟩ := hx
  obtain ⟨rfl, _, _, rfl, q⟩ := q
  rw [hC] at h1
  cases h1
  rcases h5 with ⟨z, _⟩ | ⟨_, v1, v2, d1, d2, rfl, z, r1, r2⟩
  · exact absurd rfl z
  · cases z
    exact ⟨_, h0, rfl, h2, dd, _, v1, h3, h4, by rw [List.lookup_cons, show (("column" : Str) == ("words" : Str)) = false from by decide]; rfl, k _ _ _ _ q (.of (Gr.refl r.same)) r1⟩
theorem seg_xfW {i : Nat} {a C0 : Addr} {cls : Value} {dx : Option Addr} {c : Nat} {e : D} (hC : mg (xname 3) = some (.ref C0)) : SEG K (CH K mg i a cls dx c e) (tXf a cls dx C0 "words" (tVar i)) (dXf3 1 c e) := by
  intro p env σ I H Q2 Q r hx q k
  obtain ⟨h0, C, dd, kvs, h1, h2, h3, h4, h5⟩ := hx
  obtain ⟨rfl, _, _, rfl, q⟩ := q
  rw [hC] at h1
  cases h1
  rcases h5 with ⟨z, _⟩ | ⟨_, v1, v2, d1, d2, rfl, z, r1, r2⟩
  · exact absurd rfl z
  · cases z
    exact ⟨_, h0, rfl, h2, dd, _, v2, h3, h4, by rw [List.lookup_cons, beq_self_eq_true], k _ _ _ _ q (.of (Gr.refl r.same)) r2⟩
end
theorem ps_nox {X : Cx} {st : Stmt} {t : TS} (h : PS X.nox st t) : PS X st t := by
  constructor
  intro pins s σ H D I hw
  refine wpAny_mono (h.run pins s σ H D (I.wish _) hw) (fun _ _ q => q.unwish) ?_
  intro _ _ z
  exact False.elim z
/-- what a clause's class says of the text's exceptions -/
def ExF (K : Fg) (mg : Str → Option Value) (Ch : Addr) (cb : List (Option Bool)) : Prop := ∀ c b C, cb[c]? = some (some b) → mg (xname c) = some (.ref C) → PySem.W.exmOne K (.ref C) (.ref Ch) = some b
/-- the first def of a class -/
def clsInit : Stmt → Stmt
  | .ClassDef _ _ _ b _ _ _ _ _ _ _ => b.getD 0 (.Pass ⟨0, 0, 0, 0⟩)
  | s => s
end Z2
namespace Z2
open PySem PySem.Spec PyProof.Rows L2
/-! ### isinstance of a caught one; its class number c is known -/
/-- isinstance(e, c), e at a with its own dict -/
def rIsX (K : Fg) (a : Addr) (cls : Value) (dx : Option Addr) : List V → Hp → VK → Prop := fun xs H Q => ∃ (c : V) (cv : Value) (b : Bool) (Dc dd : Addr) (fs : List (Str × V)), xs = [.ref a, c] ∧ cls = .ref Dc ∧ dx = some dd ∧ H dd = some (.xd fs) ∧ ExcC K Dc ∧
  (∀ u, RelV c u → u = cv) ∧ PySem.W.kitOne K (.ref Dc) cv = some b ∧ Q (.bl b) H
def dIsX (cb : List (Option Bool)) (c : Nat) : T2E := fun _ Q => ∃ b, cb[c]? = some (some b) ∧ Q (.bool b)
/-- what isinstance answers of the text's exceptions for the class cv -/
def KitF (K : Fg) (mg : Str → Option Value) (cv : Value) (cb : List (Option Bool)) : Prop := ∀ c b C, cb[c]? = some (some b) → mg (xname c) = some (.ref C) → PySem.W.kitOne K (.ref C) cv = some b ∧ ExcC K C
def SIG (K : Fg) (C : Cnd) (wi : TI) (t : T2I) : Prop := ∀ (p : P0) (env : Ev) (σ : L2.St) (I H : Hp) (Q2 : List D → Prop) (R : It → Hp → Prop), RelL K p env σ I H → C p σ I H → t env Q2 →
  (∀ ds J I' H', Q2 ds → Stp p I H I' H' → ItR K I' J ds → R J H') → wi σ H R
def SOG (K : Fg) (C : Cnd) (te : TE) (t : T2A) : Prop := ∀ (p : P0) (env : Ev) (σ : L2.St) (I H : Hp) (Q2 : List D → Prop) (Q : VK), RelL K p env σ I H → C p σ I H → t env Q2 →
  (∀ ds a vs I' H', Q2 ds → Stp p I H I' H' → H a = none → I' a = none → H' a = some (.lst vs) → Rps K I' vs ds → Q (.ref a) H') → te σ H Q
section
variable {K : Fg} {mg : Str → Option Value} {C : Cnd} {te tf : TE} {t2 u2 : T2E} {ts us : TS} {t u : T2S} {t1 t1' : TT} {c2 c2' : T2T}
theorem sig_seq (ha : SEG K C te t2) : SIG K C (iSeq K te) (diS t2) := by
  intro p env σ I H Q2 R rl hx q k
  refine ha p env σ I H _ _ rl hx q fun d v I1 H1 q1 s1 h1 => ?_
  cases d <;> first | exact q1.elim | skip
  · cases h1 with
    | lst h2 h3 => exact .inl ⟨_, _, rfl, SqL.of (s1.ih _ _ h2), k _ _ _ _ q1 s1 (itr_list h2 h3)⟩
  · cases h1 with
    | tup h2 h3 => exact .inr ⟨_, _, rfl, Same.sqt s1.ih h2, k _ _ _ _ q1 s1 (itr_tup h2 h3)⟩
theorem seg_own {t : T2A} (h : SOG K C te t) : SEG K C te (tList t) := by
  intro p env σ I H Q2 Q r hx q k
  refine h p env σ I H _ Q r hx q fun ds a vs I' H' q2 s h0 h1 h2 h3 => ?_
  obtain ⟨s2, ii⟩ := s.lay h0 h1 h2
  exact k _ _ _ _ q2 s2 (.lst upd_same (Rps.mono ii ds vs h3))
theorem ssg_forG {wi : TI} {g : TG} {ti : T2I} {g2 : T2G} {vs : List Nat} (hc : ∀ p σ I H σ' I' H' B, C p σ I H → Same p.B B → C { p with B := B } σ' I' H') (hi : SIG K C wi ti) (hg : SG K vs g g2) (hb : SSG K C ts t) : SSG K C (tFor wi g ts) (dFor ti g2 t) := by
  intro p env σ I H D2 E r hx q e
  refine hi p env σ I H _ _ r hx q fun ds J I1 H1 q1 s1 it => ?_
  refine ⟨fun i m σ' H' => m = ds.length - i ∧ i ≤ ds.length ∧ ∃ env' I', RelL K p env' σ' I' H' ∧ Same I1 I' ∧ forD g2 t D2 (ds.drop i) env', ⟨ds.length, by simp, Nat.zero_le _, env, I1, r.stp s1, Same.refl _, q1⟩, ?_⟩
  rintro i m σ' H' ⟨rfl, hi', env', I', r', ii, q'⟩
  by_cases hlt : i < ds.length
  · refine .inr ⟨it.go i I' H' ii r'.same hlt, fun σ2 H2 => ∃ env2 I2, RelL K p env2 σ2 I2 H2 ∧ Same I1 I2 ∧ forD g2 t D2 (ds.drop (i + 1)) env2, fun σ2 H2 z => ⟨ds.length - (i + 1), by omega, rfl, by omega, z⟩, fun x H2 y => ?_⟩
    obtain ⟨I2, d, g1, hd, rd⟩ := it.yld i x I' H' H2 ii r'.same hlt y
    have hdrop : ds.drop i = d :: ds.drop (i + 1) := by
      have hdd : ds[i] = d := Option.some.inj ((List.getElem?_eq_getElem hlt).symm.trans hd)
      rw [List.drop_eq_getElem_cons hlt, hdd]
    rw [hdrop] at q'
    refine hg p env' σ' I2 H2 x d _ _ (r'.grow' g1) rd q' fun env3 σ3 I3 H3 q3 r3 s3 _ => ?_
    have i3 := (ii.trans g1.ii).trans s3.ii
    have back : ∀ {env σ I H}, RelL K { p with B := I1 } env σ I H → RelL K p env σ I H ∧ Same I1 I := fun {env σ I H} z => ⟨z.rebase ((r.stp s1).r.bs.trans z.r.bs), z.r.bs⟩
    exact hb { p with B := I1 } env3 σ3 I3 H3 _ _ (r3.rebase i3) (hc _ _ _ _ _ _ _ _ hx (r.stp s1).r.bs) q3 ⟨fun env4 σ4 I4 H4 q4 r4 => ⟨env4, I4, (back r4).1, (back r4).2, q4⟩, e.rt, fun env4 σ4 I4 H4 q4 r4 => e.nx _ _ _ _ q4 (back r4).1,
      fun env4 σ4 I4 H4 q4 r4 => ⟨env4, I4, (back r4).1, (back r4).2, q4⟩, e.rd, fun env4 σ4 I4 H4 d v q4 r4 rp => e.re _ _ _ _ _ _ q4 (back r4).1 rp, fun env4 σ4 I4 H4 i v q4 r4 hv => e.rv _ _ _ _ _ _ q4 (back r4).1 hv⟩
  · have hi2 : i = ds.length := by omega
    subst hi2
    rw [List.drop_length] at q'
    exact .inl ⟨it.stop _ I' H' ii r'.same rfl, e.nx _ _ _ _ q' r'⟩
end
abbrev tTruK (K : Fg) (te : TE) : TT := fun σ H Q => te σ H fun x H' => ∃ k, TruV K x H' k ∧ Q k H'
end Z2
namespace Z2
open PySem PySem.Spec PyProof.Rows L2
/-! ### d.get(key), d.get(key, other): keys are tuples of ints -/
def GotF (xs : List (List Key × Addr × Value)) (ns : List Int) (z v : V) : Prop := (atKey xs (kI ns) = none ∧ v = z) ∨ ∃ p, atKey xs (kI ns) = some p ∧ RelV v p.2
def tFGet1 (K : Fg) (td ty : TE) : TE := fun σ H Q => td σ H fun x H1 => ∃ (a : Addr) (w : World) (xs0 : List (List Key × Addr × Value)), x = .ref a ∧ H1 a = some (dctO w a xs0) ∧ IKeys K H1 xs0 ∧ ty σ H1 fun y H2 => ∃ (xs : List (List Key × Addr × Value)) (b : Addr) (ns : List Int) (v : V), y = .ref b ∧ H2 a = some (dctO w a xs) ∧ IKeys K H2 xs ∧ SqT K H2 b (ns.map V.int) ∧ GotF xs ns .non v ∧ Q v H2
def tFGet2 (K : Fg) (td ty tz : TE) : TE := fun σ H Q => td σ H fun x H1 => ∃ (a : Addr) (w : World) (xs0 : List (List Key × Addr × Value)), x = .ref a ∧ H1 a = some (dctO w a xs0) ∧ IKeys K H1 xs0 ∧ ty σ H1 fun y H2 => tz σ H2 fun z H3 => ∃ (xs : List (List Key × Addr × Value)) (b : Addr) (ns : List Int) (v : V), y = .ref b ∧ H3 a = some (dctO w a xs) ∧ IKeys K H3 xs ∧ SqT K H3 b (ns.map V.int) ∧ GotF xs ns z v ∧ Q v H3
section
variable {X : Cx} {o e f : Expr} {td ty tz : TE} {apos cpos : Pos}
end
/-- of data -/
def dFGet1 (td ty : T2E) : T2E := fun env Q => td env fun x => match x with | .dict kvs => (ty env fun y => match keyI y with | some k => Q ((getF kvs k).getD .none) | none => False) | _ => False
/-- of a dict of one's own -/
def dOGet2 (i : Nat) (ty tz : T2E) : T2E := fun env Q => match env[i]? with
  | some (some (.dct _ ks)) => (∀ p ∈ ks, ∃ ms, p.1 = kI ms) ∧ ty env fun y => tz env fun z => match keyI y with | some k => Q ((valD ks (kI k)).getD z) | none => False
  | _ => False
section
variable {K : Fg} {td ty tz : TE} {d2 y2 z2 : T2E}
end
end Z2
namespace Z2
open PySem PySem.Spec PyProof.Rows L2
/-! ### dict comprehensions with int keys -/
def dcD (g : T2G) (tt : T2T) (tk tv : T2E) (env : Ev) : List D → List (Int × D) → (List (Int × D) → Prop) → Prop
  | [], ks, Q => Q ks
  | d :: ds, ks, Q => g d env fun env1 => tt env1 fun b => if b = true then tk env1 fun kd => tv env1 fun y => (match kd with | .int kk => dcD g tt tk tv env ds (putI ks kk y) Q | _ => False) else dcD g tt tk tv env ds ks Q
def dDcI (i : Nat) (ti : T2I) (g : T2G) (tt : T2T) (tk tv : T2E) (vs : List Nat) : T2S := fun E env => ti env fun ds => ds.length ≤ 1000000 ∧ dcD g tt tk tv (wipeE env vs) ds [] fun ks => E.nx (env.set i (some (.dki ks)))
section
variable {K : Fg} {p : P0} {env : Ev} {σ : L2.St} {I H : Hp}
end
section
variable {K : Fg}
end
/-! ### list(d.items()) of such a dict -/
def dItemsK (i : Nat) : T2E := fun env Q => match env[i]? with
  | some (some (.dki ks)) => Q (.list (ks.map fun q => PyData.tuple [.int q.1, q.2]))
  | _ => False
def gext (I H H' : Hp) : Hp := fun b => match H b with | none => H' b | some _ => I b
theorem gr_ext {I H H' : Hp} (s : Same I H) (h : ∀ b o, H b = some o → H' b = some o) : Gr none I H (gext I H H') H' := by
  refine ⟨fun b o e => ?_, fun b o e => ?_, fun b o e _ => h b o e, fun b e n => ?_, fun b n => ?_⟩
  · unfold gext
    rw [s b o e]
    exact e
  · unfold gext at e
    split at e
    · exact e
    · exact h b o (s b o e)
  · unfold gext
    split
    · rename_i z
      exact absurd z n
    · exact e
  · cases z : H b with
    | none => exact absurd z n
    | some o => rw [h b o z]; exact fun w => nomatch w
section
variable {K : Fg}
end
/-! ### `in` of one's own dict whose keys hold texts -/
def rWIn (K : Fg) (w : World) (neg : Bool) : R2 := fun x y H Q => ∃ a xs b k, x = .ref b ∧ y = .ref a ∧ H a = some (dctO w a xs) ∧ (∀ x ∈ xs, SqT K H x.2.1 (x.1.map kV)) ∧ SqT K H b (k.map kV) ∧ Q (.bl (if neg then !(atKey xs k).isSome else (atKey xs k).isSome)) H
def dInW (w : World) (neg : Bool) (i : Nat) (t : T2E) : T2E := fun env Q => match env[i]? with
  | some (some (.dct w' ks)) => w' = w ∧ t env fun x => (match keyD x with | some k => Q (.bool (if neg then !(valD ks k).isSome else (valD ks k).isSome)) | none => False)
  | _ => False
section
variable {K : Fg} {w : World} {te : TE} {t2 : T2E}
end
end Z2
namespace Z2
open PySem PySem.Spec PyProof.Rows L2
/-! ### an own list lent to a function of the text -/
mutual
def noLst : D → Bool | .list _ => false | .dict _ => false | .tuple ds => noLsts ds | _ => true
def noLsts : List D → Bool | [] => true | d :: ds => noLst d && noLsts ds
end
def thawOk (ds : List D) (d : D) : Prop := noLst d = true ∨ ∃ es, d = .list es ∧ noLsts es = true ∧ ds.all flatD = true ∧ es ≠ ds
def cutH (I : Hp) (a : Addr) : Hp := fun b => if b = a then none else I b
theorem cutH_ne {I : Hp} {a b : Addr} (h : b ≠ a) : cutH I a b = I b := by unfold cutH; rw [if_neg h]
section
variable {K : Fg}
theorem SqT.cut {I : Hp} {a b : Addr} {vs ws : List V} (ha : I a = some (.lst ws)) (h : SqT K I b vs) : SqT K (cutH I a) b vs := by
  rcases h with (h | ⟨o, h⟩) | h
  · have hb : b ≠ a := fun e => by rw [e, ha] at h; cases h
    exact .inl (.inl (by rw [cutH_ne hb]; exact h))
  · have hb : b ≠ a := fun e => by rw [e, ha] at h; cases h
    exact .inl (.inr ⟨o, by rw [cutH_ne hb]; exact h⟩)
  · exact .inr h
mutual
theorem Rp.cut {I : Hp} {a : Addr} {ws : List V} (ha : I a = some (.lst ws)) : ∀ (d : D) (v : V), noLst d = true → Rp K I v d → Rp K (cutH I a) v d
  | .none, _, _, h => by cases h; exact .non
  | .bool _, _, _, h => by cases h; exact .bl _
  | .int _, _, _, h => by cases h; exact .int _
  | .str _, _, _, h => by cases h; exact .str _
  | .list ds, _, c, h => by simp [noLst] at c
  | .tuple ds, _, c, h => by
    cases h with
    | tup h1 h2 => exact .tup (SqT.cut ha h1) (Rps.cut2 ha ds _ (by simpa [noLst] using c) h2)
  | .dict _, _, c, h => by simp [noLst] at c
theorem Rps.cut2 {I : Hp} {a : Addr} {ws : List V} (ha : I a = some (.lst ws)) : ∀ (ds : List D) (vs : List V), noLsts ds = true → Rps K I vs ds → Rps K (cutH I a) vs ds
  | [], _, _, h => by cases h; exact .nil
  | d :: ds, _, c, h => by
    have c : (noLst d && noLsts ds) = true := by simpa [noLsts] using c
    rw [Bool.and_eq_true] at c
    cases h with
    | cons h1 h2 => exact .cons (Rp.cut ha d _ c.1 h1) (Rps.cut2 ha ds _ c.2 h2)
end
/-- what is held while the list at name i is lent -/
def LJ (env : Ev) (σ : L2.St) (i : Nat) (I H J : Hp) : Prop := match env[i]? with
  | some (some (.own _)) => ∃ (a : Addr) (ws : List V), σ[i]? = some (some (.ref a)) ∧ H a = some (.lst ws) ∧ J = upd I a (.lst ws)
  | _ => J = I
section
variable {p : P0} {env : Ev} {σ : L2.St} {I H I' H' J : Hp} {i : Nat}
theorem LJ.same (r : RelL K p env σ I H) (h : LJ env σ i I H J) : Same I J ∧ Same J H := by
  unfold LJ at h
  split at h
  · rename_i ds e
    obtain ⟨a, ws, h1, h2, rfl⟩ := h
    obtain ⟨v, hv, b, us, rfl, e2, e3, e4, e5⟩ := r.r.sl i _ e
    rw [h1] at hv
    cases hv
    refine ⟨fun b o q => by rw [upd_ne (ne_of_none q e3)]; exact q, fun b o q => ?_⟩
    by_cases hb : b = a
    · subst hb; rw [upd_same] at q; cases q; exact h2
    · rw [upd_ne hb] at q; exact r.same b o q
  · subst h
    exact ⟨Same.refl _, r.same⟩
theorem LJ.ex (r : RelL K p env σ I H) (i : Nat) : ∃ J, LJ env σ i I H J := by
  unfold LJ
  split
  · rename_i ds e
    obtain ⟨v, hv, b, us, rfl, e2, e3, e4, e5⟩ := r.r.sl i _ e
    exact ⟨_, b, us, hv, e4, rfl⟩
  · exact ⟨_, rfl⟩
end
def SAL (K : Fg) (i n : Nat) (ta : TA) (t : T2A) : Prop := ∀ (p : P0) (env : Ev) (σ : L2.St) (I H : Hp) (Q2 : List D → Prop) (Q : List V → Hp → Prop), RelL K p env σ I H → t env Q2 →
  (∀ ds vs I' H' J, Q2 ds → vs.length = n → Stp p I H I' H' → LJ env σ i I' H' J → Rps K J vs ds → Q vs H') → ta σ H Q
/-- the lent list -/
def dLv (i : Nat) : T2E := fun env Q => match env[i]? with | some (some (.own ds)) => Q (.list ds) | some (some (.dat d)) => Q d | _ => False
variable {te : TE} {a : T2E}
/-- the call of a function of the text, with the list at name i lent -/
def dCBL (i : Nat) (f : RCD) (t : T2A) : T2E := fun env Q => match env[i]? with
  | some (some (.own ds)) => t env fun es => f es fun d => thawOk ds d ∧ Q d
  | _ => t env fun es => f es Q
/-- a list of one's own may be left for good here -/
def dFrzQ (i : Nat) (t : T2S) : T2S := fun E env => t E env ∨ match env[i]? with | some (some (.own ds)) => t E (env.set i (some (.dat (.list ds)))) | _ => False
/-! ### xs.index(y), y in it; flat -/
def dIdx1 (ds : List D) (x : D) (Q : D → Prop) : Prop := flatD x = true ∧ ds.all flatD = true ∧ ∃ (j : Nat) (z : D), ds[j]? = some z ∧ PyData.eqv z x = true ∧ (∀ (m : Nat) (z' : D), m < j → ds[m]? = some z' → PyData.eqv z' x = false) ∧ Q (.int (j : Nat))
def dOIdx (i : Nat) (t : T2E) : T2E := fun env Q => match env[i]? with
  | some (some (.own ds)) => t env fun x => dIdx1 ds x Q
  | some (some (.dat (.list ds))) => t env fun x => dIdx1 ds x Q
  | _ => False
/-! ### xs.insert(i, y) -/
def dIns (i : Nat) (t u : T2E) : T2S := fun E env => match env[i]? with
  | some (some (.own ds)) => t env fun k => u env fun d => (match k with | .int j => 0 ≤ j ∧ j < 1000000 ∧ ds.length < 1000000 ∧ E.nx (env.set i (some (.own (ds.take j.toNat ++ [d] ++ ds.drop j.toNat)))) | _ => False)
  | _ => False
def rIns : V → List V → Hp → VK → Prop := fun x vs H Q => ∃ (l : Addr) (xs : List V) (i : Int) (y : V), x = .ref l ∧ vs = [.int i, y] ∧ H l = some (.lst xs) ∧ xs.length < sizeLine ∧ 0 ≤ i ∧ i < 2 ^ 63 ∧
    Q .non (upd H l (.lst (xs.take i.toNat ++ [y] ++ xs.drop i.toNat)))
end
end Z2
namespace Z2
open PySem PySem.Spec PyProof.Rows L2
/-! ### sorted of tuples of ints and texts -/
abbrev KK := List (Int ⊕ List Nat)
def ltK (a b : KK) : Bool := lexLt itemOrd a b
def keyAt (h : Heap) (sh : Nat → Bool) (v : Value) : KK := (tupKey h sh v).getD []
/-- the items of a tuple as a key -/
def itV (sh : Nat → Bool) : Nat → List V → Option KK
  | _, [] => some []
  | i, .int n :: r => if sh i = true then none else (itV sh (i + 1) r).map (Sum.inl n :: ·)
  | i, .str x :: r => if sh i = true then (itV sh (i + 1) r).map (Sum.inr x.cps.toList :: ·) else none
  | _, _ :: _ => none
def KeyV (K : Fg) (H : Hp) (sh : Nat → Bool) (v : V) (k : KK) : Prop := ∃ t ws, v = .ref t ∧ SqT K H t ws ∧ itV sh 0 ws = some k ∧ ws ≠ []
section
variable {prog : Program} {w : World} {A : Around} {E : Value → Shared → Prop} {s : Shared}
end
section
variable {X : Cx}
def rSortT2 (K : Fg) : List V → Hp → VK → Prop := fun vs H Q => ∃ (a : Addr) (xs : List V) (sh : Nat → Bool) (kl : List KK), vs = [V.ref a] ∧ (SqL K H a xs ∨ SqT K H a xs) ∧ xs.length = kl.length ∧ (∀ p ∈ xs.zip kl, KeyV K H sh p.1 p.2) ∧
  ∀ (m : List (V × KK)) (p : Addr), m.Perm (xs.zip kl) → m.Pairwise (fun x y => ltK y.2 x.2 = false) → H p = none → Q (.ref p) (upd H p (.lst (m.map (·.1))))
/-! ### sorted by a function of the text -/
def keysT (sp : Sp) (C : List V → Hp → Prop) : List V → List V → Hp → Prop
  | [], ks, H => C ks H
  | x :: xs, ks, H => sp [x] H (fun k H' => keysT sp C xs (ks ++ [k]) H') E0
def rSortKF (K : Fg) (F : Addr) (sp : Sp) : List V → List V → Hp → VK → Prop := fun vs zs H Q => ∃ (a : Addr) (xs : List V), vs = [V.ref a] ∧ zs = [V.ref F] ∧ SqL K H a xs ∧
  keysT sp (fun ks H' => ∃ (sh : Nat → Bool) (kl : List KK), xs.length = kl.length ∧ (∀ p ∈ ks.zip kl, KeyV K H' sh p.1 p.2) ∧
    ∀ (m : List (V × KK)) (p : Addr), m.Perm (xs.zip kl) → m.Pairwise (fun x y => ltK y.2 x.2 = false) → H' p = none → Q (.ref p) (upd H' p (.lst (m.map (·.1))))) xs [] H
end
end Z2
namespace Z2
open PySem PySem.Spec PyProof.Rows L2
section
variable {X : Cx}
def rSort1 (K : Fg) (sp : Sp) : V → Hp → VK → Prop := fun x H Q => ∃ (a : Addr) (xs : List V), x = V.ref a ∧ SqL K H a xs ∧
  keysT sp (fun ks H' => ∃ (sh : Nat → Bool) (kl : List KK), xs.length = kl.length ∧ (∀ p ∈ ks.zip kl, KeyV K H' sh p.1 p.2) ∧
    ∀ (m : List (V × KK)) (p : Addr), m.Perm (xs.zip kl) → m.Pairwise (fun x y => ltK y.2 x.2 = false) → H' p = none → Q (.ref p) (upd H' p (.lst (m.map (·.1))))) xs [] H
def tSortK (K : Fg) (sp : Sp) (te : TE) : TE := fun σ H Q => te σ H fun x H1 => rSort1 K sp x H1 Q
end
/-! ### over data -/
def itD (sh : Nat → Bool) : Nat → List D → Option KK
  | _, [] => some []
  | i, .int n :: r => if sh i = true then none else (itD sh (i + 1) r).map (Sum.inl n :: ·)
  | i, .str x :: r => if sh i = true then (itD sh (i + 1) r).map (Sum.inr x.cps.toList :: ·) else none
  | _, _ :: _ => none
def kyD (sh : Nat → Bool) : D → Option KK | .tuple (d :: ds) => itD sh 0 (d :: ds) | _ => none
section
variable {K : Fg}
/-- an order by keys -/
def OrdK (kf : D → KK) (ds : List D) : Prop := ds.Pairwise fun x y => ltK (kf y) (kf x) = false
/-- sorted(xs) of tuples -/
def dSortT : List D → (List D → Prop) → Prop := fun ds Q => match ds with
  | [x] => (match seqOf x with | some xs => ∃ (sh : Nat → Bool) (kf : D → KK), (∀ d ∈ xs, kyD sh d = some (kf d)) ∧ ∀ xs', xs'.Perm xs → OrdK kf xs' → Q xs' | none => False)
  | _ => False
/-- sorted(xs, key=f) -/
def dSortKF (f : RCD) (a : T2E) : T2A := fun env Q => a env fun x => match x with
  | .list xs => ∃ (sh : Nat → Bool) (kd : D → D) (kf : D → KK), (∀ d ∈ xs, ∀ R : D → Prop, R (kd d) → f [d] R) ∧ (∀ d ∈ xs, kyD sh (kd d) = some (kf d)) ∧ ∀ xs', xs'.Perm xs → OrdK kf xs' → Q xs'
  | _ => False
end
end Z2
namespace Z2
open PySem PySem.Spec PyProof.Rows L2
/-! ### zip of a tuple and a list -/
def ItzM (K : Fg) (a b : Addr) : It :=
  ⟨fun i H => ∃ (xs ys : List V) (x y : V), SqT K H a xs ∧ SqL K H b ys ∧ xs[i]? = some x ∧ ys[i]? = some y,
   fun i H v H' => ∃ T x y, v = .ref T ∧ H T = none ∧ H' = upd H T (.tup [x, y]) ∧ (∀ xs, SqT K H a xs → xs[i]? = some x) ∧ ∀ ys, SqL K H b ys → ys[i]? = some y,
   fun i H => ∃ xs ys : List V, SqT K H a xs ∧ SqL K H b ys ∧ i ≤ xs.length ∧ i ≤ ys.length ∧ (i = xs.length ∨ i = ys.length)⟩
structure ZipSt (a b z TI TO i1 i2 : Addr) (i : Nat) (h : Heap) : Prop where
  zz : IsZip h z TI TO .none
  ti : IsTupOf2 h TI (.ref i1) (.ref i2)
  to : ∃ x y, IsTupOf2 h TO x y
  it1 : h.IsTupleIter i1 a i
  it2 : h.IsListIter i2 b i
def iZipM (K : Fg) (ta : TA) : TI := fun σ H R => ta σ H fun vs H1 => ∃ a b xs ys, vs = [.ref a, .ref b] ∧ SqT K H1 a xs ∧ SqL K H1 b ys ∧ R (ItzM K a b) H1
section
variable {K : Fg}
def diZipM (t : T2A) : T2I := fun env Q => t env fun ds => match ds with | [.tuple xs, .list ys] => Q (dZip xs ys) | _ => False
end
end Z2
namespace Z2
open PySem PySem.Spec PyProof.Rows L2
/-! ### xs[i], xs[j] = x, y -/
def dSwap (i : Nat) (t u w : T2E) : T2S := fun E env => t env fun d => match d with
  | .tuple [x, y] => (match env[i]? with
    | some (some (.own ds)) => u env fun k => (match k with
      | .int j => (match ixN ds.length j with
        | some n => w (env.set i (some (.own (ds.set n x)))) fun k2 => (match k2 with
          | .int j2 => (match ixN (ds.set n x).length j2 with
            | some n2 => E.nx ((env.set i (some (.own (ds.set n x)))).set i (some (.own ((ds.set n x).set n2 y))))
            | none => False)
          | _ => False)
        | none => False)
      | _ => False)
    | _ => False)
  | _ => False
end Z2
namespace Z2
open PySem PySem.Spec PyProof.Rows L2
/-! ### sorted of ints, however many -/
def dSortI : List D → (List D → Prop) → Prop := fun ds Q => match ds with
  | [.list xs] => (match allInt xs with | some ns => ∀ ns' : List Int, ns'.Perm ns → ns'.Pairwise (· ≤ ·) → Q (ns'.map PyData.int) | none => False) | _ => False
end Z2
namespace Z2
open PySem PySem.Spec PyProof.Rows L2
/-! ### a comprehension with two fors -/
/-- what a name owns behind a target it owned ahead of it, or it is data -/
def Sub2 (e env : Ev) : Prop := ∀ (j : Nat) (x : Sl), e[j]? = some (some x) → (∃ d, x = .dat d) ∨ env[j]? = some (some x)
theorem Sub2.refl (e : Ev) : Sub2 e e := fun _ _ h => .inr h
theorem Sub2.trans {a b c : Ev} (h : Sub2 a b) (k : Sub2 b c) : Sub2 a c := fun j x e => (h j x e).elim .inl (k j x)
def GP (g : T2G) : Prop := ∀ (d : D) (env : Ev) (Q : Ev → Prop), g d env Q → g d env fun e => Q e ∧ Sub2 e env
def GPs (g : T2Gs) : Prop := ∀ (ds : List D) (env : Ev) (Q : Ev → Prop), g ds env Q → g ds env fun e => Q e ∧ Sub2 e env
def GM (g : T2G) : Prop := ∀ (d : D) (env : Ev) (Q Q' : Ev → Prop), (∀ e, Q e → Q' e) → g d env Q → g d env Q'
def GMs (g : T2Gs) : Prop := ∀ (ds : List D) (env : Ev) (Q Q' : Ev → Prop), (∀ e, Q e → Q' e) → g ds env Q → g ds env Q'
/-- a target that sets names to data alone -/
structure GD (g : T2G) : Prop where
  p : GP g
  m : GM g
structure GDs (g : T2Gs) : Prop where
  p : GPs g
  m : GMs g
def lcD2 (g : T2G) (tt : T2T) (ti1 : T2I) (g1 : T2G) (tt1 : T2T) (te : T2E) (vs1 : List Nat) (env : Ev) : List D → (List D → Prop) → Prop
  | [], Q => Q []
  | d :: ds, Q => g d env fun env1 => tt env1 fun b => if b = true then ti1 env1 fun es => es.length ≤ 1000 ∧ lcD g1 tt1 te (wipeE env1 vs1) es fun ys => lcD2 g tt ti1 g1 tt1 te vs1 env ds fun zs => Q (ys ++ zs) else lcD2 g tt ti1 g1 tt1 te vs1 env ds Q
def dLc2 (ti : T2I) (g : T2G) (tt : T2T) (ti1 : T2I) (g1 : T2G) (tt1 : T2T) (te : T2E) (vs vs1 : List Nat) : T2A := fun env Q => ti env fun ds => ds.length ≤ 1000 ∧ lcD2 g tt ti1 g1 tt1 te vs1 (wipeE env vs) ds Q
section
variable {K : Fg}
end
end Z2
namespace Z2
open PySem PySem.Spec PyProof.Rows L2
/-- what is walked: a range that a name holds -/
def iRgV (ta : TE) : TI := fun σ H R => ta σ H fun x H1 => ∃ (a : Addr) (n : Int), x = .ref a ∧ H1 a = some (.rng 0 n) ∧ -(2 ^ 62) ≤ n ∧ n < 2 ^ 62 ∧ R (Itr 0 n.toNat) H1
section
variable {K : Fg}
/-- x = range(e) -/
def dRngS (i : Nat) (t : T2A) : T2S := fun E env => t env fun ds => match ds with | [.int j] => E.nx (env.set i (some (.rng j))) | _ => False
def diRgV (i : Nat) : T2I := fun env Q => match env[i]? with | some (some (.rng n)) => -1000000 ≤ n ∧ n ≤ 1000000 ∧ Q (dRange 0 n.toNat) | _ => False
/-- tuple(range(e)) -/
def dTupRg (a : T2E) : T2E := fun env Q => a env fun d => match d with | .int n => -1000000 ≤ n ∧ n ≤ 1000000 ∧ Q (.tuple (dRange 0 n.toNat)) | _ => False
end
end Z2
namespace Z2
open PySem PySem.Spec PyProof.Rows L2
/-! ### sorted of data of any depth -/
section
variable {X : Cx}
def rSortD (K : Fg) : List V → Hp → VK → Prop := fun vs H Q => ∃ (a : Addr) (ws : List V) (ds : List D), vs = [V.ref a] ∧ SqL K H a ws ∧ DpAll K H ws ds ∧ PySem.W.AllAlike ds ∧ PySem.W.Sortable ds ∧ (∀ d ∈ ds, d.depth ≤ 60) ∧ ws.length = ds.length ∧
  ∀ (m : List (V × D)) (p : Addr), m.Perm (ws.zip ds) → m.Pairwise (fun x y => ltK (PySem.W.keyToks y.2) (PySem.W.keyToks x.2) = false) → H p = none → Q (.ref p) (upd H p (.lst (m.map (·.1))))
end
def dSortD : List D → (List D → Prop) → Prop := fun ds Q => match ds with
  | [.list xs] => PyData.canLayAll0 xs = true ∧ PySem.W.AllAlike xs ∧ PySem.W.Sortable xs ∧ (∀ d ∈ xs, d.depth ≤ 60) ∧ ∀ xs' : List D, xs'.Perm xs → OrdK PySem.W.keyToks xs' → Q xs'
  | _ => False
/-! ### sorted of a tuple of ints -/
section
variable {X : Cx}
def rSortedIT (K : Fg) : List V → Hp → VK → Prop := fun vs H Q => ∃ (a : Addr) (ns : List Int), vs = [V.ref a] ∧ SqT K H a (ns.map V.int) ∧
  ∀ (ns' : List Int) (p : Addr), ns'.Perm ns → ns'.Pairwise (· ≤ ·) → H p = none → Q (.ref p) (upd H p (.lst (ns'.map V.int)))
end
def dSortIT : List D → (List D → Prop) → Prop := fun ds Q => match ds with
  | [.tuple xs] => (match allInt xs with | some ns => ∀ ns' : List Int, ns'.Perm ns → ns'.Pairwise (· ≤ ·) → Q (ns'.map PyData.int) | none => False) | _ => False
end Z2
namespace Z2
open PySem PySem.Spec PyProof.Rows L2
/-! ### enumerate(zip(t, u)) of two tuples: zip's tuple is not let go here -/
def ZF (h : Heap) (z TI TO : Addr) (f0 : Value) (f : Bool) : Prop := h.get? z = some { cls := .type "zip", dict := none, data := .fields #[f0, .bool f, .bool false, .ref TI, .ref TO], slots := #[] }
theorem ZF.obj {h : Heap} {z TI TO : Addr} {f0 : Value} {f : Bool} (x : ZF h z TI TO f0 f) : h.get? z = some { cls := .type "zip", dict := none, data := .fields #[f0, .bool f, .bool false, .ref TI, .ref TO], slots := #[] } := x
structure ZS (a b z TI TO i1 i2 : Addr) (i : Nat) (h : Heap) : Prop where
  zz : ∃ f0 f, ZF h z TI TO f0 f ∧ (f0 = .none ∨ ∃ T : Addr, f0 = rawInt T)
  ti : IsTupOf2 h TI (.ref i1) (.ref i2)
  to : ∃ x y, IsTupOf2 h TO x y
  c1 : h.IsTupleIter i1 a i
  c2 : h.IsTupleIter i2 b i
theorem ZS.keep {a b z TI TO i1 i2 : Addr} {i : Nat} {h h' : Heap} (x : ZS a b z TI TO i1 i2 i h) (k : ∀ c ∈ [z, TI, TO, i1, i2], ∀ o, h.get? c = some o → h'.get? c = some o) : ZS a b z TI TO i1 i2 i h' := by
  obtain ⟨⟨f0, f, x1, x2⟩, h2, ⟨u, v, h3⟩, h4, h5⟩ := x
  exact ⟨⟨f0, f, k z (by simp) _ x1, x2⟩, k TI (by simp) _ h2, ⟨u, v, k TO (by simp) _ h3⟩, h4.at fun o q => k i1 (by simp) o q, h5.at fun o q => k i2 (by simp) o q⟩
section
variable {prog : Program} {w : World} {A : Around} {E : Value → Shared → Prop} {s : Shared} {a b z TI TO i1 i2 : Addr} {i : Nat}
end
/-! the walk -/
def ItEZ (K : Fg) (a b : Addr) : It :=
  ⟨fun i H => ∃ (xs ys : List V) (x y : V), SqT K H a xs ∧ SqT K H b ys ∧ xs[i]? = some x ∧ ys[i]? = some y,
   fun i H v H' => ∃ T U x y, v = .ref U ∧ H T = none ∧ H U = none ∧ U ≠ T ∧ H' = upd (upd H T (.tup [x, y])) U (.tup [.int (i : Nat), .ref T]) ∧ (∀ xs, SqT K H a xs → xs[i]? = some x) ∧ ∀ ys, SqT K H b ys → ys[i]? = some y,
   fun i H => ∃ xs ys : List V, SqT K H a xs ∧ SqT K H b ys ∧ i = xs.length ∧ i = ys.length⟩
open Sem (wp) in
theorem newZ (z TI TO : Addr) :
    Meets (Builtin.«enumerate.__new__» ⟨[.type "enumerate", .ref z], []⟩) (fun _ R s => IsZip s.heap z TI TO .none ∧
      R (.ok (.ret (.ref s.heap.objs.size))) { s with heap := s.heap.push (enO z) }) :=
  .of_wp fun prog w A R s hh => by
    obtain ⟨hp, gs, dr, tk, os⟩ := s
    obtain ⟨hz, hh⟩ := hh
    have subE := sub_enumerate
    have itZ : ∀ {A : Around} {Q : Value → Shared → Prop} {E : Value → Shared → Prop}, Q (.ref z) ⟨hp, gs, dr, tk, os⟩ → wpAny (model prog w) A (pyIter (.ref z)) Q E ⟨hp, gs, dr, tk, os⟩ := fun h => wpAny_pyIter_zip hz h
    wp_walk using AutoSeq1.wpAny_loadPart' hz
    refine wpAny_stack_any fun st => wpAny_pure ?_
    split
    · rename_i c _ _ _ _ _
      cases (c == Value.type "enumerate") <;> (wp_walk using AutoSeq1.wpAny_loadPart' hz, itZ; exact ⟨_, rfl, hh⟩)
    · wp_walk using AutoSeq1.wpAny_loadPart' hz, itZ
      exact ⟨_, rfl, hh⟩
def iEnumZ (K : Fg) (ta : TA) : TI := fun σ H R => ta σ H fun vs H1 => ∃ a b xs ys, vs = [.ref a, .ref b] ∧ SqT K H1 a xs ∧ SqT K H1 b ys ∧ R (ItEZ K a b) H1
section
variable {K : Fg}
def diEnumZ (t : T2A) : T2I := fun env Q => t env fun ds => match ds with | [.tuple xs, .tuple ys] => xs.length = ys.length ∧ Q (dEnum (dZip xs ys)) | _ => False
end
end Z2
namespace Z2
open PySem PySem.Spec PyProof.Rows L2
/-! ### zip of a list and a tuple -/
def ItzML (K : Fg) (a b : Addr) : It :=
  ⟨fun i H => ∃ (xs ys : List V) (x y : V), SqL K H a xs ∧ SqT K H b ys ∧ xs[i]? = some x ∧ ys[i]? = some y,
   fun i H v H' => ∃ T x y, v = .ref T ∧ H T = none ∧ H' = upd H T (.tup [x, y]) ∧ (∀ xs, SqL K H a xs → xs[i]? = some x) ∧ ∀ ys, SqT K H b ys → ys[i]? = some y,
   fun i H => ∃ xs ys : List V, SqL K H a xs ∧ SqT K H b ys ∧ i ≤ xs.length ∧ i ≤ ys.length ∧ (i = xs.length ∨ i = ys.length)⟩
structure ZipStL (a b z TI TO i1 i2 : Addr) (i : Nat) (h : Heap) : Prop where
  zz : IsZip h z TI TO .none
  ti : IsTupOf2 h TI (.ref i1) (.ref i2)
  to : ∃ x y, IsTupOf2 h TO x y
  it1 : h.IsListIter i1 a i
  it2 : h.IsTupleIter i2 b i
def iZipML (K : Fg) (ta : TA) : TI := fun σ H R => ta σ H fun vs H1 => ∃ a b xs ys, vs = [.ref a, .ref b] ∧ SqL K H1 a xs ∧ SqT K H1 b ys ∧ R (ItzML K a b) H1
section
variable {K : Fg}
def diZipML (t : T2A) : T2I := fun env Q => t env fun ds => match ds with | [.list xs, .tuple ys] => Q (dZip xs ys) | _ => False
end
end Z2
namespace Z2
open PySem PySem.Spec PyProof.Rows L2
def metN (ns : List Int) : Nat := (PyProof.Rows.firstMet (fun i => ns.getD i 0) ns.length).length
def tLenSetD (K : Fg) (ta : TE) : TE := fun σ H Q => ta σ H fun x H1 => ∃ (l : Addr) (ns : List Int), x = .ref l ∧ SqL K H1 l (ns.map V.int) ∧ ns.length ≤ 4000 ∧ Q (.int (metN ns : Nat)) H1
def dLenSetD (a : T2E) : T2E := fun env Q => a env fun d => match d with | .list xs => (match allInt xs with | some ns => ns.length ≤ 4000 ∧ Q (.int (metN ns : Nat)) | none => False) | _ => False
end Z2
namespace Z2
open PySem PySem.Spec PyProof.Rows L2
section
variable {X : Cx}
def rBestT (up : Bool) (K : Fg) : List V → Hp → VK → Prop := fun vs H Q => ∃ (a : Addr) (ns : List Int), vs = [V.ref a] ∧ SqT K H a (ns.map V.int) ∧ 0 < ns.length ∧ ∀ m, m ∈ ns → (∀ y, y ∈ ns → if up then y ≤ m else m ≤ y) → Q (.int m) H
end
def dMaxT : RCD := fun ds Q => match ds with | [.tuple xs] => (match allInt xs with | some bs => 0 < bs.length ∧ Q (.int (maxD bs)) | none => False) | _ => False
def dMinT : RCD := fun ds Q => match ds with | [.tuple xs] => (match allInt xs with | some bs => 0 < bs.length ∧ Q (.int (minD bs)) | none => False) | _ => False
end Z2
namespace Z2
open PySem PySem.Spec PyProof.Rows L2
/-! ### x = [left.pop(..) for ..] -/
def popE (i : Nat) (g : T2G) (te : T2E) (vs : List Nat) : Ev → List D → (Ev → List D → Prop) → Prop
  | env, [], Q => Q env []
  | env, d :: ds, Q => match env[i]? with
    | some (some (.own xs)) => g d (wipeE env vs) fun env1 => te env1 fun k => match k with
      | .int j => (match ixN xs.length j with | some m => (match xs[m]? with | some y => -(2 ^ 63) ≤ j ∧ j < 2 ^ 63 ∧ popE i g te vs (env.set i (some (.own (xs.eraseIdx m)))) ds fun env2 ys => Q env2 (y :: ys) | none => False) | none => False)
      | _ => False
    | _ => False
def dAsgPop (i k : Nat) (ti : T2I) (g : T2G) (te : T2E) (vs : List Nat) : T2S := fun E env => ti env fun ds => ds.length ≤ 1000000 ∧ popE i g te vs env ds fun env2 ys => k < env2.length ∧ E.nx (env2.set k (some (.dat (.list ys))))
end Z2
namespace Z2
open PySem PySem.Spec PyProof.Rows L2
/-! ### sorted(set(xs)) of a list of nums, any number of them -/
section
variable {P : Program} {w : World} {A : Around} {E : Value → Shared → Prop} {s : Shared}
/-- a set as it is made -/
abbrev nilSet (w : World) : Obj := { cls := .type "set", dict := none, data := .set #[] 0 (.fresh 0 0 (!w.params.followText "set-order")) }
end
def tSortSet (K : Fg) (ta : TE) : TE := fun σ H Q => ta σ H fun x H1 => ∃ (l : Addr) (ns : List Int), x = .ref l ∧ SqL K H1 l (ns.map V.int) ∧ ns.length ≤ 4000 ∧
  ∀ (out : List Int) (B : Addr), out.Pairwise (· < ·) → (∀ k, k ∈ out ↔ k ∈ ns) → H1 B = none → Q (.ref B) (upd H1 B (.lst (out.map V.int)))
/-- the members, each once, ascending -/
def dSortSet (a : T2E) : T2A := fun env Q => a env fun d => match d with | .list xs => (match allInt xs with | some ns => ns.length ≤ 4000 ∧ ∀ out : List Int, out.Pairwise (· < ·) → (∀ k, k ∈ out ↔ k ∈ ns) → Q (out.map PyData.int) | none => False) | _ => False
end Z2
namespace Z2
open PySem PySem.Spec PyProof.Rows L2
/-! ### tests of what may raise -/
section
variable {K : Fg} {C : Cnd} {t1 t1' : TT} {c2 c2' : T2T}
end
end Z2
namespace Z2
open PySem PySem.Spec PyProof.Rows L2
/-! ### what a name holds, returned as it is; a def that hands out a list of its own -/
def dRetV (i : Nat) : T2S := fun E env => (∃ x, env[i]? = some (some x)) ∧ E.rv env i
def spSO (K : Fg) (n : Nat) (f : List D → (List D → Prop) → Prop) : Sp := fun vs H Q _ => ∃ (I : Hp) (a : Addr) (ws : List V) (ds : List D) (Q2 : List D → Prop), vs = .ref a :: ws ∧ ws.length = n ∧ Same I H ∧ Strm I H a ∧ Rps K I ws ds ∧ f ds Q2 ∧
  ∀ es b us I' H', Q2 es → Gr (some a) I H I' H' → Strm I' H' a → H b = none → I' b = none → H' b = some (.lst us) → Rps K I' us es → Q (.ref b) H'
def bodySO (N n : Nat) (t : T2S) : List D → (List D → Prop) → Prop := fun ds Q => ds.length = n ∧ t { nx := fun _ => False, rt := fun _ => False, rv := fun env i => ∃ es, env[i]? = some (some (.own es)) ∧ Q es } (some .strm :: envD N n ds)
def dAsgCO (s : Nat) (f : List D → (List D → Prop) → Prop) (t : T2A) (i : Nat) : T2S := fun E env => (match env[s]? with | some (some .strm) => True | _ => False) ∧ t env fun ds => f ds fun es => E.nx (env.set i (some (.own es)))
section
variable {K : Fg} {n : Nat} {ta : TA} {t : T2A} {E0 : XK} {f : List D → (List D → Prop) → Prop}
end
section
variable {P : Program} {w : World} {K : Fg} {mg : Str → Option Value} {base : Heap} {x : Str} {ps : List Str}
end
end Z2
namespace Z2
open PySem PySem.Spec PyProof.Rows L2
/-- what the text says of the class -/
structure OC (K : Fg) (C : Addr) (fl : List Str) : Prop where
  cls : Cls K C
  no : ∀ f ∈ fl, NoAttr K C f
def dFld (C : Addr) (i k : Nat) (f : Str) : T2E := fun env Q => match env[i]? with
  | some (some (.obf _ C' fs)) => (match fs[k]? with | some (g, d) => (C' = C ∧ g = f) ∧ Q d | none => False)
  | some (some (.obj _ C' fs _)) => (match fs[k]? with | some (g, d) => (C' = C ∧ g = f) ∧ Q d | none => False)
  | _ => False
/-- the lists, as data -/
def lsD (ls : List (Str × Addr × List D)) : List (Str × D) := ls.map fun x => (x.1, .list x.2.2)
section
variable {K : Fg} {C : Addr} {fl : List Str} {f : Str}
end
/-! ### the lists of an instance, held still while an expression is read -/
def nS (env : Ev) : Ev := env.map fun x => match x with | some .strm => none | x => x
def cutBs (H : Hp) (bs : List Addr) : Hp := fun c => if c ∈ bs then none else H c
theorem cutBs_in {H : Hp} {bs : List Addr} {c : Addr} (h : c ∈ bs) : cutBs H bs c = none := if_pos h
theorem cutBs_out {H : Hp} {bs : List Addr} {c : Addr} (h : c ∉ bs) : cutBs H bs c = H c := if_neg h
theorem cutBs_some {H : Hp} {bs : List Addr} {c : Addr} {o : HO} (h : cutBs H bs c = some o) : c ∉ bs ∧ H c = some o := by
  by_cases m : c ∈ bs
  · rw [cutBs_in m] at h; cases h
  · rw [cutBs_out m] at h; exact ⟨m, h⟩
section
variable {K : Fg}
theorem SqT.cuts {I : Hp} {bs : List Addr} {b : Addr} {vs : List V} (ha : ∀ c ∈ bs, ∃ ws, I c = some (.lst ws)) (h : SqT K I b vs) : SqT K (cutBs I bs) b vs := by
  have nb : ∀ o, I b = some o → (∀ ws, o ≠ .lst ws) → b ∉ bs := fun o e n m => by
    obtain ⟨ws, hw⟩ := ha b m
    rw [e] at hw
    cases hw
    exact n _ rfl
  rcases h with (h | ⟨o, h⟩) | h
  · exact .inl (.inl (by rw [cutBs_out (nb _ h fun _ z => nomatch z)]; exact h))
  · exact .inl (.inr ⟨o, by rw [cutBs_out (nb _ h fun _ z => nomatch z)]; exact h⟩)
  · exact .inr h
mutual
theorem Rp.cuts {I : Hp} {bs : List Addr} (ha : ∀ c ∈ bs, ∃ ws, I c = some (.lst ws)) : ∀ (d : D) (v : V), noLst d = true → Rp K I v d → Rp K (cutBs I bs) v d
  | .none, _, _, h => by cases h; exact .non
  | .bool _, _, _, h => by cases h; exact .bl _
  | .int _, _, _, h => by cases h; exact .int _
  | .str _, _, _, h => by cases h; exact .str _
  | .list ds, _, c, h => by simp [noLst] at c
  | .tuple ds, _, c, h => by
    cases h with
    | tup h1 h2 => exact .tup (SqT.cuts ha h1) (Rps.cuts ha ds _ (by simpa [noLst] using c) h2)
  | .dict _, _, c, h => by simp [noLst] at c
theorem Rps.cuts {I : Hp} {bs : List Addr} (ha : ∀ c ∈ bs, ∃ ws, I c = some (.lst ws)) : ∀ (ds : List D) (vs : List V), noLsts ds = true → Rps K I vs ds → Rps K (cutBs I bs) vs ds
  | [], _, _, h => by cases h; exact .nil
  | d :: ds, _, c, h => by
    have c : (noLst d && noLsts ds) = true := by simpa [noLsts] using c
    rw [Bool.and_eq_true] at c
    cases h with
    | cons h1 h2 => exact .cons (Rp.cuts ha d _ c.1 h1) (Rps.cuts ha ds _ c.2 h2)
end
theorem MR.each {H0 I H : Hp} : ∀ {ls : List (Str × Addr × List D)}, MR K H0 I H (ls.map (·.2.1)) (ls.map (·.2.2)) → ∀ x ∈ ls, H0 x.2.1 = none ∧ I x.2.1 = none ∧ ∃ vs, H x.2.1 = some (.lst vs) ∧ Rps K I vs x.2.2
  | [], _, x, hx => by cases hx
  | y :: ls, .cons h1 h2 h3 h4 h5 t, x, hx => by
    rcases List.mem_cons.mp hx with rfl | hx
    · exact ⟨h1, h2, _, h3, h4⟩
    · exact MR.each t x hx
/-- a walk of the state's worth: no draws, the instance's lists held still -/
structure Still (K : Fg) (p : P0) (env : Ev) (σ : L2.St) (I H : Hp) (i : Nat) (a C : Addr) (fs : List (Str × D)) (ls : List (Str × Addr × List D)) (p' : P0) (J : Hp) : Prop where
  rl : RelL K p' (nS (env.set i (some (.obf a C (fs ++ lsD ls))))) σ J H
  bsJ : ∀ c ∈ ls.map (·.2.1), p.H0 c = none ∧ I c = none ∧ ∃ vs, J c = some (.lst vs)
  out : ∀ c, c ∉ ls.map (·.2.1) → J c = I c
  m : p'.m = none
end
end Z2
namespace Z2
open PySem PySem.Spec PyProof.Rows L2
def dFz (i : Nat) (t : T2E) : T2E := fun env Q => match env[i]? with
  | some (some (.obj a C fs ls)) => t (nS (env.set i (some (.obf a C (fs ++ lsD ls))))) fun d => noLst d = true ∧ Q d
  | some (some (.obf _ _ _)) => t env Q
  | _ => False
def dFzT (i : Nat) (t : T2T) : T2T := fun env Q => match env[i]? with
  | some (some (.obj a C fs ls)) => t (nS (env.set i (some (.obf a C (fs ++ lsD ls))))) Q
  | some (some (.obf _ _ _)) => t env Q
  | _ => False
section
variable {K : Fg} {te : TE} {t : T2E}
theorem Still.back {p p' : P0} {env : Ev} {σ : L2.St} {I H I' H' J : Hp} {i : Nat} {a C : Addr} {fs : List (Str × D)} {ls : List (Str × Addr × List D)} (S : Still K p env σ I H i a C fs ls p' J) (s : Stp p' J H I' H') :
    Stp p I H (cutBs I' (ls.map (·.2.1))) H' ∧ ∀ c ∈ ls.map (·.2.1), ∃ ws, I' c = some (.lst ws) := by
  have g := s.gr
  rw [S.m] at g
  refine ⟨.of ⟨fun c o q => ?_, fun c o q => g.ih _ _ (cutBs_some q).2, g.hh, fun c q n => ?_, g.th⟩, fun c hc => ?_⟩
  · have hc : c ∉ ls.map (·.2.1) := fun w => by rw [(S.bsJ c w).2.1] at q; cases q
    rw [cutBs_out hc]
    exact g.ii _ _ ((S.out c hc).trans q)
  · by_cases hc : c ∈ ls.map (·.2.1)
    · exact cutBs_in hc
    · rw [cutBs_out hc]
      exact g.fr c ((S.out c hc).trans q) n
  · obtain ⟨_, _, ws, h⟩ := S.bsJ c hc
    exact ⟨ws, g.ii _ _ h⟩
end
/-! ### methods that only read -/
abbrev RCF := List (Str × D) → List D → (D → Prop) → Prop
abbrev RCFX := List (Str × D) → List D → (D → Prop) → (Nat → D → Prop) → Prop
def InsF (K : Fg) (I : Hp) (a C : Addr) (fs : List (Str × D)) : Prop := ∃ (dx : Addr) (vs : List (Str × V)), I a = some (.ins C dx vs) ∧ FldD K I vs fs ∧ FldL vs fs []
def spF (K : Fg) (C : Addr) (n : Nat) (f : RCF) : Sp := fun vs H Q _ => ∃ (I : Hp) (a : Addr) (ws : List V) (fs : List (Str × D)) (ds : List D) (Q2 : D → Prop), vs = .ref a :: ws ∧ ws.length = n ∧ Same I H ∧ InsF K I a C fs ∧ Rps K I ws ds ∧ f fs ds Q2 ∧
  ∀ d v I' H', Q2 d → Gr none I H I' H' → Rp K I' v d → Q v H'
def spFX (K : Fg) (mg : Str → Option Value) (C : Addr) (n : Nat) (f : RCFX) : Sp := fun vs H Q E => ∃ (I : Hp) (a : Addr) (ws : List V) (fs : List (Str × D)) (ds : List D) (Q2 : D → Prop) (X2 : Nat → D → Prop), vs = .ref a :: ws ∧ ws.length = n ∧ Same I H ∧ InsF K I a C fs ∧ Rps K I ws ds ∧ f fs ds Q2 X2 ∧
  (∀ d v I' H', Q2 d → Gr none I H I' H' → Rp K I' v d → Q v H') ∧ ∀ c e cls dx I' H', X2 c e → Gr none I H I' H' → RX K mg I' H' c e cls dx → E cls dx H'
def bodyF (N n : Nat) (C : Addr) (t : T2S) : RCF := fun fs ds Q => ds.length = n ∧ ∀ a, t { nx := fun _ => Q .none, rt := Q } (some (.obf a C fs) :: envD N n ds)
def bodyFX (N n : Nat) (C : Addr) (t : T2X → T2S) : RCFX := fun fs ds Q X => ds.length = n ∧ ∀ a, t (fun _ => X) { nx := fun _ => Q .none, rt := Q } (some (.obf a C fs) :: envD N n ds)
def dCallF (C : Addr) (m : Str) (i : Nat) (f : RCF) (t : T2A) : T2E := fun env Q => match env[i]? with | some (some (.obf _ C' fs)) => (C' = C ∧ fs.lookup m = none) ∧ t env fun ds => f fs ds Q | _ => False
def dCallFX (C : Addr) (m : Str) (i : Nat) (f : RCFX) (x : T2X) (t : T2A) : T2E := fun env Q => match env[i]? with | some (some (.obf _ C' fs)) => (C' = C ∧ fs.lookup m = none) ∧ t env fun ds => f fs ds Q (x env) | _ => False
section
variable {K : Fg} {C : Addr} {m : Str} {n : Nat} {ta : TA} {t : T2A}
theorem InsF.mono {I I' : Hp} {a : Addr} {fs : List (Str × D)} (e : Same I I') (h : InsF K I a C fs) : InsF K I' a C fs := by
  obtain ⟨dx, vs, h1, h2, h3⟩ := h
  exact ⟨dx, vs, e _ _ h1, h2.mono e, h3⟩
end
/-! ### a body whose first name is an instance -/
section
variable {K : Fg} {n : Nat}
end
/-! ### methods of the text's class -/
def Dm (K : Fg) (C : Addr) (m qual : Str) (st : Stmt) : Prop := ∃ f fd, Fun K m qual st f fd ∧ Meth K C m f
def BindsM (m qual : Str) (st : Stmt) (ps : List Str) : Prop := ∀ (kV doc pm : Value) (an : Option Addr) (cdv ct : Value) (us : List Value), us.length = ps.length → bindArgs (PySem.W.fnOf m qual (defArgs st) (defBody st) (defScope st) .none kV doc pm an cdv ct) ⟨us, []⟩ = pure (ps.zip us)
structure FxM (P : Program) (w : World) (K : Fg) (mg : Str → Option Value) (base : Heap) (k : Nat) (C : Addr) (m : Str) (ps : List Str) (sp : Sp) : Prop where
  ex : ∃ f fd, FnOk P w K mg base CX0 k f fd ps sp ∧ Meth K C m f ∧ Binds K fd ps []
/-- with raises -/
structure FxMX (P : Program) (w : World) (K : Fg) (mg : Str → Option Value) (base : Heap) (k : Nat) (C : Addr) (m : Str) (ps : List Str) (sp : Sp) : Prop where
  ex : ∃ f fd, FnOk P w K mg base (L2.CX P w) k f fd ps sp ∧ Meth K C m f ∧ Binds K fd ps []
section
variable {P : Program} {w : World} {K : Fg} {mg : Str → Option Value} {base : Heap} {C : Addr} {m qual : Str} {ps : List Str} {sp : Sp} {k : Nat}
/-- .. that may raise -/
def tMethX (C : Addr) (m : Str) (sp : Sp) (E : L2.St → XK) (ta : TE) (t : TA) : TE := fun σ H Q => ta σ H fun x H1 => ∃ a dx fs, x = .ref a ∧ H1 a = some (.ins C dx fs) ∧ fs.lookup m = none ∧ t σ H1 fun vs H2 => sp (x :: vs) H2 Q (E σ)
end
section
variable {K : Fg} {mg : Str → Option Value} {W : WX} {x : T2X} {C : Addr} {m : Str} {n : Nat} {ta : TA} {t : T2A}
end
end Z2
namespace Z2
open PySem PySem.Spec PyProof.Rows L2
/-! ### defs that change an instance's lists: its methods, or defs that are handed it first -/
abbrev Obl := List (Str × Addr × List D)
abbrev RCM := List (Str × D) → Obl → List D → (Obl → D → Prop) → Prop
abbrev RCMX := List (Str × D) → Obl → List D → (Obl → D → Prop) → (Obl → Nat → D → Prop) → Prop
def bsO (ls : Obl) : List Addr := ls.map (·.2.1)
def InsO (K : Fg) (I : Hp) (a C : Addr) (fs : List (Str × D)) (ls : Obl) : Prop := ∃ (dx : Addr) (vs : List (Str × V)), I a = some (.ins C dx vs) ∧ FldD K I vs fs ∧ FldL vs fs ls
def ObO (K : Fg) (H0 I H : Hp) (a C : Addr) (fs : List (Str × D)) (ls : Obl) : Prop := InsO K I a C fs ls ∧ MR K H0 I H (ls.map (·.2.1)) (ls.map (·.2.2))
def spM (K : Fg) (C : Addr) (n : Nat) (f : RCM) : Sp := fun vs H Q _ => ∃ (I : Hp) (a : Addr) (ws : List V) (fs : List (Str × D)) (ls : Obl) (ds : List D) (Q2 : Obl → D → Prop), vs = .ref a :: ws ∧ ws.length = n ∧ Same I H ∧ ObO K (fun _ => none) I H a C fs ls ∧ Rps K I ws ds ∧ f fs ls ds Q2 ∧
  ∀ ls' d v I' H', Q2 ls' d → Gr none I (cutBs H (bsO ls)) I' H' → ObO K (cutBs H (bsO ls)) I' H' a C fs ls' → Rp K I' v d → Q v H'
def spMX (K : Fg) (mg : Str → Option Value) (C : Addr) (n : Nat) (f : RCMX) : Sp := fun vs H Q E => ∃ (I : Hp) (a : Addr) (ws : List V) (fs : List (Str × D)) (ls : Obl) (ds : List D) (Q2 : Obl → D → Prop) (X2 : Obl → Nat → D → Prop), vs = .ref a :: ws ∧ ws.length = n ∧ Same I H ∧ ObO K (fun _ => none) I H a C fs ls ∧ Rps K I ws ds ∧ f fs ls ds Q2 X2 ∧
  (∀ ls' d v I' H', Q2 ls' d → Gr none I (cutBs H (bsO ls)) I' H' → ObO K (cutBs H (bsO ls)) I' H' a C fs ls' → Rp K I' v d → Q v H') ∧
  ∀ ls' c e cls dx I' H', X2 ls' c e → Gr none I (cutBs H (bsO ls)) I' H' → ObO K (cutBs H (bsO ls)) I' H' a C fs ls' → RX K mg I' H' c e cls dx → E cls dx H'
def isO (a C : Addr) (fs : List (Str × D)) (env : Ev) (Q : Obl → Prop) : Prop := ∃ ls, env[0]? = some (some (.obj a C fs ls)) ∧ Q ls
def bodyM (N n : Nat) (C : Addr) (t : T2S) : RCM := fun fs ls ds Q => ds.length = n ∧ ∀ a, t { nx := fun env => isO a C fs env fun ls' => Q ls' .none, rt := fun _ => False, re := fun env d => isO a C fs env fun ls' => Q ls' d } (some (.obj a C fs ls) :: envD N n ds)
def bodyMX (N n : Nat) (C : Addr) (t : T2X → T2S) : RCMX := fun fs ls ds Q X => ds.length = n ∧ ∀ a, t (fun env c e => isO a C fs env fun ls' => X ls' c e) { nx := fun env => isO a C fs env fun ls' => Q ls' .none, rt := fun _ => False, re := fun env d => isO a C fs env fun ls' => Q ls' d } (some (.obj a C fs ls) :: envD N n ds)
def dRetE (t : T2E) : T2S := fun E env => t env fun d => E.re env d
def dRetEN : T2S := fun E env => E.re env .none
section
variable {K : Fg} {p : P0} {env : Ev} {σ : L2.St} {I H I' H' : Hp} {te : TE} {t : T2E}
end
section
variable {K : Fg} {n : Nat}
end
section
variable {P : Program} {w : World} {K : Fg} {mg : Str → Option Value} {base : Heap} {C : Addr} {m qual x : Str} {ps : List Str} {sp : Sp} {k : Nat}
end
end Z2
namespace Z2
open PySem PySem.Spec PyProof.Rows L2
/-! ### expressions that change an instance's lists: readings that hand the names on -/
abbrev T2M := Ev → (Ev → D → Prop) → Prop
abbrev T2MA := Ev → (Ev → List D → Prop) → Prop
abbrev T2MT := Ev → (Ev → Bool → Prop) → Prop
def SEM (K : Fg) (te : TE) (t : T2M) : Prop := ∀ (p : P0) (env : Ev) (σ : L2.St) (I H : Hp) (Q2 : Ev → D → Prop) (Q : VK), RelL K p env σ I H → t env Q2 →
  (∀ env' d v I' H', Q2 env' d → RelL K p env' σ I' H' → Same I I' → Rp K I' v d → Q v H') → te σ H Q
def SAM (K : Fg) (n : Nat) (ta : TA) (t : T2MA) : Prop := ∀ (p : P0) (env : Ev) (σ : L2.St) (I H : Hp) (Q2 : Ev → List D → Prop) (Q : List V → Hp → Prop), RelL K p env σ I H → t env Q2 →
  (∀ env' ds vs I' H', Q2 env' ds → vs.length = n → RelL K p env' σ I' H' → Same I I' → Rps K I' vs ds → Q vs H') → ta σ H Q
def STM (K : Fg) (tt : TT) (t : T2MT) : Prop := ∀ (p : P0) (env : Ev) (σ : L2.St) (I H : Hp) (Q2 : Ev → Bool → Prop) (Q : Bool → Hp → Prop), RelL K p env σ I H → t env Q2 →
  (∀ env' b I' H', Q2 env' b → RelL K p env' σ I' H' → Same I I' → Q b H') → tt σ H Q
def mE (t : T2E) : T2M := fun env Q => t env (Q env)
def mT (t : T2T) : T2MT := fun env Q => t env (Q env)
def mNil : T2MA := fun env Q => Q env []
def mCons (a : T2M) (t : T2MA) : T2MA := fun env Q => a env fun e1 x => t e1 fun e2 xs => Q e2 (x :: xs)
def mCB (f : RCD) (t : T2MA) : T2M := fun env Q => t env fun e ds => f ds (Q e)
def mOp (r : R2D) (a b : T2M) : T2M := fun env Q => a env fun e1 x => b e1 fun e2 y => r x y (Q e2)
def mTup (t : T2MA) : T2M := fun env Q => t env fun e ds => Q e (.tuple ds)
def mLst (t : T2MA) : T2M := fun env Q => t env fun e ds => Q e (.list ds)
def mB (a : T2M) : T2MT := fun env Q => a env fun e d => match d with | .bool b => Q e b | _ => False
def mNot (t : T2MT) : T2MT := fun env Q => t env fun e c => Q e (!c)
def mAnd (t u : T2MT) : T2MT := fun env Q => t env fun e c => if c = true then u e Q else Q e false
def mOr (t u : T2MT) : T2MT := fun env Q => t env fun e c => if c = true then Q e true else u e Q
def mAndV (a b : T2M) : T2M := fun env Q => a env fun e d => match d with | .bool c => if c = true then b e Q else Q e (.bool false) | _ => False
def mOrV (a b : T2M) : T2M := fun env Q => a env fun e d => match d with | .bool c => if c = true then Q e (.bool true) else b e Q | _ => False
def mIfS (c : T2MT) (t u : T2S) : T2S := fun E env => c env fun e b => if b = true then t E e else u E e
def mAsg (t : T2M) (g : T2G) : T2S := fun E env => t env fun e d => g d e E.nx
def mDrop (t : T2M) : T2S := fun E env => t env fun e _ => E.nx e
def mRet (t : T2M) : T2S := fun E env => t env fun _ d => E.rt d
def mRetE (t : T2M) : T2S := fun E env => t env fun e d => E.re e d
section
variable {K : Fg} {te tf : TE} {a b : T2M} {n : Nat}
variable {t1 t2 : TT} {c1 c2 : T2MT}
variable {ts us : TS} {t u : T2S}
end
/-! ### the calls themselves -/
def mMeth (C : Addr) (m : Str) (i : Nat) (f : RCM) (t : T2A) : T2M := fun env Q => match env[i]? with
  | some (some (.obj a C' fs ls)) => (C' = C ∧ fs.lookup m = none ∧ ls.lookup m = none) ∧ t env fun ds => f fs ls ds fun ls' d => Q (env.set i (some (.obj a C' fs ls'))) d
  | _ => False
def mCallO (C : Addr) (i : Nat) (f : RCM) (t : T2A) : T2M := fun env Q => match env[i]? with
  | some (some (.obj a C' fs ls)) => C' = C ∧ t env fun ds => f fs ls ds fun ls' d => Q (env.set i (some (.obj a C' fs ls'))) d
  | _ => False
def mMethX (C : Addr) (m : Str) (i : Nat) (f : RCMX) (x : T2X) (t : T2A) : T2M := fun env Q => match env[i]? with
  | some (some (.obj a C' fs ls)) => (C' = C ∧ fs.lookup m = none ∧ ls.lookup m = none) ∧ t env fun ds => f fs ls ds (fun ls' d => Q (env.set i (some (.obj a C' fs ls'))) d) fun ls' c e => x (env.set i (some (.obj a C' fs ls'))) c e
  | _ => False
def SEMG (K : Fg) (C : Cnd) (te : TE) (t : T2M) : Prop := ∀ (p : P0) (env : Ev) (σ : L2.St) (I H : Hp) (Q2 : Ev → D → Prop) (Q : VK), RelL K p env σ I H → C p σ I H → t env Q2 →
  (∀ env' d v I' H', Q2 env' d → RelL K p env' σ I' H' → Same I I' → Rp K I' v d → Q v H') → te σ H Q
section
variable {K : Fg} {C : Addr} {m : Str} {n : Nat} {ta : TA} {t : T2A} {E : XK} {f : RCM}
theorem ObO.weak {H0 I H : Hp} {a : Addr} {fs : List (Str × D)} {ls : Obl} (h : ObO K H0 I H a C fs ls) : ObO K (fun _ => none) I H a C fs ls := ⟨h.1, h.2.low fun _ _ => rfl⟩
variable {mg : Str → Option Value} {W : WX} {x : T2X} {te : TE} {a : T2M}
variable {CC : Cnd}
end
/-! ### an instance's own list: append, pop -/
def dAppF (C : Addr) (i k : Nat) (f : Str) (t : T2E) : T2S := fun E env => match env[i]? with
  | some (some (.obj a C' fs ls)) => (match ls[k]? with | some (g, b, ds) => (C' = C ∧ g = f) ∧ t env fun d => ds.length < 1000000 ∧ E.nx (env.set i (some (.obj a C' fs (ls.set k (g, b, ds ++ [d]))))) | none => False)
  | _ => False
/-- the last one taken off, put to use by F -/
def dPopF (C : Addr) (i k : Nat) (f : Str) (F : Ends2 → Ev → D → Prop) : T2S := fun E env => match env[i]? with
  | some (some (.obj a C' fs ls)) => (match ls[k]? with | some (g, b, ds) => (C' = C ∧ g = f) ∧ ∃ es d, ds = es ++ [d] ∧ F E (env.set i (some (.obj a C' fs (ls.set k (g, b, es))))) d | none => False)
  | _ => False
section
variable {K : Fg} {C : Addr} {fl : List Str} {f : Str} {te : TE} {t : T2E}
end
end Z2
namespace Z2
open PySem PySem.Spec PyProof.Rows L2
/-! ### __init__: the instance grows field by field -/
abbrev Fls := List (Str × D)
def Ini (K : Fg) (C x dx : Addr) (fs : Fls) (ls : Obl) (CC : Cnd) : Cnd := fun p σ I H => CC p σ I H ∧ σ[0]? = some (some (.ref x)) ∧ p.H0 x = none ∧ I x = none ∧ ∃ vs, H x = some (.ins C dx vs) ∧ vs.length ≤ fs.length + ls.length ∧ FldD K I vs fs ∧ FldL vs fs ls ∧ MR K p.H0 I H (ls.map (·.2.1)) (ls.map (·.2.2))
abbrev T2N := (Fls → Obl → Prop) → Fls → Obl → Ev → Prop
def SSN (K : Fg) (C : Addr) (CC : Cnd) (ts : TS) (t : T2N) : Prop := ∀ (p : P0) (env : Ev) (σ : L2.St) (I H : Hp) (fs : Fls) (ls : Obl) (x dx : Addr) (Q2 : Fls → Obl → Prop) (E : Ends), RelL K p env σ I H → Ini K C x dx fs ls CC p σ I H → t Q2 fs ls env →
  (∀ fs' ls' I' H', Q2 fs' ls' → RelL K p env σ I' H' → Ini K C x dx fs' ls' CC p σ I' H' → E.nx σ H') → ts E σ H
def nSeq (t u : T2N) : T2N := fun Q fs ls env => t (fun fs' ls' => u Q fs' ls' env) fs ls env
def nNext : T2N := fun Q fs ls _ => Q fs ls
def nDrop (t : T2E) : T2N := fun Q fs ls env => t env fun _ => Q fs ls
/-- self.f, while it grows -/
def nRd (k : Nat) (f : Str) (fs : Fls) : T2E := fun _ Q => match fs[k]? with | some (g, d) => g = f ∧ Q d | none => False
def nFld (f : Str) (t : Fls → T2E) : T2N := fun Q fs ls env => (fs.lookup f = none ∧ ls.lookup f = none ∧ fs.length + ls.length < 100) ∧ t fs env fun d => Q (fs ++ [(f, d)]) ls
def nLst (f : Str) (t : T2A) : T2N := fun Q fs ls env => (fs.lookup f = none ∧ ls.lookup f = none ∧ fs.length + ls.length < 100) ∧ t env fun ds => ∀ b, Q fs (ls ++ [(f, b, ds)])
section
variable {K : Fg} {C x dx : Addr} {CC : Cnd} {fs : Fls} {ls : Obl} {fl : List Str} {f : Str}
end
end Z2
namespace Z2
open PySem PySem.Spec PyProof.Rows L2
/-! ### __init__'s promise; C(..) -/
abbrev RCN := List D → (Fls → Obl → Prop) → Prop
abbrev RCNX := List D → (Fls → Obl → Prop) → (Nat → D → Prop) → Prop
def spN (K : Fg) (C : Addr) (n : Nat) (f : RCN) : Sp := fun vs H Q _ => ∃ (I : Hp) (x dx : Addr) (ws : List V) (ds : List D) (Q2 : Fls → Obl → Prop), vs = .ref x :: ws ∧ ws.length = n ∧ Same I H ∧ I x = none ∧ H x = some (.ins C dx []) ∧ Rps K I ws ds ∧ f ds Q2 ∧
  ∀ fs ls vs' I' H', Q2 fs ls → vs'.length ≤ fs.length + ls.length → Gr none I (cutBs H [x]) I' H' → I' x = none → H' x = some (.ins C dx vs') → FldD K I' vs' fs → FldL vs' fs ls → MR K (cutBs H [x]) I' H' (ls.map (·.2.1)) (ls.map (·.2.2)) → Q .non H'
def spNX (K : Fg) (mg : Str → Option Value) (C : Addr) (n : Nat) (f : RCNX) : Sp := fun vs H Q E => ∃ (I : Hp) (x dx : Addr) (ws : List V) (ds : List D) (Q2 : Fls → Obl → Prop) (X2 : Nat → D → Prop), vs = .ref x :: ws ∧ ws.length = n ∧ Same I H ∧ I x = none ∧ H x = some (.ins C dx []) ∧ Rps K I ws ds ∧ f ds Q2 X2 ∧
  (∀ fs ls vs' I' H', Q2 fs ls → Gr none I (cutBs H [x]) I' H' → I' x = none → H' x = some (.ins C dx vs') → FldD K I' vs' fs → FldL vs' fs ls → MR K (cutBs H [x]) I' H' (ls.map (·.2.1)) (ls.map (·.2.2)) → Q .non H') ∧
  ∀ c e cls d I' H', X2 c e → Gr none I (cutBs H [x]) I' H' → RX K mg I' H' c e cls d → E cls d H'
def bodyN (N n : Nat) (t : T2N) : RCN := fun ds Q => ds.length = n ∧ t Q [] [] (none :: envD N n ds)
def bodyNX (N n : Nat) (t : T2X → T2N) : RCNX := fun ds Q X => ds.length = n ∧ t (fun _ => X) Q [] [] (none :: envD N n ds)
section
variable {K : Fg} {n : Nat}
end
/-- __init__ of the text's class -/
structure FxN (P : Program) (w : World) (K : Fg) (mg : Str → Option Value) (base : Heap) (k : Nat) (cn : Str) (C : Addr) (ps : List Str) (sp : Sp) : Prop where
  ex : ∃ f fd, FnOk P w K mg base CX0 k f fd ps sp ∧ Mk K C f ∧ Binds K fd ps []
  gl : mg cn = some (.ref C)
structure FxNX (P : Program) (w : World) (K : Fg) (mg : Str → Option Value) (base : Heap) (k : Nat) (cn : Str) (C : Addr) (ps : List Str) (sp : Sp) : Prop where
  ex : ∃ f fd, FnOk P w K mg base (L2.CX P w) k f fd ps sp ∧ Mk K C f ∧ Binds K fd ps []
  gl : mg cn = some (.ref C)
def Dn (K : Fg) (C : Addr) (qual : Str) (st : Stmt) : Prop := ∃ f fd, Fun K "__init__" qual st f fd ∧ Mk K C f
section
variable {P : Program} {w : World} {K : Fg} {mg : Str → Option Value} {base : Heap} {C : Addr} {cn qual : Str} {ps : List Str} {sp : Sp} {k : Nat}
/-- .. that may raise -/
def tMakeX (C : Addr) (sp : Sp) (E : L2.St → XK) (t : TA) : TE := fun σ H Q => t σ H fun vs H1 => ∀ x dx, H1 x = none → H1 dx = none → dx ≠ x →
  sp (.ref x :: vs) (upd (upd H1 dx (.own x)) x (.ins C dx [])) (fun v H2 => v = .non ∧ Q (.ref x) H2) (E σ)
end
end Z2
namespace Z2
open PySem PySem.Spec PyProof.Rows L2
/-! ### a name is given an instance -/
section
variable {K : Fg} {p : P0} {env : Ev} {σ : L2.St} {I H I' H' : Hp}
end
def dAsgN (C : Addr) (f : RCN) (t : T2A) (i : Nat) : T2S := fun E env => t env fun ds => f ds fun fs ls => ∀ a, E.nx (env.set i (some (.obj a C fs ls)))
/-- return C(..), by way of the name j -/
def dRetN2 (C : Addr) (f : RCN) (t : T2A) (j : Nat) : T2S := fun E env => j < env.length ∧ t env fun ds => f ds fun fs ls => ∀ a, E.rv (env.set j (some (.obj a C fs ls))) j
def dRetNX (C : Addr) (f : RCNX) (x : T2X) (t : T2A) (j : Nat) : T2S := fun E env => j < env.length ∧ t env fun ds => f ds (fun fs ls => ∀ a, E.rv (env.set j (some (.obj a C fs ls))) j) (x env)
def dDropNX (C : Addr) (f : RCNX) (x : T2X) (t : T2A) : T2S := fun E env => True ∧ t env fun ds => f ds (fun _ _ => ∀ _ : Addr, E.nx env) (x env)
def dAsgNX (C : Addr) (f : RCNX) (x : T2X) (t : T2A) (i : Nat) : T2S := fun E env => True ∧ t env fun ds => f ds (fun fs ls => ∀ a, E.nx (env.set i (some (.obj a C fs ls)))) (x env)
section
variable {K : Fg} {C : Addr} {n : Nat} {ta : TA} {t : T2A} {E0 : XK}
variable {mg : Str → Option Value} {W : WX} {x : T2X}
end
/-! ### defs that return an instance, or data -/
abbrev RCR := List D → (Fls → Obl → Prop) → (D → Prop) → Prop
def spR (K : Fg) (C : Addr) (n : Nat) (f : RCR) : Sp := fun vs H Q _ => ∃ (I : Hp) (ds : List D) (Qo : Fls → Obl → Prop) (Qd : D → Prop), vs.length = n ∧ Same I H ∧ Rps K I vs ds ∧ f ds Qo Qd ∧ (∀ d v I' H', Qd d → Gr none I H I' H' → Rp K I' v d → Q v H') ∧
  ∀ a fs ls I' H', Qo fs ls → Gr none I H I' H' → InsO K I' a C fs ls → MR K H I' H' (ls.map (·.2.1)) (ls.map (·.2.2)) → Q (.ref a) H'
def bodyR (N n : Nat) (C : Addr) (t : T2S) : RCR := fun ds Qo Qd => ds.length = n ∧ t { nx := fun _ => Qd .none, rt := Qd, rv := fun env i => ∃ a fs ls, env[i]? = some (some (.obj a C fs ls)) ∧ Qo fs ls } (envD N n ds)
def dAsgR (C : Addr) (f : RCR) (t : T2A) (i : Nat) : T2S := fun E env => t env fun ds => f ds (fun fs ls => ∀ a, E.nx (env.set i (some (.obj a C fs ls)))) fun d => E.nx (env.set i (some (.dat d)))
section
variable {K : Fg} {C : Addr} {n : Nat} {ta : TA} {t : T2A} {E0 : XK}
end
section
variable {P : Program} {w : World} {K : Fg} {mg : Str → Option Value} {base : Heap} {C : Addr} {x : Str} {ps : List Str}
end
end Z2
namespace Z2
open PySem PySem.Spec PyProof.Rows L2
/-- a def of a class -/
def clsItem : Stmt → Nat → Stmt
  | .ClassDef _ _ _ b _ _ _ _ _ _ _, k => b.getD k (.Pass ⟨0, 0, 0, 0⟩)
  | s, _ => s
/-! ### what a growing __init__ calls with its own fields -/
section
variable {K : Fg} {C x dx : Addr} {CC : Cnd} {fs : Fls} {ls : Obl}
end
end Z2
namespace Z2
open PySem PySem.Spec PyProof.Rows L2
theorem nS_nil : nS [] = [] := rfl
theorem nS_none (l : Ev) : nS (none :: l) = none :: nS l := rfl
theorem nS_strm (l : Ev) : nS (some .strm :: l) = none :: nS l := rfl
theorem nS_dat (l : Ev) (d : D) : nS (some (.dat d) :: l) = some (.dat d) :: nS l := rfl
theorem nS_own (l : Ev) (d : List D) : nS (some (.own d) :: l) = some (.own d) :: nS l := rfl
theorem nS_obf (l : Ev) (a C : Addr) (fs : List (Str × D)) : nS (some (.obf a C fs) :: l) = some (.obf a C fs) :: nS l := rfl
theorem nS_obj (l : Ev) (a C : Addr) (fs : List (Str × D)) (ls : List (Str × Addr × List D)) : nS (some (.obj a C fs ls) :: l) = some (.obj a C fs ls) :: nS l := rfl
theorem lsD_nil : lsD [] = [] := rfl
theorem lsD_cons (f : Str) (b : Addr) (ds : List D) (l : List (Str × Addr × List D)) : lsD ((f, b, ds) :: l) = (f, .list ds) :: lsD l := rfl
section
variable {X : Cx}
end
end Z2
namespace Z2
open PySem PySem.Spec PyProof.Rows L2
/-! ### own lists that change inside an expression -/
/-- left.pop(t) -/
def mPopO (j : Nat) (t : T2E) : T2M := fun env Q => match env[j]? with
  | some (some (.own es)) => t env fun x => (match x with
      | .int k => (match ixN es.length k with
        | some m => (match es[m]? with
          | some y => (-(2 ^ 63) ≤ k ∧ k < 2 ^ 63) ∧ Q (env.set j (some (.own (es.eraseIdx m)))) y
          | none => False)
        | none => False)
      | _ => False)
  | _ => False
/-- left.pop() -/
def mPopL (j : Nat) : T2M := fun env Q => match env[j]? with
  | some (some (.own ds)) => ∃ es y, ds = es ++ [y] ∧ Q (env.set j (some (.own es))) y
  | _ => False
/-- xs.append(a) -/
def mAppO (i : Nat) (a : T2M) : T2S := fun E env => match env[i]? with
  | some (some (.own _)) => a env fun env' d => (match env'[i]? with
    | some (some (.own ds)) => ds.length < 1000000 ∧ E.nx (env'.set i (some (.own (ds ++ [d]))))
    | _ => False)
  | _ => False
/-- a if c else b -/
def mIfE (c : T2MT) (a b : T2M) : T2M := fun env Q => c env fun e b' => if b' = true then a e Q else b e Q
section
variable {K : Fg} {te : TE} {t2 : T2E} {a b : T2M} {ta tb : TE}
end
end Z2
namespace Z2
open PySem PySem.Spec PyProof.Rows L2
def rOnce (K : Fg) : R2 := fun x y H Q => ∃ l xs, x = .ref l ∧ y = .int 1 ∧ SqT K H l xs ∧ Q (.ref l) H
/-- a product whose left side may be a tuple taken once -/
def dMulO : R2D := fun x y Q => match x, y with
  | .tuple xs, .int n => (n = 1 ∧ Q (.tuple xs)) ∨ dMul (.tuple xs) (.int n) Q
  | x, y => dMul x y Q
abbrev rMulO (K : Fg) : R2 := fun x y H Q => rOnce K x y H Q ∨ rMulA K x y H Q
end Z2
namespace Z2
open PySem PySem.Spec PyProof.Rows L2
/-! ### an own list held still while an expression without draws is read -/
section
variable {K : Fg} {p : P0} {env : Ev} {σ : L2.St} {I H I' H' : Hp}
def dLn (i : Nat) (t : T2E) : T2E := fun env Q => match env[i]? with
  | some (some (.own ds)) => t (nS (env.set i (some (.dat (.list ds))))) fun d => noLst d = true ∧ Q d
  | some (some (.dat _)) => t env Q
  | _ => False
end
end Z2
namespace Z2
open PySem PySem.Spec PyProof.Rows L2
theorem XF.cuts {K : Fg} {I : Hp} {bs : List Addr} (ha : ∀ c ∈ bs, ∃ ws, I c = some (.lst ws)) {c : Nat} {kvs : List (Str × V)} {d : D} (n : noLst d = true) : XF K I c kvs d → XF K (cutBs I bs) c kvs d
  | .inl ⟨h, v, e, r⟩ => .inl ⟨h, v, e, Rp.cuts ha _ _ n r⟩
  | .inr ⟨h, v1, v2, d1, d2, e, e2, r1, r2⟩ => by
    subst e2
    have n : (noLst d1 && (noLst d2 && true)) = true := n
    rw [Bool.and_true, Bool.and_eq_true] at n
    exact .inr ⟨h, v1, v2, d1, d2, e, rfl, Rp.cuts ha _ _ n.1 r1, Rp.cuts ha _ _ n.2 r2⟩
/-! ### a read-only method that may raise, of an instance of one's own -/
def dCallOX (C : Addr) (m : Str) (i : Nat) (f : RCFX) (x : T2X) (t : T2A) : T2E := fun env Q => match env[i]? with
  | some (some (.obj _ C' fs ls)) => (C' = C ∧ (fs ++ lsD ls).lookup m = none) ∧ t env fun ds => ds.all noLst = true ∧ f (fs ++ lsD ls) ds (fun d => noLst d = true ∧ Q d) (fun c e => noLst e = true ∧ x env c e)
  | _ => False
section
variable {K : Fg} {mg : Str → Option Value} {W : WX} {x : T2X} {C : Addr} {m : Str} {n : Nat} {ta : TA} {t : T2A}
end
/-! ### an own list of parts that change an instance -/
def mAsgO (t : T2MA) (i : Nat) : T2S := fun E env => t env fun e ds => E.nx (e.set i (some (.own ds)))
end Z2
namespace Z2
open PySem PySem.Spec PyProof.Rows L2
/-! ### `except C:` without a name: one clause, whose suite reads nothing of the exception -/
def dTryO (cb : List (Option Bool)) (u : T2S) (tb : T2X → T2S) : T2S := fun E env => tb (fun env' c _ => match cb[c]? with | some (some true) => u E env' | _ => False) E env
section
variable {K : Fg} {mg : Str → Option Value}
end
end Z2
namespace Z2
open PySem PySem.Spec PyProof.Rows L2
/-! ### tuples that are known to have no dict: held as .frz, which the library's SqT takes like any other -/
def PlT (H : Hp) (a : Addr) (xs : List V) : Prop := ∃ o : Obj, H a = some (.frz o (.tup xs)) ∧ o.cls = .type "tuple" ∧ o.dict = none
theorem PlT.sqt {K : Fg} {H : Hp} {a : Addr} {xs : List V} (h : PlT H a xs) : SqT K H a xs := let ⟨o, ho, _⟩ := h; .inl (.inr ⟨o, ho⟩)
theorem PlT.mono {H H' : Hp} {a : Addr} {xs : List V} (e : Same H H') (h : PlT H a xs) : PlT H' a xs := let ⟨o, ho, r⟩ := h; ⟨o, e _ _ ho, r⟩
section
variable {X : Cx}
end
end Z2
namespace Z2
open PySem PySem.Spec PyProof.Rows L2
/-! ### a method that hands out tuple(self.f): its result is known to have no dict -/
def rTupF (K : Fg) : List V → Hp → VK → Prop := fun xs H Q => ∃ p ys, xs = [.ref p] ∧ SqL K H p ys ∧ ∀ l, ∀ o : Obj, o.cls = .type "tuple" → o.dict = none → H l = none → Q (.ref l) (upd H l (.frz o (.tup ys)))
def spTP (K : Fg) (C : Addr) (f : Str) : Sp := fun vs H Q _ => ∃ (I : Hp) (a : Addr) (fs : List (Str × D)) (ds : List D), vs = [.ref a] ∧ Same I H ∧ InsF K I a C fs ∧ (f, PyData.list ds) ∈ fs ∧
  ∀ p us I' H', Gr none I H I' H' → PlT I' p us → Rps K I' us ds → Q (.ref p) H'
section
variable {K : Fg} {C : Addr} {fl : List Str} {f : Str}
end
/-! ### x = dict(e.m()) of pairs of ints handed out so -/
def rDictPT (K : Fg) : List V → Hp → VK → Prop := fun xs H Q => ∃ (a : Addr) (ps : List Addr) (kvs : List (Key × V)), xs = [.ref a] ∧ PlT H a (ps.map V.ref) ∧ Paired (fun p kv => SqT K H p [kV kv.1, kv.2]) ps kvs ∧ ∀ p, H p = none → Q (.ref p) (upd H p (.dK (mergeK [] kvs)))
def dDictT (C : Addr) (m f : Str) (i j : Nat) : T2S := fun E env => match env[i]? with
  | some (some (.obj _ C' fs ls)) => (C' = C ∧ (fs ++ lsD ls).lookup m = none) ∧ ∃ kvs : List (Int × Int), (f, PyData.list (kvs.map fun y => PyData.tuple [.int y.1, .int y.2])) ∈ fs ++ lsD ls ∧ E.nx (env.set j (some (.dki (kvs.foldl (fun ks y => putI ks y.1 (.int y.2)) []))))
  | _ => False
section
variable {K : Fg} {C : Addr} {m f : Str}
end
section
variable {X : Cx}
end
section
variable {P : Program} {w : World} {K : Fg} {mg : Str → Option Value} {base : Heap} {C : Addr} {m qual : Str} {ps : List Str} {k : Nat} {fl : List Str} {g : Str}
end
end Z2
namespace Z2
open PySem PySem.Spec PyProof.Rows L2
/-! ### an instance that gets other lists before it is handed out: x = C(..); x.f1 = ..; x.f2 = ..; return x -/
section
variable {K : Fg} {p : P0} {env : Ev} {σ : L2.St} {I H I' H' : Hp}
theorem Strm.put {I H : Hp} {s x : Addr} {o u : HO} (h : Strm I H s) (h1 : I x = none) (ne : s ≠ x) : Strm (upd I x o) (upd H x u) s := by
  obtain ⟨h0, l, c, k, ns, g1, g2, g3⟩ := h
  have nl : l ≠ x := fun z => by rw [z, h1] at g2; cases g2
  exact ⟨by rw [upd_ne ne]; exact h0, l, c, k, ns, by rw [upd_ne ne]; exact g1, by rw [upd_ne nl]; exact g2, g3⟩
end
abbrev RCT := List (Str × D) → (Fls → Obl → Prop) → Prop
abbrev T2W := Ev → (Fls → Obl → Prop) → Prop
def dTwin (C : Addr) (f : RCN) (t : T2A) (j : Nat) (f1 f2 : Str) (u1 u2 : T2A) : T2W := fun env Qo => env[j]? = some none ∧ t env fun ds => noLsts ds = true ∧ f ds fun fs ls => (∃ c1 x1 c2 x2, ls = [(f1, c1, x1), (f2, c2, x2)]) ∧ (fs.length ≤ 50 ∧ fs.lookup f1 = none ∧ fs.lookup f2 = none ∧ (f1 == f2) = false ∧ (f2 == f1) = false) ∧
  u1 env fun d1 => noLsts d1 = true ∧ u2 env fun d2 => noLsts d2 = true ∧ ∀ b1 b2, Qo fs [(f1, b1, d1), (f2, b2, d2)]
def SST (K : Fg) (C : Addr) (ts : TS) (t : T2W) : Prop := ∀ (p : P0) (env : Ev) (σ : L2.St) (I H : Hp) (Qo : Fls → Obl → Prop) (E : Ends) (cs : List Addr), RelL K p env σ I H → (∀ c ∈ cs, ∃ ws, p.I0 c = some (.lst ws)) → t env Qo →
  (∀ b fs ls I' H', Qo fs ls → Gr p.m p.I0 p.H0 I' H' → InsO K (cutBs I' cs) b C fs ls → MR K p.H0 (cutBs I' cs) H' (ls.map (·.2.1)) (ls.map (·.2.2)) → E.rt (.ref b) H') → ts E σ H
section
variable {K : Fg} {C : Addr} {n j : Nat} {ta : TA} {t : T2A} {E0 : XK} {fl : List Str} {f1 f2 : Str} {te1 te2 : TE} {u1 u2 : T2A}
end
/-! ### a method that only reads and hands out an instance -/
def spT (K : Fg) (C : Addr) (f : RCT) : Sp := fun vs H Q _ => ∃ (I : Hp) (cs : List Addr) (a : Addr) (fs : List (Str × D)) (Qo : Fls → Obl → Prop), vs = [.ref a] ∧ Same I H ∧ (∀ c ∈ cs, ∃ ws, I c = some (.lst ws)) ∧ InsF K I a C fs ∧ f fs Qo ∧
  ∀ b fs' ls' I' H', Qo fs' ls' → Gr none I H I' H' → InsO K (cutBs I' cs) b C fs' ls' → MR K H (cutBs I' cs) H' (ls'.map (·.2.1)) (ls'.map (·.2.2)) → Q (.ref b) H'
def bodyT (N : Nat) (C : Addr) (t : T2W) : RCT := fun fs Qo => ∀ a, t (some (.obf a C fs) :: List.replicate N none) Qo
def dAsgT (C : Addr) (m : Str) (f : RCT) (j i : Nat) : T2S := fun E env => match env[j]? with
  | some (some (.obj _ C' fs ls)) => (C' = C ∧ (fs ++ lsD ls).lookup m = none) ∧ f (fs ++ lsD ls) fun fs' ls' => ∀ b, E.nx (env.set i (some (.obj b C fs' ls')))
  | _ => False
section
variable {K : Fg} {C : Addr} {m : Str} {E0 : XK}
end
section
variable {P : Program} {w : World} {K : Fg} {mg : Str → Option Value} {base : Heap} {C : Addr} {m qual : Str} {ps : List Str} {k : Nat}
/-- a def whose plain promise is never asked for -/
theorem Fx.never {x : Str} {ps : List Str} {sp : Sp} {k n : Nat} (G : Fx P w K mg base k x ps sp) : Fx P w K mg base k x ps (spD K n fun _ _ => False) := by
  obtain ⟨f, fd, F, g1, g2, g3⟩ := G.ex
  exact ⟨f, fd, F.imp fun vs H Q E h => by
    obtain ⟨_, _, _, _, _, _, h, _⟩ := h
    exact h.elim, g1, g2, g3⟩
end
end Z2
namespace Z2
open PySem PySem.Spec PyProof.Rows L2
/-! ### a def that hands out a pair, data and a list of its own -/
abbrev T2P := (Ev → D → Nat → Prop) → T2S
def SSP (K : Fg) (ts : TS) (t : T2P) : Prop := ∀ (p : P0) (env : Ev) (σ : L2.St) (I H : Hp) (D2 : Ends2) (E : Ends) (rp : Ev → D → Nat → Prop), RelL K p env σ I H → t rp D2 env → EndsR K p D2 E →
  (∀ env σ I H d v i b l, rp env d i → RelL K p env σ I H → Rp K I v d → σ[i]? = some (some b) → H l = none → E.rt (.ref l) (upd H l (.tup [v, b]))) → ts E σ H
def pSeq (t : T2S) (u : T2P) : T2P := fun rp E env => t { E with nx := u rp E } env
def dRetP (t : T2E) (i : Nat) : T2P := fun rp E env => t env fun d => (∃ x, env[i]? = some (some x)) ∧ rp env d i
def spSP (K : Fg) (n : Nat) (f : List D → (D → List D → Prop) → Prop) : Sp := fun vs H Q _ => ∃ (I : Hp) (a : Addr) (ws : List V) (ds : List D) (Q2 : D → List D → Prop), vs = .ref a :: ws ∧ ws.length = n ∧ Same I H ∧ Strm I H a ∧ Rps K I ws ds ∧ f ds Q2 ∧
  ∀ d es v b us l I' H', Q2 d es → Gr (some a) I H I' H' → Strm I' H' a → H b = none → I' b = none → H' b = some (.lst us) → Rps K I' us es → Rp K I' v d → H' l = none → Q (.ref l) (upd H' l (.tup [v, .ref b]))
def bodySP (N n : Nat) (t : T2P) : List D → (D → List D → Prop) → Prop := fun ds Q => ds.length = n ∧ t (fun env d i => ∃ es, env[i]? = some (some (.own es)) ∧ Q d es) { nx := fun _ => False, rt := fun _ => False } (some .strm :: envD N n ds)
def dAsgCP (s : Nat) (f : List D → (D → List D → Prop) → Prop) (t : T2A) (i j : Nat) : T2S := fun E env => (match env[s]? with | some (some .strm) => True | _ => False) ∧ t env fun ds => f ds fun d es => E.nx ((env.set i (some (.dat d))).set j (some (.own es)))
section
variable {K : Fg} {n : Nat} {ta : TA} {t : T2A} {E0 : XK} {f : List D → (D → List D → Prop) → Prop} {ts us : TS} {a : T2S} {u : T2P} {te : TE} {t2 : T2E}
end
section
variable {P : Program} {w : World} {K : Fg} {mg : Str → Option Value} {base : Heap} {x : Str} {ps : List Str}
end
end Z2
namespace Z2
open PySem PySem.Spec PyProof.Rows L2
/-! ### texts as sequences -/
section
variable {K : Fg}
def dAddS : R2D := fun x y Q => match x, y with
  | .str a, .str b => a.length + b.length ≤ 1000000 ∧ Q (.str (a ++ b)) | x, y => dAdd x y Q
abbrev rAddS (K : Fg) : R2 := fun x y H Q => rAddA K x y H Q ∨ ∃ i j, x = .str i ∧ y = .str j ∧ i.length + j.length ≤ sizeLine ∧ Q (.str (i ++ j)) H
theorem op_addS {X : Cx} : OpR X (binaryOp .Add) (rAddS X.K) := OpR.or op_addA op_add_str
theorem s2_addS : Sim2 K (rAddS K) dAddS := by
  intro I H x y dx dy Q2 Q e hx hy q k
  unfold dAddS at q
  split at q
  · cases hx
    cases hy
    exact .inr ⟨_, _, rfl, rfl, le_line q.1, k _ _ I H q.2 (.refl e) (.str _)⟩
  · exact .inl (s2_add I H x y _ _ Q2 Q e hx hy q k)
def dIxS : R2D := fun x y Q => match x, y with
  | .str z, .int i => z.length ≤ 1000000 ∧ (match atI z.cps.toList i with | some c => Q (.str ⟨#[c]⟩) | none => False) | x, y => dIx x y Q
theorem s2_ixS : Sim2 K (rIx K) dIxS := by
  intro I H x y dx dy Q2 Q e hx hy q k
  unfold dIxS at q
  split at q
  · obtain ⟨q0, q⟩ := q
    cases hx
    cases hy
    split at q
    · rename_i c hc
      exact .inr (.inr ⟨_, _, c, rfl, rfl, le_line q0, hc, k _ _ I H q (.refl e) (.str _)⟩)
    · exact q.elim
  · exact s2_ix I H x y _ _ Q2 Q e hx hy q k
def dInS (neg : Bool) : R2D := fun x y Q => match x, y with
  | .str a, .str b => Q (.bool (if neg then !(!(Builtin.Str.occurrences b a 0 b.length 1).isEmpty) else !(Builtin.Str.occurrences b a 0 b.length 1).isEmpty)) | x, y => dIn neg x y Q
abbrev rInS (K : Fg) (neg : Bool) : R2 := fun x y H Q => rIn K neg x y H Q ∨ ∃ i j, x = .str i ∧ y = .str j ∧ Q (.bl (if neg then !(!(Builtin.Str.occurrences j i 0 j.length 1).isEmpty) else !(Builtin.Str.occurrences j i 0 j.length 1).isEmpty)) H
theorem op_inS {X : Cx} : OpR X (compareOp .In) (rInS X.K false) := OpR.or op_in_seq op_in_str
theorem op_notInS {X : Cx} : OpR X (compareOp .NotIn) (rInS X.K true) := OpR.or op_notIn_seq op_notIn_str
theorem s2_inS {neg : Bool} : Sim2 K (rInS K neg) (dInS neg) := by
  intro I H x y dx dy Q2 Q e hx hy q k
  unfold dInS at q
  split at q
  · cases hx
    cases hy
    exact .inr ⟨_, _, rfl, rfl, k _ _ I H q (.refl e) (.bl _)⟩
  · exact .inl (s2_in I H x y _ _ Q2 Q e hx hy q k)
def dLenS : RCD := fun ds Q => match ds with | [.str z] => z.length ≤ 1000000 ∧ Q (.int z.length) | ds => dLen ds Q
abbrev rLenS (K : Fg) : List V → Hp → VK → Prop := fun xs H Q => (∃ p ys, xs = [.ref p] ∧ (SqL K H p ys ∨ SqT K H p ys) ∧ Q (.int ys.length) H) ∨ ∃ z, xs = [.str z] ∧ z.length ≤ sizeLine ∧ Q (.int z.length) H
theorem call_lenS {X : Cx} : CallR X (.builtin "len") (rLenS X.K) := CallR.or call_len_seq call_len_str
theorem sc_lenS : SimC K (rLenS K) dLenS := by
  intro I H vs ds Q2 Q e h q k
  unfold dLenS at q
  split at q
  · obtain ⟨v, rfl, h1⟩ := h.one
    cases h1
    exact .inr ⟨_, rfl, le_line q.1, k _ _ I H q.2 (.refl e) (.int _)⟩
  · exact .inl (sc_len I H vs _ Q2 Q e h q k)
def dSlS (a : T2E) (l u : T2O) : T2E := fun env Q => a env fun x => l env fun lo => u env fun hi => match x with | .tuple ds => Q (.tuple (cutD ds lo hi)) | .list ds => Q (.list (cutD ds lo hi)) | .str z => z.length ≤ 1000000 ∧ Q (.str (Txt.slice z lo hi)) | _ => False
abbrev rSlSA (K : Fg) : V → Option Int → Option Int → Hp → VK → Prop := fun x lo hi H Q => rSlAny K x lo hi H Q ∨ C8.rSlX x lo hi H Q
theorem sl_anyS {X : Cx} : L2.SlR X (rSlSA X.K) := L2.SlR.or sl_any C8.sl_txt
theorem se_slS {ta : TE} {a : T2E} {tl tu : TO} {l u : T2O} (ha : SE K ta a) (hl : SOp K tl l) (hu : SOp K tu u) : SE K (tSl (rSlSA K) ta tl tu) (dSlS a l u) := by
  intro p env σ I H Q2 Q rl q k
  refine ha p env σ I H _ _ rl q fun d v I1 H1 q1 s1 h1 => ?_
  refine hl p env σ I1 H1 _ _ (rl.stp s1) q1 fun lo I2 H2 q2 s2 => ?_
  refine hu p env σ I2 H2 _ _ (rl.stp (s1.trans s2)) q2 fun hi I3 H3 q3 s3 => ?_
  have s := (s1.trans s2).trans s3
  have h := Rp.mono (s2.trans s3).ii d v h1
  cases d <;> first | exact q3.elim | skip
  · cases h
    exact .inr ⟨_, rfl, le_line q3.1, k _ _ I3 H3 q3.2 s (.str _)⟩
  · cases h with
    | lst e1 e2 =>
      rename_i ds a vs
      refine .inl (.inr ⟨a, vs, rfl, SqL.of (s3.ih _ _ e1), fun l h0 => ?_⟩)
      have g := Gr.new (m := none) (o := .lst (cutV vs lo hi)) s3.ih h0
      exact k _ _ _ _ q3 (s.trans (.of g)) (.lst upd_same (Rps.cut (Rps.mono g.ii _ _ e2) _ _))
  · cases h with
    | tup e1 e2 =>
      rename_i ds a vs
      refine .inl (.inl ⟨a, vs, rfl, Same.sqt s3.ih e1, fun w => ?_, fun w l h0 => ?_⟩)
      · refine k _ _ I3 H3 q3 s (.tup e1 ?_)
        have z : cutD ds lo hi = ds := by unfold cutD; rw [e2.length] at w; exact cut_whole w
        rw [z]; exact e2
      · have g := Gr.new (m := none) (o := .tup (cutV vs lo hi)) s3.ih h0
        exact k _ _ _ _ q3 (s.trans (.of g)) (.tup (SqT.of upd_same) (Rps.cut (Rps.mono g.ii _ _ e2) _ _))
end
end Z2
namespace Z2
open PySem PySem.Spec PyProof.Rows L2
/-! ### an exception with two fields: raise TextError(column, words) -/
def spI2 (K : Fg) (f g : Str) : Sp := fun vs H Q _ => ∃ (a C : Addr) (v1 v2 : V), vs = [.ref a, v1, v2] ∧ OexC K C ∧ PySem.W.findIn K (.ref C) f = some none ∧ PySem.W.findIn K (.ref C) g = some none ∧ H a = some (exo a C none) ∧
  ∀ dx, H dx = none → dx ≠ a → Q .non (upd (upd (upd H dx (exd dx [(f, v1)])) a (exo a C (some dx))) dx (exd dx [(g, v2), (f, v1)]))
theorem upd_del2 {H : Hp} {a d : Addr} {o o' o2 u u' : HO} (hn : H a = none) (hne : d ≠ a) : upd (del (upd (upd (upd (upd H a o) d o') a u) d o2) a) d u' = upd H d u' := by
  funext b
  by_cases hd : b = d
  · subst hd; rw [upd_same, upd_same]
  · rw [upd_ne hd, upd_ne hd]
    by_cases ha : b = a
    · subst ha; rw [del_same, hn]
    · rw [del_ne ha, upd_ne hd, upd_ne ha, upd_ne hd, upd_ne ha]
structure XC3 (P : Program) (w : World) (K : Fg) (mg : Str → Option Value) (base : Heap) (C : Addr) : Prop where
  gC : mg (xname 3) = some (.ref C)
  oc : OexC K C
  no1 : PySem.W.findIn K (.ref C) "column" = some none
  no2 : PySem.W.findIn K (.ref C) "words" = some none
  xf : XfC K C
  ini : ∃ (fI : Addr) (fd : FuncData), PySem.W.findIn K (.ref C) "__init__" = some (some (.ref fI)) ∧ PySem.W.typeIn K (.ref fI) = some (.type "function") ∧ FnOk P w K mg base CX0 1 fI fd ["self", "column", "words"] (spI2 K "column" "words") ∧ Binds K fd ["self", "column", "words"] []
theorem ini_ok2 {P : Program} {w : World} {K : Fg} {mg : Str → Option Value} {base : Heap} {qual : Str} {st : Stmt} {fI : Addr} {fd : FuncData} {f g : Str} {p1 p2 p3 pos p1' p2' p3' pos' : Pos} (F : Fun K "__init__" qual st fI fd) (S : FnScope ["self", f, g] ["self", f, g] (defScope st))
    (hb : defBody st = [.Assign [.Attribute (.Name "self" p1) f p2] (.Name f p3) pos, .Assign [.Attribute (.Name "self" p1') g p2'] (.Name g p3') pos'])
    (hp : ∀ (cdv : Value) (A : Around) (outer : List Env) (s : Shared) (H : Hp) (Q : VK) (E : XK), (PE (cxOf CX0 P w K mg base ["self", f, g] qual (defScope st) fI cdv A outer s H E).nox (.Name "self" p1) (tVar 0) ∧ PE (cxOf CX0 P w K mg base ["self", f, g] qual (defScope st) fI cdv A outer s H E).nox (.Name f p3) (tVar 1) ∧
      swapsWith (.Name f p3) (some (.Attribute (.Name "self" p1) f p2)) pos.line (cxOf CX0 P w K mg base ["self", f, g] qual (defScope st) fI cdv A outer s H E).nox.env = pure false) ∧
      PE (cxOf CX0 P w K mg base ["self", f, g] qual (defScope st) fI cdv A outer s H E).nox (.Name "self" p1') (tVar 0) ∧ PE (cxOf CX0 P w K mg base ["self", f, g] qual (defScope st) fI cdv A outer s H E).nox (.Name g p3') (tVar 2) ∧
      swapsWith (.Name g p3') (some (.Attribute (.Name "self" p1') g p2')) pos'.line (cxOf CX0 P w K mg base ["self", f, g] qual (defScope st) fI cdv A outer s H E).nox.env = pure false) : FnOk P w K mg base CX0 1 fI fd ["self", f, g] (spI2 K f g) := by
  refine F.ok S (fun vs H Q E h => ?_) fun cdv A outer s H vs Q E hr h => ⟨tSeq (tOst K f (tVar 0) (tVar 1)) (tSeq (tOst K g (tVar 0) (tVar 2)) tNext), ?_, ?_⟩
  · obtain ⟨_, _, _, _, rfl, _⟩ := h; rfl
  · rw [hb]
    obtain ⟨⟨h1, h2, h3⟩, h4, h5, h6⟩ := hp cdv A outer s H Q E
    exact pss_cons (ps_ost h1 h2 h3) (pss_cons (ps_ost h4 h5 h6) pss_nil)
  · obtain ⟨a, C, v1, v2, rfl, T, hno, hno2, ea, k⟩ := h
    exact ⟨v1, rfl, .ref a, rfl, a, C, rfl, T, hno, .inl ⟨ea, fun dx n ne => ⟨v2, rfl, .ref a, rfl, a, C, rfl, T, hno2, .inr ⟨dx, [(f, v1)], upd_same, by rw [upd_ne ne, upd_same], by show 1 ≤ 900; decide, k dx n ne⟩⟩⟩⟩
def tRz3 (K : Fg) (W : WX) (C : Addr) (te tf : TE) : TS := fun _ σ H => tMkO C (spI2 K "column" "words") [] (tCons te (tCons tf tNil)) σ H fun cls d H' => W cls d σ H'
def dRaise3 (x : T2X) (t u : T2E) : T2S := fun _ env => t env fun d1 => u env fun d2 => x env 3 (.tuple [d1, d2])
theorem ssg_raise3 {P : Program} {w : World} {K : Fg} {mg : Str → Option Value} {base : Heap} {W : WX} {x : T2X} {te tf : TE} {t2 u2 : T2E} {C : Addr} (T : XC3 P w K mg base C) (h : SE K te t2) (h' : SE K tf u2) : SSG K (CX1 K mg W x) (tRz3 K W C te tf) (dRaise3 x t2 u2) := by
  intro p env σ I H D2 E rl hx q e
  refine h p env σ I H _ _ rl q fun d1 v1 I0 H0 q0 s0 r1 => ?_
  refine h' p env σ I0 H0 _ _ (rl.stp s0) q0 fun d2 v2 I1 H1 q1 s1' r2 => ⟨by show 2 ≤ 1000; decide, fun a ha => ⟨a, C, v1, v2, rfl, T.oc, T.no1, T.no2, upd_same, fun dx hd hne => ⟨rfl, dx, [("words", v2), ("column", v1)], ?_, upd_same, ?_, ?_⟩⟩⟩
  · rw [upd_ne (Ne.symm hne), upd_same]
  · rw [upd_ne hne] at hd; exact hd
  · rw [upd_ne hne] at hd
    rw [upd_del2 ha hne]
    have s1 := s0.trans s1'
    have r' := rl.stp s1
    have i1 : I1 dx = none := Same.free s1.ih hd
    have g : Gr none I1 H1 I1 (upd H1 dx (.xd [("words", v2), ("column", v1)])) := ⟨Same.refl _, fun b o z => by
        rw [upd_ne (ne_of_none z i1)]; exact s1.ih _ _ z, fun b o z _ => by rw [upd_ne (ne_of_none z hd)]; exact z, fun b z _ => z, fun b z => by
        by_cases hb : b = dx
        · subst hb; rw [upd_same]; exact fun w => nomatch w
        · rw [upd_ne hb]; exact z⟩
    exact cx1_hx hx (r'.stp (.of g)) q1 ⟨C, dx, _, T.gC, rfl, rfl, upd_same, .inr ⟨rfl, v1, v2, d1, d2, rfl, rfl, Rp.mono s1'.ii _ _ r1, r2⟩⟩
theorem ps_raise3 {X : Cx} {W : WX} {C : Addr} {e e2 : Expr} {te tf : TE} {p pos pos2 : Pos} (T : XC3 X.prog X.w X.K X.mg X.base C) (hc : X.calm = true) (tk : Takes X W) (hr : Room 2 X.A) (hg : Gl X (xname 3)) (he : PE X.nox e te) (he2 : PE X.nox e2 tf)
    (hs : starEach [e, e2] X.env = (false, eval e X.env) :: starEach [e2] X.env := by rfl) (hs2 : starEach [e2] X.env = (false, eval e2 X.env) :: starEach [] X.env := by rfl) (hpl : (backTo pos (starEach [e2] X.env)).any (·.1) = false := by rfl) :
    PS X (.Raise (some (.Call (.Name (xname 3) p) [e, e2] [] pos)) none pos2) (tRz3 X.K W C te tf) := by
  obtain ⟨fI, fd, h1, h2, h3, h4⟩ := T.ini
  exact ps_raise hc tk (pmk_oex (he := hs) (hpl := hpl) T.oc h1 h2 h3 hr h4 .nil pass0 hg T.gC (pa_cons he.nox (pa_cons he2.nox pa_nil (hs := hs2)) (hs := hs)) (by decide))
theorem ssg_while {K : Fg} {C : Cnd} {tc : TT} {ts : TS} {c : T2T} {tb : T2S} (hC : ∀ p σ I H σ' I' H', C p σ I H → C p σ' I' H') (hc : STG K C tc c) (hb : SSG K C ts tb) : SSG K C (tWhile tc ts) (dWhile c tb) := by
  rintro p env σ I H D2 E r hx ⟨n, q⟩ e
  refine ⟨fun m σ' H' => ∃ env' I', RelL K p env' σ' I' H' ∧ whileD c tb D2 m env', ⟨n, env, I, r, q⟩, ?_⟩
  rintro m σ' H' ⟨env', I', r', q'⟩
  match m, q' with
  | 0, q' => exact q'.elim
  | m + 1, q' =>
    refine hc p env' σ' I' H' _ _ r' (hC _ _ _ _ _ _ _ hx) q' fun b I1 H1 q1 s1 => ?_
    cases b with
    | true =>
      rw [if_pos rfl] at q1 ⊢
      exact ⟨fun σ' H' => ∃ env' I', RelL K p env' σ' I' H' ∧ whileD c tb D2 m env', fun σ2 H2 h => ⟨m, Nat.lt_succ_self _, h⟩,
        hb p env' σ' I1 H1 _ _ (r'.stp s1) (hC _ _ _ _ _ _ _ hx) q1 ⟨fun env4 σ4 I4 H4 q4 r4 => ⟨env4, I4, r4, q4⟩, e.rt, fun env4 σ4 I4 H4 q4 r4 => e.nx _ _ _ _ q4 r4, fun env4 σ4 I4 H4 q4 r4 => ⟨env4, I4, r4, q4⟩, e.rd, e.re, e.rv⟩⟩
    | false =>
      rw [if_neg (by decide)] at q1 ⊢
      exact e.nx _ _ _ _ q1 (r'.stp s1)
/-! ### a text times an int -/
section
variable {K : Fg}
theorem foldl_repN (l : List Nat) : ∀ (k : Nat) (acc : List Nat), List.foldl (fun x1 x2 => x1 ++ x2) acc.toArray (List.replicate k l.toArray) = (acc ++ (List.replicate k l).flatten).toArray
  | 0, acc => by simp
  | k + 1, acc => by
    rw [List.replicate_succ, List.foldl_cons, List.replicate_succ, List.flatten_cons]
    have e : acc.toArray ++ l.toArray = (acc ++ l).toArray := by simp
    rw [e, foldl_repN l k, List.append_assoc]
theorem op_mulStr {X : Cx} : OpR X (binaryOp .Mult) (fun x y H Q => ∃ (z : Str) (k : Int), x = .str z ∧ y = .int k ∧ 1 ≤ z.length ∧ 0 ≤ k ∧ z.length * k.toNat ≤ 1000000 ∧ Q (.str ⟨(List.replicate k.toNat z.cps.toList).flatten.toArray⟩) H) := by
  intro pins s σ H x y v u Q I rx ry h
  obtain ⟨z, k, rfl, rfl, h1, h2, h3, q⟩ := h
  obtain ⟨t, rfl⟩ := rx
  obtain ⟨t', rfl⟩ := ry
  have hk : k.toNat ≤ 1000000 := Nat.le_trans (Nat.le_mul_of_pos_left _ h1) h3
  have hk2 : k ≤ 1000000 := by omega
  have ef : (List.replicate k.toNat z.cps).foldl (fun x1 x2 => x1 ++ x2) #[] = (List.replicate k.toNat z.cps.toList).flatten.toArray := by
    have := foldl_repN z.cps.toList k.toNat []
    rw [List.nil_append] at this
    exact this
  have el : ((List.replicate k.toNat z.cps.toList).flatten).length = z.length * k.toNat := by
    rw [List.length_flatten, List.map_replicate, List.sum_replicate_nat, Nat.mul_comm]
    rfl
  refine P.mul_str (by rw [decide_eq_false (by omega), decide_eq_false (by omega)]; rfl) (fun _ _ => ?_) (fun _ _ => ?_) ?_
  · have : (z.length : Int) ≤ (2 ^ 63 - 1) / k := by
      refine Int.le_ediv_of_mul_le (by omega) ?_
      have e : (z.length : Int) * k = ((z.length * k.toNat : Nat) : Int) := by rw [Int.natCast_mul, Int.toNat_of_nonneg (by omega)]
      rw [e]
      omega
    omega
  · have := le_line h3
    unfold Builtin.Str.tooLong
    exact decide_eq_false (by omega)
  · by_cases h0 : k < 1
    · rw [if_pos h0]
      have hk0 : k = 0 := by omega
      subst hk0
      exact ⟨by decide, .str _, H, I.tok _, ⟨_, rfl⟩, q⟩
    · rw [if_neg h0]
      by_cases h1k : k = 1
      · subst h1k
        rw [if_pos (show ((1 : Int) == 1 || z.length == 0) = true from rfl)]
        have hz : (⟨(List.replicate (Int.toNat 1) z.cps.toList).flatten.toArray⟩ : Str) = z := by
          show (⟨(List.replicate 1 z.cps.toList).flatten.toArray⟩ : Str) = z
          rw [show (List.replicate 1 z.cps.toList).flatten = z.cps.toList by simp [List.replicate]]
        rw [hz] at q
        exact ⟨.str z, H, I, ⟨t, rfl⟩, q⟩
      · have e1 : (k == 1 || z.length == 0) = false := by
          rw [Bool.or_eq_false_iff]
          exact ⟨beq_eq_false_iff_ne.mpr (by omega), beq_eq_false_iff_ne.mpr (by omega)⟩
        rw [if_neg (by rw [e1]; exact Bool.false_ne_true)]
        rw [ef]
        refine ⟨?_, .str _, H, I.tok _, ⟨_, rfl⟩, q⟩
        show (List.replicate k.toNat z.cps.toList).flatten.toArray.size ≤ sizeLine
        rw [List.size_toArray, el]
        exact le_line h3
def dMulS : R2D := fun x y Q => match x, y with
  | .str z, .int k => 1 ≤ z.length ∧ 0 ≤ k ∧ z.length * k.toNat ≤ 1000000 ∧ Q (.str ⟨(List.replicate k.toNat z.cps.toList).flatten.toArray⟩) | x, y => dMul x y Q
abbrev rMulS (K : Fg) : R2 := fun x y H Q => rMulA K x y H Q ∨ ∃ (z : Str) (k : Int), x = .str z ∧ y = .int k ∧ 1 ≤ z.length ∧ 0 ≤ k ∧ z.length * k.toNat ≤ 1000000 ∧ Q (.str ⟨(List.replicate k.toNat z.cps.toList).flatten.toArray⟩) H
theorem op_mulS {X : Cx} : OpR X (binaryOp .Mult) (rMulS X.K) := OpR.or op_mulA op_mulStr
theorem s2_mulS : Sim2 K (rMulS K) dMulS := by
  intro I H x y dx dy Q2 Q e hx hy q k
  unfold dMulS at q
  split at q
  · cases hx
    cases hy
    exact .inr ⟨_, _, rfl, rfl, q.1, q.2.1, q.2.2.1, k _ _ I H q.2.2.2 (.refl e) (.str _)⟩
  · exact .inl (s2_mul I H x y _ _ Q2 Q e hx hy q k)
end
end Z2
namespace Z2
open PySem PySem.Spec PyProof.Rows L2
section
variable {K : Fg} {X : Cx}
/-! ### a dict of the module's head, with texts as keys -/
def Tab (K : Fg) (w : World) (mg : Str → Option Value) (x : Str) (tb : List (Str × D)) : Prop := ∃ a, mg x = some (.ref a) ∧ ∀ q ∈ tb, ∃ v, KDct K w a q.1 v ∧ ∀ I, Rp K I v q.2
def tCD (K : Fg) (tb : List (Str × D)) (te : TE) : TE := fun σ H Q => te σ H fun y H1 => ∃ (z : Str) (q : Str × D), y = .str z ∧ tb.find? (fun q => decide (q.1 = z)) = some q ∧ ∀ v, (∀ I, Rp K I v q.2) → Q v H1
theorem pe_cd {x : Str} {tb : List (Str × D)} {e : Expr} {te : TE} {p pos : Pos} (T : Tab X.K X.w X.mg x tb) (hg : Gl X x) (he : PE X e te) (hs : PlainIx e) (hd : (x == ("__debug__" : Str)) = false := by decide) : PE X (.Subscript (.Name x p) e pos) (tCD X.K tb te) := by
  obtain ⟨a, hm, h⟩ := T
  have g : PE X (.Name x p) (tC (.ref a)) := pe_glob hg hm rfl hd
  refine ⟨fun pins s σ H Q I q => ?_⟩
  refine Subscript_ ?_
  refine thn (g.run pins s σ H (fun v H1 => v = .ref a ∧ te σ H1 fun y H2 => ∃ (z : Str) (q : Str × D), y = .str z ∧ tb.find? (fun q => decide (q.1 = z)) = some q ∧ ∀ v, (∀ I, Rp X.K I v q.2) → Q v H2) I ⟨rfl, q⟩) fun v s1 ⟨x1, H1, I1, r1, e1, q1⟩ => ?_
  subst e1
  refine thn (he.run pins s1 σ H1 _ I1 q1) fun u s2 ⟨y, H2, I2, r2, z, d, e2, hf, q2⟩ => ?_
  subst e2
  have hz : d.1 = z := of_decide_eq_true (List.find?_some (p := fun q : Str × D => decide (q.1 = z)) hf)
  obtain ⟨v0, hk, hr⟩ := h d (List.mem_of_find?_eq_some hf)
  exact ix_kdict _ e pins s2 σ H2 (.ref a) (.str z) v u Q I2 r1 r2 ⟨a, z, v0, rfl, rfl, hz ▸ hk, q2 v0 hr⟩ (hs _ _)
def dCD (tb : List (Str × D)) (t : T2E) : T2E := fun env Q => t env fun d => match d with | .str z => (match tb.find? (fun q => decide (q.1 = z)) with | some q => Q q.2 | none => False) | _ => False
theorem se_cd {tb : List (Str × D)} {te : TE} {t : T2E} (ha : SE K te t) : SE K (tCD K tb te) (dCD tb t) := by
  intro p env σ I H Q2 Q r q k
  refine ha p env σ I H _ _ r q fun d v I1 H1 q1 s1 h1 => ?_
  split at q1
  · cases h1
    split at q1
    · rename_i q e
      exact ⟨_, q, rfl, e, fun v hv => k _ _ I1 H1 q1 s1 (hv I1)⟩
    · exact q1.elim
  · exact q1.elim
/-! ### f-strings -/
def dFmt (t : T2E) : T2E := fun env Q => t env fun d => match d with | .str z => z.length ≤ 1000000 ∧ Q (.str z) | .int i => i.natAbs.log2 < 1920 ∧ Q (.str (toString i : Str)) | _ => False
theorem se_fmt {te : TE} {t : T2E} (ha : SE K te t) : SE K (tFmt te) (dFmt t) := by
  intro p env σ I H Q2 Q r q k
  refine ha p env σ I H _ _ r q fun d v I1 H1 q1 s1 h1 => ?_
  split at q1
  · cases h1
    exact .inl ⟨_, rfl, le_line q1.1, k _ _ I1 H1 q1.2 s1 (.str _)⟩
  · cases h1
    exact .inr ⟨_, rfl, q1.1, k _ _ I1 H1 q1.2 s1 (.str _)⟩
  · exact q1.elim
inductive SEs (K : Fg) : List TE → List T2E → Prop
  | nil : SEs K [] []
  | cons {te : TE} {t : T2E} {ts : List TE} {us : List T2E} : SE K te t → SEs K ts us → SEs K (te :: ts) (t :: us)
def dJs : List T2E → Str → T2E
  | [], acc, _, Q => Q (.str acc)
  | t :: ts, acc, env, Q => t env fun d => match d with | .str y => (acc ++ y).length ≤ 1000000 ∧ dJs ts (acc ++ y) env Q | _ => False
theorem se_js : ∀ {ts : List TE} {us : List T2E}, SEs K ts us → ∀ acc : Str, SE K (fun σ H Q => tJs ts acc σ H fun out H1 => Q (.str out) H1) (dJs us acc)
  | _, _, .nil, acc => fun p env σ I H Q2 Q r q k => k _ _ I H q (.refl r.same) (.str _)
  | _, _, .cons ha hs, acc => fun p env σ I H Q2 Q r q k => by
    refine ha p env σ I H _ _ r q fun d v I1 H1 q1 s1 h1 => ?_
    split at q1
    · cases h1
      refine ⟨_, rfl, le_line q1.1, se_js hs _ p env σ I1 H1 _ _ (r.stp s1) q1.2 fun d v I2 H2 q2 s2 h2 => k d v I2 H2 q2 (s1.trans s2) h2⟩
    · exact q1.elim
/-! ### join, index, int of a text -/
def strsOf : List D → Option (List Str)
  | [] => some []
  | .str z :: ds => (strsOf ds).map (z :: ·)
  | _ :: _ => none
theorem strsOf_vs {I : Hp} : ∀ {ds : List D} {vs : List V} {ys : List Str}, Rps K I vs ds → strsOf ds = some ys → vs = ys.map V.str
  | [], _, ys, .nil, h => by cases h; rfl
  | d :: ds, _, ys, .cons h1 h2, h => by
    cases d <;> first | cases h | skip
    cases h1
    unfold strsOf at h
    obtain ⟨zs, e1, e2⟩ := Option.map_eq_some_iff.mp h
    subst e2
    rw [strsOf_vs h2 e1]
    rfl
/-- a text's method with one argument -/
def SimM (K : Fg) (r : V → List V → Hp → VK → Prop) (r2 : Str → D → (D → Prop) → Prop) : Prop := ∀ (I H : Hp) (z : Str) (y : V) (dy : D) (Q2 : D → Prop) (Q : VK), Same I H → Rp K I y dy → r2 z dy Q2 →
  (∀ d v, Q2 d → Rp K I v d → Q v H) → r (.str z) [y] H Q
def dTM (r2 : Str → D → (D → Prop) → Prop) (a b : T2E) : T2E := fun env Q => a env fun x => match x with | .str z => b env fun y => r2 z y Q | _ => False
theorem se_tm {r : V → List V → Hp → VK → Prop} {r2 : Str → D → (D → Prop) → Prop} {ta tb : TE} {a b : T2E} (h : SimM K r r2) (ha : SE K ta a) (hb : SE K tb b) : SE K (tM1 r ta tb) (dTM r2 a b) := by
  intro p env σ I H Q2 Q rl q k
  refine ha p env σ I H _ _ rl q fun d v I1 H1 q1 s1 h1 => ?_
  cases d <;> first | exact q1.elim | skip
  cases h1
  refine ⟨⟨_, rfl⟩, hb p env σ I1 H1 _ _ (rl.stp s1) q1 fun e w I3 H3 q3 s3 h3 => ?_⟩
  exact h I3 H3 _ w e Q2 Q s3.ih h3 q3 fun d' v' q' r' => k d' v' I3 H3 q' (s1.trans s3) r'
def dJoin : Str → D → (D → Prop) → Prop := fun z y Q => match y with
  | .list ds => (match strsOf ds with | some ys => (ys.map (·.length)).sum + ys.length * z.length ≤ 1000000 ∧ Q (.str (Str.join z ys)) | none => False)
  | _ => False
abbrev rJoin (K : Fg) : V → List V → Hp → VK → Prop := fun x xs H Q => ∃ a p, ∃ ys : List Str, x = .str a ∧ xs = [.ref p] ∧ (SqL K H p (ys.map V.str) ∨ SqT K H p (ys.map V.str)) ∧
      (ys.map (·.length)).sum + ys.length * a.length ≤ 16777216 ∧ Q (.str (Txt.join a ys)) H
theorem sm_join : SimM K (rJoin K) dJoin := by
  intro I H z y dy Q2 Q e h q k
  unfold dJoin at q
  split at q
  · split at q
    · rename_i ys hy
      cases h with
      | lst h1 h2 =>
        rename_i a vs
        have := strsOf_vs h2 hy
        subst this
        refine ⟨z, a, ys, rfl, rfl, .inl (SqL.of (e _ _ h1)), by omega, ?_⟩
        rw [TL.join_eq]
        exact k _ _ q.2 (.str _)
    · exact q.elim
  · exact q.elim
def dIdxT : Str → D → (D → Prop) → Prop := fun z y Q => match y with
  | .str c => (match Builtin.Str.occurrences z c 0 z.length 1 with | i :: _ => Q (.int (i : Nat)) | [] => False)
  | _ => False
abbrev rIdxT : V → List V → Hp → VK → Prop := fun x xs H Q => ∃ a b i rest, x = .str a ∧ xs = [.str b] ∧ Builtin.Str.occurrences a b 0 a.length 1 = i :: rest ∧ Q (.int (i : Nat)) H
theorem sm_idxT : SimM K rIdxT dIdxT := by
  intro I H z y dy Q2 Q e h q k
  unfold dIdxT at q
  split at q
  · cases h
    split at q
    · rename_i i rest hi
      exact ⟨z, _, i, rest, rfl, rfl, hi, k _ _ q (.int _)⟩
    · exact q.elim
  · exact q.elim
def dIntS : RCD := fun ds Q => match ds with | [.str z] => (match PySem.intText? z with | some n => z.length ≤ 640 ∧ Q (.int n) | none => False) | ds => dIntOf ds Q
theorem call_intS {X : Cx} : CallR X (.type "int") (fun xs H Q => ((∃ i, xs = [.int i] ∧ Q (.int i) H) ∨ ∃ k, xs = [.bl k] ∧ Q (.int (if k then 1 else 0)) H) ∨ ∃ a n, xs = [.str a] ∧ PySem.intText? a = some n ∧ a.length ≤ 640 ∧ Q (.int n) H) := CallR.or call_int1 call_int_str
theorem sc_intS : SimC K (fun xs H Q => ((∃ i, xs = [.int i] ∧ Q (.int i) H) ∨ ∃ k, xs = [.bl k] ∧ Q (.int (if k then 1 else 0)) H) ∨ ∃ a n, xs = [.str a] ∧ PySem.intText? a = some n ∧ a.length ≤ 640 ∧ Q (.int n) H) dIntS := by
  intro I H vs ds Q2 Q e h q k
  unfold dIntS at q
  split at q
  · obtain ⟨v, rfl, h1⟩ := h.one
    cases h1
    split at q
    · rename_i n hn
      exact .inr ⟨_, n, rfl, hn, q.1, k _ _ I H q.2 (.refl e) (.int _)⟩
    · exact q.elim
  · exact .inl (sc_int I H vs _ Q2 Q e h q k)
/-! ### x += a text -/
abbrev ipS : TIp := fun x y H Q => (ipI fun a b => a + b) x y H Q ∨ ∃ i j, x = .str i ∧ y = .str j ∧ i.length + j.length ≤ sizeLine ∧ Q (.str (i ++ j)) H
theorem ip_addS : PIp X .Add ipS := by
  intro pins s σ H x y v u Q I r1 r2 h
  rcases h with h | h
  · exact ip_add pins s σ H x y v u Q I r1 r2 h
  · exact iop_add_str pins s σ H x y v u Q I r1 r2 h
def dAugS (i : Nat) (t : T2E) : T2S := fun E env => match env[i]? with
  | some (some (.dat (.int a))) => t env fun d => (match d with | .int b => E.nx (env.set i (some (.dat (.int (a + b))))) | _ => False)
  | some (some (.dat (.str a))) => t env fun d => (match d with | .str b => a.length + b.length ≤ 1000000 ∧ E.nx (env.set i (some (.dat (.str (a ++ b))))) | _ => False)
  | _ => False
theorem ss_augS {te : TE} {t2 : T2E} (i : Nat) (h : SE K te t2) : SS K (tAug i te ipS) (dAugS i t2) := by
  intro p env σ I H D2 E r q e
  unfold dAugS at q
  split at q
  · rename_i a e2
    obtain ⟨v, hv, r0⟩ := r.r.sl i _ e2
    have r0 : Rp K I v (.int a) := r0
    cases r0
    refine ⟨_, hv, h p env σ I H _ _ r q fun d v I1 H1 q1 s1 r1 => ?_⟩
    split at q1
    · cases r1
      exact .inl ⟨_, _, rfl, rfl, e.nx _ _ _ _ q1 ((r.stp s1).setDat (.int _) i)⟩
    · exact q1.elim
  · rename_i a e2
    obtain ⟨v, hv, r0⟩ := r.r.sl i _ e2
    have r0 : Rp K I v (.str a) := r0
    cases r0
    refine ⟨_, hv, h p env σ I H _ _ r q fun d v I1 H1 q1 s1 r1 => ?_⟩
    split at q1
    · cases r1
      exact .inr ⟨_, _, rfl, rfl, le_line q1.1, e.nx _ _ _ _ q1.2 ((r.stp s1).setDat (.str _) i)⟩
    · exact q1.elim
  · exact q.elim
/-! ### the table's entries, as they lie in the written part -/
def KVs (K : Fg) (us : List Value) (ds : List D) : Prop := ∃ xs, Vals xs us ∧ ∀ I, Rps K I xs ds
theorem kv_nil : KVs K [] [] := ⟨[], .nil, fun _ => .nil⟩
theorem kv_str {x : Str} {t : Tok} {us : List Value} {ds : List D} (h : KVs K us ds) : KVs K (.str x t :: us) (.str x :: ds) := by
  obtain ⟨xs, h1, h2⟩ := h
  exact ⟨.str x :: xs, .cons ⟨t, rfl⟩ h1, fun I => .cons (.str x) (h2 I)⟩
theorem kv_ref {b : Addr} {d : D} {us : List Value} {ds : List D} (hb : ∀ I, Rp K I (.ref b) d) (h : KVs K us ds) : KVs K (.ref b :: us) (d :: ds) := by
  obtain ⟨xs, h1, h2⟩ := h
  exact ⟨.ref b :: xs, .cons rfl h1, fun I => .cons (hb I) (h2 I)⟩
theorem rp_ktup {b : Addr} {od : Option Addr} {us : List Value} {n : Nat} {sl : Array (Option Value)} {ds : List D} (h : K.lookup b = some ⟨.type "tuple", od, .seq us.toArray n, sl⟩) (hz : us.length ≤ 1000) (hv : KVs K us ds) : ∀ I, Rp K I (.ref b) (.tuple ds) := fun I => by
  obtain ⟨xs, h1, h2⟩ := hv
  exact .tup (.inr ⟨_, _, _, h, rfl, rfl, by rw [List.size_toArray]; exact Nat.le_trans hz (by decide), h1⟩) (h2 I)
def TabL (K : Fg) (a : Addr) (tb : List (Str × D)) : Prop := ∀ q ∈ tb, ∃ b, PySem.W.nsIn K a q.1 = some (some (.ref b)) ∧ ∀ I, Rp K I (.ref b) q.2
theorem tabL_nil {a : Addr} : TabL K a [] := fun q h => nomatch h
theorem tabL_cons {a b : Addr} {x : Str} {d : D} {tb : List (Str × D)} (h : PySem.W.nsIn K a x = some (some (.ref b))) (hd : ∀ I, Rp K I (.ref b) d) (t : TabL K a tb) : TabL K a ((x, d) :: tb) := fun q hq => by
  rcases List.mem_cons.mp hq with rfl | hq
  · exact ⟨b, h, hd⟩
  · exact t q hq
theorem tab_mk {w : World} {mg : Str → Option Value} {x : Str} {a : Addr} {es : Array DictEntry} {n : Nat} {tb : List (Str × D)} (hm : mg x = some (.ref a)) (hl : K.lookup a = some ⟨.type "dict", none, .dict es n, #[]⟩) (hk : PySem.W.KeysLit w.params es.toList) (t : TabL K a tb) : Tab K w mg x tb :=
  ⟨a, hm, fun q hq => by
    obtain ⟨b, h1, h2⟩ := t q hq
    exact ⟨.ref b, ⟨es, n, _, hl, hk, h1, rfl⟩, h2⟩⟩
end
end Z2
namespace Z2
open PySem PySem.Spec PyProof.Rows L2
/-! ### list(enumerate(t)), t a tuple -/
section
variable {prog : Program} {w : World} {A : Around} {E : Value → Shared → Prop} {s : Shared}
/-- an enumerate that stands at i: its last pair let go, or still out -/
def EnSt (h : Heap) (en sr S : Addr) (i : Int) : Prop := (∃ old, IsEnum h en sr i old) ∨ ∃ old T f oT, IsEnumHeld h en sr i old T f ∧ h.get? T = some oT ∧ T ≠ en ∧ T ≠ sr ∧ T ≠ S
theorem en_no_len : typeLookup (.type "enumerate") "__len__" = pure none := am_miss_of_fast (by decide +kernel)
theorem en_no_hint : typeLookup (.type "enumerate") "__length_hint__" = pure none := am_miss_of_fast (by decide +kernel)
theorem heldItem {en sr T : Addr} {fp : List Addr} {n i : Nat} {Pv : Nat → Value → Prop} {St : Nat → Heap → Prop} {old : Value} {f : Bool} {oT : Obj} {Q : Value → Shared → Prop} (D : Draws prog w A sr fp n Pv St) (he : IsEnumHeld s.heap en sr i old T f) (hT : s.heap.get? T = some oT) (hTe : T ≠ en) (hTi : T ≠ sr)
    (hst : St i s.heap) (hlt : i < n) (hne : en ≠ sr) (hef : en ∉ fp)
    (hQ : ∀ x h' tk, Pv i x → IsEnumHeld h' en sr ((i : Int) + 1) old T true → St (i + 1) h' → h'.get? s.heap.objs.size = some { cls := .type "tuple", data := .seq #[.int i tk, x] } → h'.objs.size = s.heap.objs.size + 1 →
      (∀ b o, b ≠ en → b ≠ sr → s.heap.get? b = some o → h'.get? b = some o) → Q (.ref s.heap.objs.size) { s with heap := h', toks := tk + 1 }) :
    wpAny (model prog w) A (Builtin.«enumerate.__next__» ⟨[.ref en], []⟩) (fun fin s' => ∃ v, fin = .done (.ret v) ∧ Q v s') E s := by
  obtain ⟨hp, gs, dr, tk0, os⟩ := s
  show wpAny _ _ (field (.ref en) 2 >>= _) _ _ _
  refine wpAny_bind (wpAny_field he rfl (x := .ref sr) rfl (wpAny_bind (D.item i _ _ _ hlt hst fun x g1 tk hP hit1 b1 => ?_)))
  replace b1 : Heap.SameBut sr hp g1 := b1
  have e1 : IsEnumHeld g1 en sr i old T f := (b1.2 en hne).trans he
  show wpAny _ _ (field (.ref en) 3 >>= _) _ _ ⟨g1, gs, dr, tk, os⟩
  refine wpAny_bind (wpAny_field e1 rfl (x := rawInt i) rfl ?_)
  show wpAny _ _ (field (.ref en) 4 >>= _) _ _ ⟨g1, gs, dr, tk, os⟩
  refine wpAny_bind (wpAny_field e1 rfl (x := .none) rfl ?_)
  show wpAny _ _ (mkInt i >>= _) _ _ ⟨g1, gs, dr, tk, os⟩
  refine wpAny_bind (wpAny_mkInt ?_)
  show wpAny _ _ (setField (.ref en) 3 (rawInt ((i : Int) + 1)) >>= _) _ _ ⟨g1, gs, dr, tk + 1, os⟩
  refine wpAny_bind (wpAny_setField_rec e1 (by simp) fun g2 e2 b2 => ?_)
  replace b2 : Heap.SameBut en g1 g2 := b2
  replace e2 : IsEnumHeld g2 en sr ((i : Int) + 1) old T f := e2
  show wpAny _ _ (setField (.ref en) 4 .none >>= _) _ _ ⟨g2, gs, dr, tk + 1, os⟩
  refine wpAny_bind (wpAny_setField_rec e2 (by simp) fun g3 e3 b3 => ?_)
  replace b3 : Heap.SameBut en g2 g3 := b3
  replace e3 : IsEnumHeld g3 en sr ((i : Int) + 1) old T f := e3
  show wpAny _ _ (newTuple [.int i tk, x] >>= _) _ _ ⟨g3, gs, dr, tk + 1, os⟩
  refine wpAny_bind (wpAny_newTuple ?_)
  have e4 : IsEnumHeld (g3.push { cls := .type "tuple", data := .seq #[.int i tk, x] }) en sr ((i : Int) + 1) old T f := Heap.get?_push_of_some _ e3
  generalize hg4 : g3.push { cls := .type "tuple", data := .seq #[.int i tk, x] } = g4 at e4
  have z3 : g3.objs.size = hp.objs.size := by rw [b3.1, b2.1, b1.1]
  have el : en < hp.objs.size := Heap.lt_size he
  have t4 : g4.get? hp.objs.size = some { cls := .type "tuple", data := .seq #[.int i tk, x] } := by rw [← hg4, ← z3]; exact Heap.get?_push_size _ rfl
  have z4 : g4.objs.size = hp.objs.size + 1 := by rw [← hg4, Heap.size_push, z3]
  have k4 : ∀ b o, b ≠ en → b ≠ sr → hp.get? b = some o → g4.get? b = some o := fun b o c1 c2 y => by
    rw [← hg4]; exact Heap.get?_push_of_some _ (b3.extBut b o c1 (b2.extBut b o c1 (b1.extBut b o c2 y)))
  have st4 : St (i + 1) g4 := D.frame _ _ _ hit1 fun b hb o y => by
    have c1 : b ≠ en := fun q => hef (q ▸ hb)
    rw [← hg4]; exact Heap.get?_push_of_some _ (b3.extBut b o c1 (b2.extBut b o c1 y))
  show wpAny _ _ (Builtin.SmallTypes.ownedTupleIsFree (.ref en) >>= _) _ _ ⟨g4, gs, dr, tk + 1, os⟩
  rw [z3]
  refine wpAny_bind (wpAny_tupleHeld_enum (s := ⟨g4, gs, dr, tk + 1, os⟩) e4 (k4 T oT hTe hTi hT) fun g5 e5 b5 => ?_)
  replace b5 : Heap.SameBut en g4 g5 := b5
  simp only [Bool.false_eq_true, if_false]
  refine wpAny_pure ⟨_, rfl, hQ x g5 tk hP e5 (D.frame _ _ _ st4 fun b hb o y => b5.extBut b o (fun q => hef (q ▸ hb)) y) (b5.extBut _ _ (Nat.ne_of_gt el) t4) ?_ fun b o c1 c2 y => b5.extBut b o c1 (k4 b o c1 c2 y)⟩
  show g5.objs.size = hp.objs.size + 1
  rw [b5.1, z4]
theorem enItem {en sr S : Addr} {fp : List Addr} {n i : Nat} {Pv : Nat → Value → Prop} {St : Nat → Heap → Prop} {Q : Option Value → Shared → Prop} (D : Draws prog w A.in1 sr fp n Pv St) (he : EnSt s.heap en sr S i) (hS : S < s.heap.objs.size)
    (hst : St i s.heap) (hlt : i < n) (hne : en ≠ sr) (hef : en ∉ fp) (hsl : sr < s.heap.objs.size)
    (hQ : ∀ x h' tk, Pv i x → EnSt h' en sr S ((i : Int) + 1) → St (i + 1) h' → h'.get? s.heap.objs.size = some { cls := .type "tuple", data := .seq #[.int i tk, x] } → h'.objs.size = s.heap.objs.size + 1 →
      (∀ b o, b ≠ en → b ≠ sr → s.heap.get? b = some o → h'.get? b = some o) → Q (some (.ref s.heap.objs.size)) { s with heap := h', toks := tk + 1 }) : wpAny (model prog w) A (pyNext (.ref en)) Q E s := by
  rcases he with ⟨old, he⟩ | ⟨old, T, f, oT, he, hT, t1, t2, t3⟩
  · have el : en < s.heap.objs.size := Heap.lt_size he
    exact wpAny_pyNext_enum_itemD D he hst hlt hne hef fun x h' tk a b c d k => hQ x h' tk a (.inr ⟨_, _, false, _, b, d, Nat.ne_of_gt el, Nat.ne_of_gt hsl, Nat.ne_of_gt hS⟩) c d k
  · have ty : s.TypeIs (.ref en) "enumerate" := ⟨_, he, rfl⟩
    unfold pyNext
    exact wpAny_bind (wpAny_attempt (wpAny_callSpecial?_slot (name := Str.ofString "__next__") ty F.slot_enumerate_next (wpAny_call_entry F.slot_enumerate_next ty F.entry_enumerate_next
      (heldItem D he hT t1 t2 hst hlt hne hef fun x h' tk a b c d k q => wpAny_pure (hQ x h' tk a (.inr ⟨_, _, true, _, b, q T oT t1 t2 hT, t1, t2, t3⟩) c d k q)) (F.args_enumerate_next_1 _))))
theorem enDone {en sr S : Addr} {fp : List Addr} {n : Nat} {Pv : Nat → Value → Prop} {St : Nat → Heap → Prop} {i : Int} {Q : Option Value → Shared → Prop} (D : Draws prog w A.in1 sr fp n Pv St) (he : EnSt s.heap en sr S i) (hst : St n s.heap)
    (hQ : ∀ h', Heap.ExtBut sr s.heap h' → Q none { s with heap := h' }) : wpAny (model prog w) A (pyNext (.ref en)) Q E s := by
  rcases he with ⟨old, he⟩ | ⟨old, T, f, oT, he, hT, t1, t2, t3⟩
  · exact wpAny_pyNext_enum_endD D he hst hQ
  · have ty : s.TypeIs (.ref en) "enumerate" := ⟨_, he, rfl⟩
    unfold pyNext
    refine wpAny_bind (wpAny_attempt (wpAny_callSpecial?_slot (name := Str.ofString "__next__") ty F.slot_enumerate_next (wpAny_call_entry F.slot_enumerate_next ty F.entry_enumerate_next ?_ (F.args_enumerate_next_1 _))))
    show wpAny _ _ (field (.ref en) 2 >>= _) _ _ _
    refine wpAny_bind (wpAny_field he rfl (x := .ref sr) rfl (wpAny_bind (D.done _ _ _ hst fun h' ex k hx => ?_)))
    obtain ⟨o, ho, hc⟩ := hx
    refine wpAny_bind (wpAny_isInstance (T := "StopIteration") (b := true) ⟨o, ho, hc⟩ isSubtype_stop (wpAny_pure (hQ _ k)))
theorem enLoop {S en sr t : Addr} (hh : A.handled = none) (hes : en < S) (hrs : sr < S) (hts : t < S) (hne : en ≠ sr) (hte : t ≠ en) (htr : t ≠ sr) {its : Array Value} (hn : its.size ≤ sizeLine) (res : Value) {vs : List (Key × Value)} (hl : vs.length = its.size) (hvs : ∀ (j : Nat) (x : Value), its[j]? = some x → vs[j]? = some (Sum.inl (j : Int), x)) {R : Result → Shared → Prop} {h0 : Heap}
    (hR : ∀ h' tk acc c as, (∀ b o, b ≠ S → b ≠ en → b ≠ sr → h0.get? b = some o → h'.get? b = some o) → h'.get? S = some { cls := .type "list", dict := none, data := .seq acc c, slots := #[] } → as.length = vs.length → PySem.W.KdxG (mixKind prog w) vs S h' as → acc.toList = as.map Value.ref → R (.ok (.ret res)) { s with heap := h', toks := tk }) :
    ∀ (m i : Nat) (h : Heap) (tk c : Nat) (acc : Array Value) (as : List Addr), its.size - i = m → i ≤ its.size → EnSt h en sr S i → (h.IsTupleIter sr t i ∧ h.IsTuple t its) → (∀ b o, b ≠ S → b ≠ en → b ≠ sr → h0.get? b = some o → h.get? b = some o) →
      h.get? S = some { cls := .type "list", dict := none, data := .seq acc c, slots := #[] } → acc.toList = as.map Value.ref → as.length = i → PySem.W.KdxG (mixKind prog w) vs S h as →
      codeAny (model prog w) A (.builtin "list.extend.loop" ⟨[.ref S, .ref en, res], []⟩) R { s with heap := h, toks := tk } := by
  intro m
  have D := Draws.tuple (prog := prog) (w := w) (A := A.in1.in1) hh sr t htr its
  have nfp : en ∉ [sr, t] := by simp only [List.mem_cons, List.not_mem_nil, or_false, not_or]; exact ⟨hne, Ne.symm hte⟩
  induction m with
  | zero =>
    intro i h tk c acc as hm hi hst hD keep hS ac hal gg
    have hin : i = its.size := by omega
    subst hin
    refine codeAny_builtin PySem.F.entry_extend_loop ?_; rw [Around.under_plainId PySem.F.plain_extend_loop _]
    show wpAny _ A.in1 (pyNext (.ref en) >>= _) _ _ _
    refine wpAny_bind (enDone (s := { s with heap := h, toks := tk }) D hst hD fun h' he => ?_)
    refine wpAny_pure (hR h' tk acc c as (fun b o c1 c2 c3 y => he b o c3 (keep b o c1 c2 c3 y)) (he S _ (Ne.symm (Nat.ne_of_lt hrs)) hS) (by omega) ⟨gg.rise, gg.above, fun j a hj => ?_⟩ ac)
    obtain ⟨key, kk, x, f1, f2, f3⟩ := gg.pairs j a hj
    have ab := gg.above a (List.mem_of_getElem? hj)
    exact ⟨key, kk, x, f1, f2, he a _ (Nat.ne_of_gt (Nat.lt_trans hrs ab)) f3⟩
  | succ m ih =>
    intro i h tk c acc as hm hi hst hD keep hS ac hal gg
    have hlt : i < its.size := by omega
    have hsz : acc.size = i := by rw [← Array.length_toList, ac, List.length_map, hal]
    have Sl : S < h.objs.size := Heap.lt_size hS
    refine codeAny_builtin PySem.F.entry_extend_loop ?_; rw [Around.under_plainId PySem.F.plain_extend_loop _]
    show wpAny _ A.in1 (pyNext (.ref en) >>= _) _ _ _
    refine wpAny_bind (enItem (s := { s with heap := h, toks := tk }) D hst Sl hD hlt hne nfp (Nat.lt_trans hrs Sl) fun x h' tk' hx hst' hD' ht hz hkp => ?_)
    dsimp only at ht hz hkp ⊢
    have hS' := hkp S _ (Ne.symm (Nat.ne_of_lt hes)) (Ne.symm (Nat.ne_of_lt hrs)) hS
    have up : ∀ b o, b ≠ S → h'.get? b = some o → (h'.update S (Obj.mapSeq (·.push (Value.ref h.objs.size)))).get? b = some o := fun b o hb y => (Heap.get?_update_other _ _ (Ne.symm hb)).trans y
    have hst2 : EnSt (h'.update S (Obj.mapSeq (·.push (Value.ref h.objs.size)))) en sr S ((i + 1 : Nat) : Int) := by
      rw [show ((i + 1 : Nat) : Int) = (i : Int) + 1 by omega]
      rcases hst' with ⟨old, g⟩ | ⟨old, T, f, oT, g, gT, t1, t2, t3⟩
      · exact .inl ⟨old, up _ _ (Nat.ne_of_lt hes) g⟩
      · exact .inr ⟨old, T, f, oT, up _ _ (Nat.ne_of_lt hes) g, up _ _ t3 gT, t1, t2, t3⟩
    show wpAny _ A.in1 (updateSeq S (·.push (Value.ref h.objs.size)) >>= _) _ _ _; refine wpAny_bind ?_
    refine wpAny_updateSeq hS' rfl (wpAny_pure ⟨plainId_quiet PySem.F.plain_extend_loop _, ih (i + 1) _ (tk' + 1) _ (acc.push (Value.ref h.objs.size)) (as ++ [h.objs.size]) (by omega) hlt hst2 ⟨hD'.1.at fun o y => up _ o (Nat.ne_of_lt hrs) y, hD'.2.at fun o y => up _ o (Nat.ne_of_lt hts) y⟩
      (fun b o c1 c2 c3 y => up b o c1 (hkp b o c2 c3 (keep b o c1 c2 c3 y))) (Heap.get?_update_self _ hS' rfl) (by rw [Array.toList_push, ac, List.map_append]; rfl) (by rw [List.length_append, hal]; rfl) ⟨?_, ?_, ?_⟩⟩) (by rw [hsz]; omega) (by show (acc.push (Value.ref h.objs.size)).size ≤ sizeLine + 1; rw [Array.size_push]; omega)
    · refine List.pairwise_append.mpr ⟨gg.rise, List.pairwise_singleton _ _, fun a ha b hb => ?_⟩
      rw [List.mem_singleton.mp hb]; exact gg.there ha
    · intro a ha
      rcases List.mem_append.mp ha with ha | ha
      · exact gg.above a ha
      · rw [List.mem_singleton.mp ha]; exact Sl
    · intro j b hj
      rcases Nat.lt_trichotomy j as.length with c1 | c1 | c1
      · rw [List.getElem?_append_left c1] at hj
        obtain ⟨key', k', x', f1, f2, f3⟩ := gg.pairs j b hj
        have ab := gg.above b (List.mem_of_getElem? hj)
        exact ⟨key', k', x', f1, f2, up b _ (Nat.ne_of_gt ab) (hkp b _ (Nat.ne_of_gt (Nat.lt_trans hes ab)) (Nat.ne_of_gt (Nat.lt_trans hrs ab)) f3)⟩
      · subst c1
        have hb : h.objs.size = b := (by simpa using hj)
        subst hb
        exact ⟨.int i tk', Sum.inl (i : Int), x, by rw [hal]; exact hvs i x hx, by show L2.keyIs (Sum.inl (i : Int)) (.int i tk') = true; unfold L2.keyIs; simp [Value.isInt], up _ _ (Nat.ne_of_gt Sl) ht⟩
      · have none' : (as ++ [h.objs.size])[j]? = none := List.getElem?_eq_none (by rw [List.length_append, List.length_singleton]; omega)
        rw [none'] at hj; cases hj
theorem enHint {en : Addr} (ty : s.TypeIs (.ref en) "enumerate") {Q : Bool → Shared → Prop} (h : Q true s) : wpAny (model prog w) A (Builtin.List.listLengthHint (.ref en)) Q E s := by
  unfold Builtin.List.listLengthHint
  refine wpAny_bind (wpAny_specialOf ty en_no_len ?_)
  show wpAny _ _ (specialOf (Value.ref en) (Str.ofString "__length_hint__") >>= _) _ _ _
  exact wpAny_bind (wpAny_specialOf ty en_no_hint (wpAny_pure h))
theorem enExtend {S en sr t : Addr} (hh : A.handled = none) (hes : en < S) (hrs : sr < S) (hts : t < S) (hne : en ≠ sr) (hte : t ≠ en) (htr : t ≠ sr) {its : Array Value} (hn : its.size ≤ sizeLine) (res : Value) {vs : List (Key × Value)} (hl : vs.length = its.size) (hvs : ∀ (j : Nat) (x : Value), its[j]? = some x → vs[j]? = some (Sum.inl (j : Int), x)) {R : Result → Shared → Prop} {c0 : Nat}
    (he : IsEnum s.heap en sr 0 .none) (hit : s.heap.IsTupleIter sr t 0) (ht : s.heap.IsTuple t its) (hS : s.heap.get? S = some { cls := .type "list", data := .seq #[] c0 })
    (hR : ∀ h' tk acc c as, (∀ b o, b ≠ S → b ≠ en → b ≠ sr → s.heap.get? b = some o → h'.get? b = some o) → h'.get? S = some { cls := .type "list", dict := none, data := .seq acc c, slots := #[] } → as.length = vs.length → PySem.W.KdxG (mixKind prog w) vs S h' as → acc.toList = as.map Value.ref → R (.ok (.ret res)) { s with heap := h', toks := tk }) :
    wpAny (model prog w) A.in1 (Builtin.List.listExtendWith (.ref S) (.ref en) res)
      (fun fin s' => match fin with | .done f => R (.ok f) s' | .again c' => c'.quiet = true ∧ codeAny (model prog w) A c' R s') (fun e s' => R (.error e) s') s := by
  have key : ∀ (h : Heap) (c1 : Nat), (∀ b o, b ≠ S → s.heap.get? b = some o → h.get? b = some o) → h.get? S = some { cls := .type "list", data := .seq #[] c1 } → codeAny (model prog w) A (.builtin "list.extend.loop" ⟨[.ref S, .ref en, res], []⟩) R { s with heap := h } := fun h c1 hk gS =>
    enLoop (s := s) (h0 := s.heap) hh hes hrs hts hne hte htr hn res hl hvs hR its.size 0 h s.toks c1 #[] [] (Nat.sub_zero _) (Nat.zero_le _) (.inl ⟨.none, hk _ _ (Nat.ne_of_lt hes) he⟩)
      ⟨hit.at fun o y => hk _ o (Nat.ne_of_lt hrs) y, ht.at fun o y => hk _ o (Nat.ne_of_lt hts) y⟩ (fun b o z _ _ y => hk b o z y) gS rfl rfl ⟨List.Pairwise.nil, fun _ ha => (nomatch ha), fun j a hj => by simp at hj⟩
  have ty : s.TypeIs (.ref en) "enumerate" := ⟨_, he, rfl⟩
  unfold Builtin.List.listExtendWith
  refine wpAny_bind (wpAny_typeOf ty ?_)
  have same : Builtin.List.listSameRef (.ref S) (.ref en) = false := by simp [Builtin.List.listSameRef, Nat.ne_of_gt hes]
  have nl : (Value.type "enumerate" == Value.type "list") = false := by decide
  have nt : (Value.type "enumerate" == Value.type "tuple") = false := by decide
  simp only [same, nl, nt, Bool.or_false, Bool.false_eq_true, if_false]
  refine wpAny_bind (wpAny_pyIter_enum he (wpAny_bind (wpAny_holding (enHint ty ?_))))
  refine wpAny_ite_split (fun _ => ?_) (fun _ => wpAny_pure ⟨plainId_quiet PySem.F.plain_extend_loop _, key _ c0 (fun b o _ y => y) hS⟩)
  refine wpAny_bind (wpAny_rule (wpAny_bind ?_))
  show wpAny _ _ (updateSeq S (·.push .none) >>= fun _ => updateSeq S (·.pop)) _ _ _
  refine wpAny_bind (wpAny_updateSeq hS rfl ?_)
  have g2 := Heap.get?_update_self (Obj.mapSeq (·.push Value.none)) hS rfl
  refine wpAny_updateSeq (hz := by seq_fits) g2 rfl ?_
  have g3 := Heap.get?_update_self (Obj.mapSeq (·.pop)) g2 rfl
  exact wpAny_pure ⟨plainId_quiet PySem.F.plain_extend_loop _, key _ _ (fun b o z y => (Heap.get?_update_other _ _ (Ne.symm z)).trans ((Heap.get?_update_other _ _ (Ne.symm z)).trans y)) g3⟩
theorem enInit {S en sr t : Addr} (hh : A.handled = none) (hes : en < S) (hrs : sr < S) (hts : t < S) (hne : en ≠ sr) (hte : t ≠ en) (htr : t ≠ sr) {its : Array Value} (hn : its.size ≤ sizeLine) {vs : List (Key × Value)} (hl : vs.length = its.size) (hvs : ∀ (j : Nat) (x : Value), its[j]? = some x → vs[j]? = some (Sum.inl (j : Int), x)) {R : Result → Shared → Prop}
    (he : IsEnum s.heap en sr 0 .none) (hit : s.heap.IsTupleIter sr t 0) (ht : s.heap.IsTuple t its) (hS : s.heap.get? S = some { cls := .type "list", data := .seq #[] })
    (hR : ∀ h' tk acc c as, (∀ b o, b ≠ S → b ≠ en → b ≠ sr → s.heap.get? b = some o → h'.get? b = some o) → h'.get? S = some { cls := .type "list", dict := none, data := .seq acc c, slots := #[] } → as.length = vs.length → PySem.W.KdxG (mixKind prog w) vs S h' as → acc.toList = as.map Value.ref → R (.ok (.ret .none)) { s with heap := h', toks := tk }) :
    wpAny (model prog w) A.in1 (Builtin.«list.__init__» ⟨[.ref S, .ref en], []⟩)
      (fun fin s' => match fin with | .done f => R (.ok f) s' | .again c' => c'.quiet = true ∧ codeAny (model prog w) A c' R s') (fun e s' => R (.error e) s') s := by
  show wpAny _ _ (do let old ← Builtin.List.listItems (.ref S); Builtin.List.listUpdate (.ref S) (fun _ => #[]); letGo old.toList.reverse; Builtin.List.listExtendWith (.ref S) (.ref en) .none) _ _ s
  refine wpAny_bind ?_
  unfold Builtin.List.listItems
  refine wpAny_bind (wpAny_seqItems hS rfl (wpAny_pure ?_))
  show wpAny _ _ (updateSeq S (fun _ => #[]) >>= fun _ => letGo (#[] : Array Value).toList.reverse >>= fun _ => Builtin.List.listExtendWith (.ref S) (.ref en) .none) _ _ s
  refine wpAny_bind (wpAny_updateSeq hS rfl ?_)
  have g2 := Heap.get?_update_self (Obj.mapSeq (fun _ => (#[] : Array Value))) hS rfl
  have oth : ∀ b o, b ≠ S → s.heap.get? b = some o → (s.heap.update S (Obj.mapSeq (fun _ => (#[] : Array Value)))).get? b = some o := fun b o z y => (Heap.get?_update_other _ _ (Ne.symm z)).trans y
  refine wpAny_bind (wpAny_letGo ?_)
  exact enExtend hh hes hrs hts hne hte htr hn .none hl hvs (oth _ _ (Nat.ne_of_lt hes) he) (hit.at fun o y => oth _ o (Nat.ne_of_lt hrs) y) (ht.at fun o y => oth _ o (Nat.ne_of_lt hts) y) g2 fun h' tk acc c as hk => hR h' tk acc c as fun b o z1 z2 z3 y => hk b o z1 z2 z3 (oth b o z1 y)
theorem enCall {en sr t : Addr} (hh : A.handled = none) (hne : en ≠ sr) (hte : t ≠ en) (htr : t ≠ sr) {its : Array Value} (hn : its.size ≤ sizeLine) {vs : List (Key × Value)} (hl : vs.length = its.size) (hvs : ∀ (j : Nat) (x : Value), its[j]? = some x → vs[j]? = some (Sum.inl (j : Int), x)) {Q : Value → Shared → Prop}
    (he : IsEnum s.heap en sr 0 .none) (hit : s.heap.IsTupleIter sr t 0) (ht : s.heap.IsTuple t its)
    (hQ : ∀ h' tk acc c as, (∀ b o, b ≠ en → b ≠ sr → s.heap.get? b = some o → h'.get? b = some o) → h'.get? s.heap.objs.size = some { cls := .type "list", dict := none, data := .seq acc c, slots := #[] } → as.length = vs.length → PySem.W.KdxG (mixKind prog w) vs s.heap.objs.size h' as → acc.toList = as.map Value.ref → Q (.ref s.heap.objs.size) { s with heap := h', toks := tk }) :
    wpAny (model prog w) A (call (.type "list") [.ref en]) Q E s := by
  refine callType_codes (Q₁ := fun obj s₁ => obj = .ref s.heap.objs.size ∧ s₁ = { s with heap := s.heap.push { cls := .type "list", data := .seq #[] } }) PySem.F.called_list (PySem.F.typeCall_list_1 _) PySem.F.entry_list_init
    (code_list_new _ ⟨rfl, rfl⟩) fun obj s1 h1 => ?_
  obtain ⟨rfl, rfl⟩ := h1
  have gS : (s.heap.push { cls := .type "list", data := .seq #[] }).get? s.heap.objs.size = some { cls := .type "list", data := .seq #[] } := Heap.get?_push_size _ rfl
  have pu : ∀ b o, s.heap.get? b = some o → (s.heap.push { cls := .type "list", data := .seq #[] }).get? b = some o := fun b o y => Heap.get?_push_of_some _ y
  have l1 : en < s.heap.objs.size := Heap.lt_size he
  have l2 : sr < s.heap.objs.size := by obtain ⟨o, q, _⟩ := hit; exact Heap.lt_size q
  have l3 : t < s.heap.objs.size := by obtain ⟨o, q, _⟩ := ht; exact Heap.lt_size q
  refine ⟨⟨_, gS, rfl⟩, PySem.F.args_list_init_2 _ _, enInit (A := A.in1) hh l1 l2 l3 hne hte htr hn hl hvs (pu _ _ he) (hit.at fun o y => pu _ o y) (ht.at fun o y => pu _ o y) gS fun h' tk acc c as hk hS' hl' gg ac => ?_⟩
  exact ⟨rfl, hQ h' tk acc c as (fun b o z2 z3 y => hk b o (Nat.ne_of_lt (Heap.lt_size y)) z2 z3 (pu b o y)) hS' hl' gg ac⟩
end
end Z2
namespace Z2
open PySem PySem.Spec PyProof.Rows L2
/-- the pairs of an enumerate -/
def enK : Nat → List V → List (Key × V)
  | _, [] => []
  | k, x :: xs => (Sum.inl (k : Int), x) :: enK (k + 1) xs
def enKv : Nat → List Value → List (Key × Value)
  | _, [] => []
  | k, x :: xs => (Sum.inl (k : Int), x) :: enKv (k + 1) xs
theorem enKv_len : ∀ (k : Nat) (xs : List Value), (enKv k xs).length = xs.length
  | _, [] => rfl
  | k, x :: xs => by show (enKv (k + 1) xs).length + 1 = _; rw [enKv_len (k + 1) xs]; rfl
theorem enKv_get : ∀ (k : Nat) (xs : List Value) (j : Nat) (x : Value), xs[j]? = some x → (enKv k xs)[j]? = some (Sum.inl ((k + j : Nat) : Int), x)
  | k, y :: xs, 0, x, h => by cases h; rfl
  | k, y :: xs, j + 1, x, h => by
    have := enKv_get (k + 1) xs j x h
    rw [show k + 1 + j = k + (j + 1) by omega] at this
    exact this
theorem enK_kv : ∀ (k : Nat) {xs : List V} {us : List Value}, Vals xs us → KV (enK k xs) (enKv k us)
  | _, _, _, .nil => .nil
  | k, _, _, .cons r h => .cons ⟨rfl, r⟩ (enK_kv (k + 1) h)
theorem laid2 {X : Cx} {pins : List (Addr × Obj)} {σ : L2.St} {H : Hp} {s : Shared} {h' : Heap} {tk : Nat} {kvs : List (Key × V)} {vs : List (Key × Value)} {acc : Array Value} {c : Nat} {as : List Addr} {S : Addr} (I : Inv X pins σ H s) (hz : kvs.length ≤ sizeLine) (kv : KV kvs vs) (sS : s.heap.objs.size ≤ S)
    (hk : ∀ b o, s.heap.get? b = some o → h'.get? b = some o) (hS : h'.get? S = some { cls := .type "list", dict := none, data := .seq acc c, slots := #[] }) (hl : as.length = vs.length) (gg : PySem.W.KdxG (mixKind X.prog X.w) vs S h' as) (ac : acc.toList = as.map Value.ref) :
    ∃ H' : Hp, (∀ b o, H b = some o → H' b = some o) ∧ H S = none ∧ (∀ t ∈ as, H t = none) ∧ S ∉ as ∧ H' S = some (.lst (as.map V.ref)) ∧ Paired (fun (t : Addr) (q : Key × V) => H' t = some (.tup [kV q.1, q.2])) as kvs ∧ Inv X pins σ H' { s with heap := h', toks := tk } := by
  have len : kvs.length = vs.length := Paired.length kv
  have nS : S ∉ as := fun z => Nat.lt_irrefl _ (gg.above _ z)
  have nd : as.Nodup := List.Pairwise.imp (fun {a b} (h : a < b) => Nat.ne_of_lt h) gg.rise
  have abS : ∀ t ∈ as, s.heap.objs.size ≤ t := fun t ht => Nat.le_of_lt (Nat.lt_of_le_of_lt sS (gg.above t ht))
  have new : ∀ t ∈ as, H t = none := fun t ht => I.hok.fresh (abS t ht)
  have newS : H S = none := I.hok.fresh sS
  generalize hH0 : upd H S (.lst (as.map V.ref)) = H0
  have e0 : H0 S = some (.lst (as.map V.ref)) := by rw [← hH0, upd_same]
  have n0 : ∀ b, b ≠ S → H0 b = H b := fun b z => by rw [← hH0, upd_ne z]
  have atP := LiI.putT_at as kvs H0 (by omega) nd
  have off : ∀ b, b ∉ as → b ≠ S → LiI.putT H0 as kvs b = H b := fun b z1 z2 => by rw [LiI.putT_off as kvs _ z1, n0 b z2]
  have low : ∀ b o, s.heap.get? b = some o → b ∉ as ∧ b ≠ S := fun b o y => ⟨fun z => absurd (Heap.lt_size y) (Nat.not_lt.mpr (abS b z)), fun z => absurd (Heap.lt_size y) (Nat.not_lt.mpr (z ▸ sS))⟩
  have kp : ∀ b u, H b = some u → (LiI.putT H0 as kvs) b = some u := fun b u y => by
    rw [off b (fun z => by rw [new b z] at y; cases y) (fun z => by rw [z, newS] at y; cases y)]; exact y
  have eS : LiI.putT H0 as kvs S = some (.lst (as.map V.ref)) := by rw [LiI.putT_off as kvs _ nS, e0]
  refine ⟨LiI.putT H0 as kvs, kp, newS, new, nS, eS, atP, ?_⟩
  refine I.call' (ch := []) rfl ⟨fun b o q _ _ _ => hk b o q, fun b o q _ _ _ => ⟨o.slots, hk b o q⟩, fun b o q n _ => ?_, fun b o q _ => ⟨o, hk b o q⟩, fun b xs q => kp b _ q, fun b o u q => kp b _ q, fun b ps q => ⟨#[], by rw [kp b _ q]; simp⟩⟩ (fun b u q => ?_) I.bare fun b z => by simp at z
  · obtain ⟨z1, z2⟩ := low b o q
    rw [off b z1 z2]; exact n
  · by_cases hb : b ∈ as
    · obtain ⟨j, pk, e1, e2, e3⟩ := LiI.paired_ix atP hb
      rw [e3] at q; cases q
      obtain ⟨key, k, x, f1, f2, f3⟩ := gg.pairs j b e1
      obtain ⟨qv, g1, g2, g3⟩ := LiI.paired_get kv e2
      rw [f1] at g1; cases g1
      have rk : RelV (kV pk.1) key := by rw [g2]; exact relV_key (show L2.keyIs k key = true from f2)
      exact ⟨le_line (by show 2 ≤ 1000000; decide), [key, x], .cons rk (.cons g3 .nil), ⟨_, f3, rfl, _, rfl⟩⟩
    · by_cases hb2 : b = S
      · rw [hb2] at q ⊢
        rw [eS] at q; cases q
        refine ⟨by rw [List.length_map]; omega, acc.toList, c, by rw [ac]; exact LiI.vals_refs as, ?_⟩
        rw [Array.toArray_toList]; exact hS
      · rw [off b hb hb2] at q
        exact (I.hok b u q).stay (fun d v _ y => hk d v y) (fun d y => kp d _ y) fun d xs y => kp d _ y
def tListEn (K : Fg) (ta : TA) : TE := fun σ H Q => ta σ H fun vs H1 => ∃ a xs, vs = [.ref a] ∧ SqT K H1 a xs ∧
  ∀ (H' : Hp) (p : Addr) (ts : List Addr), (∀ b o, H1 b = some o → H' b = some o) → H1 p = none → (∀ t ∈ ts, H1 t = none) → p ∉ ts → H' p = some (.lst (ts.map V.ref)) → Paired (fun (t : Addr) (q : Key × V) => H' t = some (.tup [kV q.1, q.2])) ts (enK 0 xs) → Q (.ref p) H'
theorem pe_listEn {X : Cx} {e : Expr} {ta : TA} {p p2 pos pos2 : Pos} (hc : X.calm = true) (ha : PA X [e] ta) (hg : Gl X "list") (hm : X.mg "list" = none) (hv : bootBuiltins "list" = some (.type "list")) (hg2 : Gl X "enumerate") (hm2 : X.mg "enumerate" = none) (hs2 : starEach [e] X.env = [(false, eval e X.env)] := by rfl)
    (hs : starEach [.Call (.Name "enumerate" p2) [e] [] pos2] X.env = (false, eval (.Call (.Name "enumerate" p2) [e] [] pos2) X.env) :: starEach [] X.env := by rfl) :
    PE X (.Call (.Name "list" p) [.Call (.Name "enumerate" p2) [e] [] pos2] [] pos) (tListEn X.K ta) := by
  refine ⟨fun pins s σ H Q I h => ?_⟩
  refine wpAny_Call_Name_kw (ld_blt I hg hm hv ?_)
  refine PyProof.Rows.callWith_type1 ?_ hs rfl
  rw [hs]
  show wpAny _ _ (spliced ((false, eval (.Call (.Name "enumerate" p2) [e] [] pos2) X.env) :: backTo pos (starEach [] X.env))) _ _ s
  refine Calls.spliced_cons ?_
  refine Call_ (ld_blt I hg2 hm2 boot_enumerate (callWith_type1 (thn (ha.run pos2 pins s σ H _ I h) fun us s1 ⟨vs, H1, I1, r1, a, xs, ex, hq, q⟩ => ?_) hs2 rfl))
  subst ex
  cases r1 with
  | cons r rr =>
    cases rr
    cases r
    obtain ⟨its, rv, pl, hz⟩ := I1.tuple hq
    refine callT pl fun h' he hit hk => Calls.spliced_nil ?_
    have pl' : h'.IsTuple a its.toArray := by obtain ⟨o, w1, w2⟩ := pl; exact ⟨o, hk a o w1, w2⟩
    have la : a < s1.heap.objs.size := by obtain ⟨o, w, _⟩ := pl; exact Heap.lt_size w
    have kl : ∀ (k : Nat) (l : List V), (enK k l).length = l.length := fun k l => by
      induction l generalizing k with
      | nil => rfl
      | cons x l ih => show (enK (k + 1) l).length + 1 = _; rw [ih]; rfl
    have lk : (enK 0 xs).length ≤ sizeLine := by rw [kl]; exact hz
    have li : its.length ≤ sizeLine := by rw [← rv.length]; exact hz
    have sz : s1.heap.objs.size + 1 < h'.objs.size := Heap.lt_size he
    refine enCall (vs := enKv 0 its) (I1.ok.hd hc) (Nat.succ_ne_self _) (Nat.ne_of_lt (Nat.lt_succ_of_lt la)) (Nat.ne_of_lt la) (by simpa using li) (by rw [enKv_len, List.size_toArray]) (fun j x hx => ?_) he hit pl' fun h2 tk acc c as hk2 hS hl gg ac => ?_
    · have := enKv_get 0 its j x (by simpa using hx)
      rw [Nat.zero_add] at this
      exact this
    · obtain ⟨H', k1, k2, k3, k4, k5, k6, J⟩ := laid2 (tk := tk) (h' := h2) I1 lk (enK_kv 0 rv) (Nat.le_of_lt (Nat.lt_trans (Nat.lt_succ_self _) sz)) (fun b o y => hk2 b o (Nat.ne_of_lt (Nat.lt_succ_of_lt (Heap.lt_size y))) (Nat.ne_of_lt (Heap.lt_size y)) (hk b o y)) hS hl gg ac
      exact ⟨.ref _, H', J, rfl, q H' _ as k1 k2 k3 k4 k5 k6⟩
/-- list(enumerate(t)) as data -/
def dListEn (t : T2A) : T2E := fun env Q => t env fun ds => match ds with | [.tuple xs] => Q (.list (dEnum xs)) | _ => False
def enP : Nat → List D → List D
  | _, [] => []
  | k, x :: xs => .tuple [.int (k : Int), x] :: enP (k + 1) xs
theorem enP_get : ∀ (k : Nat) (xs : List D) (j : Nat), (enP k xs)[j]? = (xs[j]?).map fun x => PyData.tuple [.int ((k + j : Nat) : Int), x]
  | _, [], j => by simp [enP]
  | k, x :: xs, 0 => rfl
  | k, x :: xs, j + 1 => by
    have := enP_get (k + 1) xs j
    rw [show k + 1 + j = k + (j + 1) by omega] at this
    exact this
theorem enP_dEnum (xs : List D) : enP 0 xs = dEnum xs := by
  refine List.ext_getElem? fun j => ?_
  rw [enP_get]
  unfold dEnum
  rw [List.getElem?_map]
  by_cases h : j < xs.length
  · rw [List.getElem?_range h, List.getElem?_eq_getElem h, Nat.zero_add]
    simp [List.getD_eq_getElem?_getD, List.getElem?_eq_getElem h]
  · rw [List.getElem?_eq_none (by omega), List.getElem?_eq_none (by rw [List.length_range]; omega)]
    rfl
section
variable {K : Fg}
theorem en_rp {I H H' : Hp} (ii : Same I (gext I H H')) : ∀ {k : Nat} {ts : List Addr} {vs : List V} {ds : List D}, Rps K I vs ds → Paired (fun (t : Addr) (q : Key × V) => H' t = some (.tup [kV q.1, q.2])) ts (enK k vs) → (∀ t ∈ ts, H t = none) → Rps K (gext I H H') (ts.map V.ref) (enP k ds)
  | k, ts, _, _, .nil, hp, hn => by
    have hp : Paired _ ts [] := hp
    cases hp
    exact .nil
  | k, ts, v :: vs, d :: ds, .cons r rs, hp, hn => by
    have hp : Paired _ ts ((Sum.inl (k : Int), v) :: enK (k + 1) vs) := hp
    cases hp with
    | @cons t _ ts _ h hs =>
      refine .cons (.tup (.inl (.inl ?_)) (.cons (.int _) (.cons (Rp.mono ii _ _ r) .nil))) (en_rp (k := k + 1) ii rs hs fun u hu => hn u (List.mem_cons_of_mem _ hu))
      unfold gext
      rw [hn t List.mem_cons_self]
      exact h
theorem se_listEn {n : Nat} {ta : TA} {u : T2A} (h : SA K n ta u) : SE K (tListEn K ta) (dListEn u) := by
  intro p env σ I H Q2 Q rl q k
  refine h p env σ I H _ _ rl q fun ds vs I1 H1 q1 hl s1 h1 => ?_
  split at q1
  · obtain ⟨v, rfl, h2⟩ := h1.one
    cases h2 with
    | tup h3 h4 =>
      refine ⟨_, _, rfl, Same.sqt s1.ih h3, fun H' l ts hh hl hts hlt hHl hpr => ?_⟩
      have g : Gr none I1 H1 (gext I1 H1 H') H' := gr_ext s1.ih hh
      have rp := en_rp g.ii h4 hpr hts
      rw [enP_dEnum] at rp
      refine k _ _ _ _ q1 (s1.trans (.of g)) (.lst ?_ rp)
      unfold gext
      rw [hl]; exact hHl
  · exact q1.elim
end
/-! ### len of a dict with int keys -/
def dLenK (i : Nat) : T2E := fun env Q => match env[i]? with
  | some (some (.dki ks)) => Q (.int ks.length)
  | _ => False
theorem kdi_len {K : Fg} {I : Hp} : ∀ {xs : List (Key × V)} {ks : List (Int × D)}, KDI K I xs ks → xs.length = ks.length
  | _, _, .nil => rfl
  | _, _, .cons _ h => by rw [List.length_cons, List.length_cons, kdi_len h]
theorem se_lenK {K : Fg} (i : Nat) : SE K (tCB (fun xs H Q => ∃ a kvs, xs = [V.ref a] ∧ H a = some (.dK kvs) ∧ Q (.int kvs.length) H) (tCons (tVar i) tNil)) (dLenK i) := by
  intro p env σ I H Q2 Q r q k
  unfold dLenK at q
  split at q
  · rename_i ks e2
    obtain ⟨v, hv, a, xs, rfl, f2, f3, f4, f5⟩ := r.r.sl i _ e2
    refine ⟨_, hv, a, xs, rfl, f4, ?_⟩
    rw [kdi_len f5]
    exact k _ _ I H q (.refl r.same) (.int _)
  · exact q.elim
/-! ### xs != ys, xs a list of one's own -/
def dONe (i : Nat) (t : T2E) : T2E := fun env Q => match env[i]? with
  | some (some (.own ds)) => t env fun y => SeqAt.shaped (.list ds) = true ∧ SeqAt.shaped y = true ∧ Q (.bool (!PyData.eqv (.list ds) y))
  | _ => False
end Z2
namespace Z2
open PySem PySem.Spec PyProof.Rows L2
/-! ### more steps that may raise -/
section
variable {K : Fg} {C : Cnd} {te tf : TE} {t2 u2 : T2E} {ts us : TS} {t u : T2S}
theorem seg_slS {ta : TE} {a : T2E} {tl tu : TO} {l u : T2O} (ha : SEG K C ta a) (hl : SOp K tl l) (hu : SOp K tu u) : SEG K C (tSl (rSlSA K) ta tl tu) (dSlS a l u) := by
  intro p env σ I H Q2 Q rl hx q k
  refine ha p env σ I H _ _ rl hx q fun d v I1 H1 q1 s1 h1 => ?_
  refine hl p env σ I1 H1 _ _ (rl.stp s1) q1 fun lo I2 H2 q2 s2 => ?_
  refine hu p env σ I2 H2 _ _ (rl.stp (s1.trans s2)) q2 fun hi I3 H3 q3 s3 => ?_
  have s := (s1.trans s2).trans s3
  have h := Rp.mono (s2.trans s3).ii d v h1
  cases d <;> first | exact q3.elim | skip
  · cases h
    exact .inr ⟨_, rfl, le_line q3.1, k _ _ I3 H3 q3.2 s (.str _)⟩
  · cases h with
    | lst e1 e2 =>
      rename_i ds a vs
      refine .inl (.inr ⟨a, vs, rfl, SqL.of (s3.ih _ _ e1), fun l h0 => ?_⟩)
      have g := Gr.new (m := none) (o := .lst (cutV vs lo hi)) s3.ih h0
      exact k _ _ _ _ q3 (s.trans (.of g)) (.lst upd_same (Rps.cut (Rps.mono g.ii _ _ e2) _ _))
  · cases h with
    | tup e1 e2 =>
      rename_i ds a vs
      refine .inl (.inl ⟨a, vs, rfl, Same.sqt s3.ih e1, fun w => ?_, fun w l h0 => ?_⟩)
      · refine k _ _ I3 H3 q3 s (.tup e1 ?_)
        have z : cutD ds lo hi = ds := by unfold cutD; rw [e2.length] at w; exact cut_whole w
        rw [z]; exact e2
      · have g := Gr.new (m := none) (o := .tup (cutV vs lo hi)) s3.ih h0
        exact k _ _ _ _ q3 (s.trans (.of g)) (.tup (SqT.of upd_same) (Rps.cut (Rps.mono g.ii _ _ e2) _ _))
theorem sog_lcX {wi : TI} {g : TG} {tt : TT} {te : TE} {ti : T2I} {g2 : T2G} {tt2 : T2T} {te2 : T2E} {vs : List Nat} (hc : ∀ p σ I H σ' I' H', C p σ I H → C p σ' I' H') (hi : SIG K C wi ti) (hg : SG K vs g g2) (ht : ST K tt tt2) (he : SEG K C te te2) : SOG K C (tLc wi g tt te vs) (dLc ti g2 tt2 te2 vs) := by
  intro p env σ I H Q2 Q rl hx q k
  refine hi p env σ I H _ _ rl hx q fun ds J I1 H1 ⟨hlen, q1⟩ s1 it => ?_
  intro D hD
  have rl1 := rl.stp s1
  have hD0 : p.H0 D = none := by
    cases e : p.H0 D with
    | none => rfl
    | some o => exact absurd hD (rl1.r.gr.th D (by rw [e]; exact fun z => nomatch z))
  have hDI : I1 D = none := Same.free s1.ih hD
  have hDH : H D = none := by
    cases e : H D with
    | none => rfl
    | some o => exact absurd hD (s1.gr.th D (by rw [e]; exact fun z => nomatch z))
  have hm : p.m ≠ some D := fun e => (rl1.r.st D e).1 hD0
  have hown : ∀ (j : Nat) (x : List PyData), env[j]? = some (some (Sl.own x)) → σ[j]? ≠ some (some (V.ref D)) := fun j x e z => by
    obtain ⟨v, hv, a, ws, rfl, _, _, e4, _⟩ := rl1.r.sl j _ e
    rw [hv] at z
    cases z
    rw [hD] at e4; cases e4
  refine ⟨fun i m H' => m = ds.length - i ∧ i ≤ ds.length ∧ ∃ I' acc ys, RelL K p env σ I' H' ∧ Stp p I1 H1 I' H' ∧ I' D = none ∧ H' D = some (.lst acc) ∧ Rps K I' acc ys ∧ acc.length ≤ i ∧ lcD g2 tt2 te2 (wipeE env vs) (ds.drop i) fun zs => Q2 (ys ++ zs),
    ⟨ds.length, by simp, Nat.zero_le _, I1, [], [], rl1.beside hD0 hDI (fun _ _ z => by rw [hD] at z; cases z) (fun _ z => by rw [hD] at z; cases z) (rl1.freshCell (.refl rl1.same) hD) hown, Stp.fresh s1.ih hD, hDI, upd_same, .nil, Nat.le_refl _, q1⟩, ?_⟩
  rintro i m H' ⟨rfl, hi', I', acc, ys, r', st', hDI', hDH', rp, hacc, q'⟩
  by_cases hlt : i < ds.length
  · refine .inr ⟨it.go i I' H' st'.ii st'.ih hlt, fun H'' => ∃ I'' acc ys, RelL K p env σ I'' H'' ∧ Stp p I1 H1 I'' H'' ∧ I'' D = none ∧ H'' D = some (.lst acc) ∧ Rps K I'' acc ys ∧ acc.length ≤ i + 1 ∧ lcD g2 tt2 te2 (wipeE env vs) (ds.drop (i + 1)) fun zs => Q2 (ys ++ zs),
      fun H'' z => ⟨ds.length - (i + 1), by omega, rfl, by omega, z⟩, fun x H2 y => ?_⟩
    obtain ⟨I2, d, g1, hd, rd⟩ := it.yld i x I' H' H2 st'.ii st'.ih hlt y
    have hdrop : ds.drop i = d :: ds.drop (i + 1) := by
      have hdd : ds[i] = d := Option.some.inj ((List.getElem?_eq_getElem hlt).symm.trans hd)
      rw [List.drop_eq_getElem_cons hlt, hdd]
    rw [hdrop] at q'
    have st2 := st'.trans (Stp.of (p := p) g1)
    have r2 := r'.grow' g1
    have q2 : g2 d (wipeE env vs) (fun env1 => tt2 env1 fun b => if b = true then te2 env1 fun y => lcD g2 tt2 te2 (wipeE env vs) (ds.drop (i + 1)) fun zs => Q2 (ys ++ (y :: zs)) else lcD g2 tt2 te2 (wipeE env vs) (ds.drop (i + 1)) fun zs => Q2 (ys ++ zs)) := q'
    have keepD : ∀ {I3 H3 I4 H4}, Stp p I3 H3 I4 H4 → I3 D = none → H3 D = some (.lst acc) → I4 D = none ∧ H4 D = some (.lst acc) := fun s a b =>
      ⟨s.gr.fr D a (by rw [b]; exact fun z => nomatch z), s.gr.hh D _ b hm⟩
    obtain ⟨d2, d3⟩ := keepD (Stp.of (p := p) g1) hDI' hDH'
    refine hg p (wipeE env vs) (L2.wipe σ vs) I2 H2 x d _ _ (r2.wipe vs) rd q2 fun env1 σ1 I3 H3 q3 r3 s3 w3 => ⟨by rw [w3]; exact wipe_wipe σ vs, ?_⟩
    obtain ⟨d4, d5⟩ := keepD s3 d2 d3
    refine ht p env1 σ1 I3 H3 _ _ r3 q3 fun b I4 H4 q4 s4 => ?_
    obtain ⟨d6, d7⟩ := keepD s4 d4 d5
    have s34 := s3.trans s4
    cases b with
    | false =>
      rw [if_neg Bool.false_ne_true] at q4 ⊢
      exact ⟨I4, acc, ys, r2.stp s34, st2.trans s34, d6, d7, Rps.mono (g1.ii.trans s34.ii) _ _ rp, by omega, q4⟩
    | true =>
      rw [if_pos rfl] at q4 ⊢
      refine he p env1 σ1 I4 H4 _ _ (r3.stp s4) (hc _ _ _ _ _ _ _ hx) q4 fun e v I5 H5 q5 s5 r5 => ?_
      obtain ⟨d8, d9⟩ := keepD s5 d6 d7
      have s35 := s34.trans s5
      have st5 := st2.trans s35
      have r6 := (r2.stp s35)
      refine ⟨acc, d9, Nat.lt_of_le_of_lt hacc (Nat.lt_of_lt_of_le hlt (le_line hlen)), I5, acc ++ [v], ys ++ [e], r6.beside hD0 d8 (fun _ _ z => by rw [d9] at z; exact nomatch z) (fun _ z => by rw [d9] at z; exact nomatch z) (rl1.freshCell st5 hD) hown, ⟨⟨st5.ii, fun b o z => by rw [upd_ne (ne_of_none z d8)]; exact st5.ih b o z, fun b o z n => ?_, st5.gr.fr, fun b z => ?_⟩, fun s e1 e2 => ?_⟩, d8, upd_same,
        Rps.append (Rps.mono (g1.ii.trans s35.ii) _ _ rp) (.cons r5 .nil), by rw [List.length_append, List.length_singleton]; omega, ?_⟩
      · have hb : b ≠ D := fun w => by rw [w, hD] at z; cases z
        rw [upd_ne hb]; exact st5.gr.hh b o z n
      · have hb : b ≠ D := fun w => z (by rw [w]; exact hD)
        rw [upd_ne hb]; exact st5.gr.th b z
      · obtain ⟨f0, l, c, n, ns, f1, f2, f3⟩ := st5.st s e1 e2
        have hs : s ≠ D := fun w => hm (by rw [e1, w])
        exact ⟨f0, l, c, n, ns, by rw [upd_ne hs]; exact f1, f2, f3⟩
      · have ee : ∀ zs : List PyData, (ys ++ [e]) ++ zs = ys ++ (e :: zs) := fun zs => by rw [List.append_assoc]; rfl
        simp only [ee]
        exact q5
  · have hi2 : i = ds.length := by omega
    subst hi2
    rw [List.drop_length] at q'
    have q' : Q2 (ys ++ []) := q'
    rw [List.append_nil] at q'
    exact .inl ⟨it.stop _ I' H' st'.ii st'.ih rfl, k ys D acc I' H' q' (s1.trans st') hDH hDI' hDH' rp⟩
theorem ssg_app (i : Nat) (h : SEG K C te t2) : SSG K C (tDrop (tBM K "list" rAppend (tVar i) (tCons te tNil))) (dApp i t2) := by
  intro p env σ I H D2 E r hx q e
  unfold dApp at q
  split at q
  · rename_i ds e2
    obtain ⟨v, hv, a, vs, rfl, _, _, e4, e5⟩ := r.r.sl i _ e2
    refine ⟨_, hv, .inl ⟨rfl, _, SqL.of e4⟩, h p env σ I H _ _ r hx q fun d v I1 H1 ⟨hl, q1⟩ s1 r1 => ?_⟩
    have r' := r.stp s1
    obtain ⟨v', hv', a', ws, rfl, _, _, f4, f5⟩ := r'.r.sl i _ e2
    rw [hv] at hv'; cases hv'
    refine ⟨a, ws, v, rfl, rfl, f4, lt_line (by rw [f5.length]; exact hl), ?_⟩
    exact e.nx _ _ _ _ q1 (r'.mutOwn e2 hv (Rps.append f5 (.cons r1 .nil)))
  · exact q.elim
theorem ssg_putK {tk tv : TE} {k2 v2 : T2E} (i : Nat) (hk : SE K tk k2) (hv : SEG K C tv v2) : SSG K C (sDPut (tVar i) tk tv) (dPutK i k2 v2) := by
  intro p env σ I H D2 E r hx q e
  refine hv p env σ I H _ _ r hx q fun d v I1 H1 q1 s1 r1 => ?_
  split at q1
  · rename_i ks e2
    obtain ⟨hl, hone, q1⟩ := q1
    have ra := r.stp s1
    obtain ⟨va, hva, a, xs, rfl, f2, f3, f4, f5⟩ := ra.r.sl i _ e2
    refine ⟨_, hva, hk p env σ I1 H1 _ _ ra q1 fun kd kv I2 H2 q2 s2 r2 => ?_⟩
    cases kd <;> first | exact q2.elim | skip
    rename_i j
    cases r2
    dsimp only at q2
    have rb := ra.stp s2
    obtain ⟨v', hv', a', xs', e1', g2, g3, g4, g5⟩ := rb.r.sl i _ e2
    subst e1'
    rw [hva] at hv'
    cases hv'
    refine ⟨a, _, rfl, DPut.k (k := Sum.inl j) g4 (lt_line (by rw [g5.length]; exact hl)), ?_⟩
    exact e.nx _ _ _ _ q2 (rb.mutDki e2 hva (KDI.put (Rp.mono s2.ii _ _ r1) g5) (one_noK hone))
  · exact q1.elim
end
/-! ### a def without parameters, called -/
theorem pe_fx0 {X : Cx} {x : Str} {ps : List Str} {sp : Sp} {k : Nat} {p pos : Pos} (G : Fx X.prog X.w X.K X.mg X.base k x ps sp) (hr : Room k X.A) (hg : Gl X x) (hdb : (x == ("__debug__" : Str)) = false := by decide) : PE X (.Call (.Name x p) [] [] pos) (tCall sp [] E0 tNil) := by
  obtain ⟨f, fd, F, hm, hk, hb⟩ := G.ex
  exact pe_call0 F hr hg hm hk hb .nil pass0 hdb
/-! ### more of texts -/
section
variable {K : Fg} {X : Cx}
def dStrip (a : T2E) : T2E := fun env Q => a env fun x => match x with | .str z => z.length ≤ 1000000 ∧ Q (.str (Txt.strip z)) | _ => False
theorem se_strip {ta : TE} {a : T2E} (ha : SE K ta a) : SE K (tM0 (fun x xs H Q => ∃ a, x = .str a ∧ xs = [] ∧ a.length ≤ sizeLine ∧ Q (.str (Txt.strip a)) H) ta) (dStrip a) := by
  intro p env σ I H Q2 Q rl q k
  refine ha p env σ I H _ _ rl q fun d v I1 H1 q1 s1 h1 => ?_
  cases d <;> first | exact q1.elim | skip
  cases h1
  exact ⟨⟨_, rfl⟩, _, rfl, rfl, le_line q1.1, k _ _ I1 H1 q1.2 s1 (.str _)⟩
/-! ### a written dict, looked up at once -/
inductive SPs (K : Fg) : List (TE × TE) → List (Str × T2E) → Prop
  | nil : SPs K [] []
  | cons {x : Str} {tv : TE} {v : T2E} {trs : List (TE × TE)} {vs : List (Str × T2E)} : SE K tv v → SPs K trs vs → SPs K ((tC (.str x), tv) :: trs) ((x, v) :: vs)
/-- the values, from the left -/
def dVals : List (Str × T2E) → Ev → (List (Str × D) → Prop) → Prop
  | [], _, Q => Q []
  | (x, v) :: vs, env, Q => v env fun d => dVals vs env fun ds => Q ((x, d) :: ds)
def dDisG (vs : List (Str × T2E)) (t : T2E) : T2E := fun env Q => (vs.map (·.1)).Nodup ∧ vs.length ≤ 15 ∧ dVals vs env fun ds => t env fun d => match d with
  | .str z => (match ds.find? (fun q => decide (q.1 = z)) with | some q => Q q.2 | none => False)
  | _ => False
def KT (K : Fg) (I : Hp) : List (Key × V) → List (Str × D) → Prop
  | [], [] => True
  | (k, v) :: xs, (x, d) :: ds => k = Sum.inr x ∧ Rp K I v d ∧ KT K I xs ds
  | _, _ => False
theorem KT.mono {I I' : Hp} (s : Same I I') : ∀ {xs : List (Key × V)} {ds : List (Str × D)}, KT K I xs ds → KT K I' xs ds
  | [], [], _ => trivial
  | (k, v) :: xs, (x, d) :: ds, ⟨h1, h2, h3⟩ => ⟨h1, Rp.mono s d v h2, KT.mono s h3⟩
  | [], _ :: _, h => h.elim
  | _ :: _, [], h => h.elim
theorem KT.keys {I : Hp} : ∀ {xs : List (Key × V)} {ds : List (Str × D)}, KT K I xs ds → xs.map (·.1) = (ds.map (·.1)).map Sum.inr
  | [], [], _ => rfl
  | (k, v) :: xs, (x, d) :: ds, ⟨h1, h2, h3⟩ => by
    rw [List.map_cons, List.map_cons, List.map_cons, KT.keys h3]
    show k :: _ = _
    rw [h1]
  | [], _ :: _, h => h.elim
  | _ :: _, [], h => h.elim
theorem KT.get {I : Hp} {z : Str} : ∀ {xs : List (Key × V)} {ds : List (Str × D)} {q : Str × D}, KT K I xs ds → ds.find? (fun q => decide (q.1 = z)) = some q → ∃ v, valV xs (Sum.inr z) = some v ∧ Rp K I v q.2
  | [], [], q, _, h => by cases h
  | (k, v) :: xs, (x, d) :: ds, q, ⟨h1, h2, h3⟩, h => by
    subst h1
    rw [List.find?_cons] at h
    by_cases c : x = z
    · subst c
      rw [decide_eq_true rfl] at h
      cases h
      refine ⟨v, ?_, h2⟩
      unfold valV
      rw [List.find?_cons, decide_eq_true rfl]
      rfl
    · rw [decide_eq_false c] at h
      obtain ⟨v', e1, e2⟩ := KT.get h3 h
      refine ⟨v', ?_, e2⟩
      unfold valV at e1 ⊢
      rw [List.find?_cons, decide_eq_false (fun w => c (Sum.inr.inj w))]
      exact e1
  | [], _ :: _, _, h, _ => h.elim
  | _ :: _, [], _, h, _ => h.elim
theorem merge_nodup : ∀ (xs acc : List (Key × V)), (acc.map (·.1) ++ xs.map (·.1)).Nodup → mergeK acc xs = acc ++ xs
  | [], acc, _ => (List.append_nil acc).symm
  | (k, v) :: xs, acc, h => by
    have hk : (acc.any fun kv => decide (kv.1 = k)) = false := by
      rw [List.any_eq_false]
      intro q hq w
      have w := of_decide_eq_true w
      exact (List.nodup_append.mp h).2.2 q.1 (List.mem_map_of_mem hq) k List.mem_cons_self w
    show mergeK (putK acc k v) xs = _
    unfold putK
    rw [hk, if_neg Bool.false_ne_true, merge_nodup xs (acc ++ [(k, v)]) (by rw [List.map_append, List.append_assoc]; exact h), List.append_assoc]
    rfl
theorem nodup_inr {l : List Str} (h : l.Nodup) : (l.map (Sum.inr : Str → Key)).Nodup := by
  induction l with
  | nil => exact List.nodup_nil
  | cons a l ih =>
    obtain ⟨h1, h2⟩ := List.nodup_cons.mp h
    rw [List.map_cons]
    refine List.nodup_cons.mpr ⟨fun w => ?_, ih h2⟩
    obtain ⟨b, hb, e⟩ := List.mem_map.mp w
    cases e
    exact h1 hb
theorem vals_run {p : P0} {env : Ev} {σ : L2.St} : ∀ {trs : List (TE × TE)} {vs : List (Str × T2E)} {I H : Hp} {Q2 : List (Str × D) → Prop} {Q : List (V × V) → Hp → Prop}, SPs K trs vs → RelL K p env σ I H → dVals vs env Q2 →
    (∀ (xs : List (Key × V)) ds I' H', Q2 ds → Stp p I H I' H' → KT K I' xs ds → xs.map (·.1) = (vs.map (·.1)).map Sum.inr → Q (xs.map fun kv => (kV kv.1, kv.2)) H') → tPairs trs σ H Q
  | _, _, I, H, Q2, Q, .nil, r, q, k => k [] [] I H q (.refl r.same) trivial rfl
  | _, _, I, H, Q2, Q, .cons (x := x) hv hr, r, q, k => by
    refine hv p env σ I H _ _ r q fun d v I1 H1 q1 s1 r1 => ?_
    refine vals_run hr (r.stp s1) q1 fun xs ds I2 H2 q2 s2 kt ke => ?_
    exact k ((Sum.inr x, v) :: xs) ((x, d) :: ds) I2 H2 q2 (s1.trans s2) ⟨rfl, Rp.mono s2.ii d v r1, kt⟩ (by rw [List.map_cons, List.map_cons, List.map_cons, ke])
theorem se_disG {trs : List (TE × TE)} {vs : List (Str × T2E)} {te : TE} {t : T2E} (hs : SPs K trs vs) (ht : SE K te t) : SE K (tDGet (tDisp trs) te) (dDisG vs t) := by
  intro p env σ I H Q2 Q r q k
  obtain ⟨hn, h15, q⟩ := q
  intro a ha
  have r1 := r.stp (Stp.fresh (p := p) (o := HO.dK []) r.same ha)
  have hI : I a = none := Same.free r.same ha
  have hm : p.m ≠ some a := fun e => (r.r.st a e).1 (by
    cases e0 : p.H0 a with
    | none => rfl
    | some o => exact absurd ha (r.r.gr.th a (by rw [e0]; exact fun z => nomatch z)))
  refine vals_run hs r1 q fun xs ds I2 H2 q2 s2 kt ke => ?_
  have e2 : H2 a = some (.dK []) := s2.gr.hh a _ upd_same hm
  have i2 : I2 a = none := s2.gr.fr a hI (by rw [upd_same]; exact fun z => nomatch z)
  have hnd : (xs.map (·.1)).Nodup := by rw [ke]; exact nodup_inr hn
  have em : mergeK [] xs = xs := merge_nodup xs [] (by simpa using hnd)
  have hxl : xs.length = vs.length := by have := congrArg List.length ke; simpa using this
  refine ⟨e2, xs, rfl, by omega, ?_⟩
  rw [em]
  have fr := Stp.fresh (p := p) (o := HO.dK []) r.same ha
  have g : Stp p I H I2 (upd H2 a (.dK xs)) := by
    refine ⟨⟨s2.ii, fun b o z => ?_, fun b o z n => ?_, fun b z n => ?_, fun b n => ?_⟩, fun s e z => ?_⟩
    · rw [upd_ne (ne_of_none z i2)]; exact s2.ih b o z
    · have hb := ne_of_none z ha
      rw [upd_ne hb]
      exact s2.gr.hh b o (by rw [upd_ne hb]; exact z) n
    · have hb : b ≠ a := fun w => n (by rw [w]; exact ha)
      exact s2.gr.fr b z (by rw [upd_ne hb]; exact n)
    · have hb : b ≠ a := fun w => n (by rw [w]; exact ha)
      rw [upd_ne hb]
      exact s2.gr.th b (by rw [upd_ne hb]; exact n)
    · obtain ⟨f0, l, c, kk, ns, f1, f2, f3⟩ := s2.st s e (fr.st s e z)
      have hs : s ≠ a := fun w => hm (by rw [e, w])
      exact ⟨f0, l, c, kk, ns, by rw [upd_ne hs]; exact f1, f2, f3⟩
  refine ht p env σ I2 _ _ _ (r.stp g) q2 fun d v I3 H3 q3 s3 h3 => ?_
  cases d <;> first | exact q3.elim | skip
  rename_i z
  cases h3
  dsimp only at q3
  split at q3
  · rename_i q0 hf
    obtain ⟨v0, g1, g2⟩ := kt.get hf
    refine ⟨a, v0, rfl, ?_, k q0.2 v0 I3 H3 q3 (g.trans s3) (Rp.mono s3.ii _ _ g2)⟩
    have e3 : H3 a = some (.dK xs) := s3.gr.hh a _ upd_same hm
    have := DGet.k (k := (Sum.inr z : Key)) e3
    rw [g1] at this
    exact this
  · exact q3.elim
end
end Z2
namespace Z2
open PySem PySem.Spec PyProof.Rows L2
/-! ### x = E; y = x.replace(..): E makes a text, so a token is out -/
def PEU (X : Cx) (e : Expr) (t : TE) : Prop := ∀ (pins : List (Addr × Obj)) (s : Shared) (σ : L2.St) (H : Hp) (Q : VK), Inv X pins σ H s → t σ H Q → wpAny (model X.prog X.w) X.A (eval e X.env) (fun v s' => 1 ≤ s'.toks ∧ EP X pins σ Q v s') X.xe s
section
variable {X : Cx} {e f : Expr} {te tf : TE} {pos : Pos}
theorem peu_str {x : Str} {j : Nat} {c : Pos} : PEU X (.Constant (.str x) j c) (tC (.str x)) := fun pins s σ H Q I q =>
  Calls.Constant_str ⟨Nat.le_add_left 1 s.toks, .str x, H, I.tok _, ⟨_, rfl⟩, q⟩
theorem peu_op {op : Operator} {r : R2} (ho : OpR X (binaryOp op) r) (ha : PEU X e te) (hb : PE X f tf) : PEU X (.BinOp e op f pos) (tOp r te tf) := by
  intro pins s σ H Q I h
  refine wpAny_BinOp (wpAny_mono (ha pins s σ H _ I h) (fun v s1 q => ?_) fun _ _ z => z)
  obtain ⟨h1, x, H1, I1, r1, q1⟩ := q
  refine wpAny_mono (PySem.wpAny_toks_of h1 (hb.run pins s1 σ H1 _ I1 q1)) (fun u s2 q => ?_) fun _ _ z => z.2
  obtain ⟨h2, y, H2, I2, r2, q2⟩ := q
  exact wpAny_mono (PySem.wpAny_toks_of h2 (ho pins s2 σ H2 x y v u Q I2 r1 r2 q2)) (fun _ _ z => z) fun _ _ z => z.2
theorem pss_setU {rest : List Stmt} {u : TS} {i : Nat} {x : Str} {pos' : Pos} (hN : X.N.Nodup) (hi : X.N[i]? = some x) (hx : Loc X.env.scope x) (he : PEU X e te) (h2 : PSsT X rest u)
    (hs : swapsWith e (some (.Name x pos')) pos.line X.env = pure false := by rfl) (hf : X.fn x = true ∨ X.env.scope.names.lookup x = some .local := by first | exact .inl rfl | exact .inr rfl | assumption) : PSs X (.Assign [.Name x pos'] e pos :: rest) (tSeq (tAsg te (gName i)) u) := by
  refine ⟨fun pins s σ H D I h => ?_⟩
  refine wpAny_execs_cons (wpAny_Assign_Name (wpAny_mono (he pins s σ H _ I h) (fun v s1 q => ?_) fun _ _ z => z) hs)
  obtain ⟨k1, y, H1, I1, r1, q1⟩ := q
  refine wpAny_mono (PySem.wpAny_toks_of k1 (store_ok (Q := fun _ s2 => Inv X pins (σ.set i (some y)) H1 s2) I1 hN hi hx r1 (fun _ I2 => I2) hf)) (fun _ s2 q => ?_) fun _ _ z => z.2
  exact h2 pins s2 _ H1 D q.1 q.2 q1
theorem pst_setT {i : Nat} {x : Str} {pos' : Pos} (hN : X.N.Nodup) (hi : X.N[i]? = some x) (hx : Loc X.env.scope x) (he : PET X e te) (hs : swapsWith e (some (.Name x pos')) pos.line X.env = pure false := by rfl)
    (hf : X.fn x = true ∨ X.env.scope.names.lookup x = some .local := by first | exact .inl rfl | exact .inr rfl | assumption) : PST X (.Assign [.Name x pos'] e pos) (tAsg te (gName i)) := by
  intro pins s σ H D h0 I h
  refine wpAny_Assign_Name (thn (he pins s σ H _ h0 I h) fun v s1 ⟨y, H1, I1, r1, q1⟩ => ?_) hs
  exact store_ok I1 hN hi hx r1 (fun s2 I2 => ⟨_, H1, I2, q1⟩) hf
end
section
variable {K : Fg}
def dRepl (y z : Str) (t : T2E) : T2E := fun env Q => t env fun d => match d with | .str x => x.length + (x.length + 1) * z.length ≤ 1000000 ∧ Q (.str (Txt.replace x y z)) | _ => False
theorem se_repl {y z : Str} {te : TE} {t : T2E} (ha : SE K te t) : SE K (CwR.tReplC te y z) (dRepl y z t) := by
  intro p env σ I H Q2 Q r q k
  refine ha p env σ I H _ _ r q fun d v I1 H1 q1 s1 h1 => ?_
  cases d <;> first | exact q1.elim | skip
  cases h1
  exact ⟨_, rfl, by omega, k _ _ I1 H1 q1.2 s1 (.str _)⟩
end
end Z2
namespace Z2
open PySem PySem.Spec PyProof.Rows L2
/-! ### a raise out of a comprehension: its part is a call that may raise -/
/-- what a call lets out, in a block -/
def XFl (X : Cx) (W : WX) : Value → Shared → Prop := fun u s' => ∃ (pins : List (Addr × Obj)) (σ : L2.St) (H : Hp) (s : Shared), Inv X pins σ H s ∧ L2.CX X.prog X.w X.stack H s (WE W σ) u s'
abbrev blkR (X : Cx) (W : WX) (s : Shared) (H : Hp) (scope : Scope) (cenv : Env) (fp : List Addr) : Cx := (X.blk s H scope cenv fp).wish (XFl (X.blk s H scope cenv fp) W)
section
variable {X : Cx} {W : WX}
theorem comp_fails {pins : List (Addr × Obj)} {σ : L2.St} {H9 : Hp} {s9 s' : Shared} {cenv : Env} {m : Str → Option Value} {u : Value} {E : XK} (hst : X.stack = X.env :: X.outer) (hfr : X.env.frame = some X.env.locals) (tk : Takes X W) (hcf : cenv.frame = X.env.frame)
    (I : Inv X pins σ H9 s9) (fC : FpOk X [] H9 cenv.locals) (hCf : cenv.locals ∉ frs X.stack) (hn : s9.heap.Ns cenv.locals m) (c : L2.CX X.prog X.w X.stack H9 s9 E u s') (hW : ∀ cls d H', E cls d H' → W cls d σ H') :
    notedBy (model X.prog X.w) X.A cenv (CompFails (model X.prog X.w) X.A X.xe cenv) u s' := by
  obtain ⟨oC, es, ep, hoC, hdC, rC⟩ := hn
  obtain ⟨a0, B0, H', cls0, d0, eu, fl, hok, ub, na0, os0, ag0, hE⟩ := c
  have nC' : H' cenv.locals = none := ub.free _ oC hoC fC.1
  have eC : s'.heap.get? cenv.locals = some oC := fl.1 _ _ (ub.keep _ oC hoC fC.1 hCf)
  have hn' : s'.heap.Ns cenv.locals m := ⟨oC, es, ep, eC, hdC, rC⟩
  have x : XE X (fun cls d σ H => W cls d σ H ∧ H cenv.locals = none) u s' := XE.of_call (E := fun cls d H => E cls d H ∧ H cenv.locals = none) I (fun cls d H h => ⟨hW _ _ _ h.1, h.2⟩) ⟨a0, B0, H', cls0, d0, eu, fl, hok, ub, na0, os0, ag0, hE, nC'⟩
  obtain ⟨a, B, sI, pins', σ', H2, cls, d, e, I2, nb, up, sky, na, os, ag, w, w2⟩ := x
  subst e
  have hfrm : X.A.frames = some (X.env :: X.outer) := by rw [I.ok.frames, hst]
  have key : ∀ h1, HandSPX.HeldZ B (X.env :: X.outer) a (Zc cls d) X.env.locals h1 → s'.heap.UpToSlots h1 → CompFails (model X.prog X.w) X.A X.xe cenv (.ref a) { s' with heap := h1 } := by
    intro h1 hh up1
    have hn1 : h1.Ns cenv.locals m := up1.ns hn'
    refine ⟨m, hn1, fun h2 m2 hn2 sb => ?_⟩
    obtain ⟨b1, b0, f1, t1⟩ := hh
    obtain ⟨o1, es1, ep1, ho1, hd1, _⟩ := hn1
    obtain ⟨oe, vs, T, oT, ts, he, hz, hd, hv1, hnT, hTe, hT, hdT, h3⟩ := t1
    have aC : a ≠ cenv.locals := fun z => by rw [z, ho1] at he; cases he; rw [hd1] at hd; cases hd
    have TC : T ≠ cenv.locals := fun z => by rw [z, ho1] at hT; cases hT; rw [hd1] at hdT; cases hdT
    have sub : ∀ b o, (PySem.W.hideAll B [cenv.locals]).get? b = some o → B.get? b = some o := fun b o e => PySem.W.of_hideAll _ e
    have ne : ∀ (h : Heap) b o, (PySem.W.hideAll h [cenv.locals]).get? b = some o → b ≠ cenv.locals := fun h b o e z => by
      rw [z, PySem.W.hideAll_none [cenv.locals] (by simp)] at e; cases e
    have bn : ∀ b, B.get? b = none → (PySem.W.hideAll B [cenv.locals]).get? b = none := fun b e => by
      cases q : (PySem.W.hideAll B [cenv.locals]).get? b with
      | none => rfl
      | some o => rw [sub b o q] at e; cases e
    have f2 : h2.FunFrames (PySem.W.hideAll B [cenv.locals]) (X.env :: X.outer) := funFrames_none (Heap.FunFrames.sameBut sb hn2 f1) fun L hL => bn L (Heap.FunFrames.mem f1 hL).1
    have he2 : h2.get? a = some oe := (sb.2 a aC).trans he
    have held : HandSPX.HeldZ (PySem.W.hideAll B [cenv.locals]) (X.env :: X.outer) a (Zc cls d) X.env.locals h2 :=
      ⟨fun b o e => (sb.2 b (ne _ b o e)).trans (b1 b o (sub b o e)), bn a b0, f2, oe, vs, T, oT, ts, he2, hz, hd, hv1, bn T hnT, hTe, (sb.2 T TC).trans hT, hdT, h3⟩
    unfold PySem.passOn
    refine wpAny_bind (wpAny_field he2 hd hv1 ?_)
    rw [if_neg (show ¬ ((Value.ref T == Value.none) = true) from by simp)]
    rw [hcf, hfr]
    refine wpAny_bind (HandSPX.setFlight_onZ held fun h4 hh4 up4 => ?_)
    refine wpAny_throw (tk _ _ ⟨a, PySem.W.hideAll B [cenv.locals], { sI with heap := PySem.W.hideAll sI.heap [cenv.locals] }, [], σ', H2, cls, d, rfl, ?_, fun b o e hb => ?_, fun b o e hnf => ?_, .inr (.inr (by rw [hst]; exact hh4)), na, os, ag, w⟩)
    · exact (Inv.unpinned (pins := []) I2).turned (it := cenv.locals) (h' := PySem.W.hideAll sI.heap [cenv.locals]) (t' := sI.toks) (fun b o hb e => PySem.W.hideAll_get _ e (by simpa using hb)) w2 fC.2.1 fC.2.2.2.1 fC.2.2.2.2.1 fC.2.2.2.2.2
    · exact PySem.W.hideAll_get _ (nb b o (PySem.W.of_hideAll _ e) hb) (by simpa using ne _ b o e)
    · obtain ⟨sl, e1⟩ := up b o (PySem.W.of_hideAll _ e) hnf
      obtain ⟨sl2, e2⟩ := up1 b _ e1 hnf
      have e3 : h2.get? b = some { o with slots := sl2 } := (sb.2 b (ne _ b o e)).trans e2
      obtain ⟨sl3, e4⟩ := up4 b _ e3 hnf
      exact ⟨sl3, e4⟩
  show wpAny _ _ (noteFrame (.ref a) cenv) _ _ s'
  rw [noteFrame_env _ hcf]
  rw [hst] at sky
  rcases sky with ⟨hB, hn, hl, oe, vs, he, hz, hd, h1⟩ | fl | hh
  · exact HandSPX.look_newZ Zc.steady hfrm hl hfr he hB hn hd h1 hz key
  · exact HandSPX.looks_onZ Zc.steady hfrm hfr fl key
  · exact HandSPX.againZ hfr hh.2.2.2 (key s'.heap hh (Heap.UpToSlots.refl _))
/-- [e for target in it if ..], the part e may raise -/
theorem pe_lcR {elt tg iter : Expr} {ifs : List Expr} {scope : Scope} {own : List (Str × Nat)} {pos : Pos} {wi : TI} {g : TG} {tt : TT} {te : TE} (hst : X.stack = X.env :: X.outer) (hfr : X.env.frame = some X.env.locals) (tk : Takes X W) (hWσ : ∀ cls d σ σ' H, W cls d σ H → W cls d σ' H)
    (hc : X.calm = true) (hN : X.N.Nodup) (hi : PI X tg iter wi) (ok : BlkOk X.N X.env.scope scope own)
    (hg : ∀ (s : Shared) (H : Hp) (C : Addr) (cl : List (Str × Addr)) (fp : List Addr), PG (X.blk s H scope (compEnvC scope cl C X.env) fp) tg g) (ht : ∀ (s : Shared) (H : Hp) (C : Addr) (cl : List (Str × Addr)) (fp : List Addr), PTs (X.blk s H scope (compEnvC scope cl C X.env) fp) ifs tt)
    (he : ∀ (s : Shared) (H : Hp) (C : Addr) (cl : List (Str × Addr)) (fp : List Addr), PE (blkR X W s H scope (compEnvC scope cl C X.env) fp) elt te) (hs : ∀ x, foldedSetIterable iter X.env x = pure x := by intro _; rfl) :
    PE X (.ListComp elt [⟨tg, iter, ifs, 0⟩] scope pos) (tLc wi g tt te (own.map (·.2))) := by
  refine ⟨fun pins s σ H Q I h => ?_⟩
  rw [eval_ListComp]
  have hfree : ∀ y ∈ scope.names, y.2 = .free → ∃ c, X.env.cells.lookup y.1 = some c := fun y hy e => (ok.free y hy e).elim (fun k => I.ok.has _ (.inl k)) fun k => I.ok.has _ (.inr k)
  refine comprehension_at (use := none) rfl hs (closure_ok hfree) ok.kind (fun y hy e => by rw [ok.uniq y hy, e]) (thn (hi.run pins s σ H _ I h) fun xv s1 hx => thn hx fun itv s2 ⟨it, fp, tn, J, H2, e2, I2, T, st2, f2, q⟩ => ?_)
  subst e2
  refine wpAny_newObj_type (newEnv_comp ?_) (by show 0 ≤ sizeLine; decide)
  obtain ⟨D, hD⟩ : ∃ D, D = s2.heap.objs.size := ⟨_, rfl⟩
  rw [← hD]
  have hDn : H2 D = none := I2.hok.fresh (Nat.le_of_eq hD.symm)
  obtain ⟨Wm, ⟨m0, w0⟩, turn⟩ := q D hDn
  obtain ⟨s3, hs3⟩ : ∃ s3 : Shared, s3 = { s2 with heap := s2.heap.push { cls := .type "list", data := .seq ([] : List Value).toArray } } := ⟨_, rfl⟩
  obtain ⟨H3, hH3⟩ : ∃ H3 : Hp, H3 = upd H2 D (.lst []) := ⟨_, rfl⟩
  have h3 : s3.heap = s2.heap.push { cls := .type "list", data := .seq ([] : List Value).toArray } := by rw [hs3]
  have I3 : Inv X pins σ H3 s3 := by
    rw [hs3, hH3]
    exact I2.laid (t' := s2.toks) (fun b o e => Heap.get?_push_of_some _ e) (Nat.le_of_eq hD.symm) ⟨Nat.zero_le _, [], 0, .nil, by rw [hD]; exact Heap.get?_push_size _ rfl⟩
  have sz : ∀ b ∈ fp, b < s2.heap.objs.size := fun b hb => by
    obtain ⟨o, e, _⟩ := T.obj _ _ st2 b hb
    exact Heap.lt_size e
  have f3 : ∀ b ∈ fp, FpOk X pins H3 b ∧ b < s3.heap.objs.size := fun b hb =>
    ⟨⟨by rw [hH3, upd_ne (by rw [hD]; exact Nat.ne_of_lt (sz b hb))]; exact (f2 b hb).1, (f2 b hb).2⟩, by rw [h3, Heap.size_push]; exact Nat.lt_succ_of_lt (sz b hb)⟩
  have st3 : tn 0 s3.heap := T.keep _ _ _ st2 fun b _ o e => by rw [h3]; exact Heap.get?_push_of_some _ e
  have I4 := block_start I3 ok hN f3
  obtain ⟨C, hC⟩ : ∃ C, C = s3.heap.objs.size := ⟨_, rfl⟩
  rw [← hs3, ← hC]
  rw [← hH3] at w0
  rw [← hC] at I4
  obtain ⟨cl, hcl⟩ : ∃ cl, cl = cellsFrom (C + 1) scope.names (cloFrom X.env.cells scope.names []) := ⟨_, rfl⟩
  rw [← hcl] at I4
  have pg := hg s3 H3 C cl fp
  have pt := ht s3 H3 C cl fp
  have pe := he s3 H3 C cl fp
  have nfp : ∀ b ∈ fp, H3 b = none := fun b hb => (f3 b hb).1.1
  have nCf : C ∉ frs X.stack := fun hb => by
    obtain ⟨_, o, eo, _⟩ := Heap.FunFrames.mem I3.stack hb
    rw [hC] at eo
    exact absurd (Heap.lt_size eo) (Nat.lt_irrefl _)
  show codeAny _ _ (.compStart (.ListComp elt [⟨tg, iter, ifs, 0⟩] scope pos) 0 (.ref it) (.ref D) (compEnvC scope (cellsFrom (C + 1) scope.names (cloFrom X.env.cells scope.names [])) C X.env)) (compEnds (model X.prog X.w) X.A X.xe none _ (.ref D) (compEnvC scope (cellsFrom (C + 1) scope.names (cloFrom X.env.cells scope.names [])) C X.env)) { s3 with heap := pushCells (s3.heap.push { cls := .type "dict", data := .dict #[] }) scope.names }
  rw [← hcl]
  obtain ⟨ce, hce⟩ : ∃ ce, ce = compEnvC scope cl C X.env := ⟨_, rfl⟩
  rw [← hce] at I4 pg pt pe ⊢
  have cL : ce.locals = C := by rw [hce]; rfl
  have cF : ce.frame = X.env.frame := by rw [hce]; rfl
  obtain ⟨s4, hs4⟩ : ∃ s4 : Shared, s4 = { s3 with heap := pushCells (s3.heap.push { cls := .type "dict", data := .dict #[] }) scope.names } := ⟨_, rfl⟩
  rw [← hs4] at I4 ⊢
  have st4 : tn 0 s4.heap := T.keep _ _ _ st3 fun b _ o e => by rw [hs4]; exact pushCells_keeps _ _ _ _ (Heap.get?_push_of_some _ e)
  obtain ⟨Y, hY⟩ : ∃ Y : Cx, Y = X.blk s3 H3 scope ce fp := ⟨_, rfl⟩
  have stat : ∀ {σ' : L2.St} {H' : Hp} {s' : Shared}, Inv (X.blk s3 H3 scope ce fp) [] σ' H' s' → (∀ b ∈ fp, H' b = none) → ∀ b ∈ fp, FpOk (X.blk s3 H3 scope ce fp) [] H' b := fun {σ' H' s'} I' hn b hb =>
    ⟨hn b hb, (I'.ok.exf b hb).1, I'.ok.exfs b hb, .inl hb, fun x c e => (I'.ok.exf b hb).2 x c e, fun p hp => absurd (show p ∈ ([] : List (Addr × Obj)) ++ [] from hp) (by simp)⟩
  -- in the def's own context
  have back : ∀ {pn' : List (Addr × Obj)} {σ' : L2.St} {H' : Hp} {s' : Shared}, Inv (X.blk s3 H3 scope ce fp) pn' σ' H' s' → Inv X pins σ H' s' ∧ FpOk X pins H' C ∧ ∃ m, s'.heap.Ns C m := fun {pn' σ' H' s'} I' => by
    refine ⟨I3.call' (ch := fp) I'.os I'.base I'.hok I'.bare fun b hb => ⟨(f3 b hb).1.2.2.2.1, (f3 b hb).1.2.1, (f3 b hb).1.2.2.2.2.1, (f3 b hb).1.2.2.2.2.2⟩, I3.fpOk (Nat.le_of_eq hC.symm) ?_, ?_⟩
    · have z : H' ce.locals = none := I'.free
      rw [cL] at z
      exact z
    · obtain ⟨m, hn, _⟩ := I'.loc
      have hn : s'.heap.Ns ce.locals m := hn
      rw [cL] at hn
      exact ⟨m, hn⟩
  have loop : codeAny (model X.prog X.w) X.A (.compLoop (.ListComp elt [⟨tg, iter, ifs, 0⟩] scope pos) 0 (.ref it) (.ref D) ce) (compEnds (model X.prog X.w) X.A X.xe none (EP X pins σ Q) (.ref D) ce) s4 := by
    refine compLoop_any (fun n s' => ∃ i H', Inv (X.blk s3 H3 scope ce fp) [] (wipe σ (own.map (·.2))) H' s' ∧ tn i s'.heap ∧ (∀ b ∈ fp, H' b = none) ∧ Wm i n H') ?_ m0 ⟨0, H3, I4, st4, nfp, w0⟩
    rintro n s5 ⟨i, H5, I5, st5, n5, w5⟩
    rcases turn i n H5 w5 with ⟨stop, qq⟩ | ⟨go, Nx, hNx, step⟩
    · refine thnF (T.done (X.blk s3 H3 scope ce fp) rfl rfl rfl hc i [] s5 _ H5 (fun _ _ => False) I5 (stat I5 n5) st5 stop) fun r s6 ⟨hr, I6⟩ => ?_
      subst hr
      obtain ⟨I7, fC, m, hn⟩ := back I6
      refine ⟨m, by rw [cL]; exact hn, fun h' sb => ?_⟩
      rw [cL] at sb
      exact ⟨.ref D, H5, I7.turned (t' := s6.toks) (fun b o hb e => (sb.2 b hb).trans e) fC.1 fC.2.1 fC.2.2.2.1 fC.2.2.2.2.1 fC.2.2.2.2.2, rfl, qq⟩
    · refine thnF (T.item (X.blk s3 H3 scope ce fp) rfl rfl rfl hc i [] s5 _ H5 (fun _ _ => False) I5 (stat I5 n5) st5 go) fun r s6 ⟨u, hr, h6⟩ => ?_
      subst hr
      refine thnF h6 fun _ s7 ⟨x, H7, I7, r7, y7, st7, n7⟩ => ?_
      refine thnF (pg.run _ s7 _ H7 x u _ (I7.pinned (stat I7 n7) (T.obj _ _ st7)) r7 (step x H7 y7)) fun _ s8 ⟨σ8, H8, I8, hw8, q8⟩ => ?_
      refine thnF (pt.run _ s8 σ8 H8 _ I8 q8) fun b s9 ⟨H9, I9, q9⟩ => ?_
      have fin : ∀ {s' : Shared} {H' : Hp}, Inv (X.blk s3 H3 scope ce fp) ([] ++ pinsAt fp s7.heap) σ8 H' s' → Nx H' → ∃ m, m < n ∧ ∃ i H', Inv (X.blk s3 H3 scope ce fp) [] (wipe σ (own.map (·.2))) H' s' ∧ tn i s'.heap ∧ (∀ b ∈ fp, H' b = none) ∧ Wm i m H' := fun {s' H'} I' nx => by
        obtain ⟨m', hm, w'⟩ := hNx H' nx
        have pin' : ∀ b ∈ fp, ∀ o, s7.heap.get? b = some o → s'.heap.get? b = some o ∧ H' b = none := fun b hb o e =>
          let z := I'.pin (b, o) (List.mem_append_right _ (List.mem_append_right _ (mem_pinsAt hb e)))
          ⟨z.1, z.2.1⟩
        refine ⟨m', hm, i + 1, H', (I'.unpinned (pins := [])).weak (by rw [← hw8, wipe_length]) (fun j v e => by rw [← hw8] at e; exact (wipe_some e).1), T.keep _ _ _ st7 fun b hb o e => (pin' b hb o e).1, fun b hb => ?_, w'⟩
        obtain ⟨o, e, _⟩ := T.obj _ _ st7 b hb
        exact (pin' b hb o e).2
      cases b with
      | false =>
        simp only [Bool.false_eq_true, if_false] at q9 ⊢
        exact fin I9 q9
      | true =>
        simp only [if_true] at q9 ⊢
        refine wpAny_mono (pe.run _ s9 σ8 H9 _ (I9.wish _) q9) (fun z s10 ⟨yv, H10, I10, r10, acc, hD10, hz10, nx⟩ => ?_) fun u s10 ⟨pn', σ', H', sc, I', c⟩ => ?_
        · exact app_ok (X := X.blk s3 H3 scope ce fp) I10.unwish hD10 hz10 r10 fun s11 I11 => fin I11 nx
        · obtain ⟨J, fC, m, hn⟩ := back I'
          rw [← cL] at fC hn
          exact comp_fails hst hfr tk cF (Inv.unpinned (pins := []) J) ⟨fC.1, fC.2.1, fC.2.2.1, fC.2.2.2.1, fC.2.2.2.2.1, fun p hp => fC.2.2.2.2.2 p (by rw [List.append_nil] at hp; exact List.mem_append_left _ hp)⟩ (by rw [cL]; exact nCf) hn c fun cls d H' h => hWσ _ _ _ _ _ h
  exact codeAny_compStart_list loop (T.self X.A 0 _ _ _ st4 loop)
/-- a call in a part -/
theorem pe_fxR {K : Fg} {mg : Str → Option Value} {x : Str} {ps : List Str} {k n : Nat} {f0 : RCD} {g0 : RCX} {p pos : Pos} {e : Expr} {es : List Expr} {t : TA} {Y : Cx} (G : FxX Y.prog Y.w K mg Y.base k x ps n f0 g0) (hK : Y.K = K) (hM : Y.mg = mg) (hr : Room k Y.A) (hg : Gl Y x) (ha : PA (Y.wish (XFl Y W)) (e :: es) t)
    (hdb : (x == ("__debug__" : Str)) = false := by decide) (hse : starEach (e :: es) Y.env = (false, eval e Y.env) :: starEach es Y.env := by rfl) (hbk : (backTo pos (starEach es Y.env)).any (·.1) = false := by rfl) :
    PE (Y.wish (XFl Y W)) (.Call (.Name x p) (e :: es) [] pos) (tCallS (spDX K mg n (orX f0 g0)) (WE W) t) := by
  subst hK hM
  obtain ⟨fa, fd, F, hm, hk, hb⟩ := G.ex
  obtain ⟨fa0, fd0, F0, hm0, _, hb0⟩ := G.pl.ex
  rw [hm] at hm0
  cases hm0
  constructor
  intro pins s σ H Q I h
  apply wpAny_Call_Name_kw
  refine ld_glob I hg hm (PySem.W.callWith_K (h₀ := Y.base) I.ok.mod.kin hk ?_ hse hbk) hdb
  refine thn (ha.run pos pins s σ H _ I h) fun us s1 z => ?_
  obtain ⟨vs, H1, I1, r, J, ds, Q2, X2, hl, e1, r1, q, k1, k2⟩ := z
  refine ⟨I1.kIn, ?_⟩
  rcases q with q | q
  · exact run_fn (X := Y.wish (XFl Y W)) (E := E0) F0 hr hb0 .nil pass0 I1 r (by rw [List.append_nil]; exact ⟨J, ds, Q2, hl, e1, r1, q, k1⟩)
  · exact run_fnS (X := Y.wish (XFl Y W)) F hr hb (fun pins H s u s' I c => ⟨pins, σ, H, s, I.unwish, c⟩) I1 r ⟨J, ds, Q2, X2, hl, e1, r1, q, k1, k2⟩
end
end Z2
namespace Law
open PySem PySem.Spec PyProof.Rows L2 Z2
def top (i : Nat) : Stmt := PySem.Challenge.pw_allbide_k75_problems_of_texts.main.body.getD i (.Pass ⟨0, 0, 0, 0⟩)
def TB_COURSES : List (Str × D) := [("net", (.tuple [(.tuple [(.str "a number"), (.str "size")])])), ("size", (.tuple [(.tuple [(.str "\":\""), (.str "colon")])])), ("colon", (.tuple [(.tuple [(.str "an event"), (.str "rule end")]), (.tuple [(.str "the end"), (.str "done")])])), ("rule end", (.tuple [(.tuple [(.str "\"-\""), (.str "dash")])])), ("dash", (.tuple [(.tuple [(.str "an event"), (.str "rule start")])])), ("rule start", (.tuple [(.tuple [(.str "in"), (.str "sides")])])), ("sides", (.tuple [(.tuple [(.str "a number"), (.str "low")]), (.tuple [(.str "\"-\""), (.str "low below 0")]), (.tuple [(.str "\"..\""), (.str "no low")])])), ("low below 0", (.tuple [(.tuple [(.str "a number"), (.str "low")])])), ("low", (.tuple [(.tuple [(.str "\"..\""), (.str "behind low")])])), ("behind low", (.tuple [(.tuple [(.str "a number"), (.str "high")]), (.tuple [(.str "\";\""), (.str "semicolon")]), (.tuple [(.str "\"-\""), (.str "high below 0")]), (.tuple [(.str "the end"), (.str "done")])])), ("no low", (.tuple [(.tuple [(.str "a number"), (.str "high")]), (.tuple [(.str "\"-\""), (.str "high below 0")])])), ("high below 0", (.tuple [(.tuple [(.str "a number"), (.str "high")])])), ("high", (.tuple [(.tuple [(.str "\";\""), (.str "semicolon")]), (.tuple [(.str "the end"), (.str "done")])])), ("semicolon", (.tuple [(.tuple [(.str "an event"), (.str "rule end")])])), ("row", (.tuple [(.tuple [(.str "an event"), (.str "told")]), (.tuple [(.str "the end"), (.str "done")])])), ("told", (.tuple [(.tuple [(.str "\"=\""), (.str "equals")])])), ("equals", (.tuple [(.tuple [(.str "a number"), (.str "time")]), (.tuple [(.str "\"-\""), (.str "time below 0")])])), ("time below 0", (.tuple [(.tuple [(.str "a number"), (.str "time")])])), ("time", (.tuple [(.tuple [(.str "\",\""), (.str "comma")]), (.tuple [(.str "the end"), (.str "done")])])), ("comma", (.tuple [(.tuple [(.str "an event"), (.str "told")])]))]
abbrev N_L_stream : List Str := ["script"]
theorem sc_L_stream : FnScope N_L_stream ["script"] (defScope (top 73)) := ⟨rfl, rfl, rfl, by decide +kernel, rfl, by decide +kernel, by decide +kernel⟩
theorem bb_L_stream : BindsBy "_law_stream" (top 73) ["script"] := fun _ _ _ _ _ _ us hl => match us, hl with | [_], _ => rfl
abbrev N_L_next : List Str := ["stream", "many", "k", "cell", "digit"]
theorem sc_L_next : FnScope N_L_next ["stream", "many"] (defScope (top 74)) := ⟨rfl, rfl, rfl, by decide +kernel, rfl, by decide +kernel, by decide +kernel⟩
theorem bb_L_next : BindsBy "_law_next" (top 74) ["stream", "many"] := fun _ _ _ _ _ _ us hl => match us, hl with | [_, _], _ => rfl
abbrev N_L_pick : List Str := ["stream", "rows"]
theorem sc_L_pick : FnScope N_L_pick ["stream", "rows"] (defScope (top 77)) := ⟨rfl, rfl, rfl, by decide +kernel, rfl, by decide +kernel, by decide +kernel⟩
theorem bb_L_pick : BindsBy "_law_pick" (top 77) ["stream", "rows"] := fun _ _ _ _ _ _ us hl => match us, hl with | [_, _], _ => rfl
def t_L_pick : T2S :=
  (dRet (dOp dIx (dVar 1) (dCallS 0 f_next (dCons (dCB dLen (dCons (dVar 1) dNil)) dNil))))
def f_L_pick : RCD := bodyS (N_L_pick.length - 1) 1 t_L_pick
abbrev N_L_is_integer : List Str := ["actual"]
theorem sc_L_is_integer : FnScope N_L_is_integer ["actual"] (defScope (top 75)) := ⟨rfl, rfl, rfl, by decide +kernel, rfl, by decide +kernel, by decide +kernel⟩
theorem bb_L_is_integer : BindsBy "_law_is_integer" (top 75) ["actual"] := fun _ _ _ _ _ _ us hl => match us, hl with | [_], _ => rfl
def t_L_is_integer : T2S :=
  (dRet (dAndV (dIsi "int" (dVar 0)) (dNotV (dIsi "bool" (dVar 0)))))
def f_L_is_integer : RCD := bodyD N_L_is_integer.length 1 t_L_is_integer
abbrev N_L_equal : List Str := ["actual", "due", "at"]
theorem sc_L_equal : FnScope N_L_equal ["actual", "due"] (defScope (top 76)) := ⟨rfl, rfl, rfl, by decide +kernel, rfl, by decide +kernel, by decide +kernel⟩
theorem bb_L_equal : BindsBy "_law_equal" (top 76) ["actual", "due"] := fun _ _ _ _ _ _ us hl => match us, hl with | [_, _], _ => rfl
def t_L_equal (n : Nat) : T2S :=
  (dSeq (dIfS (dB (dOp dIsN (dVar 1) (dC .none)))
  (dRet (dOp dIsN (dVar 0) (dC .none)))
  dNext)
  (dSeq (dIfS (dTru (dIsi "bool" (dVar 1)))
  (dRet (dAndV (dIsi "bool" (dVar 0)) (dOp dEq (dVar 0) (dVar 1))))
  dNext)
  (dSeq (dIfS (dTru (dIsi "int" (dVar 1)))
  (dRet (dAndV (dCB f_L_is_integer (dCons (dVar 0) dNil)) (dOp dEq (dVar 0) (dVar 1))))
  dNext)
  (dSeq (dIfS (dTru (dIsi "str" (dVar 1)))
  (dRet (dAndV (dIsi "str" (dVar 0)) (dOp dEq (dVar 0) (dVar 1))))
  dNext)
  (dSeq (dIfS (dAnd (dTru (dIsi "tuple" (dVar 1))) (dNot (dTru (dIsi "tuple" (dVar 0)))))
  (dRet (dC (.bool false)))
  dNext)
  (dSeq (dIfS (dAnd (dTru (dIsi "list" (dVar 1))) (dNot (dTru (dIsi "list" (dVar 0)))))
  (dRet (dC (.bool false)))
  dNext)
  (dSeq (dIfS (dB (dOp dNe (dCB dLen (dCons (dVar 0) dNil)) (dCB dLen (dCons (dVar 1) dNil))))
  (dRet (dC (.bool false)))
  dNext)
  (dRet (dCB (dBools fun bs => bs.all id) (dCons (tList (dLc (diR1 (dCons (dCB dLen (dCons (dVar 1) dNil)) dNil)) (gN 2) (fun _ Q => Q true) (dCB (f_equal n) (dCons (dOp dIx (dVar 0) (dVar 2)) (dCons (dOp dIx (dVar 1) (dVar 2)) dNil))) [2])) dNil))))))))))
abbrev N_check_text : List Str := ["text"]
theorem sc_check_text : FnScope N_check_text ["text"] (defScope (top 39)) := ⟨rfl, rfl, rfl, by decide +kernel, rfl, by decide +kernel, by decide +kernel⟩
theorem bb_check_text : BindsBy "check_text" (top 39) ["text"] := fun _ _ _ _ _ _ us hl => match us, hl with | [_], _ => rfl
def t_check_text : T2S :=
  (dIfS (dOr (dNot (dTru (dIsi "str" (dVar 0)))) (dOr (dB (dOp dGt (dCB dLenS (dCons (dVar 0) dNil)) (dC (.int (600))))) (dB (dOp (dInS false) (dC (.str "\n")) (dVar 0)))))
  dNever
  dNext)
def f_check_text : RCD := bodyD N_check_text.length 1 t_check_text
def tX_check_text (x : T2X) : T2S :=
  (dIfS (dOr (dNot (dTru (dIsi "str" (dVar 0)))) (dOr (dB (dOp dGt (dCB dLenS (dCons (dVar 0) dNil)) (dC (.int (600))))) (dB (dOp (dInS false) (dC (.str "\n")) (dVar 0)))))
  (dRaise x 0 (dC (.str "text")))
  dNext)
def fX_check_text : RCX := bodyX N_check_text.length 1 (tX_check_text)
theorem oX_check_text {a0 : D} {Q : D → Prop} {X : Nat → D → Prop} (h : tX_check_text (fun _ => X) { nx := fun _ => Q .none, rt := Q } [some (.dat a0)]) : fX_check_text [a0] Q X := ⟨rfl, h⟩
theorem o_check_text {a0 : D} {Q : D → Prop} (h : t_check_text { nx := fun _ => Q .none, rt := Q } [some (.dat a0)]) : f_check_text [a0] Q := ⟨rfl, h⟩
abbrev N_possible_at : List Str := ["place", "words", "_"]
theorem sc_possible_at : FnScope N_possible_at ["place"] (defScope (top 50)) := ⟨rfl, rfl, rfl, by decide +kernel, rfl, by decide +kernel, by decide +kernel⟩
theorem bb_possible_at : BindsBy "possible_at" (top 50) ["place"] := fun _ _ _ _ _ _ us hl => match us, hl with | [_], _ => rfl
def t_possible_at : T2S :=
  (dRet (tList (dLc (diS (dCD TB_COURSES (dVar 0))) (gT 2 (gsCons (gN 1) (gsCons (gN 2) gsNil))) (fun _ Q => Q true) (dVar 1) [1, 2])))
def f_possible_at : RCD := bodyD N_possible_at.length 1 t_possible_at
abbrev N_words_for : List Str := ["token", "kind", "characters", "_"]
theorem sc_words_for : FnScope N_words_for ["token"] (defScope (top 48)) := ⟨rfl, rfl, rfl, by decide +kernel, rfl, by decide +kernel, by decide +kernel⟩
theorem bb_words_for : BindsBy "words_for" (top 48) ["token"] := fun _ _ _ _ _ _ us hl => match us, hl with | [_], _ => rfl
def t_words_for : T2S :=
  (dSeq (dAsg (dVar 0) (gT 3 (gsCons (gN 1) (gsCons (gN 2) (gsCons (gN 3) gsNil)))))
  (dSeq (dIfS (dB (dOp dEq (dVar 1) (dC (.str "event"))))
  (dRet (dC (.str "an event")))
  dNext)
  (dSeq (dIfS (dB (dOp dEq (dVar 1) (dC (.str "number"))))
  (dRet (dC (.str "a number")))
  dNext)
  (dSeq (dIfS (dB (dOp dEq (dVar 1) (dC (.str "sign"))))
  (dRet (dJs [(dC (.str "\"")), (dFmt (dVar 2)), (dC (.str "\""))] Str.empty))
  dNext)
  (dRet (dIf (dB (dOp dEq (dVar 1) (dC (.str "end")))) (dC (.str "the end")) (dVar 2)))))))
def f_words_for : RCD := bodyD N_words_for.length 1 t_words_for
theorem o_words_for {a0 : D} {Q : D → Prop} (h : t_words_for { nx := fun _ => Q .none, rt := Q } [some (.dat a0), none, none, none]) : f_words_for [a0] Q := ⟨rfl, h⟩
abbrev N_listed : List Str := ["words"]
theorem sc_listed : FnScope N_listed ["words"] (defScope (top 49)) := ⟨rfl, rfl, rfl, by decide +kernel, rfl, by decide +kernel, by decide +kernel⟩
theorem bb_listed : BindsBy "listed" (top 49) ["words"] := fun _ _ _ _ _ _ us hl => match us, hl with | [_], _ => rfl
def t_listed : T2S :=
  (dSeq (dIfS (dB (dOp dEq (dCB dLenS (dCons (dVar 0) dNil)) (dC (.int (1)))))
  (dRet (dOp dIxS (dVar 0) (dC (.int (0)))))
  dNext)
  (dRet (dOp dAddS (dOp dAddS (dTM dJoin (dC (.str ", ")) (dSlS (dVar 0) dNoPart (dPart (dUn dNeg (dC (.int (1))))))) (dC (.str " or "))) (dOp dIxS (dVar 0) (dUn dNeg (dC (.int (1))))))))
def f_listed : RCD := bodyD N_listed.length 1 t_listed
abbrev N_place_behind : List Str := ["place", "token", "words", "behind"]
theorem sc_place_behind : FnScope N_place_behind ["place", "token"] (defScope (top 51)) := ⟨rfl, rfl, rfl, by decide +kernel, rfl, by decide +kernel, by decide +kernel⟩
theorem bb_place_behind : BindsBy "place_behind" (top 51) ["place", "token"] := fun _ _ _ _ _ _ us hl => match us, hl with | [_, _], _ => rfl
def t_place_behind : T2S :=
  (dSeq (dFor (diS (dCD TB_COURSES (dVar 0))) (gT 2 (gsCons (gN 2) (gsCons (gN 3) gsNil)))
  (dIfS (dB (dOp dEq (dVar 2) (dCB f_words_for (dCons (dVar 1) dNil))))
  (dRet (dVar 3))
  dNext))
  dNever)
def f_place_behind : RCD := bodyD N_place_behind.length 2 t_place_behind
def tX_place_behind (x : T2X) : T2S :=
  (dSeq (dFor (diS (dCD TB_COURSES (dVar 0))) (gT 2 (gsCons (gN 2) (gsCons (gN 3) gsNil)))
  (dIfS (dB (dOp dEq (dVar 2) (dCB f_words_for (dCons (dVar 1) dNil))))
  (dRet (dVar 3))
  dNext))
  (dRaise3 x (dOp dIxS (dVar 1) (dC (.int (2)))) (dOp dAddS (dC (.str "expected ")) (dCB f_listed (dCons (dCB f_possible_at (dCons (dVar 0) dNil)) dNil)))))
def fX_place_behind : RCX := bodyX N_place_behind.length 2 (tX_place_behind)
theorem o_place_behind {a0 a1 : D} {Q : D → Prop} (h : t_place_behind { nx := fun _ => Q .none, rt := Q } [some (.dat a0), some (.dat a1), none, none]) : f_place_behind [a0, a1] Q := ⟨rfl, h⟩
abbrev N_place_behind_all : List Str := ["tokens", "kind", "place", "token"]
theorem sc_place_behind_all : FnScope N_place_behind_all ["tokens", "kind"] (defScope (top 52)) := ⟨rfl, rfl, rfl, by decide +kernel, rfl, by decide +kernel, by decide +kernel⟩
theorem bb_place_behind_all : BindsBy "place_behind_all" (top 52) ["tokens", "kind"] := fun _ _ _ _ _ _ us hl => match us, hl with | [_, _], _ => rfl
def t_place_behind_all : T2S :=
  (dSeq (dAsg (dVar 1) (gN 2))
  (dSeq (dFor (diS (dVar 0)) (gN 3)
  (dAsg (dCB f_place_behind (dCons (dVar 2) (dCons (dVar 3) dNil))) (gN 2)))
  (dRet (dVar 2))))
def f_place_behind_all : RCD := bodyD N_place_behind_all.length 2 t_place_behind_all
def tX_place_behind_all (x : T2X) : T2S :=
  (dSeq (dAsg (dVar 1) (gN 2))
  (dSeq (dFor (diS (dVar 0)) (gN 3)
  (dAsg (dCBX (orX f_place_behind fX_place_behind) x (dCons (dVar 2) (dCons (dVar 3) dNil))) (gN 2)))
  (dRet (dVar 2))))
def fX_place_behind_all : RCX := bodyX N_place_behind_all.length 2 (tX_place_behind_all)
theorem o_place_behind_all {a0 a1 : D} {Q : D → Prop} (h : t_place_behind_all { nx := fun _ => Q .none, rt := Q } [some (.dat a0), some (.dat a1), none, none]) : f_place_behind_all [a0, a1] Q := ⟨rfl, h⟩
abbrev N_run_from : List Str := ["text", "at", "characters", "end"]
theorem sc_run_from : FnScope N_run_from ["text", "at", "characters"] (defScope (top 40)) := ⟨rfl, rfl, rfl, by decide +kernel, rfl, by decide +kernel, by decide +kernel⟩
theorem bb_run_from : BindsBy "run_from" (top 40) ["text", "at", "characters"] := fun _ _ _ _ _ _ us hl => match us, hl with | [_, _, _], _ => rfl
def t_run_from : T2S :=
  (dSeq (dAsg (dVar 1) (gN 3))
  (dSeq (dWhile (dAnd (dB (dOp dLt (dVar 3) (dCB dLenS (dCons (dVar 0) dNil)))) (dB (dOp (dInS false) (dOp dIxS (dVar 0) (dVar 3)) (dVar 2))))
  (dAugS 3 (dC (.int (1)))))
  (dRet (dSlS (dVar 0) (dPart (dVar 1)) (dPart (dVar 3))))))
def f_run_from : RCD := bodyD N_run_from.length 3 t_run_from
theorem o_run_from {a0 a1 a2 : D} {Q : D → Prop} (h : t_run_from { nx := fun _ => Q .none, rt := Q } [some (.dat a0), some (.dat a1), some (.dat a2), none]) : f_run_from [a0, a1, a2] Q := ⟨rfl, h⟩
abbrev N_letters_kind : List Str := ["letters", "column"]
theorem sc_letters_kind : FnScope N_letters_kind ["letters", "column"] (defScope (top 41)) := ⟨rfl, rfl, rfl, by decide +kernel, rfl, by decide +kernel, by decide +kernel⟩
theorem bb_letters_kind : BindsBy "letters_kind" (top 41) ["letters", "column"] := fun _ _ _ _ _ _ us hl => match us, hl with | [_, _], _ => rfl
def t_letters_kind : T2S :=
  (dSeq (dIfS (dB (dOp dEq (dVar 0) (dC (.str "in"))))
  (dRet (dC (.str "word")))
  dNext)
  (dSeq (dIfS (dAnd (dB (dOp dEq (dCB dLenS (dCons (dVar 0) dNil)) (dC (.int (1))))) (dB (dOp (dInS false) (dVar 0) (dC (.str "abcdef")))))
  (dRet (dC (.str "event")))
  dNext)
  dNever))
def f_letters_kind : RCD := bodyD N_letters_kind.length 2 t_letters_kind
def tX_letters_kind (x : T2X) : T2S :=
  (dSeq (dIfS (dB (dOp dEq (dVar 0) (dC (.str "in"))))
  (dRet (dC (.str "word")))
  dNext)
  (dSeq (dIfS (dAnd (dB (dOp dEq (dCB dLenS (dCons (dVar 0) dNil)) (dC (.int (1))))) (dB (dOp (dInS false) (dVar 0) (dC (.str "abcdef")))))
  (dRet (dC (.str "event")))
  dNext)
  (dRaise3 x (dVar 1) (dC (.str "there is no such word")))))
def fX_letters_kind : RCX := bodyX N_letters_kind.length 2 (tX_letters_kind)
theorem o_letters_kind {a0 a1 : D} {Q : D → Prop} (h : t_letters_kind { nx := fun _ => Q .none, rt := Q } [some (.dat a0), some (.dat a1)]) : f_letters_kind [a0, a1] Q := ⟨rfl, h⟩
abbrev N_token_at : List Str := ["text", "at", "column", "letters", "digits"]
theorem sc_token_at : FnScope N_token_at ["text", "at"] (defScope (top 42)) := ⟨rfl, rfl, rfl, by decide +kernel, rfl, by decide +kernel, by decide +kernel⟩
theorem bb_token_at : BindsBy "token_at" (top 42) ["text", "at"] := fun _ _ _ _ _ _ us hl => match us, hl with | [_, _], _ => rfl
def t_token_at : T2S :=
  (dSeq (dAsg (dOp dAddS (dVar 1) (dC (.int (1)))) (gN 2))
  (dSeq (dAsg (dCB f_run_from (dCons (dVar 0) (dCons (dVar 1) (dCons (dC (.str "abcdefghijklmnopqrstuvwxyz")) dNil)))) (gN 3))
  (dSeq (dIfS (dTru (dVar 3))
  (dRet (dTup (dCons (dCB f_letters_kind (dCons (dVar 3) (dCons (dVar 2) dNil))) (dCons (dVar 3) (dCons (dVar 2) dNil)))))
  dNext)
  (dSeq (dAsg (dCB f_run_from (dCons (dVar 0) (dCons (dVar 1) (dCons (dC (.str "0123456789")) dNil)))) (gN 4))
  (dSeq (dIfS (dB (dOp dGt (dCB dLenS (dCons (dVar 4) dNil)) (dC (.int (6)))))
  dNever
  dNext)
  (dSeq (dIfS (dTru (dVar 4))
  (dRet (dTup (dCons (dC (.str "number")) (dCons (dVar 4) (dCons (dVar 2) dNil)))))
  dNext)
  (dSeq (dIfS (dB (dOp (dInS false) (dOp dIxS (dVar 0) (dVar 1)) (dC (.str ":;,=-"))))
  (dRet (dTup (dCons (dC (.str "sign")) (dCons (dOp dIxS (dVar 0) (dVar 1)) (dCons (dVar 2) dNil)))))
  dNext)
  (dSeq (dIfS (dB (dOp dEq (dSlS (dVar 0) (dPart (dVar 1)) (dPart (dOp dAddS (dVar 1) (dC (.int (2)))))) (dC (.str ".."))))
  (dRet (dTup (dCons (dC (.str "sign")) (dCons (dC (.str "..")) (dCons (dVar 2) dNil)))))
  dNext)
  dNever))))))))
def f_token_at : RCD := bodyD N_token_at.length 2 t_token_at
def tX_token_at (x : T2X) : T2S :=
  (dSeq (dAsg (dOp dAddS (dVar 1) (dC (.int (1)))) (gN 2))
  (dSeq (dAsg (dCB f_run_from (dCons (dVar 0) (dCons (dVar 1) (dCons (dC (.str "abcdefghijklmnopqrstuvwxyz")) dNil)))) (gN 3))
  (dSeq (dIfS (dTru (dVar 3))
  (dRet (dTup (dCons (dCBX (orX f_letters_kind fX_letters_kind) x (dCons (dVar 3) (dCons (dVar 2) dNil))) (dCons (dVar 3) (dCons (dVar 2) dNil)))))
  dNext)
  (dSeq (dAsg (dCB f_run_from (dCons (dVar 0) (dCons (dVar 1) (dCons (dC (.str "0123456789")) dNil)))) (gN 4))
  (dSeq (dIfS (dB (dOp dGt (dCB dLenS (dCons (dVar 4) dNil)) (dC (.int (6)))))
  (dRaise3 x (dVar 2) (dC (.str "a number has at most 6 digits")))
  dNext)
  (dSeq (dIfS (dTru (dVar 4))
  (dRet (dTup (dCons (dC (.str "number")) (dCons (dVar 4) (dCons (dVar 2) dNil)))))
  dNext)
  (dSeq (dIfS (dB (dOp (dInS false) (dOp dIxS (dVar 0) (dVar 1)) (dC (.str ":;,=-"))))
  (dRet (dTup (dCons (dC (.str "sign")) (dCons (dOp dIxS (dVar 0) (dVar 1)) (dCons (dVar 2) dNil)))))
  dNext)
  (dSeq (dIfS (dB (dOp dEq (dSlS (dVar 0) (dPart (dVar 1)) (dPart (dOp dAddS (dVar 1) (dC (.int (2)))))) (dC (.str ".."))))
  (dRet (dTup (dCons (dC (.str "sign")) (dCons (dC (.str "..")) (dCons (dVar 2) dNil)))))
  dNext)
  (dRaise3 x (dVar 2) (dC (.str "no token begins here")))))))))))
def fX_token_at : RCX := bodyX N_token_at.length 2 (tX_token_at)
theorem o_token_at {a0 a1 : D} {Q : D → Prop} (h : t_token_at { nx := fun _ => Q .none, rt := Q } [some (.dat a0), some (.dat a1), none, none, none]) : f_token_at [a0, a1] Q := ⟨rfl, h⟩
abbrev N_scan : List Str := ["text", "tokens", "at", "token"]
theorem sc_scan : FnScope N_scan ["text"] (defScope (top 43)) := ⟨rfl, rfl, rfl, by decide +kernel, rfl, by decide +kernel, by decide +kernel⟩
theorem bb_scan : BindsBy "scan" (top 43) ["text"] := fun _ _ _ _ _ _ us hl => match us, hl with | [_], _ => rfl
def t_scan : T2S :=
  (dSeq (dDrop (dCB f_check_text (dCons (dVar 0) dNil)))
  (dSeq (dAsgO dNil 1)
  (dSeq (dAsg (dC (.int (0))) (gN 2))
  (dSeq (dWhile (dB (dOp dLt (dVar 2) (dCB dLenS (dCons (dVar 0) dNil))))
  (dIfS (dB (dOp dEq (dOp dIxS (dVar 0) (dVar 2)) (dC (.str " "))))
  (dAugS 2 (dC (.int (1))))
  (dSeq (dAsg (dCB f_token_at (dCons (dVar 0) (dCons (dVar 2) dNil))) (gN 3))
  (dSeq (dApp 1 (dVar 3))
  (dAugS 2 (dCB dLenS (dCons (dOp dIxS (dVar 3) (dC (.int (1)))) dNil)))))))
  (dSeq (dApp 1 (dTup (dCons (dC (.str "end")) (dCons (dC (.str "")) (dCons (dOp dAddS (dCB dLenS (dCons (dVar 0) dNil)) (dC (.int (1)))) dNil)))))
  (dFrz 1 (dRet (dVar 1))))))))
def f_scan : RCD := bodyD N_scan.length 1 t_scan
def tX_scan (x : T2X) : T2S :=
  (dSeq (dDrop (dCBX (orX f_check_text fX_check_text) x (dCons (dVar 0) dNil)))
  (dSeq (dAsgO dNil 1)
  (dSeq (dAsg (dC (.int (0))) (gN 2))
  (dSeq (dWhile (dB (dOp dLt (dVar 2) (dCB dLenS (dCons (dVar 0) dNil))))
  (dIfS (dB (dOp dEq (dOp dIxS (dVar 0) (dVar 2)) (dC (.str " "))))
  (dAugS 2 (dC (.int (1))))
  (dSeq (dAsg (dCBX (orX f_token_at fX_token_at) x (dCons (dVar 0) (dCons (dVar 2) dNil))) (gN 3))
  (dSeq (dApp 1 (dVar 3))
  (dAugS 2 (dCB dLenS (dCons (dOp dIxS (dVar 3) (dC (.int (1)))) dNil)))))))
  (dSeq (dApp 1 (dTup (dCons (dC (.str "end")) (dCons (dC (.str "")) (dCons (dOp dAddS (dCB dLenS (dCons (dVar 0) dNil)) (dC (.int (1)))) dNil)))))
  (dFrz 1 (dRet (dVar 1))))))))
def fX_scan : RCX := bodyX N_scan.length 1 (tX_scan)
theorem oX_scan {a0 : D} {Q : D → Prop} {X : Nat → D → Prop} (h : tX_scan (fun _ => X) { nx := fun _ => Q .none, rt := Q } [some (.dat a0), none, none, none]) : fX_scan [a0] Q X := ⟨rfl, h⟩
theorem o_scan {a0 : D} {Q : D → Prop} (h : t_scan { nx := fun _ => Q .none, rt := Q } [some (.dat a0), none, none, none]) : f_scan [a0] Q := ⟨rfl, h⟩
abbrev N_next_tokens : List Str := ["text", "kind"]
theorem sc_next_tokens : FnScope N_next_tokens ["text", "kind"] (defScope (top 53)) := ⟨rfl, rfl, rfl, by decide +kernel, rfl, by decide +kernel, by decide +kernel⟩
theorem bb_next_tokens : BindsBy "next_tokens" (top 53) ["text", "kind"] := fun _ _ _ _ _ _ us hl => match us, hl with | [_, _], _ => rfl
def t_next_tokens : T2S :=
  (dSeq (dDrop (dCB f_check_text (dCons (dVar 0) dNil)))
  (dSeq (dIfS (dOr (dNot (dTru (dIsi "str" (dVar 1)))) (dB (dOp (dInS true) (dVar 1) (dTup (dCons (dC (.str "net")) (dCons (dC (.str "row")) dNil))))))
  dNever
  dNext)
  (dRet (dCB f_possible_at (dCons (dCB f_place_behind_all (dCons (dSlS (dCB f_scan (dCons (dVar 0) dNil)) dNoPart (dPart (dUn dNeg (dC (.int (1)))))) (dCons (dVar 1) dNil))) dNil)))))
def f_next_tokens : RCD := bodyD N_next_tokens.length 2 t_next_tokens
def tX_next_tokens (x : T2X) : T2S :=
  (dSeq (dDrop (dCBX (orX f_check_text fX_check_text) x (dCons (dVar 0) dNil)))
  (dSeq (dIfS (dOr (dNot (dTru (dIsi "str" (dVar 1)))) (dB (dOp (dInS true) (dVar 1) (dTup (dCons (dC (.str "net")) (dCons (dC (.str "row")) dNil))))))
  (dRaise x 0 (dC (.str "kind")))
  dNext)
  (dRet (dCB f_possible_at (dCons (dCBX (orX f_place_behind_all fX_place_behind_all) x (dCons (dSlS (dCBX (orX f_scan fX_scan) x (dCons (dVar 0) dNil)) dNoPart (dPart (dUn dNeg (dC (.int (1)))))) (dCons (dVar 1) dNil))) dNil)))))
def fX_next_tokens : RCX := bodyX N_next_tokens.length 2 (tX_next_tokens)
theorem oX_next_tokens {a0 a1 : D} {Q : D → Prop} {X : Nat → D → Prop} (h : tX_next_tokens (fun _ => X) { nx := fun _ => Q .none, rt := Q } [some (.dat a0), some (.dat a1)]) : fX_next_tokens [a0, a1] Q X := ⟨rfl, h⟩
abbrev N_tokens_of : List Str := ["text", "kind", "tokens"]
theorem sc_tokens_of : FnScope N_tokens_of ["text", "kind"] (defScope (top 54)) := ⟨rfl, rfl, rfl, by decide +kernel, rfl, by decide +kernel, by decide +kernel⟩
theorem bb_tokens_of : BindsBy "tokens_of" (top 54) ["text", "kind"] := fun _ _ _ _ _ _ us hl => match us, hl with | [_, _], _ => rfl
def t_tokens_of : T2S :=
  (dSeq (dAsg (dCB f_scan (dCons (dVar 0) dNil)) (gN 2))
  (dSeq (dDrop (dCB f_place_behind_all (dCons (dVar 2) (dCons (dVar 1) dNil))))
  (dRet (dVar 2))))
def f_tokens_of : RCD := bodyD N_tokens_of.length 2 t_tokens_of
def tX_tokens_of (x : T2X) : T2S :=
  (dSeq (dAsg (dCBX (orX f_scan fX_scan) x (dCons (dVar 0) dNil)) (gN 2))
  (dSeq (dDrop (dCBX (orX f_place_behind_all fX_place_behind_all) x (dCons (dVar 2) (dCons (dVar 1) dNil))))
  (dRet (dVar 2))))
def fX_tokens_of : RCX := bodyX N_tokens_of.length 2 (tX_tokens_of)
theorem oX_tokens_of {a0 a1 : D} {Q : D → Prop} {X : Nat → D → Prop} (h : tX_tokens_of (fun _ => X) { nx := fun _ => Q .none, rt := Q } [some (.dat a0), some (.dat a1), none]) : fX_tokens_of [a0, a1] Q X := ⟨rfl, h⟩
theorem o_tokens_of {a0 a1 : D} {Q : D → Prop} (h : t_tokens_of { nx := fun _ => Q .none, rt := Q } [some (.dat a0), some (.dat a1), none]) : f_tokens_of [a0, a1] Q := ⟨rfl, h⟩
abbrev N_size_in : List Str := ["token", "size"]
theorem sc_size_in : FnScope N_size_in ["token"] (defScope (top 59)) := ⟨rfl, rfl, rfl, by decide +kernel, rfl, by decide +kernel, by decide +kernel⟩
theorem bb_size_in : BindsBy "size_in" (top 59) ["token"] := fun _ _ _ _ _ _ us hl => match us, hl with | [_], _ => rfl
def t_size_in : T2S :=
  (dSeq (dAsg (dCB dIntS (dCons (dOp dIxS (dVar 0) (dC (.int (1)))) dNil)) (gN 1))
  (dSeq (dIfS (dOr (dB (dOp dLt (dVar 1) (dC (.int (1))))) (dB (dOp dGt (dVar 1) (dC (.int (6))))))
  dNever
  dNext)
  (dRet (dVar 1))))
def f_size_in : RCD := bodyD N_size_in.length 1 t_size_in
def tX_size_in (x : T2X) : T2S :=
  (dSeq (dAsg (dCB dIntS (dCons (dOp dIxS (dVar 0) (dC (.int (1)))) dNil)) (gN 1))
  (dSeq (dIfS (dOr (dB (dOp dLt (dVar 1) (dC (.int (1))))) (dB (dOp dGt (dVar 1) (dC (.int (6))))))
  (dRaise3 x (dOp dIxS (dVar 0) (dC (.int (2)))) (dC (.str "a size is from 1 to 6")))
  dNext)
  (dRet (dVar 1))))
def fX_size_in : RCX := bodyX N_size_in.length 1 (tX_size_in)
theorem oX_size_in {a0 : D} {Q : D → Prop} {X : Nat → D → Prop} (h : tX_size_in (fun _ => X) { nx := fun _ => Q .none, rt := Q } [some (.dat a0), none]) : fX_size_in [a0] Q X := ⟨rfl, h⟩
abbrev N_parts_between : List Str := ["tokens", "sign", "parts", "part", "token"]
theorem sc_parts_between : FnScope N_parts_between ["tokens", "sign"] (defScope (top 55)) := ⟨rfl, rfl, rfl, by decide +kernel, rfl, by decide +kernel, by decide +kernel⟩
theorem bb_parts_between : BindsBy "parts_between" (top 55) ["tokens", "sign"] := fun _ _ _ _ _ _ us hl => match us, hl with | [_, _], _ => rfl
def t_parts_between : T2S :=
  (dSeq (dAsgO dNil 2)
  (dSeq (dAsgO dNil 3)
  (dSeq (dFor (diS (dVar 0)) (gN 4)
  (dIfS (dB (dOp dEq (dOp dIxS (dVar 4) (dC (.int (1)))) (dVar 1)))
  (dSeq (dFrz 3 (dApp 2 (dVar 3)))
  (dAsgO dNil 3))
  (dApp 3 (dVar 4))))
  (dFrz 2 (dFrz 3 (dRet (dOp dAddS (dVar 2) (tList (dCons (dVar 3) dNil)))))))))
def f_parts_between : RCD := bodyD N_parts_between.length 2 t_parts_between
theorem o_parts_between {a0 a1 : D} {Q : D → Prop} (h : t_parts_between { nx := fun _ => Q .none, rt := Q } [some (.dat a0), some (.dat a1), none, none, none]) : f_parts_between [a0, a1] Q := ⟨rfl, h⟩
abbrev N_event_in : List Str := ["size", "token", "event"]
theorem sc_event_in : FnScope N_event_in ["size", "token"] (defScope (top 56)) := ⟨rfl, rfl, rfl, by decide +kernel, rfl, by decide +kernel, by decide +kernel⟩
theorem bb_event_in : BindsBy "event_in" (top 56) ["size", "token"] := fun _ _ _ _ _ _ us hl => match us, hl with | [_, _], _ => rfl
def t_event_in : T2S :=
  (dSeq (dAsg (dTM dIdxT (dC (.str "abcdef")) (dOp dIxS (dVar 1) (dC (.int (1))))) (gN 2))
  (dSeq (dIfS (dB (dOp dGe (dVar 2) (dVar 0)))
  dNever
  dNext)
  (dRet (dVar 2))))
def f_event_in : RCD := bodyD N_event_in.length 2 t_event_in
def tX_event_in (x : T2X) : T2S :=
  (dSeq (dAsg (dTM dIdxT (dC (.str "abcdef")) (dOp dIxS (dVar 1) (dC (.int (1))))) (gN 2))
  (dSeq (dIfS (dB (dOp dGe (dVar 2) (dVar 0)))
  (dRaise3 x (dOp dIxS (dVar 1) (dC (.int (2)))) (dC (.str "there is no such event")))
  dNext)
  (dRet (dVar 2))))
def fX_event_in : RCX := bodyX N_event_in.length 2 (tX_event_in)
theorem oX_event_in {a0 a1 : D} {Q : D → Prop} {X : Nat → D → Prop} (h : tX_event_in (fun _ => X) { nx := fun _ => Q .none, rt := Q } [some (.dat a0), some (.dat a1), none]) : fX_event_in [a0, a1] Q X := ⟨rfl, h⟩
abbrev N_integer_in : List Str := ["tokens", "greatest", "problem", "_", "digits", "column"]
theorem sc_integer_in : FnScope N_integer_in ["tokens", "greatest", "problem"] (defScope (top 57)) := ⟨rfl, rfl, rfl, by decide +kernel, rfl, by decide +kernel, by decide +kernel⟩
theorem bb_integer_in : BindsBy "integer_in" (top 57) ["tokens", "greatest", "problem"] := fun _ _ _ _ _ _ us hl => match us, hl with | [_, _, _], _ => rfl
def t_integer_in : T2S :=
  (dSeq (dAsg (dOp dIxS (dVar 0) (dUn dNeg (dC (.int (1))))) (gT 3 (gsCons (gN 3) (gsCons (gN 4) (gsCons (gN 5) gsNil)))))
  (dSeq (dIfS (dB (dOp dGt (dCB dIntS (dCons (dVar 4) dNil)) (dVar 1)))
  dNever
  dNext)
  (dRet (dIf (dB (dOp dEq (dCB dLenS (dCons (dVar 0) dNil)) (dC (.int (1))))) (dCB dIntS (dCons (dVar 4) dNil)) (dUn dNeg (dCB dIntS (dCons (dVar 4) dNil)))))))
def f_integer_in : RCD := bodyD N_integer_in.length 3 t_integer_in
def tX_integer_in (x : T2X) : T2S :=
  (dSeq (dAsg (dOp dIxS (dVar 0) (dUn dNeg (dC (.int (1))))) (gT 3 (gsCons (gN 3) (gsCons (gN 4) (gsCons (gN 5) gsNil)))))
  (dSeq (dIfS (dB (dOp dGt (dCB dIntS (dCons (dVar 4) dNil)) (dVar 1)))
  (dRaise3 x (dVar 5) (dVar 2))
  dNext)
  (dRet (dIf (dB (dOp dEq (dCB dLenS (dCons (dVar 0) dNil)) (dC (.int (1))))) (dCB dIntS (dCons (dVar 4) dNil)) (dUn dNeg (dCB dIntS (dCons (dVar 4) dNil)))))))
def fX_integer_in : RCX := bodyX N_integer_in.length 3 (tX_integer_in)
theorem oX_integer_in {a0 a1 a2 : D} {Q : D → Prop} {X : Nat → D → Prop} (h : tX_integer_in (fun _ => X) { nx := fun _ => Q .none, rt := Q } [some (.dat a0), some (.dat a1), some (.dat a2), none, none, none]) : fX_integer_in [a0, a1, a2] Q X := ⟨rfl, h⟩
abbrev N_side_in : List Str := ["tokens"]
theorem sc_side_in : FnScope N_side_in ["tokens"] (defScope (top 58)) := ⟨rfl, rfl, rfl, by decide +kernel, rfl, by decide +kernel, by decide +kernel⟩
theorem bb_side_in : BindsBy "side_in" (top 58) ["tokens"] := fun _ _ _ _ _ _ us hl => match us, hl with | [_], _ => rfl
def t_side_in : T2S :=
  (dSeq (dIfS (dNot (dTru (dVar 0)))
  (dRet (dC .none))
  dNext)
  (dRet (dCB f_integer_in (dCons (dVar 0) (dCons (dC (.int (100))) (dCons (dC (.str "a side is from -100 to 100")) dNil))))))
def f_side_in : RCD := bodyD N_side_in.length 1 t_side_in
def tX_side_in (x : T2X) : T2S :=
  (dSeq (dIfS (dNot (dTru (dVar 0)))
  (dRet (dC .none))
  dNext)
  (dRet (dCBX (orX f_integer_in fX_integer_in) x (dCons (dVar 0) (dCons (dC (.int (100))) (dCons (dC (.str "a side is from -100 to 100")) dNil))))))
def fX_side_in : RCX := bodyX N_side_in.length 1 (tX_side_in)
theorem oX_side_in {a0 : D} {Q : D → Prop} {X : Nat → D → Prop} (h : tX_side_in (fun _ => X) { nx := fun _ => Q .none, rt := Q } [some (.dat a0)]) : fX_side_in [a0] Q X := ⟨rfl, h⟩
abbrev N_rule_in : List Str := ["size", "tokens", "end", "start", "low", "high", "part"]
theorem sc_rule_in : FnScope N_rule_in ["size", "tokens"] (defScope (top 60)) := ⟨rfl, rfl, rfl, by decide +kernel, rfl, by decide +kernel, by decide +kernel⟩
theorem bb_rule_in : BindsBy "rule_in" (top 60) ["size", "tokens"] := fun _ _ _ _ _ _ us hl => match us, hl with | [_, _], _ => rfl
def t_rule_in : T2S :=
  (dSeq (dAsg (dCB f_event_in (dCons (dVar 0) (dCons (dOp dIxS (dVar 1) (dC (.int (0)))) dNil))) (gN 2))
  (dSeq (dAsg (dCB f_event_in (dCons (dVar 0) (dCons (dOp dIxS (dVar 1) (dC (.int (2)))) dNil))) (gN 3))
  (dSeq (dIfS (dB (dOp dEq (dVar 3) (dVar 2)))
  dNever
  dNext)
  (dSeq (dAsg (tList (dLc (diS (dCB f_parts_between (dCons (dSlS (dVar 1) (dPart (dC (.int (4)))) dNoPart) (dCons (dC (.str "..")) dNil)))) (gN 6) (fun _ Q => Q true) (dCB f_side_in (dCons (dVar 6) dNil)) [6])) (gT 2 (gsCons (gN 4) (gsCons (gN 5) gsNil))))
  (dRet (dTup (dCons (dVar 3) (dCons (dVar 2) (dCons (dVar 4) (dCons (dVar 5) dNil))))))))))
def f_rule_in : RCD := bodyD N_rule_in.length 2 t_rule_in
def tX_rule_in (x : T2X) : T2S :=
  (dSeq (dAsg (dCBX (orX f_event_in fX_event_in) x (dCons (dVar 0) (dCons (dOp dIxS (dVar 1) (dC (.int (0)))) dNil))) (gN 2))
  (dSeq (dAsg (dCBX (orX f_event_in fX_event_in) x (dCons (dVar 0) (dCons (dOp dIxS (dVar 1) (dC (.int (2)))) dNil))) (gN 3))
  (dSeq (dIfS (dB (dOp dEq (dVar 3) (dVar 2)))
  (dRaise3 x (dOp dIxS (dOp dIxS (dVar 1) (dC (.int (2)))) (dC (.int (2)))) (dC (.str "a rule has two different events")))
  dNext)
  (dSeq (dAsg (tList (dLc (diS (dCB f_parts_between (dCons (dSlS (dVar 1) (dPart (dC (.int (4)))) dNoPart) (dCons (dC (.str "..")) dNil)))) (gN 6) (fun _ Q => Q true) (dCBX (orX f_side_in fX_side_in) x (dCons (dVar 6) dNil)) [6])) (gT 2 (gsCons (gN 4) (gsCons (gN 5) gsNil))))
  (dRet (dTup (dCons (dVar 3) (dCons (dVar 2) (dCons (dVar 4) (dCons (dVar 5) dNil))))))))))
def fX_rule_in : RCX := bodyX N_rule_in.length 2 (tX_rule_in)
theorem oX_rule_in {a0 a1 : D} {Q : D → Prop} {X : Nat → D → Prop} (h : tX_rule_in (fun _ => X) { nx := fun _ => Q .none, rt := Q } [some (.dat a0), some (.dat a1), none, none, none, none, none]) : fX_rule_in [a0, a1] Q X := ⟨rfl, h⟩
abbrev N_read_net : List Str := ["text", "tokens", "size", "told", "rules", "part"]
theorem sc_read_net : FnScope N_read_net ["text"] (defScope (top 61)) := ⟨rfl, rfl, rfl, by decide +kernel, rfl, by decide +kernel, by decide +kernel⟩
theorem bb_read_net : BindsBy "read_net" (top 61) ["text"] := fun _ _ _ _ _ _ us hl => match us, hl with | [_], _ => rfl
def t_read_net : T2S :=
  (dSeq (dAsg (dCB f_tokens_of (dCons (dVar 0) (dCons (dC (.str "net")) dNil))) (gN 1))
  (dSeq (dAsg (dCB f_size_in (dCons (dOp dIxS (dVar 1) (dC (.int (0)))) dNil)) (gN 2))
  (dSeq (dAsg (dSlS (dVar 1) (dPart (dC (.int (2)))) (dPart (dUn dNeg (dC (.int (1)))))) (gN 3))
  (dSeq (dAsgO dNil 4)
  (dSeq (dFor (diS (dIf (dTru (dVar 3)) (dCB f_parts_between (dCons (dVar 3) (dCons (dC (.str ";")) dNil))) (tList dNil))) (gN 5)
  (dSeq (dIfS (dB (dOp dEq (dOLen 4) (dC (.int (12)))))
  dNever
  dNext)
  (dApp 4 (dCB f_rule_in (dCons (dVar 2) (dCons (dVar 5) dNil))))))
  (dFrz 4 (dRet (dTup (dCons (dVar 2) (dCons (dCB dTupOf (dCons (dVar 4) dNil)) dNil))))))))))
def f_read_net : RCD := bodyD N_read_net.length 1 t_read_net
def tX_read_net (x : T2X) : T2S :=
  (dSeq (dAsg (dCBX (orX f_tokens_of fX_tokens_of) x (dCons (dVar 0) (dCons (dC (.str "net")) dNil))) (gN 1))
  (dSeq (dAsg (dCBX (orX f_size_in fX_size_in) x (dCons (dOp dIxS (dVar 1) (dC (.int (0)))) dNil)) (gN 2))
  (dSeq (dAsg (dSlS (dVar 1) (dPart (dC (.int (2)))) (dPart (dUn dNeg (dC (.int (1)))))) (gN 3))
  (dSeq (dAsgO dNil 4)
  (dSeq (dFor (diS (dIf (dTru (dVar 3)) (dCB f_parts_between (dCons (dVar 3) (dCons (dC (.str ";")) dNil))) (tList dNil))) (gN 5)
  (dSeq (dIfS (dB (dOp dEq (dOLen 4) (dC (.int (12)))))
  (dRaise3 x (dOp dIxS (dOp dIxS (dVar 5) (dC (.int (0)))) (dC (.int (2)))) (dC (.str "there are at most 12 rules")))
  dNext)
  (dApp 4 (dCBX (orX f_rule_in fX_rule_in) x (dCons (dVar 2) (dCons (dVar 5) dNil))))))
  (dFrz 4 (dRet (dTup (dCons (dVar 2) (dCons (dCB dTupOf (dCons (dVar 4) dNil)) dNil))))))))))
def fX_read_net : RCX := bodyX N_read_net.length 1 (tX_read_net)
theorem oX_read_net {a0 : D} {Q : D → Prop} {X : Nat → D → Prop} (h : tX_read_net (fun _ => X) { nx := fun _ => Q .none, rt := Q } [some (.dat a0), none, none, none, none, none]) : fX_read_net [a0] Q X := ⟨rfl, h⟩
abbrev N_is_whole : List Str := ["value"]
theorem sc_is_whole : FnScope N_is_whole ["value"] (defScope (top 9)) := ⟨rfl, rfl, rfl, by decide +kernel, rfl, by decide +kernel, by decide +kernel⟩
theorem bb_is_whole : BindsBy "is_whole" (top 9) ["value"] := fun _ _ _ _ _ _ us hl => match us, hl with | [_], _ => rfl
def t_is_whole : T2S :=
  (dRet (dAndV (dIsi "int" (dVar 0)) (dNotV (dIsi "bool" (dVar 0)))))
def f_is_whole : RCD := bodyD N_is_whole.length 1 t_is_whole
abbrev N_is_integer : List Str := ["value", "least", "greatest"]
theorem sc_is_integer : FnScope N_is_integer ["value", "least", "greatest"] (defScope (top 10)) := ⟨rfl, rfl, rfl, by decide +kernel, rfl, by decide +kernel, by decide +kernel⟩
theorem bb_is_integer : BindsBy "is_integer" (top 10) ["value", "least", "greatest"] := fun _ _ _ _ _ _ us hl => match us, hl with | [_, _, _], _ => rfl
def t_is_integer : T2S :=
  (dRet (dAndV (dCB f_is_whole (dCons (dVar 0) dNil)) (dChain dLe dLe (dVar 1) (dVar 0) (dVar 2))))
def f_is_integer : RCD := bodyD N_is_integer.length 3 t_is_integer
abbrev N_is_side : List Str := ["value"]
theorem sc_is_side : FnScope N_is_side ["value"] (defScope (top 12)) := ⟨rfl, rfl, rfl, by decide +kernel, rfl, by decide +kernel, by decide +kernel⟩
theorem bb_is_side : BindsBy "is_side" (top 12) ["value"] := fun _ _ _ _ _ _ us hl => match us, hl with | [_], _ => rfl
def t_is_side : T2S :=
  (dRet (dOrV (dOp dIsN (dVar 0) (dC .none)) (dCB f_is_integer (dCons (dVar 0) (dCons (dUn dNeg (dC (.int (100)))) (dCons (dC (.int (100))) dNil))))))
def f_is_side : RCD := bodyD N_is_side.length 1 t_is_side
abbrev N_is_event : List Str := ["value", "size"]
theorem sc_is_event : FnScope N_is_event ["value", "size"] (defScope (top 11)) := ⟨rfl, rfl, rfl, by decide +kernel, rfl, by decide +kernel, by decide +kernel⟩
theorem bb_is_event : BindsBy "is_event" (top 11) ["value", "size"] := fun _ _ _ _ _ _ us hl => match us, hl with | [_, _], _ => rfl
def t_is_event : T2S :=
  (dRet (dCB f_is_integer (dCons (dVar 0) (dCons (dC (.int (0))) (dCons (dOp dSub (dVar 1) (dC (.int (1)))) dNil)))))
def f_is_event : RCD := bodyD N_is_event.length 2 t_is_event
abbrev N_is_rule : List Str := ["value", "size", "start", "end", "low", "high"]
theorem sc_is_rule : FnScope N_is_rule ["value", "size"] (defScope (top 13)) := ⟨rfl, rfl, rfl, by decide +kernel, rfl, by decide +kernel, by decide +kernel⟩
theorem bb_is_rule : BindsBy "is_rule" (top 13) ["value", "size"] := fun _ _ _ _ _ _ us hl => match us, hl with | [_, _], _ => rfl
def t_is_rule : T2S :=
  (dSeq (dIfS (dOr (dNot (dTru (dIsi "tuple" (dVar 0)))) (dB (dOp dNe (dCB dLenS (dCons (dVar 0) dNil)) (dC (.int (4))))))
  (dRet (dC (.bool false)))
  dNext)
  (dSeq (dAsg (dVar 0) (gT 4 (gsCons (gN 2) (gsCons (gN 3) (gsCons (gN 4) (gsCons (gN 5) gsNil))))))
  (dSeq (dIfS (dOr (dNot (dTru (dCB f_is_event (dCons (dVar 2) (dCons (dVar 1) dNil))))) (dOr (dNot (dTru (dCB f_is_event (dCons (dVar 3) (dCons (dVar 1) dNil))))) (dB (dOp dEq (dVar 2) (dVar 3)))))
  (dRet (dC (.bool false)))
  dNext)
  (dSeq (dIfS (dAnd (dB (dOp dIsN (dVar 4) (dC .none))) (dB (dOp dIsN (dVar 5) (dC .none))))
  (dRet (dC (.bool false)))
  dNext)
  (dRet (dAndV (dCB f_is_side (dCons (dVar 4) dNil)) (dCB f_is_side (dCons (dVar 5) dNil))))))))
def f_is_rule : RCD := bodyD N_is_rule.length 2 t_is_rule
abbrev N_is_net : List Str := ["value", "size", "rules", "rule"]
theorem sc_is_net : FnScope N_is_net ["value"] (defScope (top 14)) := ⟨rfl, rfl, rfl, by decide +kernel, rfl, by decide +kernel, by decide +kernel⟩
theorem bb_is_net : BindsBy "is_net" (top 14) ["value"] := fun _ _ _ _ _ _ us hl => match us, hl with | [_], _ => rfl
def t_is_net : T2S :=
  (dSeq (dIfS (dOr (dNot (dTru (dIsi "tuple" (dVar 0)))) (dB (dOp dNe (dCB dLenS (dCons (dVar 0) dNil)) (dC (.int (2))))))
  (dRet (dC (.bool false)))
  dNext)
  (dSeq (dAsg (dVar 0) (gT 2 (gsCons (gN 1) (gsCons (gN 2) gsNil))))
  (dSeq (dIfS (dNot (dTru (dCB f_is_integer (dCons (dVar 1) (dCons (dC (.int (1))) (dCons (dC (.int (6))) dNil))))))
  (dRet (dC (.bool false)))
  dNext)
  (dSeq (dIfS (dOr (dNot (dTru (dIsi "tuple" (dVar 2)))) (dB (dOp dGt (dCB dLenS (dCons (dVar 2) dNil)) (dC (.int (12))))))
  (dRet (dC (.bool false)))
  dNext)
  (dRet (dCB (dBools fun bs => bs.all id) (dCons (tList (dLc (diS (dVar 2)) (gN 3) (fun _ Q => Q true) (dCB f_is_rule (dCons (dVar 3) (dCons (dVar 1) dNil))) [3])) dNil)))))))
def f_is_net : RCD := bodyD N_is_net.length 1 t_is_net
abbrev N_check_net : List Str := ["net"]
theorem sc_check_net : FnScope N_check_net ["net"] (defScope (top 16)) := ⟨rfl, rfl, rfl, by decide +kernel, rfl, by decide +kernel, by decide +kernel⟩
theorem bb_check_net : BindsBy "check_net" (top 16) ["net"] := fun _ _ _ _ _ _ us hl => match us, hl with | [_], _ => rfl
def t_check_net : T2S :=
  (dIfS (dNot (dTru (dCB f_is_net (dCons (dVar 0) dNil))))
  dNever
  dNext)
def f_check_net : RCD := bodyD N_check_net.length 1 t_check_net
def tX_check_net (x : T2X) : T2S :=
  (dIfS (dNot (dTru (dCB f_is_net (dCons (dVar 0) dNil))))
  (dRaise x 0 (dC (.str "net")))
  dNext)
def fX_check_net : RCX := bodyX N_check_net.length 1 (tX_check_net)
theorem oX_check_net {a0 : D} {Q : D → Prop} {X : Nat → D → Prop} (h : tX_check_net (fun _ => X) { nx := fun _ => Q .none, rt := Q } [some (.dat a0)]) : fX_check_net [a0] Q X := ⟨rfl, h⟩
theorem o_check_net {a0 : D} {Q : D → Prop} (h : t_check_net { nx := fun _ => Q .none, rt := Q } [some (.dat a0)]) : f_check_net [a0] Q := ⟨rfl, h⟩
abbrev N_pieces_of : List Str := ["tokens"]
theorem sc_pieces_of : FnScope N_pieces_of ["tokens"] (defScope (top 62)) := ⟨rfl, rfl, rfl, by decide +kernel, rfl, by decide +kernel, by decide +kernel⟩
theorem bb_pieces_of : BindsBy "pieces_of" (top 62) ["tokens"] := fun _ _ _ _ _ _ us hl => match us, hl with | [_], _ => rfl
def t_pieces_of : T2S :=
  (dRet (dIf (dB (dOp dGt (dCB dLenS (dCons (dVar 0) dNil)) (dC (.int (1))))) (dCB f_parts_between (dCons (dSlS (dVar 0) dNoPart (dPart (dUn dNeg (dC (.int (1)))))) (dCons (dC (.str ",")) dNil))) (tList dNil)))
def f_pieces_of : RCD := bodyD N_pieces_of.length 1 t_pieces_of
theorem o_pieces_of {a0 : D} {Q : D → Prop} (h : t_pieces_of { nx := fun _ => Q .none, rt := Q } [some (.dat a0)]) : f_pieces_of [a0] Q := ⟨rfl, h⟩
abbrev N_read_row : List Str := ["net", "text", "row", "part", "event"]
theorem sc_read_row : FnScope N_read_row ["net", "text"] (defScope (top 63)) := ⟨rfl, rfl, rfl, by decide +kernel, rfl, by decide +kernel, by decide +kernel⟩
theorem bb_read_row : BindsBy "read_row" (top 63) ["net", "text"] := fun _ _ _ _ _ _ us hl => match us, hl with | [_, _], _ => rfl
def t_read_row : T2S :=
  (dSeq (dDrop (dCB f_check_net (dCons (dVar 0) dNil)))
  (dSeq (dAsgO dNil 2)
  (dSeq (dFor (diS (dCB f_pieces_of (dCons (dCB f_tokens_of (dCons (dVar 1) (dCons (dC (.str "row")) dNil))) dNil))) (gN 3)
  (dSeq (dIfS (dB (dOp dEq (dOLen 2) (dC (.int (8)))))
  dNever
  dNext)
  (dSeq (dAsg (dCB f_event_in (dCons (dOp dIxS (dVar 0) (dC (.int (0)))) (dCons (dOp dIxS (dVar 3) (dC (.int (0)))) dNil))) (gN 4))
  (dApp 2 (dTup (dCons (dVar 4) (dCons (dCB f_integer_in (dCons (dSlS (dVar 3) (dPart (dC (.int (2)))) dNoPart) (dCons (dC (.int (500))) (dCons (dC (.str "a time is from -500 to 500")) dNil)))) dNil)))))))
  (dFrz 2 (dRet (dCB dTupOf (dCons (dVar 2) dNil)))))))
def f_read_row : RCD := bodyD N_read_row.length 2 t_read_row
def tX_read_row (x : T2X) : T2S :=
  (dSeq (dDrop (dCBX (orX f_check_net fX_check_net) x (dCons (dVar 0) dNil)))
  (dSeq (dAsgO dNil 2)
  (dSeq (dFor (diS (dCB f_pieces_of (dCons (dCBX (orX f_tokens_of fX_tokens_of) x (dCons (dVar 1) (dCons (dC (.str "row")) dNil))) dNil))) (gN 3)
  (dSeq (dIfS (dB (dOp dEq (dOLen 2) (dC (.int (8)))))
  (dRaise3 x (dOp dIxS (dOp dIxS (dVar 3) (dC (.int (0)))) (dC (.int (2)))) (dC (.str "there are at most 8 pieces of news")))
  dNext)
  (dSeq (dAsg (dCBX (orX f_event_in fX_event_in) x (dCons (dOp dIxS (dVar 0) (dC (.int (0)))) (dCons (dOp dIxS (dVar 3) (dC (.int (0)))) dNil))) (gN 4))
  (dApp 2 (dTup (dCons (dVar 4) (dCons (dCBX (orX f_integer_in fX_integer_in) x (dCons (dSlS (dVar 3) (dPart (dC (.int (2)))) dNoPart) (dCons (dC (.int (500))) (dCons (dC (.str "a time is from -500 to 500")) dNil)))) dNil)))))))
  (dFrz 2 (dRet (dCB dTupOf (dCons (dVar 2) dNil)))))))
def fX_read_row : RCX := bodyX N_read_row.length 2 (tX_read_row)
theorem oX_read_row {a0 a1 : D} {Q : D → Prop} {X : Nat → D → Prop} (h : tX_read_row (fun _ => X) { nx := fun _ => Q .none, rt := Q } [some (.dat a0), some (.dat a1), none, none, none]) : fX_read_row [a0, a1] Q X := ⟨rfl, h⟩
abbrev N_read_times : List Str := ["net", "text", "tokens", "times", "part", "event"]
theorem sc_read_times : FnScope N_read_times ["net", "text"] (defScope (top 64)) := ⟨rfl, rfl, rfl, by decide +kernel, rfl, by decide +kernel, by decide +kernel⟩
theorem bb_read_times : BindsBy "read_times" (top 64) ["net", "text"] := fun _ _ _ _ _ _ us hl => match us, hl with | [_, _], _ => rfl
def t_read_times : T2S :=
  (dSeq (dDrop (dCB f_check_net (dCons (dVar 0) dNil)))
  (dSeq (dAsg (dCB f_tokens_of (dCons (dVar 1) (dCons (dC (.str "row")) dNil))) (gN 2))
  (dSeq (dNewK 3)
  (dSeq (dFor (diS (dCB f_pieces_of (dCons (dVar 2) dNil))) (gN 4)
  (dSeq (dAsg (dCB f_event_in (dCons (dOp dIxS (dVar 0) (dC (.int (0)))) (dCons (dOp dIxS (dVar 4) (dC (.int (0)))) dNil))) (gN 5))
  (dSeq (dIfS (dB (dInK false 3 (dVar 5)))
  dNever
  dNext)
  (dPutK 3 (dVar 5) (dCB f_integer_in (dCons (dSlS (dVar 4) (dPart (dC (.int (2)))) dNoPart) (dCons (dC (.int (1000))) (dCons (dC (.str "a time is from -1000 to 1000")) dNil))))))))
  (dSeq (dIfS (dB (dOp dLt (dLenK 3) (dOp dIxS (dVar 0) (dC (.int (0))))))
  dNever
  dNext)
  (dRet (dCB dTupOf (dCons (tList (dLc (diR1 (dCons (dOp dIxS (dVar 0) (dC (.int (0)))) dNil)) (gN 5) (fun _ Q => Q true) (dGetK 3 (dVar 5)) [5])) dNil))))))))
def f_read_times : RCD := bodyD N_read_times.length 2 t_read_times
def tX_read_times (x : T2X) : T2S :=
  (dSeq (dDrop (dCBX (orX f_check_net fX_check_net) x (dCons (dVar 0) dNil)))
  (dSeq (dAsg (dCBX (orX f_tokens_of fX_tokens_of) x (dCons (dVar 1) (dCons (dC (.str "row")) dNil))) (gN 2))
  (dSeq (dNewK 3)
  (dSeq (dFor (diS (dCB f_pieces_of (dCons (dVar 2) dNil))) (gN 4)
  (dSeq (dAsg (dCBX (orX f_event_in fX_event_in) x (dCons (dOp dIxS (dVar 0) (dC (.int (0)))) (dCons (dOp dIxS (dVar 4) (dC (.int (0)))) dNil))) (gN 5))
  (dSeq (dIfS (dB (dInK false 3 (dVar 5)))
  (dRaise3 x (dOp dIxS (dOp dIxS (dVar 4) (dC (.int (0)))) (dC (.int (2)))) (dC (.str "this event stands already")))
  dNext)
  (dPutK 3 (dVar 5) (dCBX (orX f_integer_in fX_integer_in) x (dCons (dSlS (dVar 4) (dPart (dC (.int (2)))) dNoPart) (dCons (dC (.int (1000))) (dCons (dC (.str "a time is from -1000 to 1000")) dNil))))))))
  (dSeq (dIfS (dB (dOp dLt (dLenK 3) (dOp dIxS (dVar 0) (dC (.int (0))))))
  (dRaise3 x (dOp dIxS (dOp dIxS (dVar 2) (dUn dNeg (dC (.int (1))))) (dC (.int (2)))) (dC (.str "an event is missing")))
  dNext)
  (dRet (dCB dTupOf (dCons (tList (dLc (diR1 (dCons (dOp dIxS (dVar 0) (dC (.int (0)))) dNil)) (gN 5) (fun _ Q => Q true) (dGetK 3 (dVar 5)) [5])) dNil))))))))
def fX_read_times : RCX := bodyX N_read_times.length 2 (tX_read_times)
theorem oX_read_times {a0 a1 : D} {Q : D → Prop} {X : Nat → D → Prop} (h : tX_read_times (fun _ => X) { nx := fun _ => Q .none, rt := Q } [some (.dat a0), some (.dat a1), none, none, none, none]) : fX_read_times [a0, a1] Q X := ⟨rfl, h⟩
abbrev N_side_text : List Str := ["side"]
theorem sc_side_text : FnScope N_side_text ["side"] (defScope (top 66)) := ⟨rfl, rfl, rfl, by decide +kernel, rfl, by decide +kernel, by decide +kernel⟩
theorem bb_side_text : BindsBy "side_text" (top 66) ["side"] := fun _ _ _ _ _ _ us hl => match us, hl with | [_], _ => rfl
def t_side_text : T2S :=
  (dRet (dIf (dB (dOp dIsN (dVar 0) (dC .none))) (dC (.str "")) (dCB dStrOf (dCons (dVar 0) dNil))))
def f_side_text : RCD := bodyD N_side_text.length 1 t_side_text
abbrev N_rule_text : List Str := ["rule", "start", "end", "low", "high"]
theorem sc_rule_text : FnScope N_rule_text ["rule"] (defScope (top 67)) := ⟨rfl, rfl, rfl, by decide +kernel, rfl, by decide +kernel, by decide +kernel⟩
theorem bb_rule_text : BindsBy "rule_text" (top 67) ["rule"] := fun _ _ _ _ _ _ us hl => match us, hl with | [_], _ => rfl
def t_rule_text : T2S :=
  (dSeq (dAsg (dVar 0) (gT 4 (gsCons (gN 1) (gsCons (gN 2) (gsCons (gN 3) (gsCons (gN 4) gsNil))))))
  (dRet (dJs [(dFmt (dOp dIxS (dC (.str "abcdef")) (dVar 2))), (dC (.str " - ")), (dFmt (dOp dIxS (dC (.str "abcdef")) (dVar 1))), (dC (.str " in ")), (dFmt (dCB f_side_text (dCons (dVar 3) dNil))), (dC (.str "..")), (dFmt (dCB f_side_text (dCons (dVar 4) dNil)))] Str.empty)))
def f_rule_text : RCD := bodyD N_rule_text.length 1 t_rule_text
abbrev N_net_text : List Str := ["net", "text", "size", "rules", "rule"]
theorem sc_net_text : FnScope N_net_text ["net"] (defScope (top 68)) := ⟨rfl, rfl, rfl, by decide +kernel, rfl, by decide +kernel, by decide +kernel⟩
theorem bb_net_text : BindsBy "net_text" (top 68) ["net"] := fun _ _ _ _ _ _ us hl => match us, hl with | [_], _ => rfl
def t_net_text : T2S :=
  (dSeq (dDrop (dCB f_check_net (dCons (dVar 0) dNil)))
  (dSeq (dAsg (dVar 0) (gT 2 (gsCons (gN 2) (gsCons (gN 3) gsNil))))
  (dSeq (dAsg (dJs [(dFmt (dVar 2)), (dC (.str ":"))] Str.empty) (gN 1))
  (dSeq (dIfS (dTru (dVar 3))
  (dAugS 1 (dOp dAddS (dC (.str " ")) (dTM dJoin (dC (.str "; ")) (tList (dLc (diS (dVar 3)) (gN 4) (fun _ Q => Q true) (dCB f_rule_text (dCons (dVar 4) dNil)) [4])))))
  dNext)
  (dRet (dVar 1))))))
def f_net_text : RCD := bodyD N_net_text.length 1 t_net_text
def tX_net_text (x : T2X) : T2S :=
  (dSeq (dDrop (dCBX (orX f_check_net fX_check_net) x (dCons (dVar 0) dNil)))
  (dSeq (dAsg (dVar 0) (gT 2 (gsCons (gN 2) (gsCons (gN 3) gsNil))))
  (dSeq (dAsg (dJs [(dFmt (dVar 2)), (dC (.str ":"))] Str.empty) (gN 1))
  (dSeq (dIfS (dTru (dVar 3))
  (dAugS 1 (dOp dAddS (dC (.str " ")) (dTM dJoin (dC (.str "; ")) (tList (dLc (diS (dVar 3)) (gN 4) (fun _ Q => Q true) (dCB f_rule_text (dCons (dVar 4) dNil)) [4])))))
  dNext)
  (dRet (dVar 1))))))
def fX_net_text : RCX := bodyX N_net_text.length 1 (tX_net_text)
theorem oX_net_text {a0 : D} {Q : D → Prop} {X : Nat → D → Prop} (h : tX_net_text (fun _ => X) { nx := fun _ => Q .none, rt := Q } [some (.dat a0), none, none, none, none]) : fX_net_text [a0] Q X := ⟨rfl, h⟩
abbrev N_is_news_time : List Str := ["value"]
theorem sc_is_news_time : FnScope N_is_news_time ["value"] (defScope (top 21)) := ⟨rfl, rfl, rfl, by decide +kernel, rfl, by decide +kernel, by decide +kernel⟩
theorem bb_is_news_time : BindsBy "is_news_time" (top 21) ["value"] := fun _ _ _ _ _ _ us hl => match us, hl with | [_], _ => rfl
def t_is_news_time : T2S :=
  (dRet (dCB f_is_integer (dCons (dVar 0) (dCons (dUn dNeg (dC (.int (500)))) (dCons (dC (.int (500))) dNil)))))
def f_is_news_time : RCD := bodyD N_is_news_time.length 1 t_is_news_time
theorem o_is_news_time {a0 : D} {Q : D → Prop} (h : t_is_news_time { nx := fun _ => Q .none, rt := Q } [some (.dat a0)]) : f_is_news_time [a0] Q := ⟨rfl, h⟩
abbrev N_is_news : List Str := ["value", "size", "event", "time"]
theorem sc_is_news : FnScope N_is_news ["value", "size"] (defScope (top 22)) := ⟨rfl, rfl, rfl, by decide +kernel, rfl, by decide +kernel, by decide +kernel⟩
theorem bb_is_news : BindsBy "is_news" (top 22) ["value", "size"] := fun _ _ _ _ _ _ us hl => match us, hl with | [_, _], _ => rfl
def t_is_news : T2S :=
  (dSeq (dIfS (dOr (dNot (dTru (dIsi "tuple" (dVar 0)))) (dB (dOp dNe (dCB dLenS (dCons (dVar 0) dNil)) (dC (.int (2))))))
  (dRet (dC (.bool false)))
  dNext)
  (dSeq (dAsg (dVar 0) (gT 2 (gsCons (gN 2) (gsCons (gN 3) gsNil))))
  (dRet (dAndV (dCB f_is_event (dCons (dVar 2) (dCons (dVar 1) dNil))) (dCB f_is_news_time (dCons (dVar 3) dNil))))))
def f_is_news : RCD := bodyD N_is_news.length 2 t_is_news
theorem o_is_news {a0 a1 : D} {Q : D → Prop} (h : t_is_news { nx := fun _ => Q .none, rt := Q } [some (.dat a0), some (.dat a1), none, none]) : f_is_news [a0, a1] Q := ⟨rfl, h⟩
abbrev N_are_news : List Str := ["value", "size", "most", "piece"]
theorem sc_are_news : FnScope N_are_news ["value", "size", "most"] (defScope (top 23)) := ⟨rfl, rfl, rfl, by decide +kernel, rfl, by decide +kernel, by decide +kernel⟩
theorem bb_are_news : BindsBy "are_news" (top 23) ["value", "size", "most"] := fun _ _ _ _ _ _ us hl => match us, hl with | [_, _, _], _ => rfl
def t_are_news : T2S :=
  (dSeq (dIfS (dOr (dNot (dTru (dIsi "tuple" (dVar 0)))) (dB (dOp dGt (dCB dLenS (dCons (dVar 0) dNil)) (dVar 2))))
  (dRet (dC (.bool false)))
  dNext)
  (dRet (dCB (dBools fun bs => bs.all id) (dCons (tList (dLc (diS (dVar 0)) (gN 3) (fun _ Q => Q true) (dCB f_is_news (dCons (dVar 3) (dCons (dVar 1) dNil))) [3])) dNil))))
def f_are_news : RCD := bodyD N_are_news.length 3 t_are_news
theorem o_are_news {a0 a1 a2 : D} {Q : D → Prop} (h : t_are_news { nx := fun _ => Q .none, rt := Q } [some (.dat a0), some (.dat a1), some (.dat a2), none]) : f_are_news [a0, a1, a2] Q := ⟨rfl, h⟩
abbrev N_is_row : List Str := ["value", "size"]
theorem sc_is_row : FnScope N_is_row ["value", "size"] (defScope (top 24)) := ⟨rfl, rfl, rfl, by decide +kernel, rfl, by decide +kernel, by decide +kernel⟩
theorem bb_is_row : BindsBy "is_row" (top 24) ["value", "size"] := fun _ _ _ _ _ _ us hl => match us, hl with | [_, _], _ => rfl
def t_is_row : T2S :=
  (dRet (dCB f_are_news (dCons (dVar 0) (dCons (dVar 1) (dCons (dC (.int (8))) dNil)))))
def f_is_row : RCD := bodyD N_is_row.length 2 t_is_row
theorem o_is_row {a0 a1 : D} {Q : D → Prop} (h : t_is_row { nx := fun _ => Q .none, rt := Q } [some (.dat a0), some (.dat a1)]) : f_is_row [a0, a1] Q := ⟨rfl, h⟩
abbrev N_check_row : List Str := ["name", "value", "size"]
theorem sc_check_row : FnScope N_check_row ["name", "value", "size"] (defScope (top 25)) := ⟨rfl, rfl, rfl, by decide +kernel, rfl, by decide +kernel, by decide +kernel⟩
theorem bb_check_row : BindsBy "check_row" (top 25) ["name", "value", "size"] := fun _ _ _ _ _ _ us hl => match us, hl with | [_, _, _], _ => rfl
def t_check_row : T2S :=
  (dIfS (dNot (dTru (dCB f_is_row (dCons (dVar 1) (dCons (dVar 2) dNil)))))
  dNever
  dNext)
def f_check_row : RCD := bodyD N_check_row.length 3 t_check_row
def tX_check_row (x : T2X) : T2S :=
  (dIfS (dNot (dTru (dCB f_is_row (dCons (dVar 1) (dCons (dVar 2) dNil)))))
  (dRaise x 0 (dVar 0))
  dNext)
def fX_check_row : RCX := bodyX N_check_row.length 3 (tX_check_row)
theorem oX_check_row {a0 a1 a2 : D} {Q : D → Prop} {X : Nat → D → Prop} (h : tX_check_row (fun _ => X) { nx := fun _ => Q .none, rt := Q } [some (.dat a0), some (.dat a1), some (.dat a2)]) : fX_check_row [a0, a1, a2] Q X := ⟨rfl, h⟩
abbrev N_news_text : List Str := ["pieces", "event", "time"]
theorem sc_news_text : FnScope N_news_text ["pieces"] (defScope (top 69)) := ⟨rfl, rfl, rfl, by decide +kernel, rfl, by decide +kernel, by decide +kernel⟩
theorem bb_news_text : BindsBy "news_text" (top 69) ["pieces"] := fun _ _ _ _ _ _ us hl => match us, hl with | [_], _ => rfl
def t_news_text : T2S :=
  (dRet (dTM dJoin (dC (.str ", ")) (tList (dLc (diS (dVar 0)) (gT 2 (gsCons (gN 1) (gsCons (gN 2) gsNil))) (fun _ Q => Q true) (dJs [(dFmt (dOp dIxS (dC (.str "abcdef")) (dVar 1))), (dC (.str " = ")), (dFmt (dVar 2))] Str.empty) [1, 2]))))
def f_news_text : RCD := bodyD N_news_text.length 1 t_news_text
abbrev N_row_text : List Str := ["row"]
theorem sc_row_text : FnScope N_row_text ["row"] (defScope (top 70)) := ⟨rfl, rfl, rfl, by decide +kernel, rfl, by decide +kernel, by decide +kernel⟩
theorem bb_row_text : BindsBy "row_text" (top 70) ["row"] := fun _ _ _ _ _ _ us hl => match us, hl with | [_], _ => rfl
def t_row_text : T2S :=
  (dSeq (dDrop (dCB f_check_row (dCons (dC (.str "row")) (dCons (dVar 0) (dCons (dC (.int (6))) dNil)))))
  (dRet (dCB f_news_text (dCons (dVar 0) dNil))))
def f_row_text : RCD := bodyD N_row_text.length 1 t_row_text
def tX_row_text (x : T2X) : T2S :=
  (dSeq (dDrop (dCBX (orX f_check_row fX_check_row) x (dCons (dC (.str "row")) (dCons (dVar 0) (dCons (dC (.int (6))) dNil)))))
  (dRet (dCB f_news_text (dCons (dVar 0) dNil))))
def fX_row_text : RCX := bodyX N_row_text.length 1 (tX_row_text)
theorem oX_row_text {a0 : D} {Q : D → Prop} {X : Nat → D → Prop} (h : tX_row_text (fun _ => X) { nx := fun _ => Q .none, rt := Q } [some (.dat a0)]) : fX_row_text [a0] Q X := ⟨rfl, h⟩
abbrev N_is_times : List Str := ["value", "net", "time"]
theorem sc_is_times : FnScope N_is_times ["value", "net"] (defScope (top 15)) := ⟨rfl, rfl, rfl, by decide +kernel, rfl, by decide +kernel, by decide +kernel⟩
theorem bb_is_times : BindsBy "is_times" (top 15) ["value", "net"] := fun _ _ _ _ _ _ us hl => match us, hl with | [_, _], _ => rfl
def t_is_times : T2S :=
  (dSeq (dIfS (dOr (dNot (dTru (dIsi "tuple" (dVar 0)))) (dB (dOp dNe (dCB dLenS (dCons (dVar 0) dNil)) (dOp dIxS (dVar 1) (dC (.int (0)))))))
  (dRet (dC (.bool false)))
  dNext)
  (dRet (dCB (dBools fun bs => bs.all id) (dCons (tList (dLc (diS (dVar 0)) (gN 2) (fun _ Q => Q true) (dCB f_is_integer (dCons (dVar 2) (dCons (dUn dNeg (dC (.int (1000)))) (dCons (dC (.int (1000))) dNil)))) [2])) dNil))))
def f_is_times : RCD := bodyD N_is_times.length 2 t_is_times
abbrev N_check_times : List Str := ["net", "times"]
theorem sc_check_times : FnScope N_check_times ["net", "times"] (defScope (top 17)) := ⟨rfl, rfl, rfl, by decide +kernel, rfl, by decide +kernel, by decide +kernel⟩
theorem bb_check_times : BindsBy "check_times" (top 17) ["net", "times"] := fun _ _ _ _ _ _ us hl => match us, hl with | [_, _], _ => rfl
def t_check_times : T2S :=
  (dIfS (dNot (dTru (dCB f_is_times (dCons (dVar 1) (dCons (dVar 0) dNil)))))
  dNever
  dNext)
def f_check_times : RCD := bodyD N_check_times.length 2 t_check_times
def tX_check_times (x : T2X) : T2S :=
  (dIfS (dNot (dTru (dCB f_is_times (dCons (dVar 1) (dCons (dVar 0) dNil)))))
  (dRaise x 0 (dC (.str "times")))
  dNext)
def fX_check_times : RCX := bodyX N_check_times.length 2 (tX_check_times)
theorem oX_check_times {a0 a1 : D} {Q : D → Prop} {X : Nat → D → Prop} (h : tX_check_times (fun _ => X) { nx := fun _ => Q .none, rt := Q } [some (.dat a0), some (.dat a1)]) : fX_check_times [a0, a1] Q X := ⟨rfl, h⟩
abbrev N_times_text : List Str := ["net", "times"]
theorem sc_times_text : FnScope N_times_text ["net", "times"] (defScope (top 71)) := ⟨rfl, rfl, rfl, by decide +kernel, rfl, by decide +kernel, by decide +kernel⟩
theorem bb_times_text : BindsBy "times_text" (top 71) ["net", "times"] := fun _ _ _ _ _ _ us hl => match us, hl with | [_, _], _ => rfl
def t_times_text : T2S :=
  (dSeq (dDrop (dCB f_check_net (dCons (dVar 0) dNil)))
  (dSeq (dDrop (dCB f_check_times (dCons (dVar 0) (dCons (dVar 1) dNil))))
  (dRet (dCB f_news_text (dCons (dListEn (dCons (dVar 1) dNil)) dNil)))))
def f_times_text : RCD := bodyD N_times_text.length 2 t_times_text
def tX_times_text (x : T2X) : T2S :=
  (dSeq (dDrop (dCBX (orX f_check_net fX_check_net) x (dCons (dVar 0) dNil)))
  (dSeq (dDrop (dCBX (orX f_check_times fX_check_times) x (dCons (dVar 0) (dCons (dVar 1) dNil))))
  (dRet (dCB f_news_text (dCons (dListEn (dCons (dVar 1) dNil)) dNil)))))
def fX_times_text : RCX := bodyX N_times_text.length 2 (tX_times_text)
theorem oX_times_text {a0 a1 : D} {Q : D → Prop} {X : Nat → D → Prop} (h : tX_times_text (fun _ => X) { nx := fun _ => Q .none, rt := Q } [some (.dat a0), some (.dat a1)]) : fX_times_text [a0, a1] Q X := ⟨rfl, h⟩
abbrev N_L_refused : List Str := ["which", "one", "other", "problem"]
theorem sc_L_refused : FnScope N_L_refused ["which", "one", "other"] (defScope (top 82)) := ⟨rfl, rfl, rfl, by decide +kernel, rfl, by decide +kernel, by decide +kernel⟩
theorem bb_L_refused : BindsBy "_law_refused" (top 82) ["which", "one", "other"] := fun _ _ _ _ _ _ us hl => match us, hl with | [_, _, _], _ => rfl
def t_L_refused : T2S :=
  (dSeq (dTry [⟨[some true, none, none, some false], 3, fun c e => (dRet (dXf c 0 e))⟩] (fun x => (dIfS (dB (dOp dEq (dVar 0) (dC (.int (0)))))
  (dDrop (dCBX (orX f_next_tokens fX_next_tokens) x (dCons (dVar 1) (dCons (dVar 2) dNil))))
  (dIfS (dB (dOp dEq (dVar 0) (dC (.int (1)))))
  (dDrop (dCBX (orX f_read_net fX_read_net) x (dCons (dVar 1) dNil)))
  (dIfS (dB (dOp dEq (dVar 0) (dC (.int (2)))))
  (dDrop (dCBX (orX f_read_row fX_read_row) x (dCons (dVar 1) (dCons (dVar 2) dNil))))
  (dIfS (dB (dOp dEq (dVar 0) (dC (.int (3)))))
  (dDrop (dCBX (orX f_read_times fX_read_times) x (dCons (dVar 1) (dCons (dVar 2) dNil))))
  (dIfS (dB (dOp dEq (dVar 0) (dC (.int (4)))))
  (dDrop (dCBX (orX f_net_text fX_net_text) x (dCons (dVar 1) dNil)))
  (dIfS (dB (dOp dEq (dVar 0) (dC (.int (5)))))
  (dDrop (dCBX (orX f_row_text fX_row_text) x (dCons (dVar 1) dNil)))
  (dDrop (dCBX (orX f_times_text fX_times_text) x (dCons (dVar 1) (dCons (dVar 2) dNil))))))))))))
  (dRet (dC .none)))
def f_L_refused : RCD := bodyD N_L_refused.length 3 t_L_refused
theorem o_L_refused {a0 a1 a2 : D} {Q : D → Prop} (h : t_L_refused { nx := fun _ => Q .none, rt := Q } [some (.dat a0), some (.dat a1), some (.dat a2), none]) : f_L_refused [a0, a1, a2] Q := ⟨rfl, h⟩
abbrev N_L_net_rows : List Str := ["size", "many", "none", "two", "side", "twelve"]
theorem sc_L_net_rows : FnScope N_L_net_rows [] (defScope (top 78)) := ⟨rfl, rfl, rfl, by decide +kernel, rfl, by decide +kernel, by decide +kernel⟩
theorem bb_L_net_rows : BindsBy "_law_net_rows" (top 78) [] := fun _ _ _ _ _ _ us hl => match us, hl with | [], _ => rfl
def t_L_net_rows : T2S :=
  (dSeq (dAsg (dC (.str "a size is from 1 to 6")) (gN 0))
  (dSeq (dAsg (dC (.str "there are at most 12 rules")) (gN 1))
  (dSeq (dAsg (dC (.str "there is no such event")) (gN 2))
  (dSeq (dAsg (dC (.str "a rule has two different events")) (gN 3))
  (dSeq (dAsg (dC (.str "a side is from -100 to 100")) (gN 4))
  (dSeq (dAsg (dOp dAddS (dC (.str "3: a - b in 0..1")) (dOp dMulS (dC (.str "; c - b in ..2")) (dC (.int (11))))) (gN 5))
  (dRet (tList (dCons (dTup (dCons (dC (.str "@0:")) (dCons (dVar 0) dNil))) (dCons (dTup (dCons (dC (.str "@7: a - a in 0..")) (dCons (dVar 0) dNil))) (dCons (dTup (dCons (dC (.str "@000010: a - b in 0..")) (dCons (dVar 0) dNil))) (dCons (dTup (dCons (dOp dAddS (dVar 5) (dC (.str "; @a - b in 0.."))) (dCons (dVar 1) dNil))) (dCons (dTup (dCons (dOp dAddS (dVar 5) (dC (.str "; @f - f in 0.."))) (dCons (dVar 1) dNil))) (dCons (dTup (dCons (dC (.str "2: @c - a in 0..")) (dCons (dVar 2) dNil))) (dCons (dTup (dCons (dC (.str "2: a - @c in 0..")) (dCons (dVar 2) dNil))) (dCons (dTup (dCons (dC (.str "1: a - @b in ..3")) (dCons (dVar 2) dNil))) (dCons (dTup (dCons (dC (.str "3: a - b in 0..; @d - e in 0..")) (dCons (dVar 2) dNil))) (dCons (dTup (dCons (dC (.str "2: a - @a in 0..")) (dCons (dVar 3) dNil))) (dCons (dTup (dCons (dC (.str "3: a - b in 1..; c - @c in 101..")) (dCons (dVar 3) dNil))) (dCons (dTup (dCons (dC (.str "2: a - b in @101..")) (dCons (dVar 4) dNil))) (dCons (dTup (dCons (dC (.str "2: a - b in -@101..5")) (dCons (dVar 4) dNil))) (dCons (dTup (dCons (dC (.str "2: a - b in 5..@101")) (dCons (dVar 4) dNil))) (dCons (dTup (dCons (dC (.str "2: a - b in ..-@101")) (dCons (dVar 4) dNil))) (dCons (dTup (dCons (dC (.str "2: a - b in @999999..999999")) (dCons (dVar 4) dNil))) (dCons (dTup (dCons (dC (.str "2: a - b in ..@000101; c - a in 0..")) (dCons (dVar 4) dNil))) (dCons (dTup (dCons (dC (.str "2: a - b in -@000102..101")) (dCons (dVar 4) dNil))) (dCons (dTup (dCons (dC (.str "3: a - b in 100..-100; b - @b in 0..")) (dCons (dVar 3) dNil))) (dCons (dTup (dCons (dC (.str "6: f - e in ..100; e - f in ..@200")) (dCons (dVar 4) dNil))) dNil))))))))))))))))))))))))))))
def f_L_net_rows : RCD := bodyD N_L_net_rows.length 0 t_L_net_rows
theorem o_L_net_rows {Q : D → Prop} (h : t_L_net_rows { nx := fun _ => Q .none, rt := Q } [none, none, none, none, none, none]) : f_L_net_rows [] Q := ⟨rfl, h⟩
abbrev N_L_row_rows : List Str := ["many", "none", "time", "eight"]
theorem sc_L_row_rows : FnScope N_L_row_rows [] (defScope (top 79)) := ⟨rfl, rfl, rfl, by decide +kernel, rfl, by decide +kernel, by decide +kernel⟩
theorem bb_L_row_rows : BindsBy "_law_row_rows" (top 79) [] := fun _ _ _ _ _ _ us hl => match us, hl with | [], _ => rfl
def t_L_row_rows : T2S :=
  (dSeq (dAsg (dC (.str "there are at most 8 pieces of news")) (gN 0))
  (dSeq (dAsg (dC (.str "there is no such event")) (gN 1))
  (dSeq (dAsg (dC (.str "a time is from -500 to 500")) (gN 2))
  (dSeq (dAsg (dOp dAddS (dC (.str "a = 0")) (dOp dMulS (dC (.str ", b = 1")) (dC (.int (7))))) (gN 3))
  (dRet (tList (dCons (dTup (dCons (dOp dAddS (dVar 3) (dC (.str ", @a = 0"))) (dCons (dVar 0) dNil))) (dCons (dTup (dCons (dOp dAddS (dVar 3) (dC (.str ", @e = 501"))) (dCons (dVar 0) dNil))) (dCons (dTup (dCons (dC (.str "@d = 0")) (dCons (dVar 1) dNil))) (dCons (dTup (dCons (dC (.str "a = 1, @f = 501")) (dCons (dVar 1) dNil))) (dCons (dTup (dCons (dC (.str "a = @501")) (dCons (dVar 2) dNil))) (dCons (dTup (dCons (dC (.str "a = -@501, d = 0")) (dCons (dVar 2) dNil))) (dCons (dTup (dCons (dC (.str "a = 0, b = @000501, b = 502")) (dCons (dVar 2) dNil))) (dCons (dTup (dCons (dC (.str "c = 500, c = -500, c = -@999999")) (dCons (dVar 2) dNil))) dNil))))))))))))))
def f_L_row_rows : RCD := bodyD N_L_row_rows.length 0 t_L_row_rows
theorem o_L_row_rows {Q : D → Prop} (h : t_L_row_rows { nx := fun _ => Q .none, rt := Q } [none, none, none, none]) : f_L_row_rows [] Q := ⟨rfl, h⟩
abbrev N_L_times_rows : List Str := ["none", "stands", "time", "missing"]
theorem sc_L_times_rows : FnScope N_L_times_rows [] (defScope (top 80)) := ⟨rfl, rfl, rfl, by decide +kernel, rfl, by decide +kernel, by decide +kernel⟩
theorem bb_L_times_rows : BindsBy "_law_times_rows" (top 80) [] := fun _ _ _ _ _ _ us hl => match us, hl with | [], _ => rfl
def t_L_times_rows : T2S :=
  (dSeq (dAsg (dC (.str "there is no such event")) (gN 0))
  (dSeq (dAsg (dC (.str "this event stands already")) (gN 1))
  (dSeq (dAsg (dC (.str "a time is from -1000 to 1000")) (gN 2))
  (dSeq (dAsg (dC (.str "an event is missing")) (gN 3))
  (dRet (tList (dCons (dTup (dCons (dC (.str "@")) (dCons (dVar 3) dNil))) (dCons (dTup (dCons (dC (.str "a = 0, c = 5@")) (dCons (dVar 3) dNil))) (dCons (dTup (dCons (dC (.str "c = 1000, b = -1000@")) (dCons (dVar 3) dNil))) (dCons (dTup (dCons (dC (.str "a = 0, b = 0, c = 0, @d = 0")) (dCons (dVar 0) dNil))) (dCons (dTup (dCons (dC (.str "@f = 1001")) (dCons (dVar 0) dNil))) (dCons (dTup (dCons (dC (.str "a = 0, @a = 1001")) (dCons (dVar 1) dNil))) (dCons (dTup (dCons (dC (.str "a = 0, b = 1, c = 2, @b = 1")) (dCons (dVar 1) dNil))) (dCons (dTup (dCons (dC (.str "a = @1001, a = 0")) (dCons (dVar 2) dNil))) (dCons (dTup (dCons (dC (.str "b = -@1001")) (dCons (dVar 2) dNil))) (dCons (dTup (dCons (dC (.str "a = 0, b = @999999, d = 0")) (dCons (dVar 2) dNil))) (dCons (dTup (dCons (dC (.str "c = 0, b = 1, @c = 0, d = 1")) (dCons (dVar 1) dNil))) dNil)))))))))))))))))
def f_L_times_rows : RCD := bodyD N_L_times_rows.length 0 t_L_times_rows
theorem o_L_times_rows {Q : D → Prop} (h : t_L_times_rows { nx := fun _ => Q .none, rt := Q } [none, none, none, none]) : f_L_times_rows [] Q := ⟨rfl, h⟩
abbrev N_L_told : List Str := ["kind", "text", "net", "problem"]
theorem sc_L_told : FnScope N_L_told ["kind", "text"] (defScope (top 81)) := ⟨rfl, rfl, rfl, by decide +kernel, rfl, by decide +kernel, by decide +kernel⟩
theorem bb_L_told : BindsBy "_law_told" (top 81) ["kind", "text"] := fun _ _ _ _ _ _ us hl => match us, hl with | [_, _], _ => rfl
def t_L_told : T2S :=
  (dSeq (dAsg (dTup (dCons (dC (.int (3))) (dCons (dTup (dCons (dTup (dCons (dC (.int (0))) (dCons (dC (.int (1))) (dCons (dC (.int (5))) (dCons (dC (.int (10))) dNil))))) dNil)) dNil))) (gN 2))
  (dSeq (dTry [⟨[some false, none, none, some true], 3, fun c e => (dRet (dTup (dCons (dXf3 0 c e) (dCons (dXf3 1 c e) dNil))))⟩] (fun x => (dIfS (dB (dOp dEq (dVar 0) (dC (.str "net"))))
  (dDrop (dCBX (orX f_read_net fX_read_net) x (dCons (dVar 1) dNil)))
  (dIfS (dB (dOp dEq (dVar 0) (dC (.str "row"))))
  (dDrop (dCBX (orX f_read_row fX_read_row) x (dCons (dVar 2) (dCons (dVar 1) dNil))))
  (dDrop (dCBX (orX f_read_times fX_read_times) x (dCons (dVar 2) (dCons (dVar 1) dNil))))))))
  (dRet (dC .none))))
def f_L_told : RCD := bodyD N_L_told.length 2 t_L_told
theorem o_L_told {a0 a1 : D} {Q : D → Prop} (h : t_L_told { nx := fun _ => Q .none, rt := Q } [some (.dat a0), some (.dat a1), none, none]) : f_L_told [a0, a1] Q := ⟨rfl, h⟩
abbrev N_law : List Str := ["script", "stream", "kind", "rows", "row", "text", "column", "fine", "bad", "other", "no_net", "net", "no_row", "no_times", "told", "more", "words", "one"]
theorem sc_law : FnScope N_law ["script"] (defScope (top 83)) := ⟨rfl, rfl, rfl, by decide +kernel, rfl, by decide +kernel, by decide +kernel⟩
def t_law : T2S :=
  (dSeq (dAsg (dCallS 1 f_L_pick (dCons (tList (dCons (dC (.str "net")) (dCons (dC (.str "row")) (dCons (dC (.str "times")) dNil)))) dNil)) (gN 2))
  (dSeq (dAsg (dDisG [("net", (dCB f_L_net_rows dNil)), ("row", (dCB f_L_row_rows dNil)), ("times", (dCB f_L_times_rows dNil))] (dVar 2)) (gN 3))
  (dSeq (dAsg (dCallS 1 f_L_pick (dCons (dVar 3) dNil)) (gT 2 (gsCons (gN 4) (gsCons (gN 16) gsNil))))
  (dSeq (dAsg (dOp dAddS (dOp dAddS (dOp dMulS (dC (.str " ")) (dOp dAddS (dC (.int (1))) (dCallS 1 f_next (dCons (dC (.int (3))) dNil)))) (dVar 4)) (dOp dMulS (dC (.str " ")) (dCallS 1 f_next (dCons (dC (.int (3))) dNil)))) (gN 4))
  (dSeq (dAsg (dRepl "@" "" (dVar 4)) (gN 5))
  (dSeq (dAsg (dIf (dB (dOp dEq (dOp dIxS (dStrip (dVar 4)) (dUn dNeg (dC (.int (1))))) (dC (.str "@")))) (dOp dAddS (dCB dLenS (dCons (dVar 5) dNil)) (dC (.int (1)))) (dOp dAddS (dTM dIdxT (dVar 4) (dC (.str "@"))) (dC (.int (1))))) (gN 6))
  (dSeq (dIfS (dNot (dTru (dCB (f_equal 8) (dCons (dCB f_L_told (dCons (dVar 2) (dCons (dVar 5) dNil))) (dCons (dTup (dCons (dVar 6) (dCons (dVar 16) dNil))) dNil)))))
  (dRet (dC (.bool false)))
  dNext)
  (dSeq (dAsg (tList (dCons (dTup (dCons (dC (.str "net")) (dCons (dC (.str "000006:")) dNil))) (dCons (dTup (dCons (dC (.str "net")) (dCons (dC (.str "2: a - b in -100..-0; b - a in ..100")) dNil))) (dCons (dTup (dCons (dC (.str "net")) (dCons (dOp dAddS (dC (.str "3: a - b in 0..1")) (dOp dMulS (dC (.str "; c - b in ..2")) (dC (.int (11))))) dNil))) (dCons (dTup (dCons (dC (.str "row")) (dCons (dC (.str "")) dNil))) (dCons (dTup (dCons (dC (.str "row")) (dCons (dOp dAddS (dC (.str "a = 500")) (dOp dMulS (dC (.str ", c = -500")) (dC (.int (7))))) dNil))) (dCons (dTup (dCons (dC (.str "times")) (dCons (dC (.str "c = 1000, a = -1000, b = -0")) dNil))) dNil))))))) (gN 7))
  (dSeq (dIfS (dB (dOp dNe (tList (dLc (diS (dVar 7)) (gT 2 (gsCons (gN 17) (gsCons (gN 5) gsNil))) (fun _ Q => Q true) (dCB f_L_told (dCons (dVar 17) (dCons (dVar 5) dNil))) [17, 5])) (dOp dMulS (tList (dCons (dC .none) dNil)) (dC (.int (6))))))
  (dRet (dC (.bool false)))
  dNext)
  (dSeq (dAsg (dCallS 1 f_L_pick (dCons (tList (dCons (dC .none) (dCons (dOp dMulS (dC (.str "a ")) (dC (.int (301)))) (dCons (dC (.str "a\n")) (dCons (tList (dCons (dC (.str "a")) dNil)) (dCons (dC (.int (5))) dNil)))))) dNil)) (gN 8))
  (dSeq (dAsg (dCallS 1 f_L_pick (dCons (tList (dCons (dC .none) (dCons (dC (.int (0))) (dCons (dC (.str "nets")) (dCons (dC (.bool true)) (dCons (tList (dCons (dC (.str "net")) dNil)) (dCons (dC (.str "times")) dNil))))))) dNil)) (gN 9))
  (dSeq (dAsg (dCallS 1 f_L_pick (dCons (tList (dCons (dC .none) (dCons (dTup (dCons (dC (.int (2))) dNil)) (dCons (dTup (dCons (dC (.int (0))) (dCons (dTup dNil) dNil))) (dCons (dTup (dCons (dC (.int (7))) (dCons (dTup dNil) dNil))) (dCons (dTup (dCons (dC (.int (2))) (dCons (dTup (dCons (dTup (dCons (dC (.int (0))) (dCons (dC (.int (0))) (dCons (dC (.int (1))) (dCons (dC (.int (2))) dNil))))) dNil)) dNil))) (dCons (dTup (dCons (dC (.int (2))) (dCons (dTup (dCons (dTup (dCons (dC (.int (0))) (dCons (dC (.int (1))) (dCons (dC .none) (dCons (dC .none) dNil))))) dNil)) dNil))) (dCons (tList (dCons (dC (.int (2))) (dCons (dTup dNil) dNil))) (dCons (dTup (dCons (dC (.int (2))) (dCons (dTup (dCons (dTup (dCons (dC (.int (0))) (dCons (dC (.int (1))) (dCons (dC (.int (1))) (dCons (dC (.int (101))) dNil))))) dNil)) dNil))) dNil))))))))) dNil)) (gN 10))
  (dSeq (dAsg (dTup (dCons (dC (.int (2))) (dCons (dTup (dCons (dTup (dCons (dC (.int (0))) (dCons (dC (.int (1))) (dCons (dC (.int (1))) (dCons (dC (.int (2))) dNil))))) dNil)) dNil))) (gN 11))
  (dSeq (dAsg (dCallS 1 f_L_pick (dCons (tList (dCons (dC .none) (dCons (tList (dCons (dTup (dCons (dC (.int (0))) (dCons (dC (.int (1))) dNil))) dNil)) (dCons (dTup (dCons (dTup (dCons (dC (.int (0))) (dCons (dC (.int (501))) dNil))) dNil)) (dCons (dTup (dCons (dTup (dCons (dC (.int (0))) (dCons (dUn dNeg (dC (.int (501)))) dNil))) dNil)) (dCons (dTup (dCons (dTup (dCons (dC (.int (6))) (dCons (dC (.int (1))) dNil))) dNil)) (dCons (dTup (dCons (dTup (dCons (dUn dNeg (dC (.int (1)))) (dCons (dC (.int (1))) dNil))) dNil)) (dCons (dTup (dCons (dTup (dCons (dC (.bool true)) (dCons (dC (.int (1))) dNil))) dNil)) (dCons (dTup (dCons (dTup (dCons (dC (.int (0))) (dCons (dC (.bool true)) dNil))) dNil)) (dCons (dTup (dCons (dTup (dCons (dC (.int (0))) dNil)) dNil)) (dCons (dOp dMulS (dTup (dCons (dTup (dCons (dC (.int (0))) (dCons (dC (.int (1))) dNil))) dNil)) (dC (.int (9)))) (dCons (dTup (dCons (tList (dCons (dC (.int (0))) (dCons (dC (.int (1))) dNil))) dNil)) (dCons (dTup (dCons (dTup (dCons (dC (.int (0))) (dCons (dC .none) dNil))) dNil)) dNil))))))))))))) dNil)) (gN 12))
  (dSeq (dAsg (dCallS 1 f_L_pick (dCons (tList (dCons (dC .none) (dCons (tList (dCons (dC (.int (0))) (dCons (dC (.int (1))) dNil))) (dCons (dTup (dCons (dC (.int (0))) dNil)) (dCons (dTup (dCons (dC (.int (0))) (dCons (dC (.int (1))) (dCons (dC (.int (2))) dNil)))) (dCons (dTup (dCons (dC (.int (0))) (dCons (dC (.int (1001))) dNil))) (dCons (dTup (dCons (dUn dNeg (dC (.int (1001)))) (dCons (dC (.int (0))) dNil))) (dCons (dTup (dCons (dC (.bool true)) (dCons (dC (.int (0))) dNil))) (dCons (dTup (dCons (dC (.int (0))) (dCons (dC .none) dNil))) (dCons (dTup (dCons (dC (.str "0")) (dCons (dC (.int (1))) dNil))) dNil)))))))))) dNil)) (gN 13))
  (dSeq (dAsg (tList (dCons (dCB f_L_refused (dCons (dC (.int (0))) (dCons (dVar 8) (dCons (dVar 9) dNil)))) (dCons (dCB f_L_refused (dCons (dC (.int (0))) (dCons (dC (.str "g")) (dCons (dVar 9) dNil)))) (dCons (dCB f_L_refused (dCons (dC (.int (1))) (dCons (dVar 8) (dCons (dC (.int (0))) dNil)))) (dCons (dCB f_L_refused (dCons (dC (.int (2))) (dCons (dVar 10) (dCons (dVar 8) dNil)))) (dCons (dCB f_L_refused (dCons (dC (.int (2))) (dCons (dVar 11) (dCons (dVar 8) dNil)))) (dCons (dCB f_L_refused (dCons (dC (.int (3))) (dCons (dVar 10) (dCons (dVar 8) dNil)))) (dCons (dCB f_L_refused (dCons (dC (.int (3))) (dCons (dVar 11) (dCons (dVar 8) dNil)))) dNil)))))))) (gN 14))
  (dSeq (dAsg (tList (dCons (dCB f_L_refused (dCons (dC (.int (4))) (dCons (dVar 10) (dCons (dC (.int (0))) dNil)))) (dCons (dCB f_L_refused (dCons (dC (.int (5))) (dCons (dVar 12) (dCons (dC (.int (0))) dNil)))) (dCons (dCB f_L_refused (dCons (dC (.int (6))) (dCons (dVar 10) (dCons (dVar 13) dNil)))) (dCons (dCB f_L_refused (dCons (dC (.int (6))) (dCons (dVar 11) (dCons (dVar 13) dNil)))) dNil))))) (gN 15))
  (dRet (dAndV (dOp dEq (dVar 14) (tList (dCons (dC (.str "text")) (dCons (dC (.str "kind")) (dCons (dC (.str "text")) (dCons (dC (.str "net")) (dCons (dC (.str "text")) (dCons (dC (.str "net")) (dCons (dC (.str "text")) dNil))))))))) (dOp dEq (dVar 15) (tList (dCons (dC (.str "net")) (dCons (dC (.str "row")) (dCons (dC (.str "net")) (dCons (dC (.str "times")) dNil)))))))))))))))))))))))))
local macro_rules | `(tactic| walk_at "Z") => `(tactic| simp only [↓dSeq, ↓dNext, ↓dAsg, ↓dAsgO, ↓dDrop, ↓dRet, ↓dRetN, ↓dIfS, ↓dNever, ↓dBreak, ↓dCont, ↓dFor, ↓forD, ↓dFrz, ↓dFrzM, ↓dNewM, ↓dMIx, ↓dPar, ↓dMSet, ↓dNewD, ↓dPutD, ↓dGetD, ↓dRetPop, ↓dLstRg, ↓dLenOwn, ↓dMaxL, ↓dMinL, ↓dCBK, ↓dLenSet, dLenSetD, dMaxT, dMinT, dAsgPop, popE, ↓ownD, ↓dOLen, ↓dOTru, ↓dOIx, ↓diOwn, ↓dPop, ↓dPopA, ↓dAugA, ↓dLstRg2, ↓dInD, ↓dAppPop, ↓dGetF, ↓dInF, ↓dInO, ↓dNewK, ↓dPutK, ↓dGetK, ↓dInK, ↓dGet2K, ↓dCBX, ↓dRaise, ↓dTry, ↓dHs, ↓dXf, ↓dIsX, ↓dFGet1, ↓dOGet2, ↓dDcI, ↓dItemsK, ↓dInW, ↓dCBL, ↓dLv, ↓dOInD, ↓dOIdx, ↓dIns, ↓dSortKF, ↓dSortT, ↓diZipM, ↓dSwap, ↓dLc2, ↓dRngS, ↓diRgV, ↓diEnumZ, ↓diZipML, ↓dTupRg, ↓endsU2, ↓dTruK, ↓dFld, ↓dFz, ↓dLn, ↓dCallOX, ↓mAsgO, ↓dTryO, ↓dDictT, ↓dFzT, ↓dTwin, ↓dAddS, ↓dMulS, ↓dIntS, ↓dDisG, ↓dVals, ↓dStrip, ↓dRepl, ↓dONe, ↓dLenK, ↓dListEn, ↓dAugS, ↓dStrOf, ↓dCD, ↓dFmt, ↓dJs, ↓dTM, ↓dJoin, ↓dIdxT, ↓dIxS, ↓dLenS, ↓dSlS, ↓dInS, ↓dRaise3, ↓dXf3, ↓dAsgT, ↓dAsgCP, ↓dRetP, ↓pSeq, ↓nS_nil, ↓nS_none, ↓nS_strm, ↓nS_dat, ↓nS_own, ↓nS_obf, ↓nS_obj, ↓lsD_nil, ↓lsD_cons, ↓List.cons_append, ↓List.nil_append, ↓dCallF, ↓dCallFX, ↓dRetE, ↓dRetEN, ↓dRetV, ↓dAsgCO, ↓mE, ↓mT, ↓mNil, ↓dMulO, ↓mPopO, ↓mPopL, ↓mAppO, ↓mIfE, ↓mCons, ↓mCB, ↓mOp, ↓mTup, ↓mLst, ↓mB, ↓mNot, ↓mAnd, ↓mOr, ↓mAndV, ↓mOrV, ↓mIfS, ↓mAsg, ↓mDrop, ↓mRet, ↓mRetE, ↓mMeth, ↓mCallO, ↓mMethX, ↓dAppF, ↓dPopF, ↓nSeq, ↓nNext, ↓nDrop, ↓nRd, ↓nFld, ↓nLst, ↓dAsgN, ↓dRetN2, ↓dRetNX, ↓dDropNX, ↓dAsgNX, ↓dAsgR, ↓dFrzD, ↓dRem, ↓dmaxDf, ↓dminDf, ↓dApp, ↓dExt, ↓dSetIx, ↓dCallS, ↓envD, ↓wipeE, ↓dVar, ↓dC, ↓dOp, ↓dOpO, ↓dUn, ↓dCB, ↓dCBO, ↓dNil, ↓dCons, ↓dTup, ↓tList, ↓dB, ↓dTru, ↓dAnd, ↓dOr, ↓dNot, ↓dAndV, ↓dOrV, ↓dNotV, ↓dIf, ↓dChain, ↓d2I, ↓d2IC, ↓dAdd, ↓dMul, ↓dSub, ↓dDiv, ↓dMod, ↓dPow, ↓dLt, ↓dLe, ↓dGt, ↓dGe, ↓dNeg, ↓dIsN, ↓dNotN, ↓dIsB, ↓dNotBl, ↓dEq, ↓dNe, ↓dIn, ↓dIx, ↓dPart, ↓dNoPart, ↓dSl, ↓dRev, ↓dRevO, ↓dLen, ↓dTupOf, ↓dListOf, ↓dCatL, ↓dRepL, ↓dInt1, ↓dIntOf, ↓dInt2, ↓dIsi, ↓seqOf, ↓gN, ↓gsNil, ↓gsCons, ↓gT, ↓diS, ↓diR1, ↓diEnumA, ↓diZip, ↓diR2, ↓dLc, List.map_cons, List.map_nil, List.cons_append, List.nil_append, ↓List.getElem?_cons_zero, ↓List.getElem?_cons_succ, ↓List.set_cons_zero, ↓List.set_cons_succ, List.replicate, Nat.sub_self, Nat.reduceSub, List.length_cons, List.length_nil, if_true, if_false, Bool.false_eq_true, Bool.true_eq_false, Bool.not_true, Bool.not_false, reduceIte, reduceCtorEq, and_true, true_and, Nat.reduceAdd])
local macro_rules | `(tactic| walk_at "DZ") => `(tactic| dsimp only [↓dSeq, ↓dNext, ↓dAsg, ↓dAsgO, ↓dDrop, ↓dRet, ↓dRetN, ↓dIfS, ↓dNever, ↓dBreak, ↓dCont, ↓dFor, ↓forD, ↓dFrz, ↓dFrzM, ↓dNewM, ↓dMIx, ↓dPar, ↓dMSet, ↓dNewD, ↓dPutD, ↓dGetD, ↓dRetPop, ↓dLstRg, ↓dLenOwn, ↓dMaxL, ↓dMinL, ↓dCBK, ↓dLenSet, dLenSetD, dMaxT, dMinT, dAsgPop, popE, ↓ownD, ↓dOLen, ↓dOTru, ↓dOIx, ↓diOwn, ↓dPop, ↓dPopA, ↓dAugA, ↓dLstRg2, ↓dInD, ↓dAppPop, ↓dGetF, ↓dInF, ↓dInO, ↓dNewK, ↓dPutK, ↓dGetK, ↓dInK, ↓dGet2K, ↓dCBX, ↓dRaise, ↓dTry, ↓dHs, ↓dXf, ↓dIsX, ↓dFGet1, ↓dOGet2, ↓dDcI, ↓dItemsK, ↓dInW, ↓dCBL, ↓dLv, ↓dOInD, ↓dOIdx, ↓dIns, ↓dSortKF, ↓dSortT, ↓diZipM, ↓dSwap, ↓dLc2, ↓dRngS, ↓diRgV, ↓diEnumZ, ↓diZipML, ↓dTupRg, ↓endsU2, ↓dTruK, ↓dFld, ↓dFz, ↓dLn, ↓dCallOX, ↓mAsgO, ↓dTryO, ↓dDictT, ↓dFzT, ↓dTwin, ↓dAddS, ↓dMulS, ↓dIntS, ↓dDisG, ↓dVals, ↓dStrip, ↓dRepl, ↓dONe, ↓dLenK, ↓dListEn, ↓dAugS, ↓dStrOf, ↓dCD, ↓dFmt, ↓dJs, ↓dTM, ↓dJoin, ↓dIdxT, ↓dIxS, ↓dLenS, ↓dSlS, ↓dInS, ↓dRaise3, ↓dXf3, ↓dAsgT, ↓dAsgCP, ↓dRetP, ↓pSeq, ↓nS_nil, ↓nS_none, ↓nS_strm, ↓nS_dat, ↓nS_own, ↓nS_obf, ↓nS_obj, ↓lsD_nil, ↓lsD_cons, ↓List.cons_append, ↓List.nil_append, ↓dCallF, ↓dCallFX, ↓dRetE, ↓dRetEN, ↓dRetV, ↓dAsgCO, ↓mE, ↓mT, ↓mNil, ↓dMulO, ↓mPopO, ↓mPopL, ↓mAppO, ↓mIfE, ↓mCons, ↓mCB, ↓mOp, ↓mTup, ↓mLst, ↓mB, ↓mNot, ↓mAnd, ↓mOr, ↓mAndV, ↓mOrV, ↓mIfS, ↓mAsg, ↓mDrop, ↓mRet, ↓mRetE, ↓mMeth, ↓mCallO, ↓mMethX, ↓dAppF, ↓dPopF, ↓nSeq, ↓nNext, ↓nDrop, ↓nRd, ↓nFld, ↓nLst, ↓dAsgN, ↓dRetN2, ↓dRetNX, ↓dDropNX, ↓dAsgNX, ↓dAsgR, ↓dFrzD, ↓dRem, ↓dmaxDf, ↓dminDf, ↓dApp, ↓dExt, ↓dSetIx, ↓dCallS, ↓envD, ↓wipeE, ↓dVar, ↓dC, ↓dOp, ↓dOpO, ↓dUn, ↓dCB, ↓dCBO, ↓dNil, ↓dCons, ↓dTup, ↓tList, ↓dB, ↓dTru, ↓dAnd, ↓dOr, ↓dNot, ↓dAndV, ↓dOrV, ↓dNotV, ↓dIf, ↓dChain, ↓d2I, ↓d2IC, ↓dAdd, ↓dMul, ↓dSub, ↓dDiv, ↓dMod, ↓dPow, ↓dLt, ↓dLe, ↓dGt, ↓dGe, ↓dNeg, ↓dIsN, ↓dNotN, ↓dIsB, ↓dNotBl, ↓dEq, ↓dNe, ↓dIn, ↓dIx, ↓dPart, ↓dNoPart, ↓dSl, ↓dRev, ↓dRevO, ↓dLen, ↓dTupOf, ↓dListOf, ↓dCatL, ↓dRepL, ↓dInt1, ↓dIntOf, ↓dInt2, ↓dIsi, ↓seqOf, ↓gN, ↓gsNil, ↓gsCons, ↓gT, ↓diS, ↓diR1, ↓diEnumA, ↓diZip, ↓diR2, ↓dLc, ↓List.getElem?_cons_zero, ↓List.getElem?_cons_succ, ↓List.set_cons_zero, ↓List.set_cons_succ, List.getElem?_cons_zero, List.getElem?_cons_succ, List.set_cons_zero, List.set_cons_succ, List.map_cons, List.map_nil, List.cons_append, List.nil_append, List.replicate, List.length_cons, List.length_nil, Bool.not_true, Bool.not_false])
theorem is_whole_ok (v : D) (Q : D → Prop) (q : Q (.bool (whI v))) : f_is_whole [v] Q := by
  refine ⟨rfl, ?_⟩
  show t_is_whole _ _
  unfold t_is_whole
  walk_at "Z"
  rw [isT_int, isT_bool]
  cases v <;> simpa [isI, isB, whI] using q
theorem is_integer_ok (v : D) (l g : Int) (Q : D → Prop) (q : Q (.bool (inI v l g))) : f_is_integer [v, .int l, .int g] Q := by
  refine ⟨rfl, ?_⟩
  show t_is_integer _ _
  unfold t_is_integer
  walk_at "DZ"
  refine is_whole_ok _ _ ?_
  cases v <;> simp only [whI, inI, if_true, if_false, Bool.false_eq_true, reduceIte] at q ⊢ <;> try exact q
  rename_i i
  by_cases h : l ≤ i
  · simpa [h] using q
  · simpa [h] using q
theorem L_is_integer_ok (v : D) (Q : D → Prop) (q : Q (.bool (isI v && !isB v))) : f_L_is_integer [v] Q := by
  refine ⟨rfl, ?_⟩
  show t_L_is_integer _ _
  unfold t_L_is_integer
  walk_at "Z"
  rw [isT_int, isT_bool]
  cases v <;> simpa [isI, isB] using q
theorem lc_pairs {n : Nat} {as bs : List D} {Q : D → Prop} (hl : as.length = bs.length) (hb : bs.length ≤ 1000000) (ok : bs.all (okD n) = true) (ca : PyData.canLayAll0 as = true) (cb : PyData.canLayAll0 bs = true) (q : Q (.bool (sqs as bs))) {env : Ev}
    (h0 : env[0]? = some (some (.dat (.list as))) ∨ env[0]? = some (some (.dat (.tuple as)))) (h1 : env[1]? = some (some (.dat (.list bs))) ∨ env[1]? = some (some (.dat (.tuple bs)))) (h2 : 2 < env.length) :
    lcD (gN 2) (fun _ Q => Q true) (dCB (f_equal n) (dCons (dOp dIx (dVar 0) (dVar 2)) (dCons (dOp dIx (dVar 1) (dVar 2)) dNil))) env (dRange 0 bs.length)
      (fun ys => (dBools fun bs => bs.all id) [.list ys] Q) := by
  refine lc_map (fun d => match d with | .int i => PyData.bool (sq (as.getD i.toNat .none) (bs.getD i.toNat .none)) | _ => .none) (fun d hd R hR => ?_) ?_
  · obtain ⟨i, hi, rfl⟩ := mem_dRange hd
    have ea : as[i]? = some as[i] := List.getElem?_eq_getElem (by omega)
    have eb : bs[i]? = some bs[i] := List.getElem?_eq_getElem hi
    have e2 : (env.set 2 (some (.dat (.int (0 + (i : Nat))))))[2]? = some (some (.dat (.int (0 + (i : Nat))))) := List.getElem?_set_self h2
    have e0 : (env.set 2 (some (.dat (.int (0 + (i : Nat))))))[0]? = env[0]? := List.getElem?_set_ne (by decide)
    have e1 : (env.set 2 (some (.dat (.int (0 + (i : Nat))))))[1]? = env[1]? := List.getElem?_set_ne (by decide)
    have fin : f_equal n [as[i], bs[i]] R := by
      refine ⟨List.all_eq_true.mp ok _ (List.getElem_mem hi), canLayAll_mem ca _ (List.getElem_mem _), canLayAll_mem cb _ (List.getElem_mem hi), ?_⟩
      dsimp only at hR
      rw [Int.zero_add, Int.toNat_natCast, List.getD_eq_getElem?_getD, List.getD_eq_getElem?_getD, ea, eb] at hR
      exact hR
    rcases h0 with h0 | h0 <;> rcases h1 with h1 | h1 <;>
      simp only [gN, dCB, dCons, dNil, dOp, dIx, dVar, e0, e1, e2, h0, h1, seqOf, atI_ge ea, atI_ge eb] <;> exact fin
  · have e : (dRange 0 bs.length).map (fun d => match d with | .int i => PyData.bool (sq (as.getD i.toNat .none) (bs.getD i.toNat .none)) | _ => .none) = (List.range bs.length).map fun i => PyData.bool (sq (as.getD i .none) (bs.getD i .none)) := by
      unfold dRange
      rw [List.map_map]
      refine List.map_congr_left fun i _ => ?_
      show PyData.bool _ = PyData.bool _
      rw [Int.zero_add, Int.toNat_natCast]
    rw [e]
    unfold dBools
    dsimp only
    rw [allBool_map]
    dsimp only
    rw [sqs_all as bs hl] at q
    rw [List.all_map]
    exact q
theorem t_equal_ok (n : Nat) (a d : D) (Q : D → Prop) (ok : okD (n + 1) d = true) (ca : PyData.canLay0 a = true) (cd : PyData.canLay0 d = true) (q : Q (.bool (sq a d))) : bodyD N_L_equal.length 2 (t_L_equal n) [a, d] Q := by
  refine ⟨rfl, ?_⟩
  show t_L_equal n _ _
  unfold t_L_equal
  walk_at "Z"
  simp only [isT_int, isT_bool, isT_str, isT_list, isT_tuple, isNone]
  cases d with
  | none => cases a <;> simpa [sq] using q
  | bool b =>
    cases a <;> simp only [isB, if_true, if_false, Bool.false_eq_true, reduceIte, shaped_bool, true_and] <;> simpa [sq, PyData.eqv] using q
  | int b =>
    simp only [isB, isI, if_true, if_false, Bool.false_eq_true, reduceIte]
    refine L_is_integer_ok a _ ?_
    cases a <;> simp only [isB, isI, if_true, if_false, Bool.false_eq_true, reduceIte, shaped_int, true_and, Bool.not_true, Bool.not_false, Bool.and_true, Bool.and_false, Bool.false_and, Bool.true_and] <;> simpa [sq, PyData.eqv] using q
  | str b =>
    have sb := shaped_str cd
    cases a <;> simp only [isB, isI, isS, if_true, if_false, Bool.false_eq_true, reduceIte, sb] <;> try (simpa [sq, PyData.eqv] using q)
    rw [show SeqAt.shaped _ = true from shaped_str ca]
    simpa [sq, PyData.eqv] using q
  | dict b => simp [okD] at ok
  | tuple bs =>
    unfold okD at ok
    rw [Bool.and_eq_true] at ok
    unfold PyData.canLay0 at cd
    cases a <;> simp only [isB, isI, isS, isTu, isLi, if_true, if_false, Bool.false_eq_true, reduceIte, Bool.not_true, Bool.not_false] <;> try (simpa [sq] using q)
    rename_i as
    unfold PyData.canLay0 at ca
    simp only [shaped_int, true_and, PyData.eqv]
    have hb := of_decide_eq_true ok.1
    by_cases hl : as.length = bs.length
    · have e : ((as.length : Int) == (bs.length : Int)) = true := by rw [hl]; simp
      simp only [e, Bool.not_true, Bool.false_eq_true, if_false]
      refine ⟨by omega, by omega, ?_⟩
      have e2 : ((bs.length : Int)).toNat = bs.length := Int.toNat_natCast _
      rw [e2]
      refine ⟨by rw [dRange_length]; exact hb, ?_⟩
      refine lc_pairs hl hb ok.2 ca cd ?_ (.inr rfl) (.inr rfl) (by show 2 < 3; decide)
      unfold sq at q
      exact q
    · have e : ((as.length : Int) == (bs.length : Int)) = false := by
        apply beq_eq_false_iff_ne.mpr
        omega
      simp only [e, Bool.not_false, if_true]
      have z : sqs as bs = false := by
        cases h : sqs as bs with
        | false => rfl
        | true => exact absurd (sqs_len _ _ h) hl
      unfold sq at q
      dsimp only at q
      rw [z] at q
      exact q
  | list bs =>
    unfold okD at ok
    rw [Bool.and_eq_true] at ok
    unfold PyData.canLay0 at cd
    cases a <;> simp only [isB, isI, isS, isTu, isLi, if_true, if_false, Bool.false_eq_true, reduceIte, Bool.not_true, Bool.not_false] <;> try (simpa [sq] using q)
    rename_i as
    unfold PyData.canLay0 at ca
    simp only [shaped_int, true_and, PyData.eqv]
    have hb := of_decide_eq_true ok.1
    by_cases hl : as.length = bs.length
    · have e : ((as.length : Int) == (bs.length : Int)) = true := by rw [hl]; simp
      simp only [e, Bool.not_true, Bool.false_eq_true, if_false]
      refine ⟨by omega, by omega, ?_⟩
      have e2 : ((bs.length : Int)).toNat = bs.length := Int.toNat_natCast _
      rw [e2]
      refine ⟨by rw [dRange_length]; exact hb, ?_⟩
      refine lc_pairs hl hb ok.2 ca cd ?_ (.inl rfl) (.inl rfl) (by show 2 < 3; decide)
      unfold sq at q
      exact q
    · have e : ((as.length : Int) == (bs.length : Int)) = false := by
        apply beq_eq_false_iff_ne.mpr
        omega
      simp only [e, Bool.not_false, if_true]
      have z : sqs as bs = false := by
        cases h : sqs as bs with
        | false => rfl
        | true => exact absurd (sqs_len _ _ h) hl
      unfold sq at q
      dsimp only at q
      rw [z] at q
      exact q
theorem pick_ok {ds : List D} {Q : D → Prop} (h1 : ds ≠ []) (h2 : ds.length ≤ 1000000) (q : ∀ d ∈ ds, Q d) : f_L_pick [.list ds] Q := by
  refine ⟨rfl, ?_⟩
  show t_L_pick _ _
  unfold t_L_pick
  walk_at "Z"
  have hp : 0 < ds.length := List.length_pos_iff.mpr h1
  refine next_mk (by omega) (by omega) fun d h3 h4 => ?_
  have hd : d.toNat < ds.length := by omega
  dsimp only
  rw [atI_int h3 (List.getElem?_eq_getElem hd)]
  exact q _ (List.getElem_mem hd)
def notEv (s : Int) (d : D) : Bool := match d with | .int i => decide (i ≠ s) | _ => false
def SideOk (far : Int) (d : D) : Prop := d = .none ∨ ∃ i : Int, d = .int i ∧ -far ≤ i ∧ i ≤ far
def RuleOk (size far : Int) (y : D) : Prop := ∃ (s e : Int) (lo hi : D), y = .tuple [.int s, .int e, lo, hi] ∧ 0 ≤ s ∧ s < size ∧ 0 ≤ e ∧ e < size ∧ s ≠ e ∧ SideOk far lo ∧ SideOk far hi ∧ ¬ (lo = .none ∧ hi = .none)
def NetOk (most many far : Int) (y : D) : Prop := ∃ (size : Int) (rs : List D), y = .tuple [.int size, .tuple rs] ∧ 1 ≤ size ∧ size ≤ most ∧ (rs.length : Int) ≤ many ∧ (∀ r ∈ rs, RuleOk size far r) ∧ (rs ≠ [] → 2 ≤ size)
def TimesOk (size far : Int) (y : D) : Prop := ∃ ts : List Int, y = .tuple (ts.map PyData.int) ∧ (ts.length : Int) = size ∧ ∀ t ∈ ts, -far ≤ t ∧ t ≤ far
theorem is_event_ok (v : D) (size : Int) (Q : D → Prop) (q : Q (.bool (inI v 0 (size - 1)))) : f_is_event [v, .int size] Q := by
  refine ⟨rfl, ?_⟩
  show t_is_event _ _
  unfold t_is_event
  walk_at "Z"
  exact is_integer_ok v 0 (size - 1) Q q
def sideB (v : D) : Bool := isNone v || inI v (-100) 100
theorem is_side_ok (v : D) (Q : D → Prop) (q : Q (.bool (sideB v))) : f_is_side [v] Q := by
  refine ⟨rfl, ?_⟩
  show t_is_side _ _
  unfold t_is_side
  walk_at "Z"
  cases v <;> simp only [sideB, isNone, Bool.true_or, Bool.false_or, if_true, if_false, Bool.false_eq_true, reduceIte] at q ⊢ <;> first | exact q | exact is_integer_ok _ (-100) 100 Q q
def ruleB (v : D) (size : Int) : Bool := match v with
  | .tuple [s, e, l, h] => inI s 0 (size - 1) && inI e 0 (size - 1) && !(PyData.eqv s e) && !(isNone l && isNone h) && sideB l && sideB h
  | _ => false
theorem inI_int {v : D} {l g : Int} (h : inI v l g = true) : ∃ i : Int, v = .int i ∧ l ≤ i ∧ i ≤ g := by
  unfold inI at h
  split at h
  · rw [Bool.and_eq_true] at h
    exact ⟨_, rfl, of_decide_eq_true h.1, of_decide_eq_true h.2⟩
  · cases h
theorem eqv_intD (a b : Int) : PyData.eqv (.int a) (.int b) = decide (a = b) := by
  unfold PyData.eqv
  by_cases h : a = b
  · subst h; simp
  · rw [decide_eq_false h]; exact beq_eq_false_iff_ne.mpr h
theorem is_rule_ok (v : D) (size : Int) (Q : D → Prop) (q : Q (.bool (ruleB v size))) : f_is_rule [v, .int size] Q := by
  refine ⟨rfl, ?_⟩
  show t_is_rule _ _
  unfold t_is_rule
  walk_at "Z"
  simp only [isT_tuple]
  cases v with
  | tuple xs =>
    simp only [isTu, Bool.not_true, if_false, Bool.false_eq_true, reduceIte, shaped_int, true_and, eqv_intD]
    by_cases hl : xs.length = 4
    · match xs, hl with
      | [s, e, l, h], _ =>
        have e4 : decide ((([s, e, l, h] : List D).length : Int) = 4) = true := rfl
        simp only [e4, Bool.not_true, Bool.false_eq_true, if_false]
        simp only [List.length_cons, List.length_nil, Nat.reduceAdd, true_and]
        refine is_event_ok s size _ ?_
        dsimp only
        cases hs : inI s 0 (size - 1) with
        | false => simpa [ruleB, hs] using q
        | true =>
          simp only [Bool.not_true, Bool.false_eq_true, if_false]
          refine is_event_ok e size _ ?_
          dsimp only
          cases he : inI e 0 (size - 1) with
          | false => simpa [ruleB, hs, he] using q
          | true =>
            simp only [Bool.not_true, Bool.false_eq_true, if_false]
            obtain ⟨i, rfl, _, _⟩ := inI_int hs
            obtain ⟨j, rfl, _, _⟩ := inI_int he
            refine ⟨shaped_int _, shaped_int _, ?_⟩
            rw [eqv_intD]
            by_cases hij : i = j
            · simpa [ruleB, hs, he, hij, eqv_intD] using q
            · simp only [hij, decide_false, Bool.false_eq_true, if_false]
              have fin : ∀ l h : D, (isNone l && isNone h) = false → Q (.bool (sideB l && sideB h)) → f_is_side [l] fun d => match d with
                  | PyData.bool c => if c = true then f_is_side [h] Q else Q (PyData.bool false)
                  | x => False := fun l h _ q => by
                refine is_side_ok l _ ?_
                dsimp only
                cases hl : sideB l with
                | false => simpa [hl] using q
                | true =>
                  simp only [if_true]
                  refine is_side_ok h _ ?_
                  simpa [hl] using q
              cases hl : isNone l with
              | false =>
                simp only [Bool.false_eq_true, if_false]
                refine fin l h (by rw [hl]; rfl) ?_
                simpa [ruleB, hs, he, hij, eqv_intD, hl] using q
              | true =>
                cases hh : isNone h with
                | true => simpa [ruleB, hs, he, hij, eqv_intD, hl, hh] using q
                | false =>
                  simp only [Bool.false_eq_true, if_false, if_true]
                  refine fin l h (by rw [hl, hh]; rfl) ?_
                  simpa [ruleB, hs, he, hij, eqv_intD, hl, hh] using q
    · have e4 : decide ((xs.length : Int) = 4) = false := decide_eq_false (by omega)
      simp only [e4, Bool.not_false, if_true]
      have z : ruleB (.tuple xs) size = false := by
        unfold ruleB
        split
        · rename_i z; cases z; exact absurd rfl hl
        · rfl
      rw [z] at q
      exact q
  | _ => simpa only [isTu, ruleB, Bool.not_false, if_true] using q
def netB (v : D) : Bool := match v with
  | .tuple [.int n, .tuple rs] => inI (.int n) 1 6 && decide (rs.length ≤ 12) && rs.all (ruleB · n)
  | _ => false
theorem is_net_ok (v : D) (Q : D → Prop) (q : Q (.bool (netB v))) : f_is_net [v] Q := by
  refine ⟨rfl, ?_⟩
  show t_is_net _ _
  unfold t_is_net
  walk_at "Z"
  simp only [isT_tuple]
  cases v with
  | tuple xs =>
    simp only [isTu, Bool.not_true, if_false, Bool.false_eq_true, reduceIte, shaped_int, true_and, eqv_intD]
    by_cases hl : xs.length = 2
    · match xs, hl with
      | [s, r], _ =>
        have e4 : decide ((([s, r] : List D).length : Int) = 2) = true := rfl
        simp only [e4, Bool.not_true, Bool.false_eq_true, if_false]
        simp only [List.length_cons, List.length_nil, Nat.reduceAdd, true_and]
        refine is_integer_ok s 1 6 _ ?_
        dsimp only
        cases hs : inI s 1 6 with
        | false =>
          simp only [Bool.not_false, if_true]
          have z : netB (.tuple [s, r]) = false := by
            unfold netB
            split
            · rename_i z; cases z; rw [hs]; rfl
            · rfl
          rw [z] at q; exact q
        | true =>
          simp only [Bool.not_true, Bool.false_eq_true, if_false]
          obtain ⟨n, rfl, _, _⟩ := inI_int hs
          cases r with
          | tuple rs =>
            simp only [isTu, Bool.not_true, if_false, Bool.false_eq_true, reduceIte]
            by_cases h12 : rs.length ≤ 12
            · have e12 : decide ((12 : Int) < (rs.length : Int)) = false := decide_eq_false (by omega)
              simp only [e12, Bool.false_eq_true, if_false]
              refine ⟨by omega, ?_⟩
              refine lc_map (fun d => PyData.bool (ruleB d n)) (fun d _ R hR => ?_) ?_
              · walk_at "Z"
                exact is_rule_ok d n R hR
              · unfold dBools
                dsimp only
                rw [allBool_map]
                dsimp only
                rw [List.all_map]
                simp only [netB, hs, decide_eq_true h12, Bool.true_and] at q
                exact q
            · have e12 : decide ((12 : Int) < (rs.length : Int)) = true := decide_eq_true (by omega)
              simp only [e12, if_true]
              simpa [netB, h12] using q
          | _ => simpa only [isTu, netB, Bool.not_false, if_true] using q
    · have e4 : decide ((xs.length : Int) = 2) = false := decide_eq_false (by omega)
      simp only [e4, Bool.not_false, if_true]
      have z : netB (.tuple xs) = false := by
        unfold netB
        split
        · rename_i z; cases z; exact absurd rfl hl
        · rfl
      rw [z] at q
      exact q
  | _ => simpa only [isTu, netB, Bool.not_false, if_true] using q
def timesB (v : D) (n : Int) : Bool := match v with
  | .tuple ts => decide ((ts.length : Int) = n) && ts.all fun t => inI t (-1000) 1000
  | _ => false
theorem is_times_ok (v : D) (n : Int) (x : D) (Q : D → Prop) (hn : n ≤ 1000) (q : Q (.bool (timesB v n))) : f_is_times [v, .tuple [.int n, x]] Q := by
  refine ⟨rfl, ?_⟩
  show t_is_times _ _
  unfold t_is_times
  walk_at "Z"
  simp only [isT_tuple]
  cases v with
  | tuple ts =>
    have a0 : atI [PyData.int n, x] 0 = some (.int n) := rfl
    simp only [isTu, Bool.not_true, if_false, Bool.false_eq_true, reduceIte, a0, shaped_int, true_and, eqv_intD]
    by_cases hl : (ts.length : Int) = n
    · simp only [hl, decide_true, Bool.not_true, Bool.false_eq_true, if_false]
      refine ⟨by omega, ?_⟩
      refine lc_map (fun d => PyData.bool (inI d (-1000) 1000)) (fun d _ R hR => ?_) ?_
      · walk_at "Z"
        exact is_integer_ok d (-1000) 1000 R hR
      · unfold dBools
        dsimp only
        rw [allBool_map]
        dsimp only
        rw [List.all_map]
        simp only [timesB, hl, decide_true, Bool.true_and] at q
        exact q
    · simp only [hl, decide_false, Bool.not_false, if_true]
      simpa only [timesB, hl, decide_false, Bool.false_and] using q
  | _ => simpa only [isTu, timesB, Bool.not_false, if_true] using q
theorem check_net_ok {v : D} {Q : D → Prop} (h : netB v = true) (q : Q .none) : f_check_net [v] Q := by
  refine o_check_net ?_
  unfold t_check_net
  walk_at "DZ"
  refine is_net_ok _ _ ?_
  rw [h]
  exact q
/-- a net and times that fit -/
structure NT (n far : Int) (rs : List D) (ts : List Int) : Prop where
  n0 : 1 ≤ n
  n1 : n ≤ 6
  fa : far ≤ 100
  rl : rs.length ≤ 12
  ro : ∀ r ∈ rs, RuleOk n far r
  tl : (ts.length : Int) = n
  tb : ∀ t ∈ ts, -1000 ≤ t ∧ t ≤ 1000
/-- the first that is not 0 -/
def fb : Nat → List Int → D
  | _, [] => .none
  | k, e :: es => if e ≠ 0 then .int (k : Nat) else fb (k + 1) es
/-! ### texts -/
abbrev tl (x : Str) : List Nat := x.cps.toList
theorem slice_mid (a : List Nat) (i j : Nat) (h1 : i ≤ j) (h2 : j ≤ a.length) : Txt.slice (SX.S a) (some (i : Int)) (some (j : Int)) = SX.S ((a.drop i).take (j - i)) := by
  rw [← C8.cutS_slice]
  unfold cutS
  rw [HT.sIx_nat, HT.sIx_nat, SX.S_len, Nat.min_eq_left h2, Nat.min_eq_left (Nat.le_trans h1 h2)]
theorem tw_split {p : Nat → Bool} {l : List Nat} {a k : Nat} (h1 : a ≤ k) (h2 : k ≤ l.length) (h3 : ∀ j c, a ≤ j → j < k → l[j]? = some c → p c = true) (h4 : ∀ c, l[k]? = some c → p c = false) : (l.drop a).takeWhile p = (l.drop a).take (k - a) := by
  have e : l.drop a = (l.drop a).take (k - a) ++ l.drop k := by
    have : (l.drop a).drop (k - a) = l.drop k := by rw [List.drop_drop]; congr 1; omega
    rw [← this, List.take_append_drop]
  conv => lhs; rw [e]
  rw [List.takeWhile_append_of_pos]
  · cases hk : l.drop k with
    | nil => rw [List.takeWhile_nil, List.append_nil]
    | cons c r =>
      have hc : l[k]? = some c := by
        have := congrArg List.head? hk
        rw [List.head?_drop] at this
        exact this
      rw [List.takeWhile_cons, h4 c hc]
      simp
  · intro c hc
    obtain ⟨j, hj⟩ := List.getElem?_of_mem hc
    have hj2 : j < k - a := by
      have := (List.getElem?_eq_some_iff.mp hj).1
      rw [List.length_take] at this
      omega
    rw [List.getElem?_take_of_lt hj2, List.getElem?_drop] at hj
    exact h3 (a + j) c (by omega) (by omega) hj
/-- what of a text's signs from a place on is of these -/
theorem run_from_ok {z x : Str} {a : Nat} {Q : D → Prop} (hl : z.length ≤ 1000) (ha : a ≤ z.length) (q : Q (.str (SX.S (((tl z).drop a).takeWhile fun c => decide (c ∈ tl x))))) : f_run_from [.str z, .int (a : Int), .str x] Q := by
  refine o_run_from ?_
  unfold t_run_from
  refine seq_gen fun N hN => ?_
  walk_at "DZ"
  subst hN
  refine seq_gen fun N hN => ?_
  refine while_inv (fun env => ∃ k : Nat, a ≤ k ∧ k ≤ z.length ∧ (∀ j c, a ≤ j → j < k → (tl z)[j]? = some c → c ∈ tl x) ∧ env = [some (.dat (.str z)), some (.dat (.int (a : Int))), some (.dat (.str x)), some (.dat (.int (k : Int)))]) (fun env => match (env[3]? : Option (Option Sl)) with | some (some (Sl.dat (PyData.int k))) => z.length - k.toNat | _ => 0) ⟨a, Nat.le_refl _, ha, fun j c h1 h2 => absurd h2 (by omega), rfl⟩ fun env hInv M hM => ?_
  obtain ⟨k, h1, h2, h3, rfl⟩ := hInv
  walk_at "DZ"
  refine ⟨by omega, ?_⟩
  have ez : (tl z).length = z.length := Array.length_toList
  have fin : (∀ c, (tl z)[k]? = some c → decide (c ∈ tl x) = false) → N [some (.dat (.str z)), some (.dat (.int (a : Int))), some (.dat (.str x)), some (.dat (.int (k : Int)))] := fun h4 => by
    subst hN
    walk_at "DZ"
    refine ⟨by omega, ?_⟩
    have := slice_mid (tl z) a k h1 (by omega)
    rw [SX.S_tl] at this
    rw [this, ← tw_split h1 (by omega) (fun j c g1 g2 g3 => decide_eq_true (h3 j c g1 g2 g3)) h4]
    exact q
  by_cases hk : k < z.length
  · refine ite_t (decide_eq_true (by omega)) ?_
    refine ⟨by omega, ?_⟩
    have hc : (tl z)[k]? = some ((tl z)[k]'(by omega)) := List.getElem?_eq_getElem _
    rw [show atI z.cps.toList (k : Int) = some _ from atI_nat hc]
    dsimp only
    have fo := StrLaws.found_one x ((tl z)[k]'(by omega))
    rw [if_neg Bool.false_ne_true]
    rw [fo]
    by_cases hm : (tl z)[k]'(by omega) ∈ tl x
    · refine ite_t (decide_eq_true hm) ?_
      refine hM _ ⟨k + 1, by omega, by omega, fun j c g1 g2 g3 => ?_, rfl⟩ ?_
      · by_cases e : j = k
        · subst e; rw [hc] at g3; cases g3; exact hm
        · exact h3 j c g1 (by omega) g3
      · show z.length - ((k : Int) + 1).toNat < z.length - (k : Int).toNat
        omega
    · refine ite_f (fun w => hm (of_decide_eq_true w)) ?_
      exact fin fun c g => by rw [hc] at g; cases g; exact decide_eq_false hm
  · refine ite_f (fun w => by have := of_decide_eq_true w; omega) ?_
    refine ite_f Bool.false_ne_true ?_
    refine fin fun c g => ?_
    rw [List.getElem?_eq_none (by omega)] at g
    cases g
/-! ### tokens -/
def kindL (w : Str) : Option Str := if w = ("in" : Str) then some "word" else if w.length = 1 ∧ (!(Builtin.Str.occurrences ("abcdef" : Str) w 0 ("abcdef" : Str).length 1).isEmpty) = true then some "event" else none
theorem wl : ∀ x ∈ (["in", "word", "event", "number", "sign", "end", "", "text", "..", " ", "there is no such word", "a number has at most 6 digits", "no token begins here"] : List Str), PyData.canLay0 (.str x) = true := by decide +kernel
theorem slice_any (a : List Nat) (i j : Nat) (h1 : i ≤ a.length) (h0 : i ≤ j) : Txt.slice (SX.S a) (some (i : Int)) (some (j : Int)) = SX.S ((a.drop i).take (j - i)) := by
  by_cases h2 : j ≤ a.length
  · exact slice_mid a i j h0 h2
  · rw [← C8.cutS_slice]
    unfold cutS
    rw [HT.sIx_nat, HT.sIx_nat, SX.S_len, Nat.min_eq_right (by omega), Nat.min_eq_left h1]
    show SX.S ((a.drop i).take (a.length - i)) = _
    rw [List.take_of_length_le (by rw [List.length_drop]; omega), List.take_of_length_le (by rw [List.length_drop]; omega)]
theorem kinds_ok {w : Str} {col : Int} {Q : D → Prop} (hw : PyData.canLay0 (.str w) = true) (hl : w.length ≤ 1000)
    (q : ∀ k, kindL w = some k → Q (.str k)) (x : kindL w = none → False) : f_letters_kind [.str w, .int col] Q := by
  refine o_letters_kind ?_
  unfold t_letters_kind
  refine seq_gen fun N hN => ?_
  walk_at "DZ"
  refine ⟨shaped_str hw, shaped_str (wl _ (by simp)), ?_⟩
  rw [eqv_str]
  by_cases h : w = ("in" : Str)
  · exact ite_t (decide_eq_true h) (q _ (if_pos h))
  · refine ite_f (fun z => h (of_decide_eq_true z)) ?_
    subst hN
    refine seq_gen fun N hN => ?_
    walk_at "DZ"
    refine ⟨by omega, shaped_int _, shaped_int _, ?_⟩
    rw [eqv_intD]
    have bad : kindL w = none → N [some (.dat (.str w)), some (.dat (.int col))] := fun hk => by
      subst hN
      walk_at "DZ"
      exact x hk
    by_cases h1 : w.length = 1
    · refine ite_t (decide_eq_true (by omega)) ?_
      rw [if_neg Bool.false_ne_true]
      by_cases h2 : (!(Builtin.Str.occurrences ("abcdef" : Str) w 0 ("abcdef" : Str).length 1).isEmpty) = true
      · exact ite_t h2 (q _ (by unfold kindL; rw [if_neg h, if_pos ⟨h1, h2⟩]))
      · exact ite_f h2 (bad (by unfold kindL; rw [if_neg h, if_neg fun z => h2 z.2]))
    · refine ite_f (fun z => by have := of_decide_eq_true z; omega) ?_
      exact ite_f Bool.false_ne_true (bad (by unfold kindL; rw [if_neg h, if_neg fun z => h1 z.1]))
/-- the token that begins a text: its kind and its signs, or what is wrong -/
def tok (l : List Nat) : Except Str (Str × Str) :=
  let w := l.takeWhile fun c => decide (c ∈ (tl ("abcdefghijklmnopqrstuvwxyz" : Str)))
  let d := l.takeWhile fun c => decide (c ∈ (tl ("0123456789" : Str)))
  if w ≠ [] then (match kindL (SX.S w) with | some k => .ok (k, SX.S w) | none => .error "there is no such word")
  else if 6 < d.length then .error "a number has at most 6 digits"
  else if d ≠ [] then .ok ("number", SX.S d)
  else match l with
    | [] => .error ""
    | c :: r => if c ∈ tl ":;,=-" then .ok ("sign", SX.S [c]) else if SX.S ((c :: r).take 2) = ".." then .ok ("sign", "..") else .error "no token begins here"
theorem token_ok {z : Str} {a : Nat} {Q : D → Prop} (hz : z.length ≤ 600) (ha : a < z.length) (hs : PyData.canLay0 (.str z) = true)
    (q : ∀ k w, tok ((tl z).drop a) = .ok (k, w) → Q (.tuple [.str k, .str w, .int ((a : Int) + 1)])) (x : ∀ e, tok ((tl z).drop a) = .error e → False) : f_token_at [.str z, .int (a : Int)] Q := by
  have sub : ∀ {l : List Nat}, (∀ c ∈ l, c ∈ tl z) → PyData.canLay0 (.str (SX.S l)) = true := fun {l} h => by
    have hs : z.cps.all (· < 0x110000) = true := hs
    show (SX.S l).cps.all (· < 0x110000) = true
    rw [Array.all_eq_true'] at hs ⊢
    intro c hc
    exact hs c (Array.mem_toList_iff.mp (h c (by simpa [SX.S] using hc)))
  have tws : ∀ {p : Nat → Bool} {c : Nat}, c ∈ ((tl z).drop a).takeWhile p → c ∈ tl z := fun h => List.mem_of_mem_drop ((List.takeWhile_sublist _).subset h)
  have twl : ∀ {p : Nat → Bool}, (((tl z).drop a).takeWhile p).length ≤ z.length := fun {p} => by
    have h1 := (List.takeWhile_sublist (l := (tl z).drop a) p).length_le
    rw [List.length_drop] at h1
    have ez : (tl z).length = z.length := Array.length_toList
    omega
  refine o_token_at ?_
  unfold t_token_at
  refine seq_gen fun N hN => ?_
  walk_at "DZ"
  subst hN
  refine seq_gen fun N hN => ?_
  walk_at "DZ"
  refine run_from_ok (by omega) (by omega) ?_
  try dsimp only
  subst hN
  refine seq_gen fun N hN => ?_
  walk_at "DZ"
  have hlw := @twl fun c => decide (c ∈ (tl ("abcdefghijklmnopqrstuvwxyz" : Str)))
  have hld := @twl fun c => decide (c ∈ (tl ("0123456789" : Str)))
  have hsw := sub (l := ((tl z).drop a).takeWhile fun c => decide (c ∈ (tl ("abcdefghijklmnopqrstuvwxyz" : Str)))) fun c h => tws h
  have hu : tok ((tl z).drop a) = tok ((tl z).drop a) := rfl
  conv at hu => rhs; unfold tok
  show _ ∧ (if (((SX.S (((tl z).drop a).takeWhile fun c => decide (c ∈ (tl ("abcdefghijklmnopqrstuvwxyz" : Str))))).length : Int) != 0) = true then _ else _)
  generalize hw : ((tl z).drop a).takeWhile (fun c => decide (c ∈ (tl ("abcdefghijklmnopqrstuvwxyz" : Str)))) = w at *
  rw [SX.S_len]
  refine ⟨by omega, ?_⟩
  by_cases h1 : w = []
  · subst h1
    refine ite_f (fun z => nomatch z) ?_
    rw [if_neg (fun z => z rfl)] at hu
    subst hN
    refine seq_gen fun N hN => ?_
    walk_at "DZ"
    refine run_from_ok (by omega) (by omega) ?_
    try dsimp only
    subst hN
    refine seq_gen fun N hN => ?_
    walk_at "DZ"
    have hsd := sub (l := ((tl z).drop a).takeWhile fun c => decide (c ∈ (tl ("0123456789" : Str)))) fun c h => tws h
    generalize hd : ((tl z).drop a).takeWhile (fun c => decide (c ∈ (tl ("0123456789" : Str)))) = d at *
    rw [SX.S_len]
    refine ⟨by omega, ?_⟩
    by_cases h2 : 6 < d.length
    · rw [if_pos h2] at hu
      exact ite_t (decide_eq_true (by omega)) (x _ hu)
    rw [if_neg h2] at hu
    refine ite_f (fun z => h2 (by have := of_decide_eq_true z; omega)) ?_
    subst hN
    refine seq_gen fun N hN => ?_
    walk_at "DZ"
    rw [SX.S_len]
    refine ⟨by omega, ?_⟩
    by_cases h3 : d = []
    · subst h3
      rw [if_neg (fun z => z rfl)] at hu
      refine ite_f (fun z => nomatch z) ?_
      have ez : (tl z).length = z.length := Array.length_toList
      have hc : (tl z)[a]? = some ((tl z)[a]'(by omega)) := List.getElem?_eq_getElem _
      have hcons : (tl z).drop a = (tl z)[a]'(by omega) :: (tl z).drop (a + 1) := List.drop_eq_getElem_cons (by omega)
      subst hN
      refine seq_gen fun N hN => ?_
      walk_at "DZ"
      refine ⟨by omega, ?_⟩
      rw [show atI z.cps.toList (a : Int) = some _ from atI_nat hc]
      dsimp only
      rw [if_neg Bool.false_ne_true]
      have fo := StrLaws.found_one (":;,=-" : Str) ((tl z)[a]'(by omega))
      rw [hcons] at hu q x
      dsimp only at hu
      by_cases h4 : (tl z)[a]'(by omega) ∈ tl (":;,=-" : Str)
      · rw [if_pos h4] at hu
        exact ite_t (by rw [fo]; exact decide_eq_true h4) ⟨by omega, q _ _ hu⟩
      rw [if_neg h4] at hu
      refine ite_f (by rw [fo]; exact fun z => h4 (of_decide_eq_true z)) ?_
      have sl : Txt.slice z (some (a : Int)) (some ((a : Int) + 2)) = SX.S (((tl z)[a]'(by omega) :: (tl z).drop (a + 1)).take 2) := by
        have e : ((a : Int) + 2) = ((a + 2 : Nat) : Int) := by omega
        have := slice_any (tl z) a (a + 2) (by omega) (by omega)
        rw [SX.S_tl] at this
        rw [e, this, Nat.add_sub_cancel_left, hcons]
      have hs2 : PyData.canLay0 (.str (SX.S (((tl z)[a]'(by omega) :: (tl z).drop (a + 1)).take 2))) = true := sub fun c h => by
        rw [← hcons] at h
        exact List.mem_of_mem_drop (List.mem_of_mem_take h)
      subst hN
      refine seq_gen fun N hN => ?_
      walk_at "DZ"
      rw [sl]
      refine ⟨by omega, shaped_str hs2, shaped_str (wl _ (by simp)), ?_⟩
      rw [eqv_str]
      by_cases h5 : SX.S (((tl z)[a]'(by omega) :: (tl z).drop (a + 1)).take 2) = (".." : Str)
      · rw [if_pos h5] at hu
        exact ite_t (decide_eq_true h5) (q _ _ hu)
      · rw [if_neg h5] at hu
        refine ite_f (fun z => h5 (of_decide_eq_true z)) ?_
        subst hN
        walk_at "DZ"
        exact x _ hu
    · have hd0 : (((d.length : Nat) : Int) != 0) = true := by
        have : d.length ≠ 0 := fun z => h3 (List.eq_nil_of_length_eq_zero z)
        exact bne_iff_ne.mpr (by omega)
      rw [if_pos h3] at hu
      exact ite_t hd0 (q _ _ hu)
  · have hw0 : (((w.length : Nat) : Int) != 0) = true := by
      have : w.length ≠ 0 := fun z => h1 (List.eq_nil_of_length_eq_zero z)
      exact bne_iff_ne.mpr (by omega)
    refine ite_t hw0 ?_
    rw [if_pos h1] at hu
    refine (kinds_ok hsw (by rw [SX.S_len]; omega) (fun k hk => ?_) fun hk => ?_)
    · rw [hk] at hu
      exact q k _ hu
    · rw [hk] at hu
      exact x _ hu
/-! ### the whole text -/
inductive Scan : List Nat → Nat → List D → Option D → Prop
  | nil {a : Nat} : Scan [] a [] none
  | blank {r : List Nat} {a : Nat} {ts : List D} {o : Option D} : Scan r (a + 1) ts o → Scan (32 :: r) a ts o
  | tok {c : Nat} {r : List Nat} {a : Nat} {k w : Str} {ts : List D} {o : Option D} : c ≠ 32 → tok (c :: r) = .ok (k, w) → 1 ≤ w.length → w.length ≤ (c :: r).length → Scan ((c :: r).drop w.length) (a + w.length) ts o → Scan (c :: r) a (.tuple [.str k, .str w, .int ((a : Int) + 1)] :: ts) o
  | bad {c : Nat} {r : List Nat} {a : Nat} {e : Str} : c ≠ 32 → Law.tok (c :: r) = .error e → Scan (c :: r) a [] (some (.tuple [.int ((a : Int) + 1), .str e]))
theorem Scan.pair {l : List Nat} {a : Nat} {ts : List D} {o : Option D} (h : Scan l a ts o) : ∀ e, o = some e → ∃ c w, e = .tuple [c, w] := by
  induction h with
  | nil => exact fun e h => nomatch h
  | blank _ ih => exact ih
  | tok _ _ _ _ _ ih => exact ih
  | bad _ _ => exact fun e h => by cases h; exact ⟨_, _, rfl⟩
theorem check_fine {z : Str} {Q : D → Prop} (hz : z.length ≤ 600) (hn : (10 : Nat) ∉ tl z) (q : Q .none) : f_check_text [.str z] Q := by
  refine o_check_text ?_
  unfold t_check_text
  walk_at "DZ"
  have fo := StrLaws.found_one z 10
  have en : ("\n" : Str) = ⟨#[10]⟩ := by decide
  refine ite_f (fun w => nomatch (show (!true) = true from w)) ?_
  refine ⟨by omega, ite_f (fun w => by have := of_decide_eq_true w; omega) ?_⟩
  refine ite_f (fun w => ?_) q
  rw [if_neg Bool.false_ne_true, en, fo] at w
  exact hn (of_decide_eq_true w)
theorem scan_ok {z : Str} {ts : List D} {o : Option D} {Q : D → Prop} (hz : z.length ≤ 600) (hs : PyData.canLay0 (.str z) = true) (hn : (10 : Nat) ∉ tl z) (h : Scan (tl z) 0 ts o)
    (q : o = none → Q (.list (ts ++ [.tuple [.str "end", .str "", .int ((z.length : Int) + 1)]]))) (x : ∀ e, o = some e → False) : f_scan [.str z] Q := by
  have ez : (tl z).length = z.length := Array.length_toList
  refine o_scan ?_
  unfold t_scan
  refine seq_gen fun N hN => ?_
  walk_at "DZ"
  refine check_fine hz hn ?_
  try dsimp only
  subst hN
  refine seq_gen fun N hN => ?_
  walk_at "DZ"
  subst hN
  refine seq_gen fun N hN => ?_
  walk_at "DZ"
  subst hN
  refine seq_gen fun N hN => ?_
  refine while_inv (fun env => ∃ (a : Nat) (t1 t2 : List D) (y : Option Sl), a ≤ z.length ∧ t1.length ≤ a ∧ Scan ((tl z).drop a) a t2 o ∧ t1 ++ t2 = ts ∧ env = [some (.dat (.str z)), some (.own t1), some (.dat (.int (a : Int))), y]) (fun env => match (env[2]? : Option (Option Sl)) with | some (some (Sl.dat (PyData.int k))) => z.length - k.toNat | _ => 0) ⟨0, [], ts, _, Nat.zero_le _, Nat.le_refl _, h, rfl, rfl⟩ fun env hInv M hM => ?_
  obtain ⟨a, t1, t2, y, h1, ht, h2, rfl, rfl⟩ := hInv
  walk_at "DZ"
  refine ⟨by omega, ?_⟩
  by_cases ha : a < z.length
  · refine ite_t (decide_eq_true (by omega)) ?_
    have hc : (tl z)[a]? = some ((tl z)[a]'(by omega)) := List.getElem?_eq_getElem _
    have hcons : (tl z).drop a = (tl z)[a]'(by omega) :: (tl z).drop (a + 1) := List.drop_eq_getElem_cons (by omega)
    refine ⟨by omega, ?_⟩
    rw [show atI z.cps.toList (a : Int) = some _ from atI_nat hc]
    dsimp only
    generalize hcc : (tl z)[a]'(by omega) = c at *
    have hcm : c ∈ tl z := List.mem_of_getElem? hc
    have hlc : PyData.canLay0 (.str ⟨#[c]⟩) = true := by
      have hs : z.cps.all (· < 0x110000) = true := hs
      show (⟨#[c]⟩ : Str).cps.all (· < 0x110000) = true
      rw [Array.all_eq_true'] at hs ⊢
      intro d hd
      have : d = c := by simpa using hd
      subst this
      exact hs d (Array.mem_toList_iff.mp hcm)
    have eb : (" " : Str) = ⟨#[32]⟩ := by decide
    refine ⟨shaped_str hlc, shaped_str (wl _ (by simp)), ?_⟩
    rw [eqv_str, eb]
    rw [hcons] at h2
    have hl2 : ((tl z).drop (a + 1)).length = z.length - (a + 1) := by rw [List.length_drop, ez]
    by_cases h3 : c = 32
    · subst h3
      refine ite_t (decide_eq_true rfl) ?_
      cases h2 with
      | blank h2 => 
        refine hM _ ⟨a + 1, t1, t2, y, by omega, by omega, h2, rfl, rfl⟩ ?_
        show z.length - ((a : Int) + 1).toNat < z.length - (a : Int).toNat
        omega
      | tok n => exact absurd rfl n
      | bad n => exact absurd rfl n
    · refine ite_f (fun w => h3 (by have := of_decide_eq_true w; injection this with this; injection this with this; injection this)) ?_
      refine (token_ok hz ha hs (fun k w hk => ?_) fun e he => ?_)
      · rw [hcons] at hk
        cases h2 with
        | blank h2 => exact absurd rfl h3
        | bad n he => rw [hk] at he; cases he
        | @tok _ _ _ k2 w2 ts2 _ n hk2 hw1 hw2 h2 =>
          rw [hk] at hk2
          cases hk2
          rw [← hcons, List.drop_drop] at h2
          rw [List.length_cons, hl2] at hw2
          refine ⟨by omega, ?_⟩
          dsimp only
          rw [atI_1]
          dsimp only
          refine ⟨by omega, ?_⟩
          have e : ((a : Int) + (w.length : Int)) = ((a + w.length : Nat) : Int) := by omega
          rw [e]
          refine hM _ ⟨a + w.length, _, ts2, _, by omega, by rw [List.length_append, List.length_singleton]; omega, h2, by rw [List.append_assoc]; rfl, rfl⟩ ?_
          show z.length - ((a + w.length : Nat) : Int).toNat < z.length - (a : Int).toNat
          omega
      · rw [hcons] at he
        cases h2 with
        | blank h2 => exact absurd rfl h3
        | tok n hk => rw [hk] at he; cases he
        | bad n he2 => rw [he] at he2; cases he2; exact x _ rfl
  · refine ite_f (fun w => by have := of_decide_eq_true w; omega) ?_
    have ea : a = z.length := by omega
    rw [List.drop_of_length_le (by omega)] at h2
    cases h2 with
    | nil =>
      subst hN
      refine seq_gen fun N hN => ?_
      walk_at "DZ"
      refine ⟨by omega, by omega, ?_⟩
      subst hN
      walk_at "DZ"
      rw [List.append_nil] at q
      exact q rfl
/-! ### a text laid out of words -/
/-- a sign that would run on into the word -/
def clash (w : List Nat) (c : Nat) : Bool := (decide (w.getLast?.getD 0 ∈ (tl ("0123456789" : Str))) && decide (c ∈ (tl ("0123456789" : Str)))) || (decide (w.getLast?.getD 0 ∈ (tl ("abcdefghijklmnopqrstuvwxyz" : Str))) && decide (c ∈ (tl ("abcdefghijklmnopqrstuvwxyz" : Str)))) || (decide (w.getLast?.getD 0 = 46) && decide (c = 46))
/-- what a word is to a scanner, whatever follows it that does not run on -/
structure Wd (w : List Nat) (res : Except Str Str) : Prop where
  ne : w ≠ []
  h32 : w.head? ≠ some 32
  tk : ∀ r : List Nat, (∀ c, r.head? = some c → clash w c = false) → tok (w ++ r) = match res with | .ok k => .ok (k, SX.S w) | .error e => .error e
def resW (w : List Nat) : Except Str Str := if w.all (fun c => decide (c ∈ (tl ("abcdefghijklmnopqrstuvwxyz" : Str)))) = true then (match kindL (SX.S w) with | some k => .ok k | none => .error "there is no such word")
  else if w.all (fun c => decide (c ∈ (tl ("0123456789" : Str)))) = true then (if 6 < w.length then .error "a number has at most 6 digits" else .ok "number")
  else if w = [46, 46] then .ok "sign" else if w.head?.getD 0 ∈ tl (":;,=-" : Str) then .ok "sign" else .error "no token begins here"
def okW (w : List Nat) : Bool := !w.isEmpty && (w.all (fun c => decide (c ∈ (tl ("abcdefghijklmnopqrstuvwxyz" : Str)))) || w.all (fun c => decide (c ∈ (tl ("0123456789" : Str)))) || decide (w = [46, 46]) || (decide (w.length = 1) && w.all fun c => !decide (c ∈ (tl ("abcdefghijklmnopqrstuvwxyz" : Str))) && !decide (c ∈ (tl ("0123456789" : Str))) && !decide (c = 32)))
def txtP : List (Nat × List Nat) → Nat → List Nat
  | [], e => List.replicate e 32
  | (s, w) :: ps, e => List.replicate s 32 ++ (w ++ txtP ps e)
def runP : List (Nat × List Nat) → Nat → List D × Option D
  | [], _ => ([], none)
  | (s, w) :: ps, a => match resW w with
    | .ok k => (.tuple [.str k, .str (SX.S w), .int (((a + s : Nat) : Int) + 1)] :: (runP ps (a + s + w.length)).1, (runP ps (a + s + w.length)).2)
    | .error e => ([], some (.tuple [.int (((a + s : Nat) : Int) + 1), .str e]))
/-- no word runs on into the next -/
def ChainP : List Nat → List (Nat × List Nat) → Prop
  | _, [] => True
  | v, (s, w) :: ps => (s = 0 → ∀ c, w.head? = some c → clash v c = false) ∧ ChainP w ps
def wS (w : List Nat) : D := .str (SX.S w)
def posP : List (Nat × List Nat) → Nat → List D
  | [], _ => []
  | (s, w) :: ps, a => .int (((a + s : Nat) : Int) + 1) :: posP ps (a + s + w.length)
def lastP : List Nat → List (Nat × List Nat) → List Nat
  | v, [] => v
  | _, (_, w) :: ps => lastP w ps
/-! ### tokens, by kind and signs -/
abbrev KW := Str × List Nat
def tkD (x : KW) (q : Int) : D := .tuple [.str x.1, wS x.2, .int q]
def kwOk (x : KW) : Prop := PyData.canLay0 (.str x.1) = true ∧ PyData.canLay0 (wS x.2) = true ∧ x.2.length ≤ 9
inductive TL : List D → List KW → Prop
  | nil : TL [] []
  | cons {x : KW} {q : Int} {ts : List D} {xs : List KW} : kwOk x → TL ts xs → TL (tkD x q :: ts) (x :: xs)
theorem TL.length {ts : List D} {xs : List KW} (h : TL ts xs) : ts.length = xs.length := by
  induction h with
  | nil => rfl
  | cons _ _ ih => rw [List.length_cons, List.length_cons, ih]
theorem TL.split : ∀ {a b : List KW} {ts : List D}, TL ts (a ++ b) → ∃ t1 t2, ts = t1 ++ t2 ∧ TL t1 a ∧ TL t2 b
  | [], b, ts, h => ⟨[], ts, rfl, .nil, h⟩
  | x :: a, b, ts, h => by
    cases h with
    | cons h1 h2 =>
      obtain ⟨t1, t2, rfl, h3, h4⟩ := TL.split h2
      exact ⟨_, t2, rfl, .cons h1 h3, h4⟩
theorem TL.append {a b : List KW} {ts us : List D} (h : TL ts a) (h' : TL us b) : TL (ts ++ us) (a ++ b) := by
  induction h with
  | nil => exact h'
  | cons h1 _ ih => exact .cons h1 ih
theorem TL.mem {ts : List D} {xs : List KW} (h : TL ts xs) : ∀ d ∈ ts, ∃ x ∈ xs, ∃ q, d = tkD x q ∧ kwOk x := by
  induction h with
  | nil => exact fun d hd => nomatch hd
  | cons h1 _ ih =>
    intro d hd
    rcases List.mem_cons.mp hd with rfl | hd
    · exact ⟨_, List.mem_cons_self, _, rfl, h1⟩
    · obtain ⟨x, hx, r⟩ := ih d hd
      exact ⟨x, List.mem_cons_of_mem _ hx, r⟩
/-- a word's kind -/
def kOf (w : List Nat) : KW := (match resW w with | .ok k => k | .error _ => "", w)
/-- a word that can be read -/
def GoodW (w : List Nat) : Prop := okW w = true ∧ w.length ≤ 9 ∧ (∀ c ∈ w, c ≠ 10 ∧ c < 256) ∧ ∃ k, resW w = .ok k
theorem wS_lay {w : List Nat} (h : ∀ c ∈ w, c ≠ 10 ∧ c < 256) : PyData.canLay0 (wS w) = true := by
  show (SX.S w).cps.all (· < 0x110000) = true
  rw [Array.all_eq_true']
  intro c hc
  have hc : c ∈ w := by simpa [SX.S] using hc
  exact decide_eq_true (by have := (h c hc).2; omega)
/-! ### the grammar -/
def saysW (x : KW) : Str := if x.1 = "event" then "an event" else if x.1 = "number" then "a number" else if x.1 = "sign" then ((Str.empty ++ "\"") ++ SX.S x.2) ++ "\"" else if x.1 = "end" then "the end" else SX.S x.2
theorem gl : ∀ x ∈ (["event", "number", "sign", "end"] : List Str), PyData.canLay0 (.str x) = true := by decide +kernel
theorem words_for_ok {x : KW} {i : Int} {Q : D → Prop} (h : kwOk x) (q : Q (.str (saysW x))) : f_words_for [tkD x i] Q := by
  obtain ⟨k, w⟩ := x
  obtain ⟨h1, h2, h3⟩ := h
  dsimp only at h1 h2 h3
  refine o_words_for ?_
  unfold t_words_for tkD
  refine seq_gen fun N hN => ?_
  walk_at "DZ"
  refine ⟨rfl, ?_⟩
  subst hN
  refine seq_gen fun N hN => ?_
  walk_at "DZ"
  refine ⟨shaped_str h1, shaped_str (gl _ (by simp)), ?_⟩
  rw [eqv_str]
  unfold saysW at q
  dsimp only at q
  by_cases c1 : k = ("event" : Str)
  · rw [if_pos c1] at q
    exact ite_t (decide_eq_true c1) q
  rw [if_neg c1] at q
  refine ite_f (fun z => c1 (of_decide_eq_true z)) ?_
  subst hN
  refine seq_gen fun N hN => ?_
  walk_at "DZ"
  refine ⟨shaped_str h1, shaped_str (gl _ (by simp)), ?_⟩
  rw [eqv_str]
  by_cases c2 : k = ("number" : Str)
  · rw [if_pos c2] at q
    exact ite_t (decide_eq_true c2) q
  rw [if_neg c2] at q
  refine ite_f (fun z => c2 (of_decide_eq_true z)) ?_
  subst hN
  refine seq_gen fun N hN => ?_
  walk_at "DZ"
  refine ⟨shaped_str h1, shaped_str (gl _ (by simp)), ?_⟩
  rw [eqv_str]
  have l1 : ∀ a b : Str, (a ++ b).length = a.length + b.length := fun a b => by show (a.cps ++ b.cps).size = _; rw [Array.size_append]; rfl
  by_cases c3 : k = ("sign" : Str)
  · rw [if_pos c3] at q
    refine ite_t (decide_eq_true c3) ?_
    unfold wS
    dsimp only
    refine ⟨by decide, by rw [SX.S_len]; omega, ?_, ?_, q⟩
    · rw [l1, SX.S_len w, show (Str.empty ++ ("\"" : Str)).length = 1 from by decide]; omega
    · rw [l1, l1, SX.S_len w, show (Str.empty ++ ("\"" : Str)).length = 1 from by decide, show ("\"" : Str).length = 1 from by decide]; omega
  rw [if_neg c3] at q
  refine ite_f (fun z => c3 (of_decide_eq_true z)) ?_
  subst hN
  walk_at "DZ"
  refine ⟨shaped_str h1, shaped_str (gl _ (by simp)), ?_⟩
  rw [eqv_str]
  by_cases c4 : k = ("end" : Str)
  · rw [if_pos c4] at q
    exact ite_t (decide_eq_true c4) q
  · rw [if_neg c4] at q
    exact ite_f (fun z => c4 (of_decide_eq_true z)) q
/-- the place behind, by the rows of a place -/
def firstD (s : Str) : List D → Option Str
  | .tuple [.str a, .str b] :: r => if PyData.canLay0 (.str a) = true then (if a = s then some b else firstD s r) else none
  | _ => none
def stepP (p s : Str) : Option Str := match TB_COURSES.find? (fun z => decide (z.1 = p)) with | some (_, .tuple rows) => firstD s rows | _ => none
theorem says_lay {x : KW} (h : kwOk x) : PyData.canLay0 (.str (saysW x)) = true := by
  obtain ⟨k, w⟩ := x
  obtain ⟨h1, h2, h3⟩ := h
  dsimp only at h1 h2 h3
  unfold saysW
  dsimp only
  have hc : ∀ x ∈ (["an event", "a number", "the end", "\""] : List Str), PyData.canLay0 (.str x) = true := by decide +kernel
  by_cases c1 : k = ("event" : Str)
  · rw [if_pos c1]; exact hc _ (by simp)
  rw [if_neg c1]
  by_cases c2 : k = ("number" : Str)
  · rw [if_pos c2]; exact hc _ (by simp)
  rw [if_neg c2]
  by_cases c3 : k = ("sign" : Str)
  · rw [if_pos c3]
    have h2 : (SX.S w).cps.all (· < 0x110000) = true := h2
    show ((((Str.empty ++ ("\"" : Str)) ++ SX.S w) ++ ("\"" : Str)).cps).all (· < 0x110000) = true
    rw [Array.all_eq_true'] at h2 ⊢
    intro c hc2
    have hm : c ∈ (#[34] : Array Nat) ++ (SX.S w).cps ++ #[34] := hc2
    rw [Array.mem_append, Array.mem_append] at hm
    rcases hm with (hm | hm) | hm
    · have : c = 34 := by simpa using hm
      subst this; rfl
    · exact h2 c hm
    · have : c = 34 := by simpa using hm
      subst this; rfl
  rw [if_neg c3]
  by_cases c4 : k = ("end" : Str)
  · rw [if_pos c4]; exact hc _ (by simp)
  · rw [if_neg c4]; exact h2
theorem place_behind_ok {p b : Str} {x : KW} {i : Int} {Q : D → Prop} (h : kwOk x) (hs : stepP p (saysW x) = some b) (q : Q (.str b)) : f_place_behind [.str p, tkD x i] Q := by
  refine o_place_behind ?_
  unfold t_place_behind
  unfold stepP at hs
  cases hf : TB_COURSES.find? (fun z => decide (z.1 = p)) with
  | none => rw [hf] at hs; cases hs
  | some r =>
    rw [hf] at hs
    obtain ⟨p', rows⟩ := r
    cases rows <;> first | cases hs | skip
    rename_i rows
    dsimp only at hs
    refine seq_gen fun N hN => ?_
    refine for_gen fun B hB => ?_
    unfold dFor
    walk_at "DZ"
    rw [hf]
    dsimp only
    refine for_inv (fun j env => ∃ (y2 y3 : Option Sl), firstD (saysW x) (rows.drop j) = some b ∧ env = [some (.dat (.str p)), some (.dat (tkD x i)), y2, y3]) (fun j d env hd hInv M hM => ?_) (fun env hInv => ?_) ⟨_, _, hs, rfl⟩
    · obtain ⟨y2, y3, h1, rfl⟩ := hInv
      have hj : j < rows.length := (List.getElem?_eq_some_iff.mp hd).1
      have hcons : rows.drop j = d :: rows.drop (j + 1) := by
        rw [List.drop_eq_getElem_cons hj]
        rw [List.getElem?_eq_getElem hj] at hd
        rw [Option.some.inj hd]
      rw [hcons] at h1
      unfold firstD at h1
      split at h1
      · rename_i a b' r' e
        cases e
        split at h1
        · rename_i ha
          walk_at "DZ"
          refine ⟨rfl, ?_⟩
          subst hB
          walk_at "DZ"
          refine words_for_ok h ?_
          try dsimp only
          refine ⟨shaped_str ha, shaped_str (says_lay h), ?_⟩
          rw [eqv_str]
          by_cases e : a = saysW x
          · rw [if_pos e] at h1
            cases h1
            exact ite_t (decide_eq_true e) q
          · rw [if_neg e] at h1
            refine ite_f (fun z => e (of_decide_eq_true z)) ?_
            exact hM _ ⟨_, _, h1, rfl⟩
        · cases h1
      · cases h1
    · obtain ⟨y2, y3, h1, rfl⟩ := hInv
      rw [List.drop_of_length_le (Nat.le_refl _)] at h1
      cases h1
def goP (p : Str) : List KW → Option Str
  | [] => some p
  | x :: xs => match stepP p (saysW x) with | some b => goP b xs | none => none
theorem place_all_ok {p b : Str} {ts : List D} {xs : List KW} {Q : D → Prop} (ht : TL ts xs) (hg : goP p xs = some b) (q : Q (.str b)) : f_place_behind_all [.list ts, .str p] Q := by
  refine o_place_behind_all ?_
  unfold t_place_behind_all
  refine seq_gen fun N hN => ?_
  walk_at "DZ"
  subst hN
  refine seq_gen fun N hN => ?_
  refine for_gen fun B hB => ?_
  unfold dFor
  walk_at "DZ"
  refine for_inv (fun j env => ∃ (c : Str) (us : List D) (zs : List KW) (y : Option Sl), TL us zs ∧ us = ts.drop j ∧ goP c zs = some b ∧ env = [some (.dat (.list ts)), some (.dat (.str p)), some (.dat (.str c)), y]) (fun j d env hd hInv M hM => ?_) (fun env hInv => ?_) ⟨p, ts, xs, _, ht, rfl, hg, rfl⟩
  · obtain ⟨c, us, zs, y, h1, h2, h3, rfl⟩ := hInv
    have hj : j < ts.length := (List.getElem?_eq_some_iff.mp hd).1
    have hcons : ts.drop j = d :: ts.drop (j + 1) := by
      rw [List.drop_eq_getElem_cons hj]
      rw [List.getElem?_eq_getElem hj] at hd
      rw [Option.some.inj hd]
    rw [hcons] at h2
    subst h2
    cases h1 with
    | @cons x q _ xs' hk h1 =>
      unfold goP at h3
      split at h3
      · rename_i c' e
        subst hB
        walk_at "DZ"
        refine place_behind_ok hk e ?_
        exact hM _ ⟨c', _, xs', _, h1, rfl, h3, rfl⟩
      · cases h3
  · obtain ⟨c, us, zs, y, h1, h2, h3, rfl⟩ := hInv
    rw [List.drop_of_length_le (Nat.le_refl _)] at h2
    subst h2
    cases h1
    cases h3
    show N _
    subst hN
    walk_at "DZ"
    exact q
/-! ### parts -/
def isTk (z : Str) (d : D) : Bool := match d with | .tuple [_, .str w, _] => decide (w = z) | _ => false
def splD (z : Str) : List D → List D → List D
  | acc, [] => [.list acc]
  | acc, d :: r => if isTk z d = true then .list acc :: splD z [] r else splD z (acc ++ [d]) r
theorem parts_ok {z : Str} {ts : List D} {xs : List KW} {Q : D → Prop} (hz : PyData.canLay0 (.str z) = true) (ht : TL ts xs) (hl : ts.length ≤ 1000) (q : Q (.list (splD z [] ts))) : f_parts_between [.list ts, .str z] Q := by
  refine o_parts_between ?_
  unfold t_parts_between
  refine seq_gen fun N hN => ?_
  walk_at "DZ"
  subst hN
  refine seq_gen fun N hN => ?_
  walk_at "DZ"
  subst hN
  refine seq_gen fun N hN => ?_
  refine for_gen fun B hB => ?_
  unfold dFor
  walk_at "DZ"
  refine for_inv (fun j env => ∃ (ps acc : List D) (y : Option Sl), ps.length ≤ j ∧ acc.length ≤ j ∧ ps ++ splD z acc (ts.drop j) = splD z [] ts ∧ env = [some (.dat (.list ts)), some (.dat (.str z)), some (.own ps), some (.own acc), y]) (fun j d env hd hInv M hM => ?_) (fun env hInv => ?_) ⟨[], [], _, Nat.le_refl _, Nat.le_refl _, rfl, rfl⟩
  · obtain ⟨ps, acc, y, l1, l2, h1, rfl⟩ := hInv
    have hj : j < ts.length := (List.getElem?_eq_some_iff.mp hd).1
    have hcons : ts.drop j = d :: ts.drop (j + 1) := by
      rw [List.drop_eq_getElem_cons hj]
      rw [List.getElem?_eq_getElem hj] at hd
      rw [Option.some.inj hd]
    rw [hcons] at h1
    obtain ⟨x, hx, i, rfl, hk⟩ := ht.mem d (List.mem_of_getElem? hd)
    conv at h1 => lhs; unfold splD
    have ei : isTk z (tkD x i) = decide (SX.S x.2 = z) := rfl
    rw [ei] at h1
    subst hB
    unfold tkD at *
    walk_at "DZ"
    rw [atI_1]
    unfold wS
    dsimp only
    refine ⟨shaped_str hk.2.1, shaped_str hz, ?_⟩
    rw [eqv_str]
    by_cases e : SX.S x.2 = z
    · rw [if_pos (decide_eq_true e)] at h1
      refine ite_t (decide_eq_true e) ?_
      try walk_at "DZ"
      refine ⟨by omega, ?_⟩
      refine hM _ ⟨ps ++ [.list acc], [], _, by rw [List.length_append]; exact Nat.succ_le_succ l1, Nat.zero_le _, ?_, rfl⟩
      rw [List.append_assoc]
      exact h1
    · rw [if_neg fun w => e (of_decide_eq_true w)] at h1
      refine ite_f (fun w => e (of_decide_eq_true w)) ?_
      refine ⟨by omega, ?_⟩
      exact hM _ ⟨ps, _, _, by omega, by rw [List.length_append]; exact Nat.succ_le_succ l2, h1, rfl⟩
  · obtain ⟨ps, acc, y, l1, l2, h1, rfl⟩ := hInv
    rw [List.drop_of_length_le (Nat.le_refl _)] at h1
    show N _
    subst hN
    walk_at "DZ"
    refine ⟨by show ps.length + 1 ≤ _; omega, ?_⟩
    rw [show ps ++ [PyData.list acc] = splD z [] ts from h1]
    exact q
/-! ### numbers, sides, events -/
structure Num (n : Nat) (w : List Nat) : Prop where
  it : PySem.intText? (SX.S w) = some (n : Int)
  l1 : 1 ≤ w.length
  l6 : w.length ≤ 6
  dg : ∀ c ∈ w, c ∈ tl ("0123456789" : Str)
theorem dg_lt2 : ∀ c ∈ tl ("0123456789" : Str), c ∉ tl ("abcdefghijklmnopqrstuvwxyz" : Str) ∧ c ≠ 10 ∧ c < 256 := by decide
theorem Num.res {n : Nat} {w : List Nat} (h : Num n w) : resW w = .ok "number" := by
  unfold resW
  have h0 : ¬ (w.all fun c => decide (c ∈ tl ("abcdefghijklmnopqrstuvwxyz" : Str))) = true := fun z => by
    cases w with
    | nil => have := h.l1; simp at this
    | cons c w => exact (dg_lt2 c (h.dg c List.mem_cons_self)).1 (of_decide_eq_true (List.all_eq_true.mp z c List.mem_cons_self))
  rw [if_neg h0, if_pos (List.all_eq_true.mpr fun c hc => decide_eq_true (h.dg c hc)), if_neg (by have := h.l6; omega)]
theorem Num.good {n : Nat} {w : List Nat} (h : Num n w) : GoodW w := by
  refine ⟨?_, by have := h.l6; omega, fun c hc => (dg_lt2 c (h.dg c hc)).2, _, h.res⟩
  unfold okW
  rw [show (w.all fun c => decide (c ∈ tl ("0123456789" : Str))) = true from List.all_eq_true.mpr fun c hc => decide_eq_true (h.dg c hc), Bool.or_true, Bool.true_or, Bool.true_or, Bool.and_true]
  cases w with
  | nil => have := h.l1; simp at this
  | cons c w => rfl
abbrev kw (k : Str) (w : List Nat) : KW := (k, w)
theorem Num.k {n : Nat} {w : List Nat} (h : Num n w) : kOf w = kw "number" w := by unfold kOf; rw [h.res]
theorem Num.ok {n : Nat} {w : List Nat} (h : Num n w) : kwOk (kw "number" w) := ⟨gl _ (by simp), wS_lay h.good.2.2.1, by have := h.l6; show w.length ≤ 9; omega⟩
/-- the tokens of a number beside its sign -/
inductive IntT (g : Nat) : Int → List KW → Prop
  | pos {n : Nat} {w : List Nat} : Num n w → n ≤ g → IntT g n [("number", w)]
  | neg {n : Nat} {w : List Nat} : Num n w → n ≤ g → IntT g (-(n : Int)) [("sign", [45]), ("number", w)]
inductive SideT (g : Nat) : D → List KW → Prop
  | none : SideT g .none []
  | int {i : Int} {xs : List KW} : IntT g i xs → SideT g (.int i) xs
theorem atI_last {α : Type} (xs : List α) (x : α) : atI (xs ++ [x]) (-1) = some x := by
  unfold atI ixN
  rw [if_neg (by decide), if_pos (by rw [List.length_append, List.length_singleton]; omega)]
  show (xs ++ [x])[_]? = _
  have e : ((-1 : Int) + ((xs ++ [x]).length : Nat)).toNat = xs.length := by rw [List.length_append, List.length_singleton]; omega
  rw [e, List.getElem?_append_right (Nat.le_refl _), Nat.sub_self]
  rfl
def okO : Except Str Str → Option Str | .ok k => some k | .error _ => none
theorem cut_drop (ds : List D) (k : Nat) : Z2.cutD ds (some (k : Int)) none = ds.drop k := by
  unfold Z2.cutD
  rw [HT.sIx_nat, HT.sIx_none]
  by_cases h : k ≤ ds.length
  · rw [Nat.min_eq_left h, List.take_of_length_le (by rw [List.length_drop]; omega)]
  · rw [Nat.min_eq_right (by omega), List.drop_eq_nil_of_le (Nat.le_refl _), List.drop_eq_nil_of_le (by omega), List.take_nil]
/-! ### readers of tokens, with what they raise -/
abbrev TK := KW × Int
def tk (t : TK) : D := tkD t.1 t.2
def layC (w : List Nat) : Bool := w.all fun c => !(c == 10) && Nat.blt c 256
theorem layC_ok {w : List Nat} (h : layC w = true) : ∀ c ∈ w, c ≠ 10 ∧ c < 256 := fun c hc => by
  have := List.all_eq_true.mp h c hc
  rw [Bool.and_eq_true, Bool.not_eq_true', beq_eq_false_iff_ne] at this
  exact ⟨this.1, by have := this.2; rw [Nat.blt_eq] at this; exact this⟩
def okT (t : TK) : Bool := decide (t.1.1 ∈ (["event", "number", "sign", "end", "word"] : List Str)) && layC t.1.2 && decide (t.1.2.length ≤ 9)
theorem gl5 : ∀ x ∈ (["event", "number", "sign", "end", "word"] : List Str), PyData.canLay0 (.str x) = true := by decide +kernel
theorem okT_kw {t : TK} (h : okT t = true) : kwOk t.1 := by
  unfold okT at h
  rw [Bool.and_eq_true, Bool.and_eq_true] at h
  exact ⟨gl5 _ (of_decide_eq_true h.1.1), wS_lay (layC_ok h.1.2), of_decide_eq_true h.2⟩
theorem TL_tk : ∀ {ts : List TK}, (∀ t ∈ ts, okT t = true) → TL (ts.map tk) (ts.map (·.1))
  | [], _ => .nil
  | t :: ts, h => .cons (okT_kw (h t List.mem_cons_self)) (TL_tk fun u hu => h u (List.mem_cons_of_mem _ hu))
abbrev RE (α : Type) := Except (Int × Str) α
def Ret (r : RE D) (Q : D → Prop) (X : Nat → D → Prop) : Prop := match r with | .ok d => Q d | .error p => X 3 (.tuple [.int p.1, .str p.2])
def andB {α β : Type} (o : Option (RE α)) (f : α → Option (RE β)) : Option (RE β) := match o with | none => none | some (.error p) => some (.error p) | some (.ok a) => f a
theorem andB_inv {α β : Type} {o : Option (RE α)} {f : α → Option (RE β)} {r : RE β} (h : andB o f = some r) : (∃ a, o = some (.ok a) ∧ f a = some r) ∨ ∃ p, o = some (.error p) ∧ r = .error p := by
  cases o with
  | none => cases h
  | some x =>
    cases x with
    | error p => cases h; exact .inr ⟨p, rfl, rfl⟩
    | ok a => exact .inl ⟨a, rfl, h⟩
def evI (w : List Nat) : Option Nat := (Builtin.Str.occurrences ("abcdef" : Str) (SX.S w) 0 ("abcdef" : Str).length 1).head?
def eventS (n : Int) (t : TK) : Option (RE Int) := match evI t.1.2 with | none => none | some e => if (e : Int) < n then some (.ok e) else some (.error (t.2, "there is no such event"))
theorem eventX {n : Int} {t : TK} {r : RE Int} {Q : D → Prop} {X : Nat → D → Prop} (h : eventS n t = some r) (q : Ret (r.map PyData.int) Q X) : fX_event_in [.int n, tk t] Q X := by
  obtain ⟨⟨k, w⟩, i⟩ := t
  refine oX_event_in ?_
  unfold tX_event_in tk tkD
  refine seq_gen fun N hN => ?_
  walk_at "DZ"
  rw [atI_1]
  unfold wS
  dsimp only
  unfold eventS evI at h
  dsimp only at h
  cases ho : Builtin.Str.occurrences ("abcdef" : Str) (SX.S w) 0 ("abcdef" : Str).length 1 with
  | nil => rw [ho] at h; cases h
  | cons x l =>
    rw [ho] at h
    dsimp only [List.head?] at h
    dsimp only
    subst hN
    refine seq_gen fun N hN => ?_
    walk_at "DZ"
    by_cases e : (x : Int) < n
    · rw [if_pos e] at h
      cases h
      refine ite_f (fun z => by have := of_decide_eq_true z; omega) ?_
      subst hN
      walk_at "DZ"
      exact q
    · rw [if_neg e] at h
      cases h
      refine ite_t (decide_eq_true (by omega)) ?_
      rw [atI_2]
      exact q
def nmI (w : List Nat) : Option Int := PySem.intText? (SX.S w)
def sizeS (t : TK) : Option (RE Int) := match nmI t.1.2 with | none => none | some v => if v < 1 then some (.error (t.2, "a size is from 1 to 6")) else if 6 < v then some (.error (t.2, "a size is from 1 to 6")) else some (.ok v)
theorem sizeX {t : TK} {r : RE Int} {Q : D → Prop} {X : Nat → D → Prop} (hok : okT t = true) (h : sizeS t = some r) (q : Ret (r.map PyData.int) Q X) : fX_size_in [tk t] Q X := by
  have hl := (okT_kw hok).2.2
  obtain ⟨⟨k, w⟩, i⟩ := t
  dsimp only at hl
  refine oX_size_in ?_
  unfold tX_size_in tk tkD
  unfold sizeS nmI at h
  dsimp only at h
  cases hi : PySem.intText? (SX.S w) with
  | none => rw [hi] at h; cases h
  | some v =>
    rw [hi] at h
    dsimp only at h
    refine seq_gen fun N hN => ?_
    walk_at "DZ"
    rw [atI_1]
    unfold wS
    dsimp only
    rw [hi]
    dsimp only
    refine ⟨by rw [SX.S_len]; omega, ?_⟩
    subst hN
    refine seq_gen fun N hN => ?_
    walk_at "DZ"
    by_cases e : v < 1
    · rw [if_pos e] at h
      cases h
      refine ite_t (decide_eq_true e) ?_
      rw [atI_2]
      exact q
    · rw [if_neg e] at h
      refine ite_f (fun z => e (of_decide_eq_true z)) ?_
      by_cases e6 : 6 < v
      · rw [if_pos e6] at h
        cases h
        refine ite_t (decide_eq_true (by omega)) ?_
        rw [atI_2]
        exact q
      · rw [if_neg e6] at h
        cases h
        refine ite_f (fun z => e6 (by have := of_decide_eq_true z; omega)) ?_
        subst hN
        walk_at "DZ"
        exact q
def integerS (ts : List TK) (g : Int) (z : Str) : Option (RE Int) := match ts.getLast? with | none => none | some t => match nmI t.1.2 with | none => none | some v => if g < v then some (.error (t.2, z)) else some (.ok (if ts.length = 1 then v else -v))
theorem integerX {ts : List TK} {g : Int} {z : Str} {r : RE Int} {Q : D → Prop} {X : Nat → D → Prop} (hok : ∀ t ∈ ts, okT t = true) (hl : ts.length ≤ 900) (h : integerS ts g z = some r) (q : Ret (r.map PyData.int) Q X) : fX_integer_in [.list (ts.map tk), .int g, .str z] Q X := by
  unfold integerS at h
  cases ht : ts.getLast? with
  | none => rw [ht] at h; cases h
  | some t =>
    rw [ht] at h
    obtain ⟨pre, rfl⟩ := List.getLast?_eq_some_iff.mp ht
    have hw := (okT_kw (hok t (by simp))).2.2
    obtain ⟨⟨k, w⟩, i⟩ := t
    unfold nmI at h
    dsimp only at h hw
    cases hi : PySem.intText? (SX.S w) with
    | none => rw [hi] at h; cases h
    | some v =>
      rw [hi] at h
      dsimp only at h
      have e0 : (pre ++ [((k, w), i)]).map tk = pre.map tk ++ [tkD (k, w) i] := by rw [List.map_append]; rfl
      have hlen : (pre.map tk ++ [tkD (k, w) i]).length = (pre ++ [((k, w), i)]).length := by rw [← e0, List.length_map]
      rw [e0]
      refine oX_integer_in ?_
      unfold tX_integer_in
      refine seq_gen fun N hN => ?_
      walk_at "DZ"
      rw [show (- (1 : Int)) = -1 from rfl, atI_last]
      unfold tkD
      dsimp only
      refine ⟨rfl, ?_⟩
      subst hN
      refine seq_gen fun N hN => ?_
      walk_at "DZ"
      try unfold wS
      try dsimp only
      rw [hi]
      dsimp only
      refine ⟨by rw [SX.S_len]; omega, ?_⟩
      by_cases e : g < v
      · rw [if_pos e] at h
        cases h
        refine ite_t (decide_eq_true (by omega)) ?_
        exact q
      · rw [if_neg e] at h
        cases h
        refine ite_f (fun z => e (by have := of_decide_eq_true z; omega)) ?_
        subst hN
        walk_at "DZ"
        try unfold wS
        try dsimp only
        refine ⟨shaped_int _, shaped_int _, ?_⟩
        rw [eqv_intD]
        by_cases e1 : (pre ++ [((k, w), i)]).length = 1
        · rw [if_pos e1] at q
          refine ite_t (decide_eq_true ?_) ?_
          · show (((pre.map tk ++ [tkD (k, w) i]).length : Nat) : Int) = 1
            rw [hlen, e1]
            rfl
          rw [hi]
          dsimp only
          exact ⟨by rw [SX.S_len]; omega, q⟩
        · rw [if_neg e1] at q
          refine ite_f (fun z => e1 ?_) ?_
          · have z : (((pre.map tk ++ [tkD (k, w) i]).length : Nat) : Int) = 1 := of_decide_eq_true z
            rw [hlen] at z
            omega
          rw [hi]
          dsimp only
          exact ⟨by rw [SX.S_len]; omega, q⟩
def sideS (ts : List TK) : Option (RE D) := if ts.isEmpty then some (.ok .none) else (integerS ts 100 "a side is from -100 to 100").map fun r => r.map PyData.int
theorem sideX {ts : List TK} {r : RE D} {Q : D → Prop} {X : Nat → D → Prop} (hok : ∀ t ∈ ts, okT t = true) (hl : ts.length ≤ 900) (h : sideS ts = some r) (q : Ret r Q X) : fX_side_in [.list (ts.map tk)] Q X := by
  refine oX_side_in ?_
  unfold tX_side_in
  refine seq_gen fun N hN => ?_
  walk_at "DZ"
  unfold sideS at h
  cases ts with
  | nil =>
    cases h
    refine ite_t rfl ?_
    exact q
  | cons t ts =>
    rw [if_neg (fun z => nomatch z)] at h
    obtain ⟨r', h1, h2⟩ := Option.map_eq_some_iff.mp h
    subst h2
    refine ite_f (fun z => nomatch z) ?_
    subst hN
    walk_at "DZ"
    exact .inr (integerX hok hl h1 q)
theorem S_injK {a b : List Nat} (h : SX.S a = SX.S b) : a = b := by
  have := congrArg (fun x : Str => x.cps.toList) h
  exact this
def partsS (w : List Nat) : List TK → List TK → List (List TK)
  | acc, [] => [acc]
  | acc, t :: r => if t.1.2 = w then acc :: partsS w [] r else partsS w (acc ++ [t]) r
def ptD (p : List TK) : D := .list (p.map tk)
theorem spl_parts {w : List Nat} : ∀ (ts acc : List TK), splD (SX.S w) (acc.map tk) (ts.map tk) = (partsS w acc ts).map ptD
  | [], acc => rfl
  | t :: ts, acc => by
    have e : isTk (SX.S w) (tk t) = decide (SX.S t.1.2 = SX.S w) := rfl
    rw [List.map_cons]
    unfold splD partsS
    rw [e]
    by_cases c : t.1.2 = w
    · rw [if_pos c, if_pos (decide_eq_true (by rw [c])), List.map_cons]
      exact congrArg _ (spl_parts ts [])
    · rw [if_neg c, if_neg (fun z => c (S_injK (of_decide_eq_true z))), ← spl_parts ts (acc ++ [t]), List.map_append]
      rfl
theorem parts_sub {w : List Nat} : ∀ {ts acc : List TK}, ∀ p ∈ partsS w acc ts, ∀ t ∈ p, t ∈ acc ∨ t ∈ ts
  | [], acc, p, hp, t, ht => by
    have : p = acc := by simpa [partsS] using hp
    subst this
    exact .inl ht
  | u :: ts, acc, p, hp, t, ht => by
    unfold partsS at hp
    split at hp
    · rcases List.mem_cons.mp hp with rfl | hp
      · exact .inl ht
      · rcases parts_sub p hp t ht with h | h
        · cases h
        · exact .inr (List.mem_cons_of_mem _ h)
    · rcases parts_sub p hp t ht with h | h
      · rcases List.mem_append.mp h with h | h
        · exact .inl h
        · have : t = u := by simpa using h
          subst this
          exact .inr List.mem_cons_self
      · exact .inr (List.mem_cons_of_mem _ h)
theorem parts_len {w : List Nat} : ∀ {ts acc : List TK}, ∀ p ∈ partsS w acc ts, p.length ≤ acc.length + ts.length
  | [], acc, p, hp => by
    have : p = acc := by simpa [partsS] using hp
    subst this
    simp
  | u :: ts, acc, p, hp => by
    unfold partsS at hp
    rw [List.length_cons]
    split at hp
    · rcases List.mem_cons.mp hp with rfl | hp
      · omega
      · have := parts_len p hp
        rw [List.length_nil] at this
        omega
    · have := parts_len p hp
      rw [List.length_append, List.length_singleton] at this
      omega
theorem parts_cnt {w : List Nat} : ∀ {ts acc : List TK}, (partsS w acc ts).length ≤ ts.length + 1
  | [], acc => Nat.le_refl _
  | u :: ts, acc => by
    unfold partsS
    split
    · have := parts_cnt (w := w) (ts := ts) (acc := [])
      rw [List.length_cons, List.length_cons]
      omega
    · have := parts_cnt (w := w) (ts := ts) (acc := acc ++ [u])
      rw [List.length_cons]
      omega
theorem parts_okS {w : List Nat} {ts : List TK} {z : Str} {Q : D → Prop} (hz : z = SX.S w) (hc : PyData.canLay0 (.str z) = true) (hok : ∀ t ∈ ts, okT t = true) (hl : ts.length ≤ 900) (q : Q (.list ((partsS w [] ts).map ptD))) : f_parts_between [.list (ts.map tk), .str z] Q := by
  refine parts_ok hc (TL_tk hok) (by rw [List.length_map]; omega) ?_
  have := spl_parts (w := w) ts []
  rw [List.map_nil] at this
  rw [hz, this]
  exact q
def ruleS (n : Int) (ts : List TK) : Option (RE D) := match ts with
  | t0 :: _ :: t2 :: _ :: rest => andB (eventS n t0) fun e => andB (eventS n t2) fun s => if s = e then some (.error (t2.2, "a rule has two different events")) else match partsS [46, 46] [] rest with
    | [a, b] => andB (sideS a) fun lo => andB (sideS b) fun hi => some (.ok (.tuple [.int s, .int e, lo, hi]))
    | _ => none
  | _ => none
theorem lits75 : (".." : Str) = SX.S [46, 46] ∧ (";" : Str) = SX.S [59] ∧ ("," : Str) = SX.S [44] := by decide
theorem lay75 : ∀ x ∈ (["..", ";", ",", "@"] : List Str), PyData.canLay0 (.str x) = true := by decide +kernel
theorem ruleX {n : Int} {ts : List TK} {r : RE D} {Q : D → Prop} {X : Nat → D → Prop} (hok : ∀ t ∈ ts, okT t = true) (hl : ts.length ≤ 900) (h : ruleS n ts = some r) (q : Ret r Q X) : fX_rule_in [.int n, .list (ts.map tk)] Q X := by
  unfold ruleS at h
  split at h
  · rename_i t0 t1 t2 t3 rest
    simp only [List.length_cons] at hl
    have hokr : ∀ t ∈ rest, okT t = true := fun t ht => hok t (by simp [ht])
    refine oX_rule_in ?_
    unfold tX_rule_in
    refine seq_gen fun N hN => ?_
    walk_at "DZ"
    simp only [List.map_cons]
    rw [atI_0]
    dsimp only
    rcases andB_inv h with ⟨e, h1, h⟩ | ⟨p, h1, rfl⟩
    · refine .inr (eventX h1 ?_)
      show N _
      subst hN
      refine seq_gen fun N hN => ?_
      walk_at "DZ"
      rw [atI_2]
      dsimp only
      rcases andB_inv h with ⟨s, h2, h⟩ | ⟨p, h2, rfl⟩
      · refine .inr (eventX h2 ?_)
        show N _
        subst hN
        refine seq_gen fun N hN => ?_
        walk_at "DZ"
        refine ⟨shaped_int _, shaped_int _, ?_⟩
        rw [eqv_intD]
        by_cases c : s = e
        · rw [if_pos c] at h
          cases h
          refine ite_t (decide_eq_true c) ?_
          try walk_at "DZ"
          rw [atI_2]
          unfold tk tkD
          dsimp only
          rw [atI_2]
          exact q
        · rw [if_neg c] at h
          refine ite_f (fun z => c (of_decide_eq_true z)) ?_
          subst hN
          refine seq_gen fun N hN => ?_
          walk_at "DZ"
          rw [show (4 : Int) = ((4 : Nat) : Int) from rfl, cut_drop]
          show f_parts_between [.list (rest.map tk), .str ".."] _
          refine parts_okS lits75.1 (lay75 _ (by simp)) hokr (by omega) ?_
          split at h
          · rename_i a b hp
            have ha : a ∈ partsS [46, 46] [] rest := by rw [hp]; simp
            have hb : b ∈ partsS [46, 46] [] rest := by rw [hp]; simp
            have ok' : ∀ p ∈ partsS [46, 46] [] rest, (∀ t ∈ p, okT t = true) ∧ p.length ≤ 900 := fun p hp => ⟨fun t ht => by
              rcases parts_sub p hp t ht with z | z
              · cases z
              · exact hokr t z, by have := parts_len p hp; rw [List.length_nil] at this; omega⟩
            rw [hp]
            walk_at "DZ"
            refine ⟨Nat.le_of_ble_eq_true rfl, ?_⟩
            unfold lcD
            walk_at "DZ"
            rcases andB_inv h with ⟨lo, h3, h⟩ | ⟨p, h3, rfl⟩
            · refine .inr (sideX (ok' a ha).1 (ok' a ha).2 h3 ?_)
              show lcD _ _ _ _ _ _
              unfold lcD
              walk_at "DZ"
              rcases andB_inv h with ⟨hi, h4, h⟩ | ⟨p, h4, rfl⟩
              · refine .inr (sideX (ok' b hb).1 (ok' b hb).2 h4 ?_)
                show lcD _ _ _ _ _ _
                unfold lcD
                cases h
                refine ⟨rfl, ?_⟩
                subst hN
                walk_at "DZ"
                exact q
              · exact .inr (sideX (ok' b hb).1 (ok' b hb).2 h4 q)
            · exact .inr (sideX (ok' a ha).1 (ok' a ha).2 h3 q)
          · cases h
      · exact .inr (eventX h2 q)
    · exact .inr (eventX h1 q)
  · cases h
/-! ### the tokens of a text, with their columns -/
def scanC : Nat → List Nat → Nat → Option (List TK)
  | _, [], _ => some []
  | 0, _ :: _, _ => none
  | f + 1, c :: r, a => if c = 32 then scanC f r (a + 1) else match Law.tok (c :: r) with
    | .ok y => if 1 ≤ y.2.length ∧ y.2.length ≤ (c :: r).length then (match scanC f ((c :: r).drop y.2.length) (a + y.2.length) with | some ts => some (((y.1, tl y.2), (a : Int) + 1) :: ts) | none => none) else none
    | .error _ => none
theorem scanC_ok : ∀ {f : Nat} {l : List Nat} {a : Nat} {ts : List TK}, scanC f l a = some ts → Scan l a (ts.map tk) none
  | f, [], a, ts, h => by
    have : ts = [] := by cases f <;> (cases h; rfl)
    subst this
    exact .nil
  | 0, c :: r, a, ts, h => by cases h
  | f + 1, c :: r, a, ts, h => by
    unfold scanC at h
    split at h
    · rename_i hc
      subst hc
      exact .blank (scanC_ok h)
    · rename_i hc
      split at h
      · rename_i y hy
        obtain ⟨k, w⟩ := y
        split at h
        · rename_i hw
          dsimp only at h hw
          split at h
          · rename_i us hu
            cases h
            have := Scan.tok hc hy hw.1 hw.2 (scanC_ok hu)
            rw [List.map_cons]
            unfold tk tkD wS
            dsimp only
            rw [SX.S_tl]
            exact this
          · cases h
        · cases h
      · cases h
def endT (z : Str) : TK := (("end", []), (z.length : Int) + 1)
def toksS (z p : Str) : Option (List TK) := match scanC 700 (tl z) 0 with
  | none => none
  | some ts => if (decide (z.length ≤ 600) && layC (tl z) && (goP p ((ts ++ [endT z]).map (·.1))).isSome && (ts ++ [endT z]).all okT && decide (ts.length ≤ 800)) = true then some (ts ++ [endT z]) else none
theorem toks_inv {z p : Str} {us : List TK} (h : toksS z p = some us) : ∃ ts b, us = ts ++ [endT z] ∧ scanC 700 (tl z) 0 = some ts ∧ z.length ≤ 600 ∧ PyData.canLay0 (.str z) = true ∧ (10 : Nat) ∉ tl z ∧ goP p (us.map (·.1)) = some b ∧ (∀ t ∈ us, okT t = true) ∧ us.length ≤ 801 := by
  unfold toksS at h
  cases e : scanC 700 (tl z) 0 with
  | none => rw [e] at h; cases h
  | some ts =>
    rw [e] at h
    dsimp only at h
    split at h
    · rename_i c
      simp only [Bool.and_eq_true, decide_eq_true_eq] at c
      obtain ⟨⟨⟨⟨c1, c2⟩, c4⟩, c5⟩, c6⟩ := c
      cases h
      obtain ⟨b, hb⟩ := Option.isSome_iff_exists.mp c4
      exact ⟨ts, b, rfl, rfl, c1, (by have := wS_lay (layC_ok c2); unfold wS at this; rwa [SX.S_tl] at this), (fun w => (layC_ok c2 _ w).1 rfl), hb, fun t ht => List.all_eq_true.mp c5 t ht, by rw [List.length_append, List.length_singleton]; omega⟩
    · cases h
theorem end_tk (z : Str) : tk (endT z) = .tuple [.str "end", .str "", .int ((z.length : Int) + 1)] := by
  unfold tk endT tkD wS
  rfl
theorem toks_of {z p : Str} {us : List TK} {Q : D → Prop} (h : toksS z p = some us) (q : Q (.list (us.map tk))) : f_tokens_of [.str z, .str p] Q := by
  obtain ⟨ts, b, rfl, h1, h2, h3, h4, h5, h6, h7⟩ := toks_inv h
  refine o_tokens_of ?_
  unfold t_tokens_of
  refine seq_gen fun N hN => ?_
  walk_at "DZ"
  refine scan_ok h2 h3 h4 (scanC_ok h1) (fun _ => ?_) fun e z => nomatch z
  rw [← end_tk, show ts.map tk ++ [tk (endT z)] = (ts ++ [endT z]).map tk from by rw [List.map_append]; rfl]
  subst hN
  refine seq_gen fun N hN => ?_
  walk_at "DZ"
  refine place_all_ok (TL_tk h6) h5 ?_
  subst hN
  walk_at "DZ"
  exact q
theorem toks_orX {z p : Str} {us : List TK} {Q : D → Prop} {X : Nat → D → Prop} (h : toksS z p = some us) (q : Q (.list (us.map tk))) : orX f_tokens_of fX_tokens_of [.str z, .str p] Q X := .inl (toks_of h q)
/-! ### nets -/
theorem cut_lastK (a b x : D) (mid : List D) : Z2.cutD (a :: b :: (mid ++ [x])) (some 2) (some (-1)) = mid := by
  unfold Z2.cutD
  have e1 : HT.sIx (a :: b :: (mid ++ [x])).length 0 (some 2) = 2 := by
    rw [show (some (2 : Int)) = some ((2 : Nat) : Int) from rfl, HT.sIx_nat]
    exact Nat.min_eq_left (by rw [List.length_cons, List.length_cons]; omega)
  have e2 : HT.sIx (a :: b :: (mid ++ [x])).length (a :: b :: (mid ++ [x])).length (some (-1)) = mid.length + 2 := by
    unfold HT.sIx
    dsimp only
    rw [if_pos (by decide)]
    simp only [List.length_cons, List.length_append, List.length_nil]
    omega
  rw [e1, e2]
  show (mid ++ [x]).take (mid.length + 2 - 2) = mid
  rw [Nat.add_sub_cancel, List.take_left]
def rulesS (n : Int) : Nat → List (List TK) → Option (RE (List D))
  | _, [] => some (.ok [])
  | k, p :: ps => if k = 12 then (match p with | t :: _ => some (.error (t.2, "there are at most 12 rules")) | [] => none) else andB (ruleS n p) fun y => andB (rulesS n (k + 1) ps) fun ys => some (.ok (y :: ys))
def netS (us : List TK) : Option (RE D) := match us with
  | t0 :: t1 :: r => andB (sizeS t0) fun n => andB (rulesS n 0 (if r.dropLast.isEmpty then [] else partsS [59] [] r.dropLast)) fun ys => some (.ok (.tuple [.int n, .tuple ys]))
  | _ => none
def RetA (r : RE (List D)) (acc : List D) (Q : List D → Prop) (X : Nat → D → Prop) : Prop := match r with | .ok ys => Q (acc ++ ys) | .error p => X 3 (.tuple [.int p.1, .str p.2])
theorem net_loop {n : Int} {X : Nat → D → Prop} {a0 a1 a3 : D} {B : T2S} {E : Ends2} {G : List D → Prop} (hB : B = dSeq (dIfS (dB (dOp dEq (dOLen 4) (dC (.int (12)))))
    (dRaise3 (fun _ => X) (dOp dIxS (dOp dIxS (dVar 5) (dC (.int (0)))) (dC (.int (2)))) (dC (.str "there are at most 12 rules"))) dNext)
    (dApp 4 (dCBX (orX f_rule_in fX_rule_in) (fun _ => X) (dCons (dVar 2) (dCons (dVar 5) dNil)))))
    (hE : ∀ acc y, G acc → E.nx [some (.dat a0), some (.dat a1), some (.dat (.int n)), some (.dat a3), some (.own acc), y]) : ∀ {ps : List (List TK)} {acc : List D} {r : RE (List D)} {y : Option Sl}, (∀ p ∈ ps, (∀ t ∈ p, okT t = true) ∧ p.length ≤ 900) → acc.length ≤ 12 → rulesS n acc.length ps = some r → RetA r acc G X →
      forD (gN 5) B E (ps.map ptD) [some (.dat a0), some (.dat a1), some (.dat (.int n)), some (.dat a3), some (.own acc), y]
  | [], acc, r, y, _, _, h, q => by
    cases h
    have q : G (acc ++ []) := q
    rw [List.append_nil] at q
    exact hE _ _ q
  | p :: ps, acc, r, y, hp, hl, h, q => by
    unfold rulesS at h
    rw [List.map_cons]
    unfold forD
    walk_at "DZ"
    rw [hB]
    refine seq_gen fun N2 hN2 => ?_
    walk_at "DZ"
    refine ⟨shaped_int _, shaped_int _, ?_⟩
    rw [eqv_intD]
    by_cases c : acc.length = 12
    · rw [if_pos c] at h
      refine ite_t (decide_eq_true (by omega)) ?_
      cases p with
      | nil => cases h
      | cons t p =>
        cases h
        unfold ptD
        dsimp only
        rw [List.map_cons, atI_0]
        unfold tk tkD
        dsimp only
        rw [atI_2]
        exact q
    · rw [if_neg c] at h
      refine ite_f (fun z => c (by have := of_decide_eq_true z; omega)) ?_
      subst hN2
      walk_at "DZ"
      obtain ⟨g1, g2⟩ := hp p List.mem_cons_self
      rcases andB_inv h with ⟨d, h1, h⟩ | ⟨e, h1, rfl⟩
      · refine .inr (ruleX g1 g2 h1 ?_)
        refine ⟨by omega, ?_⟩
        rcases andB_inv h with ⟨ys, h2, h⟩ | ⟨e, h2, rfl⟩
        · cases h
          rw [← hB]
          refine net_loop (acc := acc ++ [d]) hB hE (fun p hp' => hp p (List.mem_cons_of_mem _ hp')) (by rw [List.length_append, List.length_singleton]; omega) (by rw [List.length_append, List.length_singleton]; exact h2) ?_
          show G ((acc ++ [d]) ++ ys)
          rw [List.append_assoc]
          exact q
        · rw [← hB]
          exact net_loop (acc := acc ++ [d]) hB hE (fun p hp' => hp p (List.mem_cons_of_mem _ hp')) (by rw [List.length_append, List.length_singleton]; omega) (by rw [List.length_append, List.length_singleton]; exact h2) q
      · exact .inr (ruleX g1 g2 h1 q)
theorem net_toks {us : List TK} {z : Str} {r : RE D} {Q : D → Prop} {X : Nat → D → Prop} (ht : toksS z "net" = some us) (h : netS us = some r) (q : Ret r Q X) : fX_read_net [.str z] Q X := by
  obtain ⟨ts, b, _, h1, h2, h3, h4, h5, h6, h7⟩ := toks_inv ht
  unfold netS at h
  split at h
  · rename_i t0 t1 rr _e
    simp only [List.length_cons] at h7
    have hokr : ∀ t ∈ rr.dropLast, okT t = true := fun t hm => h6 t (by simp [(List.dropLast_sublist rr).subset hm])
    have hrl : rr.dropLast.length ≤ 800 := by rw [List.length_dropLast]; omega
    refine oX_read_net ?_
    unfold tX_read_net
    refine seq_gen fun N hN => ?_
    walk_at "DZ"
    refine toks_orX ht ?_
    show N _
    subst hN
    refine seq_gen fun N hN => ?_
    walk_at "DZ"
    simp only [List.map_cons]
    rw [atI_0]
    dsimp only
    rcases andB_inv h with ⟨n, g1, h⟩ | ⟨p, g1, rfl⟩
    · refine .inr (sizeX (h6 t0 (by simp)) g1 ?_)
      show N _
      subst hN
      refine seq_gen fun N hN => ?_
      walk_at "DZ"
      have ec : Z2.cutD (tk t0 :: tk t1 :: rr.map tk) (some 2) (some (-(1 : Int))) = rr.dropLast.map tk := by
        cases hr : rr.getLast? with
        | none =>
          have : rr = [] := List.getLast?_eq_none_iff.mp hr
          subst this
          rfl
        | some x =>
          obtain ⟨pre, e⟩ := List.getLast?_eq_some_iff.mp hr
          subst e
          rw [List.dropLast_concat, List.map_append]
          exact cut_lastK _ _ _ _
      rw [ec]
      subst hN
      refine seq_gen fun N hN => ?_
      walk_at "DZ"
      subst hN
      refine seq_gen fun N hN => ?_
      refine for_gen fun B hB => ?_
      unfold dFor
      walk_at "DZ"
      have fin : ∀ acc y, Q (.tuple [.int n, .tuple acc]) → N [some (.dat (.str z)), some (.dat (.list (tk t0 :: tk t1 :: rr.map tk))), some (.dat (.int n)), some (.dat (.list (rr.dropLast.map tk))), some (.own acc), y] := fun acc y q => by
        subst hN
        walk_at "DZ"
        exact q
      have run : ∀ ps : List (List TK), (∀ p ∈ ps, (∀ t ∈ p, okT t = true) ∧ p.length ≤ 900) → (andB (rulesS n 0 ps) fun ys => some (.ok (.tuple [.int n, .tuple ys]))) = some r → ∀ y,
          forD (gN 5) B { nx := N, rt := Q } (ps.map ptD) [some (.dat (.str z)), some (.dat (.list (tk t0 :: tk t1 :: rr.map tk))), some (.dat (.int n)), some (.dat (.list (rr.dropLast.map tk))), some (.own []), y] := fun ps hp hs y => by
        rcases andB_inv hs with ⟨ys, g2, hs⟩ | ⟨p, g2, rfl⟩
        · cases hs
          exact net_loop (acc := []) (r := .ok ys) (G := fun acc => Q (.tuple [.int n, .tuple acc])) hB fin hp (Nat.zero_le _) g2 q
        · exact net_loop (acc := []) (r := .error p) (G := fun acc => Q (.tuple [.int n, .tuple acc])) hB fin hp (Nat.zero_le _) g2 q
      cases hd : rr.dropLast with
      | nil =>
        rw [hd] at h run
        refine ite_f (fun z => nomatch z) ?_
        exact run [] (fun _ z => nomatch z) h none
      | cons d ds =>
        rw [hd] at h hokr hrl run
        refine ite_t rfl ?_
        refine parts_okS lits75.2.1 (lay75 _ (by simp)) hokr (by omega) ?_
        have cnt := parts_cnt (w := [59]) (ts := d :: ds) (acc := [])
        refine run _ (fun p hp => ⟨fun t ht => ?_, ?_⟩) h none
        · rcases parts_sub p hp t ht with z | z
          · cases z
          · exact hokr t z
        · have := parts_len p hp
          rw [List.length_nil] at this
          omega
    · exact .inr (sizeX (h6 t0 (by simp)) g1 q)
  · cases h
theorem lc_list {α : Type} {g : T2G} {tt : T2T} {te : T2E} {env : Ev} (G f : α → D) (keep : α → Bool) : ∀ {l : List α} {Q : List D → Prop},
    (∀ a ∈ l, ∀ (R : D → Prop) (N : Prop), (keep a = true → R (f a)) → (keep a = false → N) → g (G a) env fun env1 => tt env1 fun b => if b = true then te env1 R else N) →
    Q ((l.filter keep).map f) → lcD g tt te env (l.map G) Q
  | [], Q, h, q => q
  | a :: l, Q, h, q => by
    refine h a List.mem_cons_self _ _ (fun hk => ?_) (fun hk => ?_)
    · refine lc_list G f keep (fun e he => h e (List.mem_cons_of_mem _ he)) ?_
      rw [List.filter_cons_of_pos hk] at q
      exact q
    · refine lc_list G f keep (fun e he => h e (List.mem_cons_of_mem _ he)) ?_
      rw [List.filter_cons_of_neg (by rw [hk]; exact Bool.false_ne_true)] at q
      exact q
theorem filt_all {α : Type} (l : List α) : l.filter (fun _ => true) = l := List.filter_eq_self.mpr fun _ _ => rfl
theorem rng_nat (n : Nat) : dRange 0 n = (List.range n).map fun i : Nat => PyData.int (i : Nat) := by
  unfold dRange
  exact List.map_congr_left fun i _ => by rw [Int.zero_add]
/-! ### rows -/
theorem cut_two (ds : List D) : Z2.cutD ds (some 2) none = ds.drop 2 := cut_drop ds 2
theorem cut_butlastK (a : List D) (x : D) : Z2.cutD (a ++ [x]) none (some (-1)) = a := by
  unfold Z2.cutD
  have e2 : HT.sIx (a ++ [x]).length (a ++ [x]).length (some (-1)) = a.length := by
    unfold HT.sIx
    dsimp only
    rw [if_pos (by decide)]
    simp only [List.length_append, List.length_cons, List.length_nil]
    omega
  rw [e2, HT.sIx_none]
  show (a ++ [x]).take (a.length - 0) = a
  rw [Nat.sub_zero, List.take_left]
def piecesS (us : List TK) : List (List TK) := if 1 < us.length then partsS [44] [] us.dropLast else []
theorem pieces_okS {us : List TK} {Q : D → Prop} (hok : ∀ t ∈ us, okT t = true) (hl : us.length ≤ 801) (q : Q (.list ((piecesS us).map ptD))) : f_pieces_of [.list (us.map tk)] Q := by
  refine o_pieces_of ?_
  unfold t_pieces_of
  walk_at "DZ"
  unfold piecesS at q
  by_cases c : 1 < us.length
  · rw [if_pos c] at q
    refine ite_t (decide_eq_true (by rw [List.length_map]; omega)) ?_
    have ec : Z2.cutD (us.map tk) none (some (-(1 : Int))) = us.dropLast.map tk := by
      cases hr : us.getLast? with
      | none =>
        have : us = [] := List.getLast?_eq_none_iff.mp hr
        subst this
        rfl
      | some x =>
        obtain ⟨pre, e⟩ := List.getLast?_eq_some_iff.mp hr
        subst e
        rw [List.dropLast_concat, List.map_append]
        exact cut_butlastK _ _
    rw [ec]
    exact parts_okS lits75.2.2 (lay75 _ (by simp)) (fun t ht => hok t ((List.dropLast_sublist us).subset ht)) (by rw [List.length_dropLast]; omega) q
  · rw [if_neg c] at q
    refine ite_f (fun z => c (by have := of_decide_eq_true z; rw [List.length_map] at this; omega)) ?_
    exact q
theorem pieces_sub {us : List TK} (hok : ∀ t ∈ us, okT t = true) (hl : us.length ≤ 801) : (piecesS us).length ≤ 900 ∧ ∀ p ∈ piecesS us, (∀ t ∈ p, okT t = true) ∧ p.length ≤ 900 := by
  unfold piecesS
  split
  · have c := parts_cnt (w := [44]) (ts := us.dropLast) (acc := [])
    have hd : us.dropLast.length ≤ us.length := by rw [List.length_dropLast]; omega
    refine ⟨by omega, fun p hp => ⟨fun t ht => ?_, ?_⟩⟩
    · rcases parts_sub p hp t ht with z | z
      · cases z
      · exact hok t ((List.dropLast_sublist us).subset z)
    · have := parts_len p hp
      rw [List.length_nil] at this
      omega
  · exact ⟨Nat.zero_le _, fun p hp => nomatch hp⟩
def rowsS (n : Int) : Nat → List (List TK) → Option (RE (List D))
  | _, [] => some (.ok [])
  | _, [] :: _ => none
  | k, (t :: p) :: ps => if k = 8 then some (.error (t.2, "there are at most 8 pieces of news")) else andB (eventS n t) fun e => andB (integerS ((t :: p).drop 2) 500 "a time is from -500 to 500") fun v => andB (rowsS n (k + 1) ps) fun ys => some (.ok (.tuple [.int e, .int v] :: ys))
def rowS (n : Int) (us : List TK) : Option (RE D) := andB (rowsS n 0 (piecesS us)) fun ys => some (.ok (.tuple ys))
theorem row_loop {n : Int} {X : Nat → D → Prop} {a1 rs : D} {B : T2S} {E : Ends2} {G : List D → Prop} (hB : B = (dSeq (dIfS (dB (dOp dEq (dOLen 2) (dC (.int (8)))))
  (dRaise3 (fun _ => X) (dOp dIxS (dOp dIxS (dVar 3) (dC (.int (0)))) (dC (.int (2)))) (dC (.str "there are at most 8 pieces of news")))
  dNext)
  (dSeq (dAsg (dCBX (orX f_event_in fX_event_in) (fun _ => X) (dCons (dOp dIxS (dVar 0) (dC (.int (0)))) (dCons (dOp dIxS (dVar 3) (dC (.int (0)))) dNil))) (gN 4))
  (dApp 2 (dTup (dCons (dVar 4) (dCons (dCBX (orX f_integer_in fX_integer_in) (fun _ => X) (dCons (dSlS (dVar 3) (dPart (dC (.int (2)))) dNoPart) (dCons (dC (.int (500))) (dCons (dC (.str "a time is from -500 to 500")) dNil)))) dNil)))))))
    (hE : ∀ acc y y', G acc → E.nx [some (.dat (.tuple [.int n, rs])), some (.dat a1), some (.own acc), y, y']) : ∀ {ps : List (List TK)} {acc : List D} {r : RE (List D)} {y y' : Option Sl}, (y' = none ∨ ∃ d, y' = some (.dat d)) → (∀ p ∈ ps, (∀ t ∈ p, okT t = true) ∧ p.length ≤ 900) → acc.length ≤ 8 → rowsS n acc.length ps = some r → RetA r acc G X →
      forD (gN 3) B E (ps.map ptD) [some (.dat (.tuple [.int n, rs])), some (.dat a1), some (.own acc), y, y']
  | [], acc, r, y, y', _, _, _, h, q => by
    cases h
    have q : G (acc ++ []) := q
    rw [List.append_nil] at q
    exact hE _ _ _ q
  | [] :: ps, acc, r, y, y', hy, hp, hl, h, q => by cases h
  | (t :: p) :: ps, acc, r, y, y', hy, hp, hl, h, q => by
    unfold rowsS at h
    rw [List.map_cons]
    unfold forD
    walk_at "DZ"
    rw [hB]
    refine seq_gen fun N2 hN2 => ?_
    walk_at "DZ"
    refine ⟨shaped_int _, shaped_int _, ?_⟩
    rw [eqv_intD]
    by_cases c : acc.length = 8
    · rw [if_pos c] at h
      refine ite_t (decide_eq_true (by omega)) ?_
      cases h
      unfold ptD
      dsimp only
      rw [List.map_cons, atI_0]
      unfold tk tkD
      dsimp only
      rw [atI_2]
      exact q
    · rw [if_neg c] at h
      refine ite_f (fun z => c (by have := of_decide_eq_true z; omega)) ?_
      subst hN2
      refine seq_gen fun N2 hN2 => ?_
      walk_at "DZ"
      rw [atI_0]
      unfold ptD
      dsimp only
      rw [List.map_cons, atI_0]
      dsimp only
      obtain ⟨g1, g2⟩ := hp (t :: p) List.mem_cons_self
      rcases andB_inv h with ⟨e, h1, h⟩ | ⟨e, h1, rfl⟩
      · refine .inr (eventX h1 ?_)
        show N2 _
        subst hN2
        walk_at "DZ"
        rw [cut_two, show (tk t :: p.map tk).drop 2 = ((t :: p).drop 2).map tk from by rw [List.map_drop]; rfl]
        rcases andB_inv h with ⟨v, h2, h⟩ | ⟨e2, h2, rfl⟩
        · refine .inr (integerX (ts := (t :: p).drop 2) (fun u hu => g1 u (List.mem_of_mem_drop hu)) (by rw [List.length_drop]; omega) h2 ?_)
          refine ⟨by omega, ?_⟩
          rw [← hB]
          rcases andB_inv h with ⟨ys, h3, h⟩ | ⟨e3, h3, rfl⟩
          · cases h
            refine row_loop (acc := acc ++ [.tuple [.int e, .int v]]) hB hE (.inr ⟨_, rfl⟩) (fun p hp' => hp p (List.mem_cons_of_mem _ hp')) (by rw [List.length_append, List.length_singleton]; omega) (by rw [List.length_append, List.length_singleton]; exact h3) ?_
            show G ((acc ++ [_]) ++ ys)
            rw [List.append_assoc]
            exact q
          · exact row_loop (acc := acc ++ [.tuple [.int e, .int v]]) hB hE (.inr ⟨_, rfl⟩) (fun p hp' => hp p (List.mem_cons_of_mem _ hp')) (by rw [List.length_append, List.length_singleton]; omega) (by rw [List.length_append, List.length_singleton]; exact h3) q
        · exact .inr (integerX (ts := (t :: p).drop 2) (fun u hu => g1 u (List.mem_of_mem_drop hu)) (by rw [List.length_drop]; omega) h2 q)
      · exact .inr (eventX h1 q)
theorem row_toks {us : List TK} {z : Str} {n : Int} {rs : D} {r : RE D} {Q : D → Prop} {X : Nat → D → Prop} (hnet : netB (.tuple [.int n, rs]) = true) (ht : toksS z "row" = some us) (h : rowS n us = some r) (q : Ret r Q X) : fX_read_row [.tuple [.int n, rs], .str z] Q X := by
  obtain ⟨ts, b, _, h1, h2, h3, h4, h5, h6, h7⟩ := toks_inv ht
  unfold rowS at h
  refine oX_read_row ?_
  unfold tX_read_row
  refine seq_gen fun N hN => ?_
  walk_at "DZ"
  refine .inl (check_net_ok hnet ?_)
  show N _
  subst hN
  refine seq_gen fun N hN => ?_
  walk_at "DZ"
  subst hN
  refine seq_gen fun N hN => ?_
  refine for_gen fun B hB => ?_
  unfold dFor
  walk_at "DZ"
  refine toks_orX ht ?_
  try dsimp only
  refine pieces_okS h6 h7 ?_
  obtain ⟨s1, s2⟩ := pieces_sub h6 h7
  have fin : ∀ acc y y', Q (.tuple acc) → N [some (.dat (.tuple [.int n, rs])), some (.dat (.str z)), some (.own acc), y, y'] := fun acc y y' q => by
    subst hN
    walk_at "DZ"
    exact q
  rcases andB_inv h with ⟨ys, g2, hs⟩ | ⟨p, g2, rfl⟩
  · cases hs
    exact row_loop (acc := []) (r := .ok ys) (G := fun acc => Q (.tuple acc)) hB fin (.inl rfl) s2 (Nat.zero_le _) g2 q
  · exact row_loop (acc := []) (r := .error p) (G := fun acc => Q (.tuple acc)) hB fin (.inl rfl) s2 (Nat.zero_le _) g2 q
/-! ### times -/
theorem putI_len (ks : List (Int × D)) (k : Int) (d : D) : (putI ks k d).length ≤ ks.length + 1 := by
  unfold putI
  split
  · rw [List.length_map]; omega
  · rw [List.length_append, List.length_singleton]; omega
def timesR (n : Int) : List (Int × D) → List (List TK) → Option (RE (List (Int × D)))
  | ks, [] => some (.ok ks)
  | _, [] :: _ => none
  | ks, (t :: p) :: ps => andB (eventS n t) fun e => if (valI ks e).isSome = true then some (.error (t.2, "this event stands already")) else andB (integerS ((t :: p).drop 2) 1000 "a time is from -1000 to 1000") fun v => timesR n (putI ks e (.int v)) ps
def timesS (n : Nat) (us : List TK) : Option (RE D) := match us.getLast? with
  | none => none
  | some t => andB (timesR n [] (piecesS us)) fun ks => if ks.length < n then some (.error (t.2, "an event is missing")) else if ((List.range n).all fun e : Nat => (valI ks (e : Int)).isSome) = true then some (.ok (.tuple ((List.range n).map fun e : Nat => (valI ks (e : Int)).getD .none))) else none
def RetK (r : RE (List (Int × D))) (Q : List (Int × D) → Prop) (X : Nat → D → Prop) : Prop := match r with | .ok ys => Q ys | .error p => X 3 (.tuple [.int p.1, .str p.2])
theorem times_loop {n : Int} {X : Nat → D → Prop} {a1 a2 rs : D} {B : T2S} {E : Ends2} {G : List (Int × D) → Prop} (hB : B = (dSeq (dAsg (dCBX (orX f_event_in fX_event_in) (fun _ => X) (dCons (dOp dIxS (dVar 0) (dC (.int (0)))) (dCons (dOp dIxS (dVar 4) (dC (.int (0)))) dNil))) (gN 5))
  (dSeq (dIfS (dB (dInK false 3 (dVar 5)))
  (dRaise3 (fun _ => X) (dOp dIxS (dOp dIxS (dVar 4) (dC (.int (0)))) (dC (.int (2)))) (dC (.str "this event stands already")))
  dNext)
  (dPutK 3 (dVar 5) (dCBX (orX f_integer_in fX_integer_in) (fun _ => X) (dCons (dSlS (dVar 4) (dPart (dC (.int (2)))) dNoPart) (dCons (dC (.int (1000))) (dCons (dC (.str "a time is from -1000 to 1000")) dNil))))))))
    (hE : ∀ ks y y', ks.length ≤ 900 → (y = none ∨ ∃ d, y = some (.dat d)) → (y' = none ∨ ∃ d, y' = some (.dat d)) → G ks → E.nx [some (.dat (.tuple [.int n, rs])), some (.dat a1), some (.dat a2), some (.dki ks), y, y']) : ∀ {ps : List (List TK)} {ks : List (Int × D)} {r : RE (List (Int × D))} {y y' : Option Sl}, (y = none ∨ ∃ d, y = some (.dat d)) → (y' = none ∨ ∃ d, y' = some (.dat d)) → (∀ p ∈ ps, (∀ t ∈ p, okT t = true) ∧ p.length ≤ 900) → ks.length + ps.length ≤ 900 → timesR n ks ps = some r → RetK r G X →
      forD (gN 4) B E (ps.map ptD) [some (.dat (.tuple [.int n, rs])), some (.dat a1), some (.dat a2), some (.dki ks), y, y']
  | [], ks, r, y, y', hy, hy', _, hl, h, q => by
    cases h
    exact hE _ _ _ (by simpa using hl) hy hy' q
  | [] :: ps, ks, r, y, y', hy, hy', hp, hl, h, q => by cases h
  | (t :: p) :: ps, ks, r, y, y', hy, hy', hp, hl, h, q => by
    unfold timesR at h
    rw [List.length_cons] at hl
    rw [List.map_cons]
    unfold forD
    rcases hy' with rfl | ⟨d', rfl⟩ <;> rcases hy with rfl | ⟨d, rfl⟩
    all_goals
      walk_at "DZ"
      rw [hB]
      refine seq_gen fun N2 hN2 => ?_
      walk_at "DZ"
      rw [atI_0]
      unfold ptD
      dsimp only
      rw [List.map_cons, atI_0]
      dsimp only
      obtain ⟨g1, g2⟩ := hp (t :: p) List.mem_cons_self
      rcases andB_inv h with ⟨e, h1, h⟩ | ⟨e, h1, rfl⟩
      · refine .inr (eventX h1 ?_)
        show N2 _
        subst hN2
        refine seq_gen fun N2 hN2 => ?_
        walk_at "DZ"
        by_cases c : (valI ks e).isSome = true
        · rw [if_pos c] at h
          cases h
          refine ite_t c ?_
          rw [atI_0]
          unfold tk tkD
          dsimp only
          rw [atI_2]
          exact q
        · rw [if_neg c] at h
          refine ite_f c ?_
          subst hN2
          walk_at "DZ"
          rw [cut_two, show (tk t :: p.map tk).drop 2 = ((t :: p).drop 2).map tk from by rw [List.map_drop]; rfl]
          rcases andB_inv h with ⟨v, h2, h⟩ | ⟨e2, h2, rfl⟩
          · refine .inr (integerX (ts := (t :: p).drop 2) (fun u hu => g1 u (List.mem_of_mem_drop hu)) (by rw [List.length_drop]; omega) h2 ?_)
            have pl := putI_len ks e (.int v)
            refine ⟨by omega, rfl, ?_⟩
            rw [← hB]
            exact times_loop (ks := putI ks e (.int v)) hB hE (.inr ⟨_, rfl⟩) (.inr ⟨_, rfl⟩) (fun p hp' => hp p (List.mem_cons_of_mem _ hp')) (by omega) h q
          · exact .inr (integerX (ts := (t :: p).drop 2) (fun u hu => g1 u (List.mem_of_mem_drop hu)) (by rw [List.length_drop]; omega) h2 q)
      · exact .inr (eventX h1 q)
theorem times_toks {us : List TK} {z : Str} {n : Nat} {rs : D} {r : RE D} {Q : D → Prop} {X : Nat → D → Prop} (hn : n ≤ 900) (hnet : netB (.tuple [.int n, rs]) = true) (ht : toksS z "row" = some us) (h : timesS n us = some r) (q : Ret r Q X) : fX_read_times [.tuple [.int n, rs], .str z] Q X := by
  obtain ⟨ts, b, _, h1, h2, h3, h4, h5, h6, h7⟩ := toks_inv ht
  unfold timesS at h
  cases hla : us.getLast? with
  | none => rw [hla] at h; cases h
  | some lt =>
  rw [hla] at h
  dsimp only at h
  obtain ⟨pre, epre⟩ := List.getLast?_eq_some_iff.mp hla
  refine oX_read_times ?_
  unfold tX_read_times
  refine seq_gen fun N hN => ?_
  walk_at "DZ"
  refine .inl (check_net_ok hnet ?_)
  show N _
  subst hN
  refine seq_gen fun N hN => ?_
  walk_at "DZ"
  refine toks_orX ht ?_
  show N _
  subst hN
  refine seq_gen fun N hN => ?_
  walk_at "DZ"
  subst hN
  refine seq_gen fun N hN => ?_
  refine for_gen fun B hB => ?_
  unfold dFor
  walk_at "DZ"
  refine pieces_okS h6 h7 ?_
  obtain ⟨s1, s2⟩ := pieces_sub h6 h7
  have fin : ∀ ks y y', ks.length ≤ 900 → (y = none ∨ ∃ d, y = some (.dat d)) → (y' = none ∨ ∃ d, y' = some (.dat d)) → (if ks.length < n then X 3 (.tuple [.int lt.2, .str "an event is missing"]) else ((List.range n).all fun e : Nat => (valI ks (e : Int)).isSome) = true ∧ Q (.tuple ((List.range n).map fun e : Nat => (valI ks (e : Int)).getD .none))) →
      N [some (.dat (.tuple [.int n, rs])), some (.dat (.str z)), some (.dat (.list (us.map tk))), some (.dki ks), y, y'] := fun ks y y' hk hy hy' q => by
    rcases hy' with rfl | ⟨d', rfl⟩ <;> rcases hy with rfl | ⟨d, rfl⟩
    all_goals
      subst hN
      refine seq_gen fun N hN => ?_
      walk_at "DZ"
      rw [atI_0]
      dsimp only
      by_cases c : ks.length < n
      · rw [if_pos c] at q
        refine ite_t (decide_eq_true (by omega)) ?_
        rw [epre, List.map_append, show (-(1 : Int)) = -1 from rfl]
        show match atI (pre.map tk ++ [tk lt]) (-1) with | some y => _ | none => _
        rw [atI_last]
        unfold tk tkD
        dsimp only
        rw [atI_2]
        exact q
      · rw [if_neg c] at q
        refine ite_f (fun z => c (by have := of_decide_eq_true z; omega)) ?_
        subst hN
        walk_at "DZ"
        rw [atI_0]
        dsimp only
        rw [Int.toNat_natCast]
        refine ⟨by omega, by omega, by rw [dRange_length]; omega, ?_⟩
        rw [rng_nat]
        refine lc_list (l := List.range n) (fun k : Nat => PyData.int (k : Nat)) (fun k : Nat => (valI ks (k : Int)).getD .none) (fun _ => true) (fun k hk R N' q1 _ => ?_) ?_
        · walk_at "DZ"
          have q1 := q1 rfl
          have hs := List.all_eq_true.mp q.1 k hk
          obtain ⟨d, hd⟩ := Option.isSome_iff_exists.mp hs
          rw [hd] at q1 ⊢
          exact q1
        · rw [filt_all]
          exact q.2
  rcases andB_inv h with ⟨ks, g2, hs⟩ | ⟨p, g2, rfl⟩
  · refine times_loop (r := .ok ks) (G := fun ks => if ks.length < n then X 3 (.tuple [.int lt.2, .str "an event is missing"]) else ((List.range n).all fun e : Nat => (valI ks (e : Int)).isSome) = true ∧ Q (.tuple ((List.range n).map fun e : Nat => (valI ks (e : Int)).getD .none))) hB fin (.inl rfl) (.inl rfl) s2 (by simpa using s1) g2 ?_
    show if ks.length < n then _ else _
    by_cases c : ks.length < n
    · rw [if_pos c] at hs ⊢
      cases hs
      exact q
    · rw [if_neg c] at hs ⊢
      split at hs
      · rename_i c2
        cases hs
        exact ⟨c2, q⟩
      · cases hs
  · exact times_loop (r := .error p) (G := fun ks => if ks.length < n then X 3 (.tuple [.int lt.2, .str "an event is missing"]) else ((List.range n).all fun e : Nat => (valI ks (e : Int)).isSome) = true ∧ Q (.tuple ((List.range n).map fun e : Nat => (valI ks (e : Int)).getD .none))) hB fin (.inl rfl) (.inl rfl) s2 (by simpa using s1) g2 q
/-! ### what the law's own judge is told -/
def retD (r : RE D) : D := match r with | .ok _ => .none | .error p => .tuple [.int p.1, .str p.2]
def toldS (k z : Str) : Option D := if k = "net" then (match toksS z "net" with | some us => (netS us).map retD | none => none) else if k = "row" then (match toksS z "row" with | some us => (rowS 3 us).map retD | none => none) else (match toksS z "row" with | some us => (timesS 3 us).map retD | none => none)
theorem net3 : netB (.tuple [.int 3, .tuple [.tuple [.int 0, .int 1, .int 5, .int 10]]]) = true := by decide +kernel
theorem kinds75 : ∀ x ∈ (["net", "row", "times"] : List Str), PyData.canLay0 (.str x) = true := by decide +kernel
theorem ret_map {o : Option (RE D)} {d : D} (h : o.map retD = some d) : ∃ r, o = some r ∧ retD r = d := Option.map_eq_some_iff.mp h
theorem L_told_ok {k z : Str} {d : D} {Q : D → Prop} (hk : k ∈ (["net", "row", "times"] : List Str)) (h : toldS k z = some d) (q : Q d) : f_L_told [.str k, .str z] Q := by
  refine o_L_told ?_
  unfold t_L_told
  refine seq_gen fun N hN => ?_
  walk_at "DZ"
  subst hN
  refine seq_gen fun N hN => ?_
  walk_at "DZ"
  refine ⟨shaped_str (kinds75 k hk), shaped_str (kinds75 _ (by simp)), ?_⟩
  rw [eqv_str]
  unfold toldS at h
  by_cases k1 : k = "net"
  · rw [if_pos k1] at h
    refine ite_t (decide_eq_true k1) ?_
    cases ht : toksS z "net" with
    | none => rw [ht] at h; cases h
    | some us =>
      rw [ht] at h
      obtain ⟨r, h1, h2⟩ := ret_map h
      refine .inr (net_toks ht h1 ?_)
      subst h2
      cases r with
      | ok e =>
        show N _
        subst hN
        walk_at "DZ"
        exact q
      | error p =>
        exact ⟨rfl, rfl, _, _, rfl, rfl, _, _, rfl, q⟩
  · rw [if_neg k1] at h
    refine ite_f (fun w => k1 (of_decide_eq_true w)) ?_
    refine ⟨shaped_str (kinds75 k hk), shaped_str (kinds75 _ (by simp)), ?_⟩
    rw [eqv_str]
    by_cases k2 : k = "row"
    · rw [if_pos k2] at h
      refine ite_t (decide_eq_true k2) ?_
      cases ht : toksS z "row" with
      | none => rw [ht] at h; cases h
      | some us =>
        rw [ht] at h
        obtain ⟨r, h1, h2⟩ := ret_map h
        refine .inr (row_toks net3 ht h1 ?_)
        subst h2
        cases r with
        | ok e =>
          show N _
          subst hN
          walk_at "DZ"
          exact q
        | error p =>
          exact ⟨rfl, rfl, _, _, rfl, rfl, _, _, rfl, q⟩
    · rw [if_neg k2] at h
      refine ite_f (fun w => k2 (of_decide_eq_true w)) ?_
      cases ht : toksS z "row" with
      | none => rw [ht] at h; cases h
      | some us =>
        rw [ht] at h
        obtain ⟨r, h1, h2⟩ := ret_map h
        refine .inr (times_toks (n := 3) (by decide) net3 ht h1 ?_)
        subst h2
        cases r with
        | ok e =>
          show N _
          subst hN
          walk_at "DZ"
          exact q
        | error p =>
          exact ⟨rfl, rfl, _, _, rfl, rfl, _, _, rfl, q⟩
/-! ### the rows -/
def repS (z : Str) (k : Nat) : Str := ⟨(List.replicate k z.cps.toList).flatten.toArray⟩
def tw12 : Str := "3: a - b in 0..1" ++ repS "; c - b in ..2" 11
def ei8 : Str := "a = 0" ++ repS ", b = 1" 7
def nr0 : List (Str × Str) := [("@0:", "a size is from 1 to 6")]
def nr1 : List (Str × Str) := [("@7: a - a in 0..", "a size is from 1 to 6")]
def nr2 : List (Str × Str) := [("@000010: a - b in 0..", "a size is from 1 to 6")]
def nr3 : List (Str × Str) := [((tw12 ++ "; @a - b in 0.."), "there are at most 12 rules")]
def nr4 : List (Str × Str) := [((tw12 ++ "; @f - f in 0.."), "there are at most 12 rules")]
def nr5 : List (Str × Str) := [("2: @c - a in 0..", "there is no such event")]
def nr6 : List (Str × Str) := [("2: a - @c in 0..", "there is no such event")]
def nr7 : List (Str × Str) := [("1: a - @b in ..3", "there is no such event")]
def nr8 : List (Str × Str) := [("3: a - b in 0..; @d - e in 0..", "there is no such event")]
def nr9 : List (Str × Str) := [("2: a - @a in 0..", "a rule has two different events")]
def nr10 : List (Str × Str) := [("3: a - b in 1..; c - @c in 101..", "a rule has two different events")]
def nr11 : List (Str × Str) := [("2: a - b in @101..", "a side is from -100 to 100")]
def nr12 : List (Str × Str) := [("2: a - b in -@101..5", "a side is from -100 to 100")]
def nr13 : List (Str × Str) := [("2: a - b in 5..@101", "a side is from -100 to 100")]
def nr14 : List (Str × Str) := [("2: a - b in ..-@101", "a side is from -100 to 100")]
def nr15 : List (Str × Str) := [("2: a - b in @999999..999999", "a side is from -100 to 100")]
def nr16 : List (Str × Str) := [("2: a - b in ..@000101; c - a in 0..", "a side is from -100 to 100")]
def nr17 : List (Str × Str) := [("2: a - b in -@000102..101", "a side is from -100 to 100")]
def nr18 : List (Str × Str) := [("3: a - b in 100..-100; b - @b in 0..", "a rule has two different events")]
def nr19 : List (Str × Str) := [("6: f - e in ..100; e - f in ..@200", "a side is from -100 to 100")]
def netR : List (Str × Str) := nr0 ++ (nr1 ++ (nr2 ++ (nr3 ++ (nr4 ++ (nr5 ++ (nr6 ++ (nr7 ++ (nr8 ++ (nr9 ++ (nr10 ++ (nr11 ++ (nr12 ++ (nr13 ++ (nr14 ++ (nr15 ++ (nr16 ++ (nr17 ++ (nr18 ++ (nr19)))))))))))))))))))
def rowR : List (Str × Str) := [((ei8 ++ ", @a = 0"), "there are at most 8 pieces of news"), ((ei8 ++ ", @e = 501"), "there are at most 8 pieces of news"), ("@d = 0", "there is no such event"), ("a = 1, @f = 501", "there is no such event"), ("a = @501", "a time is from -500 to 500"), ("a = -@501, d = 0", "a time is from -500 to 500"), ("a = 0, b = @000501, b = 502", "a time is from -500 to 500"), ("c = 500, c = -500, c = -@999999", "a time is from -500 to 500")]
def timR : List (Str × Str) := [("@", "an event is missing"), ("a = 0, c = 5@", "an event is missing"), ("c = 1000, b = -1000@", "an event is missing"), ("a = 0, b = 0, c = 0, @d = 0", "there is no such event"), ("@f = 1001", "there is no such event"), ("a = 0, @a = 1001", "this event stands already"), ("a = 0, b = 1, c = 2, @b = 1", "this event stands already"), ("a = @1001, a = 0", "a time is from -1000 to 1000"), ("b = -@1001", "a time is from -1000 to 1000"), ("a = 0, b = @999999, d = 0", "a time is from -1000 to 1000"), ("c = 0, b = 1, @c = 0, d = 1", "this event stands already")]
def rowZ (x : Str) (a b : Nat) : Str := (repS " " (1 + a) ++ x) ++ repS " " b
def colZ (row text : Str) : Option Int := match (Txt.strip row).cps.toList.getLast? with
  | none => none
  | some c => if c = 64 then some ((text.length : Int) + 1) else match Builtin.Str.occurrences row "@" 0 row.length 1 with | i :: _ => some ((i : Int) + 1) | [] => none
def cutZ (z : Str) : Str := SX.S ((tl z).filter fun c => c != 64)
theorem cutZ_eq (z : Str) : Txt.replace z "@" "" = cutZ z := by
  have h := replace_strikes z 64
  have e1 : ("@" : Str) = ⟨#[64]⟩ := by decide
  have e2 : ("" : Str) = ⟨#[]⟩ := by decide
  rw [e1, e2]
  have e3 : SX.S (tl (Txt.replace z ⟨#[64]⟩ ⟨#[]⟩)) = cutZ z := congrArg SX.S h
  rwa [SX.S_tl] at e3
def checkC (k w : Str) (row text : Str) : Bool := Nat.ble row.length 1000 && (match toldS k text with
  | some (.tuple [.int c, .str w2]) => (match colZ row text with | some c2 => decide (c = c2) && decide (w2 = w) | none => false)
  | _ => false)
def checkZ (k : Str) (x : Str × Str) (a b : Nat) : Bool := checkC k x.2 (rowZ x.1 a b) (cutZ (rowZ x.1 a b))
def checkR (k : Str) (l : List (Str × Str)) : Bool := l.all fun x => layC (tl x.2) && (List.range 3).all fun a => (List.range 3).all fun b => checkZ k x a b
theorem checkR_app {k : Str} {a b : List (Str × Str)} (h1 : checkR k a = true) (h2 : checkR k b = true) : checkR k (a ++ b) = true := by
  unfold checkR at *
  rw [List.all_append, h1, h2]
  rfl
theorem nr0_ok : checkR "net" nr0 = true := by decide +kernel
theorem nr1_ok : checkR "net" nr1 = true := by decide +kernel
theorem nr2_ok : checkR "net" nr2 = true := by decide +kernel
theorem nr3_ok : checkR "net" nr3 = true := by decide +kernel
theorem nr4_ok : checkR "net" nr4 = true := by decide +kernel
theorem nr5_ok : checkR "net" nr5 = true := by decide +kernel
theorem nr6_ok : checkR "net" nr6 = true := by decide +kernel
theorem nr7_ok : checkR "net" nr7 = true := by decide +kernel
theorem nr8_ok : checkR "net" nr8 = true := by decide +kernel
theorem nr9_ok : checkR "net" nr9 = true := by decide +kernel
theorem nr10_ok : checkR "net" nr10 = true := by decide +kernel
theorem nr11_ok : checkR "net" nr11 = true := by decide +kernel
theorem nr12_ok : checkR "net" nr12 = true := by decide +kernel
theorem nr13_ok : checkR "net" nr13 = true := by decide +kernel
theorem nr14_ok : checkR "net" nr14 = true := by decide +kernel
theorem nr15_ok : checkR "net" nr15 = true := by decide +kernel
theorem nr16_ok : checkR "net" nr16 = true := by decide +kernel
theorem nr17_ok : checkR "net" nr17 = true := by decide +kernel
theorem nr18_ok : checkR "net" nr18 = true := by decide +kernel
theorem nr19_ok : checkR "net" nr19 = true := by decide +kernel
theorem netR_ok : checkR "net" netR = true := checkR_app nr0_ok (checkR_app nr1_ok (checkR_app nr2_ok (checkR_app nr3_ok (checkR_app nr4_ok (checkR_app nr5_ok (checkR_app nr6_ok (checkR_app nr7_ok (checkR_app nr8_ok (checkR_app nr9_ok (checkR_app nr10_ok (checkR_app nr11_ok (checkR_app nr12_ok (checkR_app nr13_ok (checkR_app nr14_ok (checkR_app nr15_ok (checkR_app nr16_ok (checkR_app nr17_ok (checkR_app nr18_ok nr19_ok))))))))))))))))))
theorem rowR_ok : checkR "row" rowR = true := by decide +kernel
theorem timR_ok : checkR "times" timR = true := by decide +kernel
/-! ### what is refused by name -/
theorem is_news_time_ok (v : D) (Q : D → Prop) (q : Q (.bool (inI v (-500) 500))) : f_is_news_time [v] Q := by
  refine o_is_news_time ?_
  unfold t_is_news_time
  walk_at "DZ"
  exact is_integer_ok v (-500) 500 Q q
theorem check_netX {v : D} {Q : D → Prop} {X : Nat → D → Prop} (h : netB v = false) (q : X 0 (.str "net")) : fX_check_net [v] Q X := by
  refine oX_check_net ?_
  unfold tX_check_net
  walk_at "DZ"
  refine is_net_ok v _ ?_
  rw [h]
  refine ite_t rfl ?_
  exact q
def newsB (v : D) (n : Int) : Bool := match v with
  | .tuple [a, b] => inI a 0 (n - 1) && inI b (-500) 500
  | _ => false
theorem is_news_any (v : D) (n : Int) (Q : D → Prop) (q : Q (.bool (newsB v n))) : f_is_news [v, .int n] Q := by
  refine o_is_news ?_
  unfold t_is_news
  walk_at "DZ"
  simp only [isT_tuple]
  cases v with
  | tuple us =>
    simp only [isTu, Bool.not_true, if_false, Bool.false_eq_true, reduceIte, shaped_int, true_and, eqv_intD]
    match us, q with
    | [], q => exact q
    | [a], q => exact q
    | [a, b], q =>
      refine ite_f (by rw [decide_eq_true (show (([a, b].length : Nat) : Int) = 2 from rfl)]; exact fun z => nomatch z) ?_
      refine ⟨rfl, ?_⟩
      refine is_event_ok _ _ _ ?_
      have q : Q (.bool (inI a 0 (n - 1) && inI b (-500) 500)) := q
      cases c : inI a 0 (n - 1) with
      | true =>
        rw [c] at q
        refine ite_t rfl ?_
        exact is_news_time_ok _ _ q
      | false =>
        rw [c] at q
        refine ite_f (fun z => nomatch z) ?_
        exact q
    | a :: b :: c :: r, q =>
      refine ite_t (by rw [decide_eq_false (by simp only [List.length_cons]; omega)]; rfl) ?_
      exact q
  | _ => simpa only [isTu, newsB, Bool.not_false, if_true] using q
def newsL (v : D) (n most : Int) : Bool := match v with
  | .tuple us => decide ((us.length : Int) ≤ most) && us.all fun d => newsB d n
  | _ => false
theorem are_news_any {v : D} {n most : Int} {Q : D → Prop} (hm : most ≤ 1000) (q : Q (.bool (newsL v n most))) : f_are_news [v, .int n, .int most] Q := by
  refine o_are_news ?_
  unfold t_are_news
  walk_at "DZ"
  simp only [isT_tuple]
  cases v with
  | tuple us =>
    simp only [isTu, Bool.not_true, Bool.false_eq_true, if_false]
    by_cases hl : (us.length : Int) ≤ most
    · refine ite_f (by rw [decide_eq_false (by omega)]; exact fun z => nomatch z) ?_
      refine ⟨by omega, ?_⟩
      refine lc_map (fun d => PyData.bool (newsB d n)) (fun d _ R hR => ?_) ?_
      · walk_at "DZ"
        exact is_news_any d n R hR
      · unfold dBools
        dsimp only
        rw [allBool_map]
        dsimp only
        rw [List.all_map]
        simp only [newsL, decide_eq_true hl, Bool.true_and] at q
        exact q
    · refine ite_t (by rw [decide_eq_true (by omega)]) ?_
      simp only [newsL, decide_eq_false hl, Bool.false_and] at q
      exact q
  | _ => simpa only [isTu, newsL, Bool.not_false, if_true] using q
theorem is_row_any {v : D} {n : Int} {Q : D → Prop} (q : Q (.bool (newsL v n 8))) : f_is_row [v, .int n] Q := by
  refine o_is_row ?_
  unfold t_is_row
  walk_at "DZ"
  exact are_news_any (by decide) q
theorem check_rowX {nm v : D} {n : Int} {Q : D → Prop} {X : Nat → D → Prop} (h : newsL v n 8 = false) (q : X 0 nm) : fX_check_row [nm, v, .int n] Q X := by
  refine oX_check_row ?_
  unfold tX_check_row
  walk_at "DZ"
  refine is_row_any ?_
  rw [h]
  exact ite_t rfl q
theorem check_timesX {v x : D} {n : Int} {Q : D → Prop} {X : Nat → D → Prop} (hn : n ≤ 1000) (h : timesB v n = false) (q : X 0 (.str "times")) : fX_check_times [.tuple [.int n, x], v] Q X := by
  refine oX_check_times ?_
  unfold tX_check_times
  walk_at "DZ"
  refine is_times_ok _ n _ _ hn ?_
  rw [h]
  refine ite_t rfl ?_
  exact q
def badT (v : D) : Bool := match v with | .str z => decide (z.length ≤ 1000) && (decide (600 < z.length) || decide ((10 : Nat) ∈ tl z)) | _ => true
theorem check_textX {v : D} {Q : D → Prop} {X : Nat → D → Prop} (h : badT v = true) (q : X 0 (.str "text")) : fX_check_text [v] Q X := by
  refine oX_check_text ?_
  unfold tX_check_text
  walk_at "DZ"
  cases v with
  | str z =>
    unfold badT at h
    simp only [Bool.and_eq_true, Bool.or_eq_true, decide_eq_true_eq] at h
    have fo := StrLaws.found_one z 10
    have en : ("\n" : Str) = ⟨#[10]⟩ := by decide
    refine ite_f (fun w => nomatch (show (!true) = true from w)) ?_
    refine ⟨by omega, ?_⟩
    by_cases c : 600 < z.length
    · refine ite_t (decide_eq_true (by omega)) ?_
      exact q
    · refine ite_f (fun w => by have := of_decide_eq_true w; omega) ?_
      refine ite_t ?_ q
      rw [if_neg Bool.false_ne_true, en, fo]
      exact decide_eq_true (h.2.resolve_left c)
  | _ =>
    refine ite_t rfl ?_
    exact q
theorem scanX {v : D} {Q : D → Prop} {X : Nat → D → Prop} (h : badT v = true) (q : X 0 (.str "text")) : fX_scan [v] Q X := by
  refine oX_scan ?_
  unfold tX_scan
  refine seq_gen fun N hN => ?_
  walk_at "DZ"
  exact .inr (check_textX h q)
theorem tokens_ofX {v k : D} {Q : D → Prop} {X : Nat → D → Prop} (h : badT v = true) (q : X 0 (.str "text")) : fX_tokens_of [v, k] Q X := by
  refine oX_tokens_of ?_
  unfold tX_tokens_of
  refine seq_gen fun N hN => ?_
  walk_at "DZ"
  exact .inr (scanX h q)
theorem read_netX {v : D} {Q : D → Prop} {X : Nat → D → Prop} (h : badT v = true) (q : X 0 (.str "text")) : fX_read_net [v] Q X := by
  refine oX_read_net ?_
  unfold tX_read_net
  refine seq_gen fun N hN => ?_
  walk_at "DZ"
  exact .inr (tokens_ofX h q)
theorem read_rowX {m v : D} {Q : D → Prop} {X : Nat → D → Prop} (hm : netB m = true) (h : badT v = true) (q : X 0 (.str "text")) : fX_read_row [m, v] Q X := by
  refine oX_read_row ?_
  unfold tX_read_row
  refine seq_gen fun N hN => ?_
  walk_at "DZ"
  refine .inl (check_net_ok hm ?_)
  show N _
  subst hN
  refine seq_gen fun N hN => ?_
  walk_at "DZ"
  subst hN
  refine seq_gen fun N hN => ?_
  refine for_gen fun B hB => ?_
  unfold dFor
  walk_at "DZ"
  exact .inr (tokens_ofX h q)
theorem read_rowN {m v : D} {Q : D → Prop} {X : Nat → D → Prop} (hm : netB m = false) (q : X 0 (.str "net")) : fX_read_row [m, v] Q X := by
  refine oX_read_row ?_
  unfold tX_read_row
  refine seq_gen fun N hN => ?_
  walk_at "DZ"
  exact .inr (check_netX hm q)
theorem read_timesX {m v : D} {Q : D → Prop} {X : Nat → D → Prop} (hm : netB m = true) (h : badT v = true) (q : X 0 (.str "text")) : fX_read_times [m, v] Q X := by
  refine oX_read_times ?_
  unfold tX_read_times
  refine seq_gen fun N hN => ?_
  walk_at "DZ"
  refine .inl (check_net_ok hm ?_)
  show N _
  subst hN
  refine seq_gen fun N hN => ?_
  walk_at "DZ"
  exact .inr (tokens_ofX h q)
theorem read_timesN {m v : D} {Q : D → Prop} {X : Nat → D → Prop} (hm : netB m = false) (q : X 0 (.str "net")) : fX_read_times [m, v] Q X := by
  refine oX_read_times ?_
  unfold tX_read_times
  refine seq_gen fun N hN => ?_
  walk_at "DZ"
  exact .inr (check_netX hm q)
theorem net_textN {m : D} {Q : D → Prop} {X : Nat → D → Prop} (hm : netB m = false) (q : X 0 (.str "net")) : fX_net_text [m] Q X := by
  refine oX_net_text ?_
  unfold tX_net_text
  refine seq_gen fun N hN => ?_
  walk_at "DZ"
  exact .inr (check_netX hm q)
theorem row_textN {m : D} {Q : D → Prop} {X : Nat → D → Prop} (hm : newsL m 6 8 = false) (q : X 0 (.str "row")) : fX_row_text [m] Q X := by
  refine oX_row_text ?_
  unfold tX_row_text
  refine seq_gen fun N hN => ?_
  walk_at "DZ"
  exact .inr (check_rowX hm q)
theorem times_textN {m v : D} {Q : D → Prop} {X : Nat → D → Prop} (hm : netB m = false) (q : X 0 (.str "net")) : fX_times_text [m, v] Q X := by
  refine oX_times_text ?_
  unfold tX_times_text
  refine seq_gen fun N hN => ?_
  walk_at "DZ"
  exact .inr (check_netX hm q)
theorem times_textT {n : Int} {x v : D} {Q : D → Prop} {X : Nat → D → Prop} (hm : netB (.tuple [.int n, x]) = true) (hn : n ≤ 1000) (h : timesB v n = false) (q : X 0 (.str "times")) : fX_times_text [.tuple [.int n, x], v] Q X := by
  refine oX_times_text ?_
  unfold tX_times_text
  refine seq_gen fun N hN => ?_
  walk_at "DZ"
  refine .inl (check_net_ok hm ?_)
  show N _
  subst hN
  refine seq_gen fun N hN => ?_
  walk_at "DZ"
  exact .inr (check_timesX hn h q)
theorem next_tokensX {v k : D} {Q : D → Prop} {X : Nat → D → Prop} (h : badT v = true) (q : X 0 (.str "text")) : fX_next_tokens [v, k] Q X := by
  refine oX_next_tokens ?_
  unfold tX_next_tokens
  refine seq_gen fun N hN => ?_
  walk_at "DZ"
  exact .inr (check_textX h q)
def isStD (v : D) : Bool := match v with | .str _ => true | _ => false
def badK (v : D) : Prop := v = .str "nets" ∨ v = .str "times" ∨ isStD v = false
theorem next_tokensK {z : Str} {k : D} {Q : D → Prop} {X : Nat → D → Prop} (hz : z.length ≤ 600) (hn : (10 : Nat) ∉ tl z) (h : badK k) (q : X 0 (.str "kind")) : fX_next_tokens [.str z, k] Q X := by
  refine oX_next_tokens ?_
  unfold tX_next_tokens
  refine seq_gen fun N hN => ?_
  walk_at "DZ"
  refine .inl (check_fine hz hn ?_)
  show N _
  subst hN
  refine seq_gen fun N hN => ?_
  walk_at "DZ"
  rcases h with rfl | rfl | h
  · refine ite_f (fun w => nomatch (show (!true) = true from w)) ?_
    dsimp only
    refine ⟨by decide, by decide, ?_⟩
    exact ite_t (by decide) q
  · refine ite_f (fun w => nomatch (show (!true) = true from w)) ?_
    dsimp only
    refine ⟨by decide, by decide, ?_⟩
    exact ite_t (by decide) q
  · cases k with
    | str z => cases h
    | _ =>
      refine ite_t rfl ?_
      exact q
theorem refused_0t {a b : D} {Q : D → Prop} (h : badT a = true) (q : Q (.str "text")) : f_L_refused [.int 0, a, b] Q := by
  refine o_L_refused ?_
  unfold t_L_refused
  refine seq_gen fun N hN => ?_
  walk_at "DZ"
  refine ⟨shaped_int _, shaped_int _, ?_⟩
  rw [eqv_intD]
  refine ite_t (decide_eq_true rfl) ?_
  exact .inr (next_tokensX h ⟨rfl, rfl, q⟩)
theorem refused_1 {a b : D} {Q : D → Prop} (h : badT a = true) (q : Q (.str "text")) : f_L_refused [.int 1, a, b] Q := by
  refine o_L_refused ?_
  unfold t_L_refused
  refine seq_gen fun N hN => ?_
  walk_at "DZ"
  refine ⟨shaped_int _, shaped_int _, ?_⟩
  rw [eqv_intD]
  refine ite_f (fun z => nomatch (of_decide_eq_true z : (1 : Int) = 0)) ?_
  refine ⟨shaped_int _, shaped_int _, ?_⟩
  rw [eqv_intD]
  refine ite_t (decide_eq_true rfl) ?_
  exact .inr (read_netX h ⟨rfl, rfl, q⟩)
theorem refused_2n {a b : D} {Q : D → Prop} (h : netB a = false) (q : Q (.str "net")) : f_L_refused [.int 2, a, b] Q := by
  refine o_L_refused ?_
  unfold t_L_refused
  refine seq_gen fun N hN => ?_
  walk_at "DZ"
  refine ⟨shaped_int _, shaped_int _, ?_⟩
  rw [eqv_intD]
  refine ite_f (fun z => nomatch (of_decide_eq_true z : (2 : Int) = 0)) ?_
  refine ⟨shaped_int _, shaped_int _, ?_⟩
  rw [eqv_intD]
  refine ite_f (fun z => nomatch (of_decide_eq_true z : (2 : Int) = 1)) ?_
  refine ⟨shaped_int _, shaped_int _, ?_⟩
  rw [eqv_intD]
  refine ite_t (decide_eq_true rfl) ?_
  exact .inr (read_rowN h ⟨rfl, rfl, q⟩)
theorem refused_2t {a b : D} {Q : D → Prop} (hm : netB a = true) (h : badT b = true) (q : Q (.str "text")) : f_L_refused [.int 2, a, b] Q := by
  refine o_L_refused ?_
  unfold t_L_refused
  refine seq_gen fun N hN => ?_
  walk_at "DZ"
  refine ⟨shaped_int _, shaped_int _, ?_⟩
  rw [eqv_intD]
  refine ite_f (fun z => nomatch (of_decide_eq_true z : (2 : Int) = 0)) ?_
  refine ⟨shaped_int _, shaped_int _, ?_⟩
  rw [eqv_intD]
  refine ite_f (fun z => nomatch (of_decide_eq_true z : (2 : Int) = 1)) ?_
  refine ⟨shaped_int _, shaped_int _, ?_⟩
  rw [eqv_intD]
  refine ite_t (decide_eq_true rfl) ?_
  exact .inr (read_rowX hm h ⟨rfl, rfl, q⟩)
theorem refused_3n {a b : D} {Q : D → Prop} (h : netB a = false) (q : Q (.str "net")) : f_L_refused [.int 3, a, b] Q := by
  refine o_L_refused ?_
  unfold t_L_refused
  refine seq_gen fun N hN => ?_
  walk_at "DZ"
  refine ⟨shaped_int _, shaped_int _, ?_⟩
  rw [eqv_intD]
  refine ite_f (fun z => nomatch (of_decide_eq_true z : (3 : Int) = 0)) ?_
  refine ⟨shaped_int _, shaped_int _, ?_⟩
  rw [eqv_intD]
  refine ite_f (fun z => nomatch (of_decide_eq_true z : (3 : Int) = 1)) ?_
  refine ⟨shaped_int _, shaped_int _, ?_⟩
  rw [eqv_intD]
  refine ite_f (fun z => nomatch (of_decide_eq_true z : (3 : Int) = 2)) ?_
  refine ⟨shaped_int _, shaped_int _, ?_⟩
  rw [eqv_intD]
  refine ite_t (decide_eq_true rfl) ?_
  exact .inr (read_timesN h ⟨rfl, rfl, q⟩)
theorem refused_3t {a b : D} {Q : D → Prop} (hm : netB a = true) (h : badT b = true) (q : Q (.str "text")) : f_L_refused [.int 3, a, b] Q := by
  refine o_L_refused ?_
  unfold t_L_refused
  refine seq_gen fun N hN => ?_
  walk_at "DZ"
  refine ⟨shaped_int _, shaped_int _, ?_⟩
  rw [eqv_intD]
  refine ite_f (fun z => nomatch (of_decide_eq_true z : (3 : Int) = 0)) ?_
  refine ⟨shaped_int _, shaped_int _, ?_⟩
  rw [eqv_intD]
  refine ite_f (fun z => nomatch (of_decide_eq_true z : (3 : Int) = 1)) ?_
  refine ⟨shaped_int _, shaped_int _, ?_⟩
  rw [eqv_intD]
  refine ite_f (fun z => nomatch (of_decide_eq_true z : (3 : Int) = 2)) ?_
  refine ⟨shaped_int _, shaped_int _, ?_⟩
  rw [eqv_intD]
  refine ite_t (decide_eq_true rfl) ?_
  exact .inr (read_timesX hm h ⟨rfl, rfl, q⟩)
theorem refused_4 {a b : D} {Q : D → Prop} (h : netB a = false) (q : Q (.str "net")) : f_L_refused [.int 4, a, b] Q := by
  refine o_L_refused ?_
  unfold t_L_refused
  refine seq_gen fun N hN => ?_
  walk_at "DZ"
  refine ⟨shaped_int _, shaped_int _, ?_⟩
  rw [eqv_intD]
  refine ite_f (fun z => nomatch (of_decide_eq_true z : (4 : Int) = 0)) ?_
  refine ⟨shaped_int _, shaped_int _, ?_⟩
  rw [eqv_intD]
  refine ite_f (fun z => nomatch (of_decide_eq_true z : (4 : Int) = 1)) ?_
  refine ⟨shaped_int _, shaped_int _, ?_⟩
  rw [eqv_intD]
  refine ite_f (fun z => nomatch (of_decide_eq_true z : (4 : Int) = 2)) ?_
  refine ⟨shaped_int _, shaped_int _, ?_⟩
  rw [eqv_intD]
  refine ite_f (fun z => nomatch (of_decide_eq_true z : (4 : Int) = 3)) ?_
  refine ⟨shaped_int _, shaped_int _, ?_⟩
  rw [eqv_intD]
  refine ite_t (decide_eq_true rfl) ?_
  exact .inr (net_textN h ⟨rfl, rfl, q⟩)
theorem refused_5 {a b : D} {Q : D → Prop} (h : newsL a 6 8 = false) (q : Q (.str "row")) : f_L_refused [.int 5, a, b] Q := by
  refine o_L_refused ?_
  unfold t_L_refused
  refine seq_gen fun N hN => ?_
  walk_at "DZ"
  refine ⟨shaped_int _, shaped_int _, ?_⟩
  rw [eqv_intD]
  refine ite_f (fun z => nomatch (of_decide_eq_true z : (5 : Int) = 0)) ?_
  refine ⟨shaped_int _, shaped_int _, ?_⟩
  rw [eqv_intD]
  refine ite_f (fun z => nomatch (of_decide_eq_true z : (5 : Int) = 1)) ?_
  refine ⟨shaped_int _, shaped_int _, ?_⟩
  rw [eqv_intD]
  refine ite_f (fun z => nomatch (of_decide_eq_true z : (5 : Int) = 2)) ?_
  refine ⟨shaped_int _, shaped_int _, ?_⟩
  rw [eqv_intD]
  refine ite_f (fun z => nomatch (of_decide_eq_true z : (5 : Int) = 3)) ?_
  refine ⟨shaped_int _, shaped_int _, ?_⟩
  rw [eqv_intD]
  refine ite_f (fun z => nomatch (of_decide_eq_true z : (5 : Int) = 4)) ?_
  refine ⟨shaped_int _, shaped_int _, ?_⟩
  rw [eqv_intD]
  refine ite_t (decide_eq_true rfl) ?_
  exact .inr (row_textN h ⟨rfl, rfl, q⟩)
theorem refused_6n {a b : D} {Q : D → Prop} (h : netB a = false) (q : Q (.str "net")) : f_L_refused [.int 6, a, b] Q := by
  refine o_L_refused ?_
  unfold t_L_refused
  refine seq_gen fun N hN => ?_
  walk_at "DZ"
  refine ⟨shaped_int _, shaped_int _, ?_⟩
  rw [eqv_intD]
  refine ite_f (fun z => nomatch (of_decide_eq_true z : (6 : Int) = 0)) ?_
  refine ⟨shaped_int _, shaped_int _, ?_⟩
  rw [eqv_intD]
  refine ite_f (fun z => nomatch (of_decide_eq_true z : (6 : Int) = 1)) ?_
  refine ⟨shaped_int _, shaped_int _, ?_⟩
  rw [eqv_intD]
  refine ite_f (fun z => nomatch (of_decide_eq_true z : (6 : Int) = 2)) ?_
  refine ⟨shaped_int _, shaped_int _, ?_⟩
  rw [eqv_intD]
  refine ite_f (fun z => nomatch (of_decide_eq_true z : (6 : Int) = 3)) ?_
  refine ⟨shaped_int _, shaped_int _, ?_⟩
  rw [eqv_intD]
  refine ite_f (fun z => nomatch (of_decide_eq_true z : (6 : Int) = 4)) ?_
  refine ⟨shaped_int _, shaped_int _, ?_⟩
  rw [eqv_intD]
  refine ite_f (fun z => nomatch (of_decide_eq_true z : (6 : Int) = 5)) ?_
  exact .inr (times_textN h ⟨rfl, rfl, q⟩)
theorem refused_0k {a b : D} {Q : D → Prop} (h : badK b) (ha : a = .str "g") (q : Q (.str "kind")) : f_L_refused [.int 0, a, b] Q := by
  refine o_L_refused ?_
  unfold t_L_refused
  refine seq_gen fun N hN => ?_
  walk_at "DZ"
  refine ⟨shaped_int _, shaped_int _, ?_⟩
  rw [eqv_intD]
  refine ite_t (decide_eq_true rfl) ?_
  exact .inr (by rw [ha]; exact next_tokensK (z := "g") (by decide) (by decide) h ⟨rfl, rfl, q⟩)
theorem refused_6t {a b : D} {Q : D → Prop} {x : D} {n : Int} (ha : a = .tuple [.int n, x]) (hm : netB a = true) (hn : n ≤ 1000) (h : timesB b n = false) (q : Q (.str "times")) : f_L_refused [.int 6, a, b] Q := by
  refine o_L_refused ?_
  unfold t_L_refused
  refine seq_gen fun N hN => ?_
  walk_at "DZ"
  refine ⟨shaped_int _, shaped_int _, ?_⟩
  rw [eqv_intD]
  refine ite_f (fun z => nomatch (of_decide_eq_true z : (6 : Int) = 0)) ?_
  refine ⟨shaped_int _, shaped_int _, ?_⟩
  rw [eqv_intD]
  refine ite_f (fun z => nomatch (of_decide_eq_true z : (6 : Int) = 1)) ?_
  refine ⟨shaped_int _, shaped_int _, ?_⟩
  rw [eqv_intD]
  refine ite_f (fun z => nomatch (of_decide_eq_true z : (6 : Int) = 2)) ?_
  refine ⟨shaped_int _, shaped_int _, ?_⟩
  rw [eqv_intD]
  refine ite_f (fun z => nomatch (of_decide_eq_true z : (6 : Int) = 3)) ?_
  refine ⟨shaped_int _, shaped_int _, ?_⟩
  rw [eqv_intD]
  refine ite_f (fun z => nomatch (of_decide_eq_true z : (6 : Int) = 4)) ?_
  refine ⟨shaped_int _, shaped_int _, ?_⟩
  rw [eqv_intD]
  refine ite_f (fun z => nomatch (of_decide_eq_true z : (6 : Int) = 5)) ?_
  exact .inr (by subst ha; exact times_textT hm hn h ⟨rfl, rfl, q⟩)
/-! ### the law -/
def prD (x : Str × Str) : D := .tuple [.str x.1, .str x.2]
theorem net_rows_ok {Q : D → Prop} (q : Q (.list (netR.map prD))) : f_L_net_rows [] Q := by
  refine o_L_net_rows ?_
  unfold t_L_net_rows
  iterate 5
    refine seq_gen fun N hN => ?_
    walk_at "DZ"
    subst hN
  refine seq_gen fun N hN => ?_
  walk_at "DZ"
  refine ⟨by decide, by decide, by decide, ?_⟩
  subst hN
  walk_at "DZ"
  exact ⟨by decide, by decide, by decide, q⟩
theorem row_rows_ok {Q : D → Prop} (q : Q (.list (rowR.map prD))) : f_L_row_rows [] Q := by
  refine o_L_row_rows ?_
  unfold t_L_row_rows
  iterate 3
    refine seq_gen fun N hN => ?_
    walk_at "DZ"
    subst hN
  refine seq_gen fun N hN => ?_
  walk_at "DZ"
  refine ⟨by decide, by decide, by decide, ?_⟩
  subst hN
  walk_at "DZ"
  exact ⟨by decide, by decide, by decide, q⟩
theorem times_rows_ok {Q : D → Prop} (q : Q (.list (timR.map prD))) : f_L_times_rows [] Q := by
  refine o_L_times_rows ?_
  unfold t_L_times_rows
  iterate 4
    refine seq_gen fun N hN => ?_
    walk_at "DZ"
    subst hN
  walk_at "DZ"
  exact q
theorem len_app (a b : Str) : (a ++ b).length = a.length + b.length := by show (a.cps ++ b.cps).size = _; rw [Array.size_append]; rfl
theorem check_at {k : Str} {l : List (Str × Str)} {x : Str × Str} {a b : Nat} (h : checkR k l = true) (hx : x ∈ l) (ha : a < 3) (hb : b < 3) : PyData.canLay0 (.str x.2) = true ∧ (rowZ x.1 a b).length ≤ 1000 ∧ ∃ c : Int, toldS k (cutZ (rowZ x.1 a b)) = some (.tuple [.int c, .str x.2]) ∧ colZ (rowZ x.1 a b) (cutZ (rowZ x.1 a b)) = some c := by
  have h := List.all_eq_true.mp h x hx
  rw [Bool.and_eq_true] at h
  obtain ⟨h0, h⟩ := h
  have h := List.all_eq_true.mp (List.all_eq_true.mp h a (List.mem_range.mpr ha)) b (List.mem_range.mpr hb)
  refine ⟨by have := wS_lay (layC_ok h0); unfold wS at this; rwa [SX.S_tl] at this, ?_⟩
  unfold checkZ checkC at h
  rw [Bool.and_eq_true, Nat.ble_eq] at h
  refine ⟨h.1, ?_⟩
  have h := h.2
  split at h
  · rename_i c w2 e
    split at h
    · rename_i c2 e2
      rw [Bool.and_eq_true, decide_eq_true_eq, decide_eq_true_eq] at h
      obtain ⟨rfl, rfl⟩ := h
      exact ⟨c, e, e2⟩
    · cases h
  · cases h
theorem strip_sub {x : Str} {c : Nat} (h : c ∈ tl (Txt.strip x)) : c ∈ tl x := by
  have e : ∃ i j, tl (Txt.strip x) = (x.cps.extract i j).toList := ⟨_, _, congrArg tl (PyProof.Rows.stripBy_eq _ true true x)⟩
  obtain ⟨i, j, e⟩ := e
  rw [e, Array.toList_extract] at h
  unfold List.extract at h
  exact List.mem_of_mem_drop (List.mem_of_mem_take h)
theorem blanks_mem {n c : Nat} (h : c ∈ tl (repS " " n)) : c = 32 := by
  have h : c ∈ (List.replicate n [32]).flatten := h
  obtain ⟨l, h1, h2⟩ := List.mem_flatten.mp h
  rw [List.eq_of_mem_replicate h1] at h2
  simpa using h2
theorem tl_appK (a b : Str) : tl (a ++ b) = tl a ++ tl b := by show (a.cps ++ b.cps).toList = _; rw [Array.toList_append]
theorem row_chars {x : Str} {a b : Nat} (h : layC (tl x) = true) : ∀ c ∈ tl (rowZ x a b), c ≠ 10 ∧ c < 256 := fun c hc => by
  unfold rowZ at hc
  rw [tl_appK, tl_appK] at hc
  rcases List.mem_append.mp hc with hc | hc
  · rcases List.mem_append.mp hc with hc | hc
    · rw [blanks_mem hc]; decide
    · exact layC_ok h c hc
  · rw [blanks_mem hc]; decide
theorem rows_lay : (netR.all fun x => layC (tl x.1)) = true ∧ (rowR.all fun x => layC (tl x.1)) = true ∧ (timR.all fun x => layC (tl x.1)) = true := by decide +kernel
theorem equal_refl {n : Nat} {d : D} {Q : D → Prop} (h1 : okD n d = true) (h2 : PyData.canLay0 d = true) (q : Q (.bool true)) : f_equal n [d, d] Q := ⟨h1, h2, h2, by rw [sq_refl h2]; exact q⟩
theorem okD_tup {n : Nat} {ds : List D} (hl : ds.length ≤ 1000) (h : ∀ d ∈ ds, okD n d = true) : okD (n + 1) (.tuple ds) = true := by
  unfold okD
  rw [Bool.and_eq_true]
  exact ⟨decide_eq_true (by omega), List.all_eq_true.mpr h⟩
theorem lay_seq {ds : List D} (h : ∀ d ∈ ds, PyData.canLay0 d = true) : PyData.canLay0 (.tuple ds) = true ∧ PyData.canLay0 (.list ds) = true := by
  refine ⟨?_, ?_⟩
  · unfold PyData.canLay0; exact canLayAll_of h
  · unfold PyData.canLay0; exact canLayAll_of h
theorem okD_int {n : Nat} (i : Int) : okD (n + 1) (.int i) = true := by unfold okD; rfl
theorem okD_strK {n : Nat} (z : Str) : okD (n + 1) (.str z) = true := by unfold okD; rfl
theorem told_equal {c : Int} {w : Str} {Q : D → Prop} (h : PyData.canLay0 (.str w) = true) (q : Q (.bool true)) : f_equal 8 [.tuple [.int c, .str w], .tuple [.int c, .str w]] Q := by
  refine equal_refl (okD_tup (n := 7) (by show 2 ≤ 1000; decide) fun d hd => ?_) (lay_seq fun d hd => ?_).1 q
  · simp only [List.mem_cons, List.not_mem_nil, or_false] at hd
    rcases hd with rfl | rfl
    · exact okD_int _
    · exact okD_strK _
  · simp only [List.mem_cons, List.not_mem_nil, or_false] at hd
    rcases hd with rfl | rfl
    · rfl
    · exact h
def fineL : List (Str × Str) := [("net", "000006:"), ("net", "2: a - b in -100..-0; b - a in ..100"), ("net", tw12), ("row", ""), ("row", "a = 500" ++ repS ", c = -500" 7), ("times", "c = 1000, a = -1000, b = -0")]
def toldN (y : Str × Str) : Bool := match toldS y.1 y.2 with | some .none => decide (y.1 ∈ (["net", "row", "times"] : List Str)) | _ => false
theorem toldN_ok {y : Str × Str} (h : toldN y = true) : toldS y.1 y.2 = some .none ∧ y.1 ∈ (["net", "row", "times"] : List Str) := by
  unfold toldN at h
  split at h
  · rename_i e
    exact ⟨e, of_decide_eq_true h⟩
  · cases h
theorem fine_ok : fineL.all toldN = true := by decide +kernel
def badL : List D := [.none, .str (repS "a " 301), .str "a\n", .list [.str "a"], .int 5]
theorem bad_ok : badL.all badT = true := by decide +kernel
def otherL : List D := [.none, .int 0, .str "nets", .bool true, .list [.str "net"], .str "times"]
theorem other_ok : ∀ d ∈ otherL, badK d := fun d hd => by
  simp only [otherL, List.mem_cons, List.not_mem_nil, or_false] at hd
  rcases hd with rfl | rfl | rfl | rfl | rfl | rfl
  · exact .inr (.inr rfl)
  · exact .inr (.inr rfl)
  · exact .inl rfl
  · exact .inr (.inr rfl)
  · exact .inr (.inr rfl)
  · exact .inr (.inl rfl)
def noNetL : List D := [.none, .tuple [.int 2], .tuple [.int 0, .tuple []], .tuple [.int 7, .tuple []], .tuple [.int 2, .tuple [.tuple [.int 0, .int 0, .int 1, .int 2]]], .tuple [.int 2, .tuple [.tuple [.int 0, .int 1, .none, .none]]], .list [.int 2, .tuple []], .tuple [.int 2, .tuple [.tuple [.int 0, .int 1, .int 1, .int 101]]]]
theorem noNet_ok : (noNetL.all fun d => !netB d) = true := by decide +kernel
def noRowL : List D := [.none, .list [.tuple [.int 0, .int 1]], .tuple [.tuple [.int 0, .int 501]], .tuple [.tuple [.int 0, .int (-501)]], .tuple [.tuple [.int 6, .int 1]], .tuple [.tuple [.int (-1), .int 1]], .tuple [.tuple [.bool true, .int 1]], .tuple [.tuple [.int 0, .bool true]], .tuple [.tuple [.int 0]], .tuple (List.replicate 9 (.tuple [.int 0, .int 1])), .tuple [.list [.int 0, .int 1]], .tuple [.tuple [.int 0, .none]]]
theorem noRow_ok : (noRowL.all fun d => !newsL d 6 8) = true := by decide +kernel
def noTimesL : List D := [.none, .list [.int 0, .int 1], .tuple [.int 0], .tuple [.int 0, .int 1, .int 2], .tuple [.int 0, .int 1001], .tuple [.int (-1001), .int 0], .tuple [.bool true, .int 0], .tuple [.int 0, .none], .tuple [.str "0", .int 1]]
theorem noTimes_ok : (noTimesL.all fun d => !timesB d 2) = true := by decide +kernel
theorem net2 : netB (.tuple [.int 2, .tuple [.tuple [.int 0, .int 1, .int 1, .int 2]]]) = true := by decide +kernel
theorem pure_law : t_law { nx := fun _ => False, rt := fun d => d = .bool true } (none :: some .strm :: List.replicate (N_law.length - 2) none) := by
  show t_law _ [none, some .strm, none, none, none, none, none, none, none, none, none, none, none, none, none, none, none, none]
  unfold t_law
  refine seq_gen fun N hN => ?_
  walk_at "DZ"
  refine ⟨trivial, pick_ok (ds := [.str "net", .str "row", .str "times"]) (fun z => nomatch z) (by decide) fun d hd => ?_⟩
  obtain ⟨k, rfl, hk⟩ : ∃ k : Str, d = .str k ∧ k ∈ (["net", "row", "times"] : List Str) := by
    simp only [List.mem_cons, List.not_mem_nil, or_false] at hd
    rcases hd with rfl | rfl | rfl <;> exact ⟨_, rfl, by simp⟩
  try dsimp only
  subst hN
  refine seq_gen fun N hN => ?_
  walk_at "DZ"
  have rest : ∀ l : List (Str × Str), l ≠ [] → l.length ≤ 100 → checkR k l = true → (l.all fun x => layC (tl x.1)) = true → N [none, some .strm, some (.dat (.str k)), some (.dat (.list (l.map prD))), none, none, none, none, none, none, none, none, none, none, none, none, none, none] := fun l hne hl hc hlc => by
    subst hN
    refine seq_gen fun N hN => ?_
    walk_at "DZ"
    refine ⟨trivial, pick_ok (ds := l.map prD) (by simpa using hne) (by rw [List.length_map]; omega) fun d hd => ?_⟩
    obtain ⟨x, hx, rfl⟩ := List.mem_map.mp hd
    unfold prD
    try dsimp only
    refine ⟨rfl, ?_⟩
    subst hN
    refine seq_gen fun N hN => ?_
    walk_at "DZ"
    refine ⟨trivial, next_mk (by omega) (by omega) fun a a0 a1 => ?_⟩
    try dsimp only
    obtain ⟨a, rfl⟩ : ∃ n : Nat, a = (n : Int) := ⟨a.toNat, by omega⟩
    have ea : (1 + (a : Int)).toNat = 1 + a := by omega
    have ha : a < 3 := by omega
    have lx : ∀ b : Nat, b < 3 → (repS " " (1 + a)).length + x.1.length ≤ 1000 ∧ (repS " " (1 + a) ++ x.1).length + (repS " " b).length ≤ 1000 := fun b hb => by
      have := (check_at hc hx ha hb).2.1
      unfold rowZ at this
      rw [len_app] at this
      have e := len_app (repS " " (1 + a)) x.1
      exact ⟨by omega, this⟩
    refine ⟨by decide, by omega, by rw [ea]; show 1 * (1 + a) ≤ _; omega, ?_⟩
    rw [ea]
    refine ⟨by have := (lx 0 (by decide)).1; unfold repS at this; omega, trivial, next_mk (by omega) (by omega) fun b b0 b1 => ?_⟩
    try dsimp only
    obtain ⟨b, rfl⟩ : ∃ n : Nat, b = (n : Int) := ⟨b.toNat, by omega⟩
    have hb : b < 3 := by omega
    rw [Int.toNat_natCast]
    refine ⟨by decide, by omega, by show 1 * b ≤ _; omega, by have := (lx b hb).2; unfold repS at this; omega, ?_⟩
    obtain ⟨lw, hlr, c, ht, hcol⟩ := check_at hc hx ha hb
    have hch := row_chars (a := a) (b := b) (List.all_eq_true.mp hlc x hx)
    show N [none, some .strm, some (.dat (.str k)), some (.dat (.list (l.map prD))), some (.dat (.str (rowZ x.1 a b))), none, none, none, none, none, none, none, none, none, none, none, some (.dat (.str x.2)), none]
    generalize rowZ x.1 a b = rz at hlr ht hcol hch ⊢
    subst hN
    refine seq_gen fun N hN => ?_
    walk_at "DZ"
    refine ⟨by show rz.length + (rz.length + 1) * 0 ≤ _; omega, ?_⟩
    rw [cutZ_eq]
    have hlt : (cutZ rz).length ≤ 1000 := by
      unfold cutZ
      rw [SX.S_len]
      have := List.length_filter_le (fun c => c != 64) (tl rz)
      have e : (tl rz).length = rz.length := Array.length_toList
      omega
    generalize cutZ rz = tz at ht hcol hlt ⊢
    subst hN
    refine seq_gen fun N hN => ?_
    walk_at "DZ"
    refine ⟨by omega, ?_⟩
    refine ⟨Nat.le_trans (fact_strip rz) (by omega), ?_⟩
    have go : N [none, some .strm, some (.dat (.str k)), some (.dat (.list (l.map prD))), some (.dat (.str rz)), some (.dat (.str tz)), some (.dat (.int c)), none, none, none, none, none, none, none, none, none, some (.dat (.str x.2)), none] := by
      subst hN
      refine seq_gen fun N hN => ?_
      walk_at "DZ"
      refine L_told_ok hk ht ?_
      try dsimp only
      refine told_equal lw ?_
      try dsimp only
      refine ite_f (fun z => nomatch z) ?_
      subst hN
      refine seq_gen fun N hN => ?_
      walk_at "DZ"
      refine ⟨by decide, by decide, by decide, by decide, by decide, by decide, by decide, by decide, ?_⟩
      show N [none, some .strm, some (.dat (.str k)), some (.dat (.list (l.map prD))), some (.dat (.str rz)), some (.dat (.str tz)), some (.dat (.int c)), some (.dat (.list (fineL.map prD))), none, none, none, none, none, none, none, none, some (.dat (.str x.2)), none]
      subst hN
      refine seq_gen fun N hN => ?_
      walk_at "DZ"
      refine ⟨by decide, ?_⟩
      refine lc_list (l := fineL) prD (fun _ => PyData.none) (fun _ => true) (fun y hy R N' q1 _ => ?_) ?_
      · unfold prD
        walk_at "DZ"
        refine ⟨rfl, ?_⟩
        try dsimp only
        obtain ⟨g1, g2⟩ := toldN_ok (List.all_eq_true.mp fine_ok y hy)
        exact L_told_ok g2 g1 (q1 rfl)
      · rw [filt_all]
        refine ⟨by decide, by decide, by decide, by decide, by decide, ite_f (by decide) ?_⟩
        subst hN
        refine seq_gen fun N hN => ?_
        walk_at "DZ"
        refine ⟨trivial, by decide, by decide, by decide, pick_ok (ds := badL) (fun z => nomatch z) (by decide) fun v hv => ?_⟩
        have hv := List.all_eq_true.mp bad_ok v hv
        try dsimp only
        subst hN
        refine seq_gen fun N hN => ?_
        walk_at "DZ"
        refine ⟨trivial, pick_ok (ds := otherL) (fun z => nomatch z) (by decide) fun o ho => ?_⟩
        have ho := other_ok o ho
        try dsimp only
        subst hN
        refine seq_gen fun N hN => ?_
        walk_at "DZ"
        refine ⟨trivial, pick_ok (ds := noNetL) (fun z => nomatch z) (by decide) fun m hm => ?_⟩
        have hm := List.all_eq_true.mp noNet_ok m hm
        rw [Bool.not_eq_true'] at hm
        try dsimp only
        subst hN
        refine seq_gen fun N hN => ?_
        walk_at "DZ"
        subst hN
        refine seq_gen fun N hN => ?_
        walk_at "DZ"
        refine ⟨trivial, (fun z => nomatch z), by decide, by decide, by decide, pick_ok (ds := noRowL) (fun z => nomatch z) (by decide) fun nr hnr => ?_⟩
        have hnr := List.all_eq_true.mp noRow_ok nr hnr
        rw [Bool.not_eq_true'] at hnr
        try dsimp only
        subst hN
        refine seq_gen fun N hN => ?_
        walk_at "DZ"
        refine ⟨trivial, pick_ok (ds := noTimesL) (fun z => nomatch z) (by decide) fun nt hnt => ?_⟩
        have hnt := List.all_eq_true.mp noTimes_ok nt hnt
        rw [Bool.not_eq_true'] at hnt
        try dsimp only
        subst hN
        refine seq_gen fun N hN => ?_
        walk_at "DZ"
        refine refused_0t hv ?_
        try dsimp only
        refine refused_0k ho rfl ?_
        try dsimp only
        refine refused_1 hv ?_
        try dsimp only
        refine refused_2n hm ?_
        try dsimp only
        refine refused_2t net2 hv ?_
        try dsimp only
        refine refused_3n hm ?_
        try dsimp only
        refine refused_3t net2 hv ?_
        try dsimp only
        subst hN
        refine seq_gen fun N hN => ?_
        walk_at "DZ"
        refine refused_4 hm ?_
        try dsimp only
        refine refused_5 hnr ?_
        try dsimp only
        refine refused_6n hm ?_
        try dsimp only
        refine refused_6t rfl net2 (by decide) hnt ?_
        try dsimp only
        subst hN
        walk_at "DZ"
        refine ⟨by decide +kernel, by decide +kernel, ite_t (by decide +kernel) ?_⟩
        exact ⟨by decide +kernel, by decide +kernel, congrArg PyData.bool (by decide +kernel)⟩
    unfold colZ at hcol
    cases hla : (Txt.strip rz).cps.toList.getLast? with
    | none => rw [hla] at hcol; cases hcol
    | some ch =>
      rw [hla] at hcol
      obtain ⟨pre, epre⟩ := List.getLast?_eq_some_iff.mp hla
      have hcm : ch ∈ tl rz := strip_sub (show ch ∈ (Txt.strip rz).cps.toList by rw [epre]; simp)
      rw [epre, atI_last]
      dsimp only at hcol ⊢
      have l1 : PyData.canLay0 (.str ⟨#[ch]⟩) = true := wS_lay (w := [ch]) fun c hc => by
        have : c = ch := by simpa using hc
        subst this
        exact hch c hcm
      refine ⟨shaped_str l1, shaped_str (lay75 _ (by simp)), ?_⟩
      rw [eqv_str]
      by_cases c64 : ch = 64
      · rw [if_pos c64] at hcol
        cases hcol
        refine ite_t (decide_eq_true (by rw [c64]; decide)) ?_
        exact ⟨by omega, go⟩
      · rw [if_neg c64] at hcol
        refine ite_f (fun w => c64 ?_) ?_
        · have := congrArg tl (of_decide_eq_true w)
          have e : ([ch] : List Nat) = [64] := this
          simpa using e
        · split at hcol
          · rename_i i tail ho
            cases hcol
            first
              | (rw [ho]; exact go)
              | exact go
          · cases hcol
  refine ⟨by decide, by decide, ?_⟩
  refine net_rows_ok (row_rows_ok (times_rows_ok ?_))
  try dsimp only
  simp only [List.mem_cons, List.not_mem_nil, or_false] at hk
  rcases hk with rfl | rfl | rfl
  · exact rest netR (by simp [netR, nr0]) (by decide) netR_ok rows_lay.1
  · exact rest rowR (by simp [rowR]) (by decide) rowR_ok rows_lay.2.1
  · exact rest timR (by simp [timR]) (by decide) timR_ok rows_lay.2.2
structure Txt (K : PySem.W.Frag) (w : World) (mg : Str → Option Value) : Prop where
  b_abs : mg "abs" = none
  b_all : mg "all" = none
  b_bool : mg "bool" = none
  b_enumerate : mg "enumerate" = none
  b_int : mg "int" = none
  b_isinstance : mg "isinstance" = none
  b_len : mg "len" = none
  b_list : mg "list" = none
  b_range : mg "range" = none
  b_str : mg "str" = none
  b_tuple : mg "tuple" = none
  c_DIGITS : ∃ t, mg "DIGITS" = some (.str "0123456789" t)
  c_END : ∃ t, mg "END" = some (.str "end" t)
  c_EVENT : ∃ t, mg "EVENT" = some (.str "event" t)
  c_EVENT_LETTERS : ∃ t, mg "EVENT_LETTERS" = some (.str "abcdef" t)
  c_GREATEST_NEWS_TIME : ∃ t, mg "GREATEST_NEWS_TIME" = some (.int 500 t)
  c_GREATEST_SIDE : ∃ t, mg "GREATEST_SIDE" = some (.int 100 t)
  c_GREATEST_TIME : ∃ t, mg "GREATEST_TIME" = some (.int 1000 t)
  c_LETTERS : ∃ t, mg "LETTERS" = some (.str "abcdefghijklmnopqrstuvwxyz" t)
  c_LONGEST_TEXT : ∃ t, mg "LONGEST_TEXT" = some (.int 600 t)
  c_MOST_DIGITS : ∃ t, mg "MOST_DIGITS" = some (.int 6 t)
  c_MOST_EVENTS : ∃ t, mg "MOST_EVENTS" = some (.int 6 t)
  c_MOST_NEWS : ∃ t, mg "MOST_NEWS" = some (.int 8 t)
  c_MOST_RULES : ∃ t, mg "MOST_RULES" = some (.int 12 t)
  c_NET : ∃ t, mg "NET" = some (.str "net" t)
  c_NUMBER : ∃ t, mg "NUMBER" = some (.str "number" t)
  c_POINTS : ∃ t, mg "POINTS" = some (.str ".." t)
  c_ROW : ∃ t, mg "ROW" = some (.str "row" t)
  c_SHORT_SIGNS : ∃ t, mg "SHORT_SIGNS" = some (.str ":;,=-" t)
  c_SIGN : ∃ t, mg "SIGN" = some (.str "sign" t)
  c_WORD : ∃ t, mg "WORD" = some (.str "word" t)
  k_COURSES : Tab K w mg "COURSES" TB_COURSES
section
variable {P : Program} {w : World} {K : PySem.W.Frag} {mg : Str → Option Value} {base : Heap}
theorem fx_L_stream (d : Df K mg "_law_stream" (top 73)) (T : Txt K w mg)  : Fx P w K mg base 1 "_law_stream" ["script"] (spStream K) :=
  fx_stream d sc_L_stream bb_L_stream (fun f cdv A outer s H Q E hr => pss_one (ps_ret (pe_lst (pa_cons (pe_callTy call_list_of (by rfl) T.b_list bt_list (pa_cons (pv 0) pa_nil)) (pa_cons pe_int (pa_cons pe_int pa_nil))))))
theorem fx_L_next (d : Df K mg "_law_next" (top 74)) (T : Txt K w mg)  : Fx P w K mg base 1 "_law_next" ["stream", "many"] (spS K 1 f_next) :=
  fx_next d sc_L_next bb_L_next (fun f cdv A outer s H Q E hr => (pss_cons (ps_if (pt_cmpR op_eq (pe_ix ix_list (pv 0) pe_int (fun _ _ => rfl)) pe_int (nomark _))
   (pss_cons (ps_set (i := 2) sc_L_next.nd rfl (.inl rfl) (pe_ix ix_list (pv 0) pe_int (fun _ _ => rfl)))
   (pss_cons (ps_set (i := 3) sc_L_next.nd rfl (.inl rfl) (pe_op op_add pe_int (pv 2)))
   (pss_cons (ps_if (pt_cmpR op_lt (pv 2) (pe_callB call_len_seq (by rfl) T.b_len PySem.boot_len (pa_cons (pe_ix ix_list (pv 0) pe_int (fun _ _ => rfl)) pa_nil)) (nomark _))
     (pss_one (ps_set (i := 3) sc_L_next.nd rfl (.inl rfl) (pe_callB call_abs (by rfl) T.b_abs bt_abs (pa_cons (pe_ix ix_list (pe_ix ix_list (pv 0) pe_int (fun _ _ => rfl)) (pv 2) (fun _ _ => rfl)) pa_nil)))) pss_nil)
   (pss_cons (ps_if (pt_cmpR op_lt (pv 3) (pe_op op_pow pe_int pe_int) (nomark _))
     (pss_cons (ps_set (i := 3) sc_L_next.nd rfl (.inl rfl) (pe_op op_mod (pe_callTy call_int1 (by rfl) T.b_int bt_int (pa_cons (pe_op op_add (pe_op op_add (pe_op op_mul (pv 3) pe_int) (pe_op op_mul (pv 2) pe_int)) pe_int) pa_nil)) pe_int))
     (pss_one (ps_set (i := 3) sc_L_next.nd rfl (.inl rfl) (pe_op op_add (pe_op op_mul (pe_op op_mod (pe_callTy call_int1 (by rfl) T.b_int bt_int (pa_cons (pe_op op_add (pe_op op_mul (pv 3) pe_int) pe_int) pa_nil)) pe_int) pe_int) (pv 3))))) pss_nil)
   (pss_cons (ps_asg (pv 3) (pg_sub (pv 0) pe_int set_list)) (pss_one (ps_asg (pe_op op_add (pv 2) pe_int) (pg_sub (pv 0) pe_int set_list)))))))) pss_nil)
   (pss_cons (ps_set (i := 4) sc_L_next.nd rfl (.inl rfl) (pe_op op_mod (pe_callTy call_int1 (by rfl) T.b_int bt_int (pa_cons (pe_ix ix_list (pv 0) pe_int (fun _ _ => rfl)) pa_nil)) (pv 1)))
   (pss_cons (ps_asg (pe_op op_fdiv (pe_ix ix_list (pv 0) pe_int (fun _ _ => rfl)) (pv 1)) (pg_sub (pv 0) pe_int set_list)) (pss_one (ps_ret (pv 4)))))))
theorem fx_L_pick (d : Df K mg "_law_pick" (top 77)) (T : Txt K w mg) (G_L_next : Fx P w K mg base 1 "_law_next" ["stream", "many"] (spS K 1 f_next)) : Fx P w K mg base 2 "_law_pick" ["stream", "rows"] (spS K 1 f_L_pick) :=
  fx_ofS d sc_L_pick bb_L_pick rfl (by decide) fun f cdv A outer s H Q E hr => ⟨_,
  (pss_one (ps_ret (pe_ix ix_seq (pv 1) (pe_fx G_L_next (hr.mono (by decide)) (by rfl) (pa_cons (pv 0) (pa_cons (pe_callB call_len_seq (by rfl) T.b_len PySem.boot_len (pa_cons (pv 1) pa_nil)) pa_nil))) (fun _ _ => rfl)))),
  (ss_ret (se_op s2_ix (se_var 1) (se_callS 0 (sa_cons (se_cb sc_len (sa_cons (se_var 1) sa_nil)) sa_nil))))⟩
theorem fx_L_is_integer (d : Df K mg "_law_is_integer" (top 75)) (T : Txt K w mg)  : Fx P w K mg base 1 "_law_is_integer" ["actual"] (spD K 1 f_L_is_integer) :=
  fx_of d sc_L_is_integer bb_L_is_integer rfl fun f cdv A outer s H Q E hr => ⟨_,
  (pss_one (ps_ret (pe_and (pe_callB call_isi2 (by rfl) T.b_isinstance bt_isi (pa_cons (pv 0) (pa_cons (pe_bltn (v := .ty "int") (by rfl) T.b_int bt_int rfl) pa_nil))) (pe_one (pe_not (pe_callB call_isi2 (by rfl) T.b_isinstance bt_isi (pa_cons (pv 0) (pa_cons (pe_bltn (v := .ty "bool") (by rfl) T.b_bool bt_bool rfl) pa_nil)))))))),
  (ss_ret (se_and (se_isi ty_int (se_var 0)) (se_not (se_isi ty_bool (se_var 0)))))⟩
theorem step_L_equal (k n : Nat) (d : Df K mg "_law_equal" (top 76)) (T : Txt K w mg) (G_L_is_integer : Fx P w K mg base 1 "_law_is_integer" ["actual"] (spD K 1 f_L_is_integer)) (G_L_equal : Fx P w K mg base (k + 1) "_law_equal" ["actual", "due"] (spD K 2 (f_equal n))) : Fx P w K mg base (k + 2) "_law_equal" ["actual", "due"] (spD K 2 (bodyD N_L_equal.length 2 (t_L_equal n))) :=
  fx_of d sc_L_equal bb_L_equal rfl fun f cdv A outer s H Q E hr => ⟨_,
  (pss_cons (ps_if (pt_cmpR op_isN (pv 1) pe_non (nomark _))
  (pss_one (ps_ret (pe_cmpR op_isN (pv 0) pe_non (nomark _))))
  pss_nil)
  (pss_cons (ps_if (pt_truth (pe_callB call_isi2 (by rfl) T.b_isinstance bt_isi (pa_cons (pv 1) (pa_cons (pe_bltn (v := .ty "bool") (by rfl) T.b_bool bt_bool rfl) pa_nil))) (by intro _; rfl))
  (pss_one (ps_ret (pe_and (pe_callB call_isi2 (by rfl) T.b_isinstance bt_isi (pa_cons (pv 0) (pa_cons (pe_bltn (v := .ty "bool") (by rfl) T.b_bool bt_bool rfl) pa_nil))) (pe_one (pe_cmpR (op_eqD hr.units) (pv 0) (pv 1) (nomark _))))))
  pss_nil)
  (pss_cons (ps_if (pt_truth (pe_callB call_isi2 (by rfl) T.b_isinstance bt_isi (pa_cons (pv 1) (pa_cons (pe_bltn (v := .ty "int") (by rfl) T.b_int bt_int rfl) pa_nil))) (by intro _; rfl))
  (pss_one (ps_ret (pe_and (pe_fx G_L_is_integer (hr.mono (by omega)) (by rfl) (pa_cons (pv 0) pa_nil)) (pe_one (pe_cmpR (op_eqD hr.units) (pv 0) (pv 1) (nomark _))))))
  pss_nil)
  (pss_cons (ps_if (pt_truth (pe_callB call_isi2 (by rfl) T.b_isinstance bt_isi (pa_cons (pv 1) (pa_cons (pe_bltn (v := .ty "str") (by rfl) T.b_str bt_str rfl) pa_nil))) (by intro _; rfl))
  (pss_one (ps_ret (pe_and (pe_callB call_isi2 (by rfl) T.b_isinstance bt_isi (pa_cons (pv 0) (pa_cons (pe_bltn (v := .ty "str") (by rfl) T.b_str bt_str rfl) pa_nil))) (pe_one (pe_cmpR (op_eqD hr.units) (pv 0) (pv 1) (nomark _))))))
  pss_nil)
  (pss_cons (ps_if (PW.pt (pw_and (pt_truth (pe_callB call_isi2 (by rfl) T.b_isinstance bt_isi (pa_cons (pv 1) (pa_cons (pe_bltn (v := .ty "tuple") (by rfl) T.b_tuple bt_tuple rfl) pa_nil))) (by intro _; rfl)) (pw_and1 (pt_not (pt_truth (pe_callB call_isi2 (by rfl) T.b_isinstance bt_isi (pa_cons (pv 0) (pa_cons (pe_bltn (v := .ty "tuple") (by rfl) T.b_tuple bt_tuple rfl) pa_nil))) (by intro _; rfl))))))
  (pss_one (ps_ret pe_bl))
  pss_nil)
  (pss_cons (ps_if (PW.pt (pw_and (pt_truth (pe_callB call_isi2 (by rfl) T.b_isinstance bt_isi (pa_cons (pv 1) (pa_cons (pe_bltn (v := .ty "list") (by rfl) T.b_list bt_list rfl) pa_nil))) (by intro _; rfl)) (pw_and1 (pt_not (pt_truth (pe_callB call_isi2 (by rfl) T.b_isinstance bt_isi (pa_cons (pv 0) (pa_cons (pe_bltn (v := .ty "list") (by rfl) T.b_list bt_list rfl) pa_nil))) (by intro _; rfl))))))
  (pss_one (ps_ret pe_bl))
  pss_nil)
  (pss_cons (ps_if (pt_cmpR (op_neD hr.units) (pe_callB call_len_seq (by rfl) T.b_len PySem.boot_len (pa_cons (pv 0) pa_nil)) (pe_callB call_len_seq (by rfl) T.b_len PySem.boot_len (pa_cons (pv 1) pa_nil)) (nomark _))
  (pss_one (ps_ret pe_bl))
  pss_nil)
  (pss_one (ps_ret (pe_callB (cr_all rfl) (by rfl) T.b_all bt_all (pa_cons (pe_lc (own := [("at", 2)]) (g := (gName 2)) rfl sc_L_equal.nd (pi_range1 (by rfl) T.b_range (pa_cons (pe_callB call_len_seq (by rfl) T.b_len PySem.boot_len (pa_cons (pv 1) pa_nil)) pa_nil)) (blkOk_by (own := [("at", 2)]) (N := N_L_equal) (sc := defScope (top 76)) (by decide +kernel)) (fun _ _ _ _ _ => (pg_name (i := 2) sc_L_equal.nd rfl (by first | exact .inl rfl | exact .inr rfl))) (fun _ _ _ _ _ => pts_nil) (fun _ _ _ _ _ => (pe_fx G_L_equal (hr.mono (by omega)) (by rfl) (pa_cons (pe_ix ix_seq (pv 0) (pv 2) (fun _ _ => rfl)) (pa_cons (pe_ix ix_seq (pv 1) (pv 2) (fun _ _ => rfl)) pa_nil))))) pa_nil))))))))))),
  (ss_seq (ss_if (st_test (se_op s2_isN (se_var 1) se_non))
  (ss_ret (se_op s2_isN (se_var 0) se_non))
  ss_next)
  (ss_seq (ss_if (st_truth (se_isi ty_bool (se_var 1)))
  (ss_ret (se_and (se_isi ty_bool (se_var 0)) (se_op s2_eq (se_var 0) (se_var 1))))
  ss_next)
  (ss_seq (ss_if (st_truth (se_isi ty_int (se_var 1)))
  (ss_ret (se_and (se_call (sa_cons (se_var 0) sa_nil)) (se_op s2_eq (se_var 0) (se_var 1))))
  ss_next)
  (ss_seq (ss_if (st_truth (se_isi ty_str (se_var 1)))
  (ss_ret (se_and (se_isi ty_str (se_var 0)) (se_op s2_eq (se_var 0) (se_var 1))))
  ss_next)
  (ss_seq (ss_if (st_and (st_truth (se_isi ty_tuple (se_var 1))) (st_not (st_truth (se_isi ty_tuple (se_var 0)))))
  (ss_ret se_bl)
  ss_next)
  (ss_seq (ss_if (st_and (st_truth (se_isi ty_list (se_var 1))) (st_not (st_truth (se_isi ty_list (se_var 0)))))
  (ss_ret se_bl)
  ss_next)
  (ss_seq (ss_if (st_test (se_op s2_ne (se_cb sc_len (sa_cons (se_var 0) sa_nil)) (se_cb sc_len (sa_cons (se_var 1) sa_nil))))
  (ss_ret se_bl)
  ss_next)
  (ss_ret (se_cb sc_all (sa_cons (se_own (so_lc (vs := [2]) (si_range1 (sa_cons (se_cb sc_len (sa_cons (se_var 1) sa_nil)) sa_nil)) (sg_name 2) st_yes (se_call (sa_cons (se_op s2_ix (se_var 0) (se_var 2)) (sa_cons (se_op s2_ix (se_var 1) (se_var 2)) sa_nil))))) sa_nil))))))))))⟩
theorem fx_L_equal (d : Df K mg "_law_equal" (top 76)) (T : Txt K w mg) (G_L_is_integer : Fx P w K mg base 1 "_law_is_integer" ["actual"] (spD K 1 f_L_is_integer)) : Fx P w K mg base 9 "_law_equal" ["actual", "due"] (spD K 2 (f_equal 8)) :=
  fx_equal d bb_L_equal rfl (fun k n G => step_L_equal k n d T G_L_is_integer G) t_equal_ok 8
theorem fx_check_text (d : Df K mg "check_text" (top 39)) (T : Txt K w mg)  : Fx P w K mg base 3 "check_text" ["text"] (spD K 1 f_check_text) :=
  fx_of d sc_check_text bb_check_text rfl fun f cdv A outer s H Q E hr => ⟨_,
  (pss_one (ps_if (PW.pt (pw_or (pt_not (pt_truth (pe_callB call_isi2 (by rfl) T.b_isinstance bt_isi (pa_cons (pv 0) (pa_cons (pe_bltn (v := .ty "str") (by rfl) T.b_str bt_str rfl) pa_nil))) (by intro _; rfl))) (pw_or (pt_cmpR op_gt (pe_callB call_lenS (by rfl) T.b_len PySem.boot_len (pa_cons (pv 0) pa_nil)) (pe_gint T.c_LONGEST_TEXT (by rfl)) (nomark _)) (pw_or1 (pt_cmpR op_inS pe_str (pv 0) (by rfl))))))
  (pss_one ps_never)
  pss_nil)),
  (ss_if (st_or (st_not (st_truth (se_isi ty_str (se_var 0)))) (st_or (st_test (se_op s2_gt (se_cb sc_lenS (sa_cons (se_var 0) sa_nil)) se_int)) (st_test (se_op s2_inS se_str (se_var 0)))))
  ss_never
  ss_next)⟩
theorem fxX_check_text (G0 : Fx P w K mg base 3 "check_text" ["text"] (spD K 1 f_check_text)) (d : Df K mg "check_text" (top 39)) (T : Txt K w mg)   {C0 : Addr} (X_0 : XC P w K mg base 0 C0) {C3 : Addr} (X_3 : XC3 P w K mg base C3) : FxX P w K mg base 3 "check_text" ["text"] 1 f_check_text (fX_check_text) :=
  fx_ofX G0 d sc_check_text bb_check_text rfl fun f cdv A outer s H E hr => ⟨_,
  by have tk := takes_of (X := cxOf (L2.CX P w) P w K mg base N_check_text "check_text" (defScope (top 39)) f cdv A outer s H E) (E := E) rfl rfl rfl rfl; have po := passes_of (X := cxOf (L2.CX P w) P w K mg base N_check_text "check_text" (defScope (top 39)) f cdv A outer s H E) rfl; exact (pss_one (ps_if (PT.nox (PW.pt (pw_or (pt_not (pt_truth (pe_callB call_isi2 (by rfl) T.b_isinstance bt_isi (pa_cons (pv 0) (pa_cons (pe_bltn (v := .ty "str") (by rfl) T.b_str bt_str rfl) pa_nil))) (by intro _; rfl))) (pw_or (pt_cmpR op_gt (pe_callB call_lenS (by rfl) T.b_len PySem.boot_len (pa_cons (pv 0) pa_nil)) (pe_gint T.c_LONGEST_TEXT (by rfl)) (nomark _)) (pw_or1 (pt_cmpR op_inS pe_str (pv 0) (by rfl)))))))
  (pss_one (ps_raise1 (c := 0) X_0 rfl tk (hr.mono (by decide)) (by rfl) pe_str))
  pss_nil)),
  fun x => (ssg_if cx1_kept (stg_of (st_or (st_not (st_truth (se_isi ty_str (se_var 0)))) (st_or (st_test (se_op s2_gt (se_cb sc_lenS (sa_cons (se_var 0) sa_nil)) se_int)) (st_test (se_op s2_inS se_str (se_var 0))))))
  (ssg_raise (c := 0) X_0 se_str)
  (ssg_of ss_next))⟩
theorem fx_possible_at (d : Df K mg "possible_at" (top 50)) (T : Txt K w mg)  : Fx P w K mg base 1 "possible_at" ["place"] (spD K 1 f_possible_at) :=
  fx_of d sc_possible_at bb_possible_at rfl fun f cdv A outer s H Q E hr => ⟨_,
  (pss_one (ps_ret (pe_lc (own := [("words", 1), ("_", 2)]) (g := (gSq K 2 (gCons (gName 1) (gCons (gName 2) gNil)))) rfl sc_possible_at.nd (pi_seq (pe_cd T.k_COURSES (by rfl) (pv 0) (fun _ _ => rfl))) (blkOk_by (own := [("words", 1), ("_", 2)]) (N := N_possible_at) (sc := defScope (top 50)) (by decide +kernel)) (fun _ _ _ _ _ => (pg_sq rfl (pgs_cons (pg_name (i := 1) sc_possible_at.nd rfl (by first | exact .inl rfl | exact .inr rfl)) (pgs_cons (pg_name (i := 2) sc_possible_at.nd rfl (by first | exact .inl rfl | exact .inr rfl)) pgs_nil)))) (fun _ _ _ _ _ => pts_nil) (fun _ _ _ _ _ => (pv 1))))),
  (ss_ret (se_own (so_lc (vs := [1, 2]) (si_seq (se_cd (se_var 0))) (sg_tup (sgs_cons (sg_name 1) (sgs_cons (sg_name 2) sgs_nil))) st_yes (se_var 1))))⟩
theorem fx_words_for (d : Df K mg "words_for" (top 48)) (T : Txt K w mg)  : Fx P w K mg base 1 "words_for" ["token"] (spD K 1 f_words_for) :=
  fx_of d sc_words_for bb_words_for rfl fun f cdv A outer s H Q E hr => ⟨_,
  (pss_cons (ps_asg (pv 0) (pg_sq rfl (pgs_cons (pg_name (i := 1) sc_words_for.nd rfl (by first | exact .inl rfl | exact .inr rfl)) (pgs_cons (pg_name (i := 2) sc_words_for.nd rfl (by first | exact .inl rfl | exact .inr rfl)) (pgs_cons (pg_name (i := 3) sc_words_for.nd rfl (by first | exact .inl rfl | exact .inr rfl)) pgs_nil)))))
  (pss_cons (ps_if (pt_cmpR (op_eqD hr.units) (pv 1) (pe_gstr T.c_EVENT (by rfl)) (nomark _))
  (pss_one (ps_ret pe_str))
  pss_nil)
  (pss_cons (ps_if (pt_cmpR (op_eqD hr.units) (pv 1) (pe_gstr T.c_NUMBER (by rfl)) (nomark _))
  (pss_one (ps_ret pe_str))
  pss_nil)
  (pss_cons (ps_if (pt_cmpR (op_eqD hr.units) (pv 1) (pe_gstr T.c_SIGN (by rfl)) (nomark _))
  (pss_one (ps_ret (pe_joined (PJ.cons pe_str (PJ.cons (pe_fmt (pv 2)) (PJ.cons pe_str PJ.nil))))))
  pss_nil)
  (pss_one (ps_ret (pe_ifExp (pt_cmpR (op_eqD hr.units) (pv 1) (pe_gstr T.c_END (by rfl)) (nomark _)) pe_str (pv 2)))))))),
  (ss_seq (ss_asg (vs := [1, 2, 3]) (se_var 0) (sg_tup (sgs_cons (sg_name 1) (sgs_cons (sg_name 2) (sgs_cons (sg_name 3) sgs_nil)))))
  (ss_seq (ss_if (st_test (se_op s2_eq (se_var 1) se_str))
  (ss_ret se_str)
  ss_next)
  (ss_seq (ss_if (st_test (se_op s2_eq (se_var 1) se_str))
  (ss_ret se_str)
  ss_next)
  (ss_seq (ss_if (st_test (se_op s2_eq (se_var 1) se_str))
  (ss_ret (se_js (SEs.cons se_str (SEs.cons (se_fmt (se_var 2)) (SEs.cons se_str SEs.nil))) Str.empty))
  ss_next)
  (ss_ret (se_if (st_test (se_op s2_eq (se_var 1) se_str)) se_str (se_var 2)))))))⟩
theorem fx_listed (d : Df K mg "listed" (top 49)) (T : Txt K w mg)  : Fx P w K mg base 1 "listed" ["words"] (spD K 1 f_listed) :=
  fx_of d sc_listed bb_listed rfl fun f cdv A outer s H Q E hr => ⟨_,
  (pss_cons (ps_if (pt_cmpR (op_eqD hr.units) (pe_callB call_lenS (by rfl) T.b_len PySem.boot_len (pa_cons (pv 0) pa_nil)) pe_int (nomark _))
  (pss_one (ps_ret (pe_ix ix_seq (pv 0) pe_int (fun _ _ => rfl))))
  pss_nil)
  (pss_one (ps_ret (pe_op op_addS (pe_op op_addS (pe_m1 PySem.F.slot_str_join PySem.F.type_str_join mt_join pe_str (pe_slice sl_anyS (pv 0) po_none (po_some (pe_un un_neg pe_int)))) pe_str) (pe_ix ix_seq (pv 0) (pe_un un_neg pe_int) (fun _ _ => rfl)))))),
  (ss_seq (ss_if (st_test (se_op s2_eq (se_cb sc_lenS (sa_cons (se_var 0) sa_nil)) se_int))
  (ss_ret (se_op s2_ixS (se_var 0) se_int))
  ss_next)
  (ss_ret (se_op s2_addS (se_op s2_addS (se_tm sm_join se_str (se_slS (se_var 0) sop_none (sop_some (se_un s1_neg se_int)))) se_str) (se_op s2_ixS (se_var 0) (se_un s1_neg se_int)))))⟩
theorem fx_place_behind (d : Df K mg "place_behind" (top 51)) (T : Txt K w mg) (G_words_for : Fx P w K mg base 1 "words_for" ["token"] (spD K 1 f_words_for)) (G_listed : Fx P w K mg base 1 "listed" ["words"] (spD K 1 f_listed)) (G_possible_at : Fx P w K mg base 1 "possible_at" ["place"] (spD K 1 f_possible_at)) : Fx P w K mg base 3 "place_behind" ["place", "token"] (spD K 2 f_place_behind) :=
  fx_of d sc_place_behind bb_place_behind rfl fun f cdv A outer s H Q E hr => ⟨_,
  (pss_cons (ps_for PassesOwn.never rfl (pi_seq (pe_cd T.k_COURSES (by rfl) (pv 0) (fun _ _ => rfl))) (pg_sq rfl (pgs_cons (pg_name (i := 2) sc_place_behind.nd rfl (by first | exact .inl rfl | exact .inr rfl)) (pgs_cons (pg_name (i := 3) sc_place_behind.nd rfl (by first | exact .inl rfl | exact .inr rfl)) pgs_nil)))
  (pss_one (ps_if (pt_cmpR (op_eqD hr.units) (pv 2) (pe_fx G_words_for (hr.mono (by decide)) (by rfl) (pa_cons (pv 1) pa_nil)) (nomark _))
  (pss_one (ps_ret (pv 3)))
  pss_nil)))
  (pss_one ps_never)),
  (ss_seq (ss_for (vs := [2, 3]) (si_seq (se_cd (se_var 0))) (sg_tup (sgs_cons (sg_name 2) (sgs_cons (sg_name 3) sgs_nil)))
  (ss_if (st_test (se_op s2_eq (se_var 2) (se_call (sa_cons (se_var 1) sa_nil))))
  (ss_ret (se_var 3))
  ss_next))
  ss_never)⟩
theorem fxX_place_behind (G0 : Fx P w K mg base 3 "place_behind" ["place", "token"] (spD K 2 f_place_behind)) (d : Df K mg "place_behind" (top 51)) (T : Txt K w mg) (G_words_for : Fx P w K mg base 1 "words_for" ["token"] (spD K 1 f_words_for)) (G_listed : Fx P w K mg base 1 "listed" ["words"] (spD K 1 f_listed)) (G_possible_at : Fx P w K mg base 1 "possible_at" ["place"] (spD K 1 f_possible_at))  {C0 : Addr} (X_0 : XC P w K mg base 0 C0) {C3 : Addr} (X_3 : XC3 P w K mg base C3) : FxX P w K mg base 3 "place_behind" ["place", "token"] 2 f_place_behind (fX_place_behind) :=
  fx_ofX G0 d sc_place_behind bb_place_behind rfl fun f cdv A outer s H E hr => ⟨_,
  by have tk := takes_of (X := cxOf (L2.CX P w) P w K mg base N_place_behind "place_behind" (defScope (top 51)) f cdv A outer s H E) (E := E) rfl rfl rfl rfl; have po := passes_of (X := cxOf (L2.CX P w) P w K mg base N_place_behind "place_behind" (defScope (top 51)) f cdv A outer s H E) rfl; exact (pss_cons (ps_nox (ps_for PassesOwn.never rfl (pi_seq (pe_cd T.k_COURSES (by rfl) (pv 0) (fun _ _ => rfl))) (pg_sq rfl (pgs_cons (pg_name (i := 2) sc_place_behind.nd rfl (by first | exact .inl rfl | exact .inr rfl)) (pgs_cons (pg_name (i := 3) sc_place_behind.nd rfl (by first | exact .inl rfl | exact .inr rfl)) pgs_nil)))
  (pss_one (ps_if (pt_cmpR (op_eqD hr.units) (pv 2) (pe_fx G_words_for (hr.mono (by decide)) (by rfl) (pa_cons (pv 1) pa_nil)) (nomark _))
  (pss_one (ps_ret (pv 3)))
  pss_nil))))
  (pss_one (ps_raise3 X_3 rfl tk (hr.mono (by decide)) (by rfl) (pe_ix ix_seq (pv 1) pe_int (fun _ _ => rfl)) (pe_op op_addS pe_str (pe_fx G_listed (hr.mono (by decide)) (by rfl) (pa_cons (pe_fx G_possible_at (hr.mono (by decide)) (by rfl) (pa_cons (pv 0) pa_nil)) pa_nil)))))),
  fun x => (ssg_seqC (fun _ _ _ _ _ _ _ h => h) (ssg_of (ss_for (vs := [2, 3]) (si_seq (se_cd (se_var 0))) (sg_tup (sgs_cons (sg_name 2) (sgs_cons (sg_name 3) sgs_nil)))
  (ss_if (st_test (se_op s2_eq (se_var 2) (se_call (sa_cons (se_var 1) sa_nil))))
  (ss_ret (se_var 3))
  ss_next)))
  (ssg_raise3 X_3 (se_op s2_ixS (se_var 1) se_int) (se_op s2_addS se_str (se_call (sa_cons (se_call (sa_cons (se_var 0) sa_nil)) sa_nil)))))⟩
theorem fx_place_behind_all (d : Df K mg "place_behind_all" (top 52)) (T : Txt K w mg) (G_place_behind : Fx P w K mg base 3 "place_behind" ["place", "token"] (spD K 2 f_place_behind)) : Fx P w K mg base 4 "place_behind_all" ["tokens", "kind"] (spD K 2 f_place_behind_all) :=
  fx_of d sc_place_behind_all bb_place_behind_all rfl fun f cdv A outer s H Q E hr => ⟨_,
  (pss_cons (ps_set (i := 2) sc_place_behind_all.nd rfl (by first | exact .inl rfl | exact .inr rfl) (pv 1))
  (pss_cons (ps_for PassesOwn.never rfl (pi_seq (pv 0)) (pg_name (i := 3) sc_place_behind_all.nd rfl (by first | exact .inl rfl | exact .inr rfl))
  (pss_one (ps_set (i := 2) sc_place_behind_all.nd rfl (by first | exact .inl rfl | exact .inr rfl) (pe_fx G_place_behind (hr.mono (by decide)) (by rfl) (pa_cons (pv 2) (pa_cons (pv 3) pa_nil))))))
  (pss_one (ps_ret (pv 2))))),
  (ss_seq (ss_set (i := 2) (se_var 1))
  (ss_seq (ss_for (vs := [3]) (si_seq (se_var 0)) (sg_name 3)
  (ss_set (i := 2) (se_call (sa_cons (se_var 2) (sa_cons (se_var 3) sa_nil)))))
  (ss_ret (se_var 2))))⟩
theorem fxX_place_behind_all (G0 : Fx P w K mg base 4 "place_behind_all" ["tokens", "kind"] (spD K 2 f_place_behind_all)) (d : Df K mg "place_behind_all" (top 52)) (T : Txt K w mg) (G_place_behind : Fx P w K mg base 3 "place_behind" ["place", "token"] (spD K 2 f_place_behind)) (GX_place_behind : FxX P w K mg base 3 "place_behind" ["place", "token"] 2 f_place_behind fX_place_behind) {C0 : Addr} (X_0 : XC P w K mg base 0 C0) {C3 : Addr} (X_3 : XC3 P w K mg base C3) : FxX P w K mg base 4 "place_behind_all" ["tokens", "kind"] 2 f_place_behind_all (fX_place_behind_all) :=
  fx_ofX G0 d sc_place_behind_all bb_place_behind_all rfl fun f cdv A outer s H E hr => ⟨_,
  by have tk := takes_of (X := cxOf (L2.CX P w) P w K mg base N_place_behind_all "place_behind_all" (defScope (top 52)) f cdv A outer s H E) (E := E) rfl rfl rfl rfl; have po := passes_of (X := cxOf (L2.CX P w) P w K mg base N_place_behind_all "place_behind_all" (defScope (top 52)) f cdv A outer s H E) rfl; exact (pss_cons (ps_nox (ps_set (i := 2) sc_place_behind_all.nd rfl (by first | exact .inl rfl | exact .inr rfl) (pv 1)))
  (pss_cons (ps_for po rfl (pi_seq (PE.nox (pv 0))) (pg_name (i := 3) sc_place_behind_all.nd rfl (by first | exact .inl rfl | exact .inr rfl))
  (pss_one (ps_set (i := 2) sc_place_behind_all.nd rfl (by first | exact .inl rfl | exact .inr rfl) (pe_fxX GX_place_behind rfl rfl (hr.mono (by decide)) (by rfl) tk (pa_cons (PE.nox (pv 2)) (pa_cons (PE.nox (pv 3)) pa_nil))))))
  (pss_one (ps_nox (ps_ret (pv 2)))))),
  fun x => (ssg_seqC (fun _ _ _ _ _ _ _ h => h) (ssg_of (ss_set (i := 2) (se_var 1)))
  (ssg_seqC (fun _ _ _ _ _ _ _ h => h) (ssg_for (vs := [3]) cx1_base (si_seq (se_var 0)) (sg_name 3)
  (ssg_set (i := 2) (seg_callX (sag_cons cx1_kept (seg_of (se_var 2)) (sag_cons cx1_kept (seg_of (se_var 3)) sag_nil)))))
  (ssg_of (ss_ret (se_var 2)))))⟩
theorem fx_run_from (d : Df K mg "run_from" (top 40)) (T : Txt K w mg)  : Fx P w K mg base 1 "run_from" ["text", "at", "characters"] (spD K 3 f_run_from) :=
  fx_of d sc_run_from bb_run_from rfl fun f cdv A outer s H Q E hr => ⟨_,
  (pss_cons (ps_set (i := 3) sc_run_from.nd rfl (by first | exact .inl rfl | exact .inr rfl) (pv 1))
  (pss_cons (ps_while PassesOwn.never (PW.pt (pw_and (pt_cmpR op_lt (pv 3) (pe_callB call_lenS (by rfl) T.b_len PySem.boot_len (pa_cons (pv 0) pa_nil)) (nomark _)) (pw_and1 (pt_cmpR op_inS (pe_ix ix_seq (pv 0) (pv 3) (fun _ _ => rfl)) (pv 2) (by rfl)))))
  (pss_one (ps_aug (i := 3) sc_run_from.nd rfl (by first | exact .inl rfl | exact .inr rfl) pe_int ip_addS)))
  (pss_one (ps_ret (pe_slice sl_anyS (pv 0) (po_some (pv 1)) (po_some (pv 3))))))),
  (ss_seq (ss_set (i := 3) (se_var 1))
  (ss_seq (ss_while (st_and (st_test (se_op s2_lt (se_var 3) (se_cb sc_lenS (sa_cons (se_var 0) sa_nil)))) (st_test (se_op s2_inS (se_op s2_ixS (se_var 0) (se_var 3)) (se_var 2))))
  (ss_augS 3 se_int))
  (ss_ret (se_slS (se_var 0) (sop_some (se_var 1)) (sop_some (se_var 3))))))⟩
theorem fx_letters_kind (d : Df K mg "letters_kind" (top 41)) (T : Txt K w mg)  : Fx P w K mg base 3 "letters_kind" ["letters", "column"] (spD K 2 f_letters_kind) :=
  fx_of d sc_letters_kind bb_letters_kind rfl fun f cdv A outer s H Q E hr => ⟨_,
  (pss_cons (ps_if (pt_cmpR (op_eqD hr.units) (pv 0) pe_str (nomark _))
  (pss_one (ps_ret (pe_gstr T.c_WORD (by rfl))))
  pss_nil)
  (pss_cons (ps_if (PW.pt (pw_and (pt_cmpR (op_eqD hr.units) (pe_callB call_lenS (by rfl) T.b_len PySem.boot_len (pa_cons (pv 0) pa_nil)) pe_int (nomark _)) (pw_and1 (pt_cmpR op_inS (pv 0) (pe_gstr T.c_EVENT_LETTERS (by rfl)) (by rfl)))))
  (pss_one (ps_ret (pe_gstr T.c_EVENT (by rfl))))
  pss_nil)
  (pss_one ps_never))),
  (ss_seq (ss_if (st_test (se_op s2_eq (se_var 0) se_str))
  (ss_ret se_str)
  ss_next)
  (ss_seq (ss_if (st_and (st_test (se_op s2_eq (se_cb sc_lenS (sa_cons (se_var 0) sa_nil)) se_int)) (st_test (se_op s2_inS (se_var 0) se_str)))
  (ss_ret se_str)
  ss_next)
  ss_never))⟩
theorem fxX_letters_kind (G0 : Fx P w K mg base 3 "letters_kind" ["letters", "column"] (spD K 2 f_letters_kind)) (d : Df K mg "letters_kind" (top 41)) (T : Txt K w mg)   {C0 : Addr} (X_0 : XC P w K mg base 0 C0) {C3 : Addr} (X_3 : XC3 P w K mg base C3) : FxX P w K mg base 3 "letters_kind" ["letters", "column"] 2 f_letters_kind (fX_letters_kind) :=
  fx_ofX G0 d sc_letters_kind bb_letters_kind rfl fun f cdv A outer s H E hr => ⟨_,
  by have tk := takes_of (X := cxOf (L2.CX P w) P w K mg base N_letters_kind "letters_kind" (defScope (top 41)) f cdv A outer s H E) (E := E) rfl rfl rfl rfl; have po := passes_of (X := cxOf (L2.CX P w) P w K mg base N_letters_kind "letters_kind" (defScope (top 41)) f cdv A outer s H E) rfl; exact (pss_cons (ps_nox (ps_if (pt_cmpR (op_eqD hr.units) (pv 0) pe_str (nomark _))
  (pss_one (ps_ret (pe_gstr T.c_WORD (by rfl))))
  pss_nil))
  (pss_cons (ps_nox (ps_if (PW.pt (pw_and (pt_cmpR (op_eqD hr.units) (pe_callB call_lenS (by rfl) T.b_len PySem.boot_len (pa_cons (pv 0) pa_nil)) pe_int (nomark _)) (pw_and1 (pt_cmpR op_inS (pv 0) (pe_gstr T.c_EVENT_LETTERS (by rfl)) (by rfl)))))
  (pss_one (ps_ret (pe_gstr T.c_EVENT (by rfl))))
  pss_nil))
  (pss_one (ps_raise3 X_3 rfl tk (hr.mono (by decide)) (by rfl) (pv 1) pe_str)))),
  fun x => (ssg_seqC (fun _ _ _ _ _ _ _ h => h) (ssg_of (ss_if (st_test (se_op s2_eq (se_var 0) se_str))
  (ss_ret se_str)
  ss_next))
  (ssg_seqC (fun _ _ _ _ _ _ _ h => h) (ssg_of (ss_if (st_and (st_test (se_op s2_eq (se_cb sc_lenS (sa_cons (se_var 0) sa_nil)) se_int)) (st_test (se_op s2_inS (se_var 0) se_str)))
  (ss_ret se_str)
  ss_next))
  (ssg_raise3 X_3 (se_var 1) se_str)))⟩
theorem fx_token_at (d : Df K mg "token_at" (top 42)) (T : Txt K w mg) (G_run_from : Fx P w K mg base 1 "run_from" ["text", "at", "characters"] (spD K 3 f_run_from)) (G_letters_kind : Fx P w K mg base 3 "letters_kind" ["letters", "column"] (spD K 2 f_letters_kind)) : Fx P w K mg base 4 "token_at" ["text", "at"] (spD K 2 f_token_at) :=
  fx_of d sc_token_at bb_token_at rfl fun f cdv A outer s H Q E hr => ⟨_,
  (pss_cons (ps_set (i := 2) sc_token_at.nd rfl (by first | exact .inl rfl | exact .inr rfl) (pe_op op_addS (pv 1) pe_int))
  (pss_cons (ps_set (i := 3) sc_token_at.nd rfl (by first | exact .inl rfl | exact .inr rfl) (pe_fx G_run_from (hr.mono (by decide)) (by rfl) (pa_cons (pv 0) (pa_cons (pv 1) (pa_cons (pe_gstr T.c_LETTERS (by rfl)) pa_nil)))))
  (pss_cons (ps_if (pt_truth (pv 3) (by intro _; rfl))
  (pss_one (ps_ret (pe_tup (pa_cons (pe_fx G_letters_kind (hr.mono (by decide)) (by rfl) (pa_cons (pv 3) (pa_cons (pv 2) pa_nil))) (pa_cons (pv 3) (pa_cons (pv 2) pa_nil))))))
  pss_nil)
  (pss_cons (ps_set (i := 4) sc_token_at.nd rfl (by first | exact .inl rfl | exact .inr rfl) (pe_fx G_run_from (hr.mono (by decide)) (by rfl) (pa_cons (pv 0) (pa_cons (pv 1) (pa_cons (pe_gstr T.c_DIGITS (by rfl)) pa_nil)))))
  (pss_cons (ps_if (pt_cmpR op_gt (pe_callB call_lenS (by rfl) T.b_len PySem.boot_len (pa_cons (pv 4) pa_nil)) (pe_gint T.c_MOST_DIGITS (by rfl)) (nomark _))
  (pss_one ps_never)
  pss_nil)
  (pss_cons (ps_if (pt_truth (pv 4) (by intro _; rfl))
  (pss_one (ps_ret (pe_tup (pa_cons (pe_gstr T.c_NUMBER (by rfl)) (pa_cons (pv 4) (pa_cons (pv 2) pa_nil))))))
  pss_nil)
  (pss_cons (ps_if (pt_cmpR op_inS (pe_ix ix_seq (pv 0) (pv 1) (fun _ _ => rfl)) (pe_gstr T.c_SHORT_SIGNS (by rfl)) (by rfl))
  (pss_one (ps_ret (pe_tup (pa_cons (pe_gstr T.c_SIGN (by rfl)) (pa_cons (pe_ix ix_seq (pv 0) (pv 1) (fun _ _ => rfl)) (pa_cons (pv 2) pa_nil))))))
  pss_nil)
  (pss_cons (ps_if (pt_cmpR (op_eqD hr.units) (pe_slice sl_anyS (pv 0) (po_some (pv 1)) (po_some (pe_op op_addS (pv 1) pe_int))) (pe_gstr T.c_POINTS (by rfl)) (nomark _))
  (pss_one (ps_ret (pe_tup (pa_cons (pe_gstr T.c_SIGN (by rfl)) (pa_cons (pe_gstr T.c_POINTS (by rfl)) (pa_cons (pv 2) pa_nil))))))
  pss_nil)
  (pss_one ps_never))))))))),
  (ss_seq (ss_set (i := 2) (se_op s2_addS (se_var 1) se_int))
  (ss_seq (ss_set (i := 3) (se_call (sa_cons (se_var 0) (sa_cons (se_var 1) (sa_cons se_str sa_nil)))))
  (ss_seq (ss_if (st_truth (se_var 3))
  (ss_ret (se_tup (sa_cons (se_call (sa_cons (se_var 3) (sa_cons (se_var 2) sa_nil))) (sa_cons (se_var 3) (sa_cons (se_var 2) sa_nil)))))
  ss_next)
  (ss_seq (ss_set (i := 4) (se_call (sa_cons (se_var 0) (sa_cons (se_var 1) (sa_cons se_str sa_nil)))))
  (ss_seq (ss_if (st_test (se_op s2_gt (se_cb sc_lenS (sa_cons (se_var 4) sa_nil)) se_int))
  ss_never
  ss_next)
  (ss_seq (ss_if (st_truth (se_var 4))
  (ss_ret (se_tup (sa_cons se_str (sa_cons (se_var 4) (sa_cons (se_var 2) sa_nil)))))
  ss_next)
  (ss_seq (ss_if (st_test (se_op s2_inS (se_op s2_ixS (se_var 0) (se_var 1)) se_str))
  (ss_ret (se_tup (sa_cons se_str (sa_cons (se_op s2_ixS (se_var 0) (se_var 1)) (sa_cons (se_var 2) sa_nil)))))
  ss_next)
  (ss_seq (ss_if (st_test (se_op s2_eq (se_slS (se_var 0) (sop_some (se_var 1)) (sop_some (se_op s2_addS (se_var 1) se_int))) se_str))
  (ss_ret (se_tup (sa_cons se_str (sa_cons se_str (sa_cons (se_var 2) sa_nil)))))
  ss_next)
  ss_never))))))))⟩
theorem fxX_token_at (G0 : Fx P w K mg base 4 "token_at" ["text", "at"] (spD K 2 f_token_at)) (d : Df K mg "token_at" (top 42)) (T : Txt K w mg) (G_run_from : Fx P w K mg base 1 "run_from" ["text", "at", "characters"] (spD K 3 f_run_from)) (G_letters_kind : Fx P w K mg base 3 "letters_kind" ["letters", "column"] (spD K 2 f_letters_kind)) (GX_letters_kind : FxX P w K mg base 3 "letters_kind" ["letters", "column"] 2 f_letters_kind fX_letters_kind) {C0 : Addr} (X_0 : XC P w K mg base 0 C0) {C3 : Addr} (X_3 : XC3 P w K mg base C3) : FxX P w K mg base 4 "token_at" ["text", "at"] 2 f_token_at (fX_token_at) :=
  fx_ofX G0 d sc_token_at bb_token_at rfl fun f cdv A outer s H E hr => ⟨_,
  by have tk := takes_of (X := cxOf (L2.CX P w) P w K mg base N_token_at "token_at" (defScope (top 42)) f cdv A outer s H E) (E := E) rfl rfl rfl rfl; have po := passes_of (X := cxOf (L2.CX P w) P w K mg base N_token_at "token_at" (defScope (top 42)) f cdv A outer s H E) rfl; exact (pss_cons (ps_nox (ps_set (i := 2) sc_token_at.nd rfl (by first | exact .inl rfl | exact .inr rfl) (pe_op op_addS (pv 1) pe_int)))
  (pss_cons (ps_nox (ps_set (i := 3) sc_token_at.nd rfl (by first | exact .inl rfl | exact .inr rfl) (pe_fx G_run_from (hr.mono (by decide)) (by rfl) (pa_cons (pv 0) (pa_cons (pv 1) (pa_cons (pe_gstr T.c_LETTERS (by rfl)) pa_nil))))))
  (pss_cons (ps_if (PT.nox (pt_truth (pv 3) (by intro _; rfl)))
  (pss_one (ps_ret (pe_tup (pa_cons (pe_fxX GX_letters_kind rfl rfl (hr.mono (by decide)) (by rfl) tk (pa_cons (PE.nox (pv 3)) (pa_cons (PE.nox (pv 2)) pa_nil))) (pa_cons (PE.nox (pv 3)) (pa_cons (PE.nox (pv 2)) pa_nil))))))
  pss_nil)
  (pss_cons (ps_nox (ps_set (i := 4) sc_token_at.nd rfl (by first | exact .inl rfl | exact .inr rfl) (pe_fx G_run_from (hr.mono (by decide)) (by rfl) (pa_cons (pv 0) (pa_cons (pv 1) (pa_cons (pe_gstr T.c_DIGITS (by rfl)) pa_nil))))))
  (pss_cons (ps_if (PT.nox (pt_cmpR op_gt (pe_callB call_lenS (by rfl) T.b_len PySem.boot_len (pa_cons (pv 4) pa_nil)) (pe_gint T.c_MOST_DIGITS (by rfl)) (nomark _)))
  (pss_one (ps_raise3 X_3 rfl tk (hr.mono (by decide)) (by rfl) (pv 2) pe_str))
  pss_nil)
  (pss_cons (ps_nox (ps_if (pt_truth (pv 4) (by intro _; rfl))
  (pss_one (ps_ret (pe_tup (pa_cons (pe_gstr T.c_NUMBER (by rfl)) (pa_cons (pv 4) (pa_cons (pv 2) pa_nil))))))
  pss_nil))
  (pss_cons (ps_nox (ps_if (pt_cmpR op_inS (pe_ix ix_seq (pv 0) (pv 1) (fun _ _ => rfl)) (pe_gstr T.c_SHORT_SIGNS (by rfl)) (by rfl))
  (pss_one (ps_ret (pe_tup (pa_cons (pe_gstr T.c_SIGN (by rfl)) (pa_cons (pe_ix ix_seq (pv 0) (pv 1) (fun _ _ => rfl)) (pa_cons (pv 2) pa_nil))))))
  pss_nil))
  (pss_cons (ps_nox (ps_if (pt_cmpR (op_eqD hr.units) (pe_slice sl_anyS (pv 0) (po_some (pv 1)) (po_some (pe_op op_addS (pv 1) pe_int))) (pe_gstr T.c_POINTS (by rfl)) (nomark _))
  (pss_one (ps_ret (pe_tup (pa_cons (pe_gstr T.c_SIGN (by rfl)) (pa_cons (pe_gstr T.c_POINTS (by rfl)) (pa_cons (pv 2) pa_nil))))))
  pss_nil))
  (pss_one (ps_raise3 X_3 rfl tk (hr.mono (by decide)) (by rfl) (pv 2) pe_str)))))))))),
  fun x => (ssg_seqC (fun _ _ _ _ _ _ _ h => h) (ssg_of (ss_set (i := 2) (se_op s2_addS (se_var 1) se_int)))
  (ssg_seqC (fun _ _ _ _ _ _ _ h => h) (ssg_of (ss_set (i := 3) (se_call (sa_cons (se_var 0) (sa_cons (se_var 1) (sa_cons se_str sa_nil))))))
  (ssg_seqC (fun _ _ _ _ _ _ _ h => h) (ssg_if cx1_kept (stg_of (st_truth (se_var 3)))
  (ssg_ret (seg_tup (sag_cons cx1_kept (seg_callX (sag_cons cx1_kept (seg_of (se_var 3)) (sag_cons cx1_kept (seg_of (se_var 2)) sag_nil))) (sag_cons cx1_kept (seg_of (se_var 3)) (sag_cons cx1_kept (seg_of (se_var 2)) sag_nil)))))
  (ssg_of ss_next))
  (ssg_seqC (fun _ _ _ _ _ _ _ h => h) (ssg_of (ss_set (i := 4) (se_call (sa_cons (se_var 0) (sa_cons (se_var 1) (sa_cons se_str sa_nil))))))
  (ssg_seqC (fun _ _ _ _ _ _ _ h => h) (ssg_if cx1_kept (stg_of (st_test (se_op s2_gt (se_cb sc_lenS (sa_cons (se_var 4) sa_nil)) se_int)))
  (ssg_raise3 X_3 (se_var 2) se_str)
  (ssg_of ss_next))
  (ssg_seqC (fun _ _ _ _ _ _ _ h => h) (ssg_of (ss_if (st_truth (se_var 4))
  (ss_ret (se_tup (sa_cons se_str (sa_cons (se_var 4) (sa_cons (se_var 2) sa_nil)))))
  ss_next))
  (ssg_seqC (fun _ _ _ _ _ _ _ h => h) (ssg_of (ss_if (st_test (se_op s2_inS (se_op s2_ixS (se_var 0) (se_var 1)) se_str))
  (ss_ret (se_tup (sa_cons se_str (sa_cons (se_op s2_ixS (se_var 0) (se_var 1)) (sa_cons (se_var 2) sa_nil)))))
  ss_next))
  (ssg_seqC (fun _ _ _ _ _ _ _ h => h) (ssg_of (ss_if (st_test (se_op s2_eq (se_slS (se_var 0) (sop_some (se_var 1)) (sop_some (se_op s2_addS (se_var 1) se_int))) se_str))
  (ss_ret (se_tup (sa_cons se_str (sa_cons se_str (sa_cons (se_var 2) sa_nil)))))
  ss_next))
  (ssg_raise3 X_3 (se_var 2) se_str)))))))))⟩
theorem fx_scan (d : Df K mg "scan" (top 43)) (T : Txt K w mg) (G_check_text : Fx P w K mg base 3 "check_text" ["text"] (spD K 1 f_check_text)) (G_token_at : Fx P w K mg base 4 "token_at" ["text", "at"] (spD K 2 f_token_at)) : Fx P w K mg base 5 "scan" ["text"] (spD K 1 f_scan) :=
  fx_of d sc_scan bb_scan rfl fun f cdv A outer s H Q E hr => ⟨_,
  (pss_cons (ps_expr (pe_fx G_check_text (hr.mono (by decide)) (by rfl) (pa_cons (pv 0) pa_nil)))
  (pss_cons (ps_set (i := 1) sc_scan.nd rfl (by first | exact .inl rfl | exact .inr rfl) (pe_lst pa_nil))
  (pss_cons (ps_set (i := 2) sc_scan.nd rfl (by first | exact .inl rfl | exact .inr rfl) pe_int)
  (pss_cons (ps_while PassesOwn.never (pt_cmpR op_lt (pv 2) (pe_callB call_lenS (by rfl) T.b_len PySem.boot_len (pa_cons (pv 0) pa_nil)) (nomark _))
  (pss_one (ps_if (pt_cmpR (op_eqD hr.units) (pe_ix ix_seq (pv 0) (pv 2) (fun _ _ => rfl)) pe_str (nomark _))
  (pss_one (ps_aug (i := 2) sc_scan.nd rfl (by first | exact .inl rfl | exact .inr rfl) pe_int ip_addS))
  (pss_cons (ps_set (i := 3) sc_scan.nd rfl (by first | exact .inl rfl | exact .inr rfl) (pe_fx G_token_at (hr.mono (by decide)) (by rfl) (pa_cons (pv 0) (pa_cons (pv 2) pa_nil))))
  (pss_cons (ps_expr (pe_bm PySem.F.plainAttrs_list PySem.F.slot_list_append PySem.F.type_list_append mt_append (pv 1) (pa_cons (pv 3) pa_nil)))
  (pss_one (ps_aug (i := 2) sc_scan.nd rfl (by first | exact .inl rfl | exact .inr rfl) (pe_callB call_lenS (by rfl) T.b_len PySem.boot_len (pa_cons (pe_ix ix_seq (pv 3) pe_int (fun _ _ => rfl)) pa_nil)) ip_addS)))))))
  (pss_cons (ps_expr (pe_bm PySem.F.plainAttrs_list PySem.F.slot_list_append PySem.F.type_list_append mt_append (pv 1) (pa_cons (pe_tup (pa_cons (pe_gstr T.c_END (by rfl)) (pa_cons pe_str (pa_cons (pe_op op_addS (pe_callB call_lenS (by rfl) T.b_len PySem.boot_len (pa_cons (pv 0) pa_nil)) pe_int) pa_nil)))) pa_nil)))
  (pss_one (ps_ret (pv 1)))))))),
  (ss_seq (ss_drop (se_call (sa_cons (se_var 0) sa_nil)))
  (ss_seq (ss_asgO (so_lst sa_nil))
  (ss_seq (ss_set (i := 2) se_int)
  (ss_seq (ss_while (st_test (se_op s2_lt (se_var 2) (se_cb sc_lenS (sa_cons (se_var 0) sa_nil))))
  (ss_if (st_test (se_op s2_eq (se_op s2_ixS (se_var 0) (se_var 2)) se_str))
  (ss_augS 2 se_int)
  (ss_seq (ss_set (i := 3) (se_call (sa_cons (se_var 0) (sa_cons (se_var 2) sa_nil))))
  (ss_seq (ss_app 1 (se_var 3))
  (ss_augS 2 (se_cb sc_lenS (sa_cons (se_op s2_ixS (se_var 3) se_int) sa_nil)))))))
  (ss_seq (ss_app 1 (se_tup (sa_cons se_str (sa_cons se_str (sa_cons (se_op s2_addS (se_cb sc_lenS (sa_cons (se_var 0) sa_nil)) se_int) sa_nil)))))
  (ss_frz 1 (ss_ret (se_var 1))))))))⟩
theorem fxX_scan (G0 : Fx P w K mg base 5 "scan" ["text"] (spD K 1 f_scan)) (d : Df K mg "scan" (top 43)) (T : Txt K w mg) (G_check_text : Fx P w K mg base 3 "check_text" ["text"] (spD K 1 f_check_text)) (G_token_at : Fx P w K mg base 4 "token_at" ["text", "at"] (spD K 2 f_token_at)) (GX_check_text : FxX P w K mg base 3 "check_text" ["text"] 1 f_check_text fX_check_text) (GX_token_at : FxX P w K mg base 4 "token_at" ["text", "at"] 2 f_token_at fX_token_at) {C0 : Addr} (X_0 : XC P w K mg base 0 C0) {C3 : Addr} (X_3 : XC3 P w K mg base C3) : FxX P w K mg base 5 "scan" ["text"] 1 f_scan (fX_scan) :=
  fx_ofX G0 d sc_scan bb_scan rfl fun f cdv A outer s H E hr => ⟨_,
  by have tk := takes_of (X := cxOf (L2.CX P w) P w K mg base N_scan "scan" (defScope (top 43)) f cdv A outer s H E) (E := E) rfl rfl rfl rfl; have po := passes_of (X := cxOf (L2.CX P w) P w K mg base N_scan "scan" (defScope (top 43)) f cdv A outer s H E) rfl; exact (pss_cons (ps_expr (pe_fxX GX_check_text rfl rfl (hr.mono (by decide)) (by rfl) tk (pa_cons (PE.nox (pv 0)) pa_nil)))
  (pss_cons (ps_nox (ps_set (i := 1) sc_scan.nd rfl (by first | exact .inl rfl | exact .inr rfl) (pe_lst pa_nil)))
  (pss_cons (ps_nox (ps_set (i := 2) sc_scan.nd rfl (by first | exact .inl rfl | exact .inr rfl) pe_int))
  (pss_cons (ps_while po (PT.nox (pt_cmpR op_lt (pv 2) (pe_callB call_lenS (by rfl) T.b_len PySem.boot_len (pa_cons (pv 0) pa_nil)) (nomark _)))
  (pss_one (ps_if (PT.nox (pt_cmpR (op_eqD hr.units) (pe_ix ix_seq (pv 0) (pv 2) (fun _ _ => rfl)) pe_str (nomark _)))
  (pss_one (ps_nox (ps_aug (i := 2) sc_scan.nd rfl (by first | exact .inl rfl | exact .inr rfl) pe_int ip_addS)))
  (pss_cons (ps_set (i := 3) sc_scan.nd rfl (by first | exact .inl rfl | exact .inr rfl) (pe_fxX GX_token_at rfl rfl (hr.mono (by decide)) (by rfl) tk (pa_cons (PE.nox (pv 0)) (pa_cons (PE.nox (pv 2)) pa_nil))))
  (pss_cons (ps_nox (ps_expr (pe_bm PySem.F.plainAttrs_list PySem.F.slot_list_append PySem.F.type_list_append mt_append (pv 1) (pa_cons (pv 3) pa_nil))))
  (pss_one (ps_nox (ps_aug (i := 2) sc_scan.nd rfl (by first | exact .inl rfl | exact .inr rfl) (pe_callB call_lenS (by rfl) T.b_len PySem.boot_len (pa_cons (pe_ix ix_seq (pv 3) pe_int (fun _ _ => rfl)) pa_nil)) ip_addS))))))))
  (pss_cons (ps_nox (ps_expr (pe_bm PySem.F.plainAttrs_list PySem.F.slot_list_append PySem.F.type_list_append mt_append (pv 1) (pa_cons (pe_tup (pa_cons (pe_gstr T.c_END (by rfl)) (pa_cons pe_str (pa_cons (pe_op op_addS (pe_callB call_lenS (by rfl) T.b_len PySem.boot_len (pa_cons (pv 0) pa_nil)) pe_int) pa_nil)))) pa_nil))))
  (pss_one (ps_nox (ps_ret (pv 1))))))))),
  fun x => (ssg_seqC (fun _ _ _ _ _ _ _ h => h) (ssg_drop (seg_callX (sag_cons cx1_kept (seg_of (se_var 0)) sag_nil)))
  (ssg_seqC (fun _ _ _ _ _ _ _ h => h) (ssg_of (ss_asgO (so_lst sa_nil)))
  (ssg_seqC (fun _ _ _ _ _ _ _ h => h) (ssg_of (ss_set (i := 2) se_int))
  (ssg_seqC (fun _ _ _ _ _ _ _ h => h) (ssg_while (fun _ _ _ _ _ _ _ h => h) (stg_of (st_test (se_op s2_lt (se_var 2) (se_cb sc_lenS (sa_cons (se_var 0) sa_nil)))))
  (ssg_if cx1_kept (stg_of (st_test (se_op s2_eq (se_op s2_ixS (se_var 0) (se_var 2)) se_str)))
  (ssg_of (ss_augS 2 se_int))
  (ssg_seqC (fun _ _ _ _ _ _ _ h => h) (ssg_set (i := 3) (seg_callX (sag_cons cx1_kept (seg_of (se_var 0)) (sag_cons cx1_kept (seg_of (se_var 2)) sag_nil))))
  (ssg_seqC (fun _ _ _ _ _ _ _ h => h) (ssg_of (ss_app 1 (se_var 3)))
  (ssg_of (ss_augS 2 (se_cb sc_lenS (sa_cons (se_op s2_ixS (se_var 3) se_int) sa_nil))))))))
  (ssg_seqC (fun _ _ _ _ _ _ _ h => h) (ssg_of (ss_app 1 (se_tup (sa_cons se_str (sa_cons se_str (sa_cons (se_op s2_addS (se_cb sc_lenS (sa_cons (se_var 0) sa_nil)) se_int) sa_nil))))))
  (ssg_of (ss_frz 1 (ss_ret (se_var 1)))))))))⟩
theorem fx_next_tokens (d : Df K mg "next_tokens" (top 53)) (T : Txt K w mg) (G_check_text : Fx P w K mg base 3 "check_text" ["text"] (spD K 1 f_check_text)) (G_possible_at : Fx P w K mg base 1 "possible_at" ["place"] (spD K 1 f_possible_at)) (G_place_behind_all : Fx P w K mg base 4 "place_behind_all" ["tokens", "kind"] (spD K 2 f_place_behind_all)) (G_scan : Fx P w K mg base 5 "scan" ["text"] (spD K 1 f_scan)) : Fx P w K mg base 6 "next_tokens" ["text", "kind"] (spD K 2 f_next_tokens) :=
  fx_of d sc_next_tokens bb_next_tokens rfl fun f cdv A outer s H Q E hr => ⟨_,
  (pss_cons (ps_expr (pe_fx G_check_text (hr.mono (by decide)) (by rfl) (pa_cons (pv 0) pa_nil)))
  (pss_cons (ps_if (PW.pt (pw_or (pt_not (pt_truth (pe_callB call_isi2 (by rfl) T.b_isinstance bt_isi (pa_cons (pv 1) (pa_cons (pe_bltn (v := .ty "str") (by rfl) T.b_str bt_str rfl) pa_nil))) (by intro _; rfl))) (pw_or1 (pt_cmpR op_notInS (pv 1) (pe_tup (pa_cons (pe_gstr T.c_NET (by rfl)) (pa_cons (pe_gstr T.c_ROW (by rfl)) pa_nil))) (by rfl)))))
  (pss_one ps_never)
  pss_nil)
  (pss_one (ps_ret (pe_fx G_possible_at (hr.mono (by decide)) (by rfl) (pa_cons (pe_fx G_place_behind_all (hr.mono (by decide)) (by rfl) (pa_cons (pe_slice sl_anyS (pe_fx G_scan (hr.mono (by decide)) (by rfl) (pa_cons (pv 0) pa_nil)) po_none (po_some (pe_un un_neg pe_int))) (pa_cons (pv 1) pa_nil))) pa_nil)))))),
  (ss_seq (ss_drop (se_call (sa_cons (se_var 0) sa_nil)))
  (ss_seq (ss_if (st_or (st_not (st_truth (se_isi ty_str (se_var 1)))) (st_test (se_op s2_inS (se_var 1) (se_tup (sa_cons se_str (sa_cons se_str sa_nil))))))
  ss_never
  ss_next)
  (ss_ret (se_call (sa_cons (se_call (sa_cons (se_slS (se_call (sa_cons (se_var 0) sa_nil)) sop_none (sop_some (se_un s1_neg se_int))) (sa_cons (se_var 1) sa_nil))) sa_nil)))))⟩
theorem fxX_next_tokens (G0 : Fx P w K mg base 6 "next_tokens" ["text", "kind"] (spD K 2 f_next_tokens)) (d : Df K mg "next_tokens" (top 53)) (T : Txt K w mg) (G_check_text : Fx P w K mg base 3 "check_text" ["text"] (spD K 1 f_check_text)) (G_possible_at : Fx P w K mg base 1 "possible_at" ["place"] (spD K 1 f_possible_at)) (G_place_behind_all : Fx P w K mg base 4 "place_behind_all" ["tokens", "kind"] (spD K 2 f_place_behind_all)) (G_scan : Fx P w K mg base 5 "scan" ["text"] (spD K 1 f_scan)) (GX_check_text : FxX P w K mg base 3 "check_text" ["text"] 1 f_check_text fX_check_text) (GX_place_behind_all : FxX P w K mg base 4 "place_behind_all" ["tokens", "kind"] 2 f_place_behind_all fX_place_behind_all) (GX_scan : FxX P w K mg base 5 "scan" ["text"] 1 f_scan fX_scan) {C0 : Addr} (X_0 : XC P w K mg base 0 C0) {C3 : Addr} (X_3 : XC3 P w K mg base C3) : FxX P w K mg base 6 "next_tokens" ["text", "kind"] 2 f_next_tokens (fX_next_tokens) :=
  fx_ofX G0 d sc_next_tokens bb_next_tokens rfl fun f cdv A outer s H E hr => ⟨_,
  by have tk := takes_of (X := cxOf (L2.CX P w) P w K mg base N_next_tokens "next_tokens" (defScope (top 53)) f cdv A outer s H E) (E := E) rfl rfl rfl rfl; have po := passes_of (X := cxOf (L2.CX P w) P w K mg base N_next_tokens "next_tokens" (defScope (top 53)) f cdv A outer s H E) rfl; exact (pss_cons (ps_expr (pe_fxX GX_check_text rfl rfl (hr.mono (by decide)) (by rfl) tk (pa_cons (PE.nox (pv 0)) pa_nil)))
  (pss_cons (ps_if (PT.nox (PW.pt (pw_or (pt_not (pt_truth (pe_callB call_isi2 (by rfl) T.b_isinstance bt_isi (pa_cons (pv 1) (pa_cons (pe_bltn (v := .ty "str") (by rfl) T.b_str bt_str rfl) pa_nil))) (by intro _; rfl))) (pw_or1 (pt_cmpR op_notInS (pv 1) (pe_tup (pa_cons (pe_gstr T.c_NET (by rfl)) (pa_cons (pe_gstr T.c_ROW (by rfl)) pa_nil))) (by rfl))))))
  (pss_one (ps_raise1 (c := 0) X_0 rfl tk (hr.mono (by decide)) (by rfl) pe_str))
  pss_nil)
  (pss_one (ps_ret (pe_fx G_possible_at (hr.mono (by decide)) (by rfl) (pa_cons (pe_fxX GX_place_behind_all rfl rfl (hr.mono (by decide)) (by rfl) tk (pa_cons (pe_slice sl_anyS (pe_fxX GX_scan rfl rfl (hr.mono (by decide)) (by rfl) tk (pa_cons (PE.nox (pv 0)) pa_nil)) po_none (po_some (PE.nox (pe_un un_neg pe_int)))) (pa_cons (PE.nox (pv 1)) pa_nil))) pa_nil)))))),
  fun x => (ssg_seqC (fun _ _ _ _ _ _ _ h => h) (ssg_drop (seg_callX (sag_cons cx1_kept (seg_of (se_var 0)) sag_nil)))
  (ssg_seqC (fun _ _ _ _ _ _ _ h => h) (ssg_if cx1_kept (stg_of (st_or (st_not (st_truth (se_isi ty_str (se_var 1)))) (st_test (se_op s2_inS (se_var 1) (se_tup (sa_cons se_str (sa_cons se_str sa_nil)))))))
  (ssg_raise (c := 0) X_0 se_str)
  (ssg_of ss_next))
  (ssg_ret (seg_call (sag_cons cx1_kept (seg_callX (sag_cons cx1_kept (seg_slS (seg_callX (sag_cons cx1_kept (seg_of (se_var 0)) sag_nil)) sop_none (sop_some (se_un s1_neg se_int))) (sag_cons cx1_kept (seg_of (se_var 1)) sag_nil))) sag_nil)))))⟩
theorem fx_tokens_of (d : Df K mg "tokens_of" (top 54)) (T : Txt K w mg) (G_scan : Fx P w K mg base 5 "scan" ["text"] (spD K 1 f_scan)) (G_place_behind_all : Fx P w K mg base 4 "place_behind_all" ["tokens", "kind"] (spD K 2 f_place_behind_all)) : Fx P w K mg base 6 "tokens_of" ["text", "kind"] (spD K 2 f_tokens_of) :=
  fx_of d sc_tokens_of bb_tokens_of rfl fun f cdv A outer s H Q E hr => ⟨_,
  (pss_cons (ps_set (i := 2) sc_tokens_of.nd rfl (by first | exact .inl rfl | exact .inr rfl) (pe_fx G_scan (hr.mono (by decide)) (by rfl) (pa_cons (pv 0) pa_nil)))
  (pss_cons (ps_expr (pe_fx G_place_behind_all (hr.mono (by decide)) (by rfl) (pa_cons (pv 2) (pa_cons (pv 1) pa_nil))))
  (pss_one (ps_ret (pv 2))))),
  (ss_seq (ss_set (i := 2) (se_call (sa_cons (se_var 0) sa_nil)))
  (ss_seq (ss_drop (se_call (sa_cons (se_var 2) (sa_cons (se_var 1) sa_nil))))
  (ss_ret (se_var 2))))⟩
theorem fxX_tokens_of (G0 : Fx P w K mg base 6 "tokens_of" ["text", "kind"] (spD K 2 f_tokens_of)) (d : Df K mg "tokens_of" (top 54)) (T : Txt K w mg) (G_scan : Fx P w K mg base 5 "scan" ["text"] (spD K 1 f_scan)) (G_place_behind_all : Fx P w K mg base 4 "place_behind_all" ["tokens", "kind"] (spD K 2 f_place_behind_all)) (GX_scan : FxX P w K mg base 5 "scan" ["text"] 1 f_scan fX_scan) (GX_place_behind_all : FxX P w K mg base 4 "place_behind_all" ["tokens", "kind"] 2 f_place_behind_all fX_place_behind_all) {C0 : Addr} (X_0 : XC P w K mg base 0 C0) {C3 : Addr} (X_3 : XC3 P w K mg base C3) : FxX P w K mg base 6 "tokens_of" ["text", "kind"] 2 f_tokens_of (fX_tokens_of) :=
  fx_ofX G0 d sc_tokens_of bb_tokens_of rfl fun f cdv A outer s H E hr => ⟨_,
  by have tk := takes_of (X := cxOf (L2.CX P w) P w K mg base N_tokens_of "tokens_of" (defScope (top 54)) f cdv A outer s H E) (E := E) rfl rfl rfl rfl; have po := passes_of (X := cxOf (L2.CX P w) P w K mg base N_tokens_of "tokens_of" (defScope (top 54)) f cdv A outer s H E) rfl; exact (pss_cons (ps_set (i := 2) sc_tokens_of.nd rfl (by first | exact .inl rfl | exact .inr rfl) (pe_fxX GX_scan rfl rfl (hr.mono (by decide)) (by rfl) tk (pa_cons (PE.nox (pv 0)) pa_nil)))
  (pss_cons (ps_expr (pe_fxX GX_place_behind_all rfl rfl (hr.mono (by decide)) (by rfl) tk (pa_cons (PE.nox (pv 2)) (pa_cons (PE.nox (pv 1)) pa_nil))))
  (pss_one (ps_nox (ps_ret (pv 2)))))),
  fun x => (ssg_seqC (fun _ _ _ _ _ _ _ h => h) (ssg_set (i := 2) (seg_callX (sag_cons cx1_kept (seg_of (se_var 0)) sag_nil)))
  (ssg_seqC (fun _ _ _ _ _ _ _ h => h) (ssg_drop (seg_callX (sag_cons cx1_kept (seg_of (se_var 2)) (sag_cons cx1_kept (seg_of (se_var 1)) sag_nil))))
  (ssg_of (ss_ret (se_var 2)))))⟩
theorem fx_size_in (d : Df K mg "size_in" (top 59)) (T : Txt K w mg)  : Fx P w K mg base 3 "size_in" ["token"] (spD K 1 f_size_in) :=
  fx_of d sc_size_in bb_size_in rfl fun f cdv A outer s H Q E hr => ⟨_,
  (pss_cons (ps_set (i := 1) sc_size_in.nd rfl (by first | exact .inl rfl | exact .inr rfl) (pe_callTy call_intS (by rfl) T.b_int bt_int (pa_cons (pe_ix ix_seq (pv 0) pe_int (fun _ _ => rfl)) pa_nil)))
  (pss_cons (ps_if (PW.pt (pw_or (pt_cmpR op_lt (pv 1) pe_int (nomark _)) (pw_or1 (pt_cmpR op_gt (pv 1) (pe_gint T.c_MOST_EVENTS (by rfl)) (nomark _)))))
  (pss_one ps_never)
  pss_nil)
  (pss_one (ps_ret (pv 1))))),
  (ss_seq (ss_set (i := 1) (se_cb sc_intS (sa_cons (se_op s2_ixS (se_var 0) se_int) sa_nil)))
  (ss_seq (ss_if (st_or (st_test (se_op s2_lt (se_var 1) se_int)) (st_test (se_op s2_gt (se_var 1) se_int)))
  ss_never
  ss_next)
  (ss_ret (se_var 1))))⟩
theorem fxX_size_in (G0 : Fx P w K mg base 3 "size_in" ["token"] (spD K 1 f_size_in)) (d : Df K mg "size_in" (top 59)) (T : Txt K w mg)   {C0 : Addr} (X_0 : XC P w K mg base 0 C0) {C3 : Addr} (X_3 : XC3 P w K mg base C3) : FxX P w K mg base 3 "size_in" ["token"] 1 f_size_in (fX_size_in) :=
  fx_ofX G0 d sc_size_in bb_size_in rfl fun f cdv A outer s H E hr => ⟨_,
  by have tk := takes_of (X := cxOf (L2.CX P w) P w K mg base N_size_in "size_in" (defScope (top 59)) f cdv A outer s H E) (E := E) rfl rfl rfl rfl; have po := passes_of (X := cxOf (L2.CX P w) P w K mg base N_size_in "size_in" (defScope (top 59)) f cdv A outer s H E) rfl; exact (pss_cons (ps_nox (ps_set (i := 1) sc_size_in.nd rfl (by first | exact .inl rfl | exact .inr rfl) (pe_callTy call_intS (by rfl) T.b_int bt_int (pa_cons (pe_ix ix_seq (pv 0) pe_int (fun _ _ => rfl)) pa_nil))))
  (pss_cons (ps_if (PT.nox (PW.pt (pw_or (pt_cmpR op_lt (pv 1) pe_int (nomark _)) (pw_or1 (pt_cmpR op_gt (pv 1) (pe_gint T.c_MOST_EVENTS (by rfl)) (nomark _))))))
  (pss_one (ps_raise3 X_3 rfl tk (hr.mono (by decide)) (by rfl) (pe_ix ix_seq (pv 0) pe_int (fun _ _ => rfl)) pe_str))
  pss_nil)
  (pss_one (ps_nox (ps_ret (pv 1)))))),
  fun x => (ssg_seqC (fun _ _ _ _ _ _ _ h => h) (ssg_of (ss_set (i := 1) (se_cb sc_intS (sa_cons (se_op s2_ixS (se_var 0) se_int) sa_nil))))
  (ssg_seqC (fun _ _ _ _ _ _ _ h => h) (ssg_if cx1_kept (stg_of (st_or (st_test (se_op s2_lt (se_var 1) se_int)) (st_test (se_op s2_gt (se_var 1) se_int))))
  (ssg_raise3 X_3 (se_op s2_ixS (se_var 0) se_int) se_str)
  (ssg_of ss_next))
  (ssg_of (ss_ret (se_var 1)))))⟩
theorem fx_parts_between (d : Df K mg "parts_between" (top 55)) (T : Txt K w mg)  : Fx P w K mg base 1 "parts_between" ["tokens", "sign"] (spD K 2 f_parts_between) :=
  fx_of d sc_parts_between bb_parts_between rfl fun f cdv A outer s H Q E hr => ⟨_,
  (pss_cons (ps_set (i := 2) sc_parts_between.nd rfl (by first | exact .inl rfl | exact .inr rfl) (pe_lst pa_nil))
  (pss_cons (ps_set (i := 3) sc_parts_between.nd rfl (by first | exact .inl rfl | exact .inr rfl) (pe_lst pa_nil))
  (pss_cons (ps_for PassesOwn.never rfl (pi_seq (pv 0)) (pg_name (i := 4) sc_parts_between.nd rfl (by first | exact .inl rfl | exact .inr rfl))
  (pss_one (ps_if (pt_cmpR (op_eqD hr.units) (pe_ix ix_seq (pv 4) pe_int (fun _ _ => rfl)) (pv 1) (nomark _))
  (pss_cons (ps_expr (pe_bm PySem.F.plainAttrs_list PySem.F.slot_list_append PySem.F.type_list_append mt_append (pv 2) (pa_cons (pv 3) pa_nil)))
  (pss_one (ps_set (i := 3) sc_parts_between.nd rfl (by first | exact .inl rfl | exact .inr rfl) (pe_lst pa_nil))))
  (pss_one (ps_expr (pe_bm PySem.F.plainAttrs_list PySem.F.slot_list_append PySem.F.type_list_append mt_append (pv 3) (pa_cons (pv 4) pa_nil)))))))
  (pss_one (ps_ret (pe_op op_addS (pv 2) (pe_lst (pa_cons (pv 3) pa_nil)))))))),
  (ss_seq (ss_asgO (so_lst sa_nil))
  (ss_seq (ss_asgO (so_lst sa_nil))
  (ss_seq (ss_for (vs := [4]) (si_seq (se_var 0)) (sg_name 4)
  (ss_if (st_test (se_op s2_eq (se_op s2_ixS (se_var 4) se_int) (se_var 1)))
  (ss_seq (ss_frz 3 (ss_app 2 (se_var 3)))
  (ss_asgO (so_lst sa_nil)))
  (ss_app 3 (se_var 4))))
  (ss_frz 2 (ss_frz 3 (ss_ret (se_op s2_addS (se_var 2) (se_own (so_lst (sa_cons (se_var 3) sa_nil))))))))))⟩
theorem fx_event_in (d : Df K mg "event_in" (top 56)) (T : Txt K w mg)  : Fx P w K mg base 3 "event_in" ["size", "token"] (spD K 2 f_event_in) :=
  fx_of d sc_event_in bb_event_in rfl fun f cdv A outer s H Q E hr => ⟨_,
  (pss_cons (ps_set (i := 2) sc_event_in.nd rfl (by first | exact .inl rfl | exact .inr rfl) (pe_m1 PySem.F.slot_str_index PySem.F.type_str_index mt_sindex (pe_gstr T.c_EVENT_LETTERS (by rfl)) (pe_ix ix_seq (pv 1) pe_int (fun _ _ => rfl))))
  (pss_cons (ps_if (pt_cmpR op_ge (pv 2) (pv 0) (nomark _))
  (pss_one ps_never)
  pss_nil)
  (pss_one (ps_ret (pv 2))))),
  (ss_seq (ss_set (i := 2) (se_tm sm_idxT se_str (se_op s2_ixS (se_var 1) se_int)))
  (ss_seq (ss_if (st_test (se_op s2_ge (se_var 2) (se_var 0)))
  ss_never
  ss_next)
  (ss_ret (se_var 2))))⟩
theorem fxX_event_in (G0 : Fx P w K mg base 3 "event_in" ["size", "token"] (spD K 2 f_event_in)) (d : Df K mg "event_in" (top 56)) (T : Txt K w mg)   {C0 : Addr} (X_0 : XC P w K mg base 0 C0) {C3 : Addr} (X_3 : XC3 P w K mg base C3) : FxX P w K mg base 3 "event_in" ["size", "token"] 2 f_event_in (fX_event_in) :=
  fx_ofX G0 d sc_event_in bb_event_in rfl fun f cdv A outer s H E hr => ⟨_,
  by have tk := takes_of (X := cxOf (L2.CX P w) P w K mg base N_event_in "event_in" (defScope (top 56)) f cdv A outer s H E) (E := E) rfl rfl rfl rfl; have po := passes_of (X := cxOf (L2.CX P w) P w K mg base N_event_in "event_in" (defScope (top 56)) f cdv A outer s H E) rfl; exact (pss_cons (ps_nox (ps_set (i := 2) sc_event_in.nd rfl (by first | exact .inl rfl | exact .inr rfl) (pe_m1 PySem.F.slot_str_index PySem.F.type_str_index mt_sindex (pe_gstr T.c_EVENT_LETTERS (by rfl)) (pe_ix ix_seq (pv 1) pe_int (fun _ _ => rfl)))))
  (pss_cons (ps_if (PT.nox (pt_cmpR op_ge (pv 2) (pv 0) (nomark _)))
  (pss_one (ps_raise3 X_3 rfl tk (hr.mono (by decide)) (by rfl) (pe_ix ix_seq (pv 1) pe_int (fun _ _ => rfl)) pe_str))
  pss_nil)
  (pss_one (ps_nox (ps_ret (pv 2)))))),
  fun x => (ssg_seqC (fun _ _ _ _ _ _ _ h => h) (ssg_of (ss_set (i := 2) (se_tm sm_idxT se_str (se_op s2_ixS (se_var 1) se_int))))
  (ssg_seqC (fun _ _ _ _ _ _ _ h => h) (ssg_if cx1_kept (stg_of (st_test (se_op s2_ge (se_var 2) (se_var 0))))
  (ssg_raise3 X_3 (se_op s2_ixS (se_var 1) se_int) se_str)
  (ssg_of ss_next))
  (ssg_of (ss_ret (se_var 2)))))⟩
theorem fx_integer_in (d : Df K mg "integer_in" (top 57)) (T : Txt K w mg)  : Fx P w K mg base 3 "integer_in" ["tokens", "greatest", "problem"] (spD K 3 f_integer_in) :=
  fx_of d sc_integer_in bb_integer_in rfl fun f cdv A outer s H Q E hr => ⟨_,
  (pss_cons (ps_asg (pe_ix ix_seq (pv 0) (pe_un un_neg pe_int) (fun _ _ => rfl)) (pg_sq rfl (pgs_cons (pg_name (i := 3) sc_integer_in.nd rfl (by first | exact .inl rfl | exact .inr rfl)) (pgs_cons (pg_name (i := 4) sc_integer_in.nd rfl (by first | exact .inl rfl | exact .inr rfl)) (pgs_cons (pg_name (i := 5) sc_integer_in.nd rfl (by first | exact .inl rfl | exact .inr rfl)) pgs_nil)))))
  (pss_cons (ps_if (pt_cmpR op_gt (pe_callTy call_intS (by rfl) T.b_int bt_int (pa_cons (pv 4) pa_nil)) (pv 1) (nomark _))
  (pss_one ps_never)
  pss_nil)
  (pss_one (ps_ret (pe_ifExp (pt_cmpR (op_eqD hr.units) (pe_callB call_lenS (by rfl) T.b_len PySem.boot_len (pa_cons (pv 0) pa_nil)) pe_int (nomark _)) (pe_callTy call_intS (by rfl) T.b_int bt_int (pa_cons (pv 4) pa_nil)) (pe_un un_neg (pe_callTy call_intS (by rfl) T.b_int bt_int (pa_cons (pv 4) pa_nil)))))))),
  (ss_seq (ss_asg (vs := [3, 4, 5]) (se_op s2_ixS (se_var 0) (se_un s1_neg se_int)) (sg_tup (sgs_cons (sg_name 3) (sgs_cons (sg_name 4) (sgs_cons (sg_name 5) sgs_nil)))))
  (ss_seq (ss_if (st_test (se_op s2_gt (se_cb sc_intS (sa_cons (se_var 4) sa_nil)) (se_var 1)))
  ss_never
  ss_next)
  (ss_ret (se_if (st_test (se_op s2_eq (se_cb sc_lenS (sa_cons (se_var 0) sa_nil)) se_int)) (se_cb sc_intS (sa_cons (se_var 4) sa_nil)) (se_un s1_neg (se_cb sc_intS (sa_cons (se_var 4) sa_nil)))))))⟩
theorem fxX_integer_in (G0 : Fx P w K mg base 3 "integer_in" ["tokens", "greatest", "problem"] (spD K 3 f_integer_in)) (d : Df K mg "integer_in" (top 57)) (T : Txt K w mg)   {C0 : Addr} (X_0 : XC P w K mg base 0 C0) {C3 : Addr} (X_3 : XC3 P w K mg base C3) : FxX P w K mg base 3 "integer_in" ["tokens", "greatest", "problem"] 3 f_integer_in (fX_integer_in) :=
  fx_ofX G0 d sc_integer_in bb_integer_in rfl fun f cdv A outer s H E hr => ⟨_,
  by have tk := takes_of (X := cxOf (L2.CX P w) P w K mg base N_integer_in "integer_in" (defScope (top 57)) f cdv A outer s H E) (E := E) rfl rfl rfl rfl; have po := passes_of (X := cxOf (L2.CX P w) P w K mg base N_integer_in "integer_in" (defScope (top 57)) f cdv A outer s H E) rfl; exact (pss_cons (ps_nox (ps_asg (pe_ix ix_seq (pv 0) (pe_un un_neg pe_int) (fun _ _ => rfl)) (pg_sq rfl (pgs_cons (pg_name (i := 3) sc_integer_in.nd rfl (by first | exact .inl rfl | exact .inr rfl)) (pgs_cons (pg_name (i := 4) sc_integer_in.nd rfl (by first | exact .inl rfl | exact .inr rfl)) (pgs_cons (pg_name (i := 5) sc_integer_in.nd rfl (by first | exact .inl rfl | exact .inr rfl)) pgs_nil))))))
  (pss_cons (ps_if (PT.nox (pt_cmpR op_gt (pe_callTy call_intS (by rfl) T.b_int bt_int (pa_cons (pv 4) pa_nil)) (pv 1) (nomark _)))
  (pss_one (ps_raise3 X_3 rfl tk (hr.mono (by decide)) (by rfl) (pv 5) (pv 2)))
  pss_nil)
  (pss_one (ps_nox (ps_ret (pe_ifExp (pt_cmpR (op_eqD hr.units) (pe_callB call_lenS (by rfl) T.b_len PySem.boot_len (pa_cons (pv 0) pa_nil)) pe_int (nomark _)) (pe_callTy call_intS (by rfl) T.b_int bt_int (pa_cons (pv 4) pa_nil)) (pe_un un_neg (pe_callTy call_intS (by rfl) T.b_int bt_int (pa_cons (pv 4) pa_nil))))))))),
  fun x => (ssg_seqC (fun _ _ _ _ _ _ _ h => h) (ssg_of (ss_asg (vs := [3, 4, 5]) (se_op s2_ixS (se_var 0) (se_un s1_neg se_int)) (sg_tup (sgs_cons (sg_name 3) (sgs_cons (sg_name 4) (sgs_cons (sg_name 5) sgs_nil))))))
  (ssg_seqC (fun _ _ _ _ _ _ _ h => h) (ssg_if cx1_kept (stg_of (st_test (se_op s2_gt (se_cb sc_intS (sa_cons (se_var 4) sa_nil)) (se_var 1))))
  (ssg_raise3 X_3 (se_var 5) (se_var 2))
  (ssg_of ss_next))
  (ssg_of (ss_ret (se_if (st_test (se_op s2_eq (se_cb sc_lenS (sa_cons (se_var 0) sa_nil)) se_int)) (se_cb sc_intS (sa_cons (se_var 4) sa_nil)) (se_un s1_neg (se_cb sc_intS (sa_cons (se_var 4) sa_nil))))))))⟩
theorem fx_side_in (d : Df K mg "side_in" (top 58)) (T : Txt K w mg) (G_integer_in : Fx P w K mg base 3 "integer_in" ["tokens", "greatest", "problem"] (spD K 3 f_integer_in)) : Fx P w K mg base 4 "side_in" ["tokens"] (spD K 1 f_side_in) :=
  fx_of d sc_side_in bb_side_in rfl fun f cdv A outer s H Q E hr => ⟨_,
  (pss_cons (ps_if (pt_not (pt_truth (pv 0) (by intro _; rfl)))
  (pss_one (ps_ret pe_non))
  pss_nil)
  (pss_one (ps_ret (pe_fx G_integer_in (hr.mono (by decide)) (by rfl) (pa_cons (pv 0) (pa_cons (pe_gint T.c_GREATEST_SIDE (by rfl)) (pa_cons pe_str pa_nil))))))),
  (ss_seq (ss_if (st_not (st_truth (se_var 0)))
  (ss_ret se_non)
  ss_next)
  (ss_ret (se_call (sa_cons (se_var 0) (sa_cons se_int (sa_cons se_str sa_nil))))))⟩
theorem fxX_side_in (G0 : Fx P w K mg base 4 "side_in" ["tokens"] (spD K 1 f_side_in)) (d : Df K mg "side_in" (top 58)) (T : Txt K w mg) (G_integer_in : Fx P w K mg base 3 "integer_in" ["tokens", "greatest", "problem"] (spD K 3 f_integer_in)) (GX_integer_in : FxX P w K mg base 3 "integer_in" ["tokens", "greatest", "problem"] 3 f_integer_in fX_integer_in) {C0 : Addr} (X_0 : XC P w K mg base 0 C0) {C3 : Addr} (X_3 : XC3 P w K mg base C3) : FxX P w K mg base 4 "side_in" ["tokens"] 1 f_side_in (fX_side_in) :=
  fx_ofX G0 d sc_side_in bb_side_in rfl fun f cdv A outer s H E hr => ⟨_,
  by have tk := takes_of (X := cxOf (L2.CX P w) P w K mg base N_side_in "side_in" (defScope (top 58)) f cdv A outer s H E) (E := E) rfl rfl rfl rfl; have po := passes_of (X := cxOf (L2.CX P w) P w K mg base N_side_in "side_in" (defScope (top 58)) f cdv A outer s H E) rfl; exact (pss_cons (ps_nox (ps_if (pt_not (pt_truth (pv 0) (by intro _; rfl)))
  (pss_one (ps_ret pe_non))
  pss_nil))
  (pss_one (ps_ret (pe_fxX GX_integer_in rfl rfl (hr.mono (by decide)) (by rfl) tk (pa_cons (PE.nox (pv 0)) (pa_cons (PE.nox (pe_gint T.c_GREATEST_SIDE (by rfl))) (pa_cons (PE.nox pe_str) pa_nil))))))),
  fun x => (ssg_seqC (fun _ _ _ _ _ _ _ h => h) (ssg_of (ss_if (st_not (st_truth (se_var 0)))
  (ss_ret se_non)
  ss_next))
  (ssg_ret (seg_callX (sag_cons cx1_kept (seg_of (se_var 0)) (sag_cons cx1_kept (seg_of se_int) (sag_cons cx1_kept (seg_of se_str) sag_nil))))))⟩
theorem fx_rule_in (d : Df K mg "rule_in" (top 60)) (T : Txt K w mg) (G_event_in : Fx P w K mg base 3 "event_in" ["size", "token"] (spD K 2 f_event_in)) (G_side_in : Fx P w K mg base 4 "side_in" ["tokens"] (spD K 1 f_side_in)) (G_parts_between : Fx P w K mg base 1 "parts_between" ["tokens", "sign"] (spD K 2 f_parts_between)) : Fx P w K mg base 5 "rule_in" ["size", "tokens"] (spD K 2 f_rule_in) :=
  fx_of d sc_rule_in bb_rule_in rfl fun f cdv A outer s H Q E hr => ⟨_,
  (pss_cons (ps_set (i := 2) sc_rule_in.nd rfl (by first | exact .inl rfl | exact .inr rfl) (pe_fx G_event_in (hr.mono (by decide)) (by rfl) (pa_cons (pv 0) (pa_cons (pe_ix ix_seq (pv 1) pe_int (fun _ _ => rfl)) pa_nil))))
  (pss_cons (ps_set (i := 3) sc_rule_in.nd rfl (by first | exact .inl rfl | exact .inr rfl) (pe_fx G_event_in (hr.mono (by decide)) (by rfl) (pa_cons (pv 0) (pa_cons (pe_ix ix_seq (pv 1) pe_int (fun _ _ => rfl)) pa_nil))))
  (pss_cons (ps_if (pt_cmpR (op_eqD hr.units) (pv 3) (pv 2) (nomark _))
  (pss_one ps_never)
  pss_nil)
  (pss_cons (ps_asg (pe_lc (own := [("part", 6)]) (g := (gName 6)) rfl sc_rule_in.nd (pi_seq (pe_fx G_parts_between (hr.mono (by decide)) (by rfl) (pa_cons (pe_slice sl_anyS (pv 1) (po_some pe_int) po_none) (pa_cons (pe_gstr T.c_POINTS (by rfl)) pa_nil)))) (blkOk_by (own := [("part", 6)]) (N := N_rule_in) (sc := defScope (top 60)) (by decide +kernel)) (fun _ _ _ _ _ => (pg_name (i := 6) sc_rule_in.nd rfl (by first | exact .inl rfl | exact .inr rfl))) (fun _ _ _ _ _ => pts_nil) (fun _ _ _ _ _ => (pe_fx G_side_in (hr.mono (by decide)) (by rfl) (pa_cons (pv 6) pa_nil)))) (pg_sq rfl (pgs_cons (pg_name (i := 4) sc_rule_in.nd rfl (by first | exact .inl rfl | exact .inr rfl)) (pgs_cons (pg_name (i := 5) sc_rule_in.nd rfl (by first | exact .inl rfl | exact .inr rfl)) pgs_nil))))
  (pss_one (ps_ret (pe_tup (pa_cons (pv 3) (pa_cons (pv 2) (pa_cons (pv 4) (pa_cons (pv 5) pa_nil))))))))))),
  (ss_seq (ss_set (i := 2) (se_call (sa_cons (se_var 0) (sa_cons (se_op s2_ixS (se_var 1) se_int) sa_nil))))
  (ss_seq (ss_set (i := 3) (se_call (sa_cons (se_var 0) (sa_cons (se_op s2_ixS (se_var 1) se_int) sa_nil))))
  (ss_seq (ss_if (st_test (se_op s2_eq (se_var 3) (se_var 2)))
  ss_never
  ss_next)
  (ss_seq (ss_asg (vs := [4, 5]) (se_own (so_lc (vs := [6]) (si_seq (se_call (sa_cons (se_slS (se_var 1) (sop_some se_int) sop_none) (sa_cons se_str sa_nil)))) (sg_name 6) st_yes (se_call (sa_cons (se_var 6) sa_nil)))) (sg_tup (sgs_cons (sg_name 4) (sgs_cons (sg_name 5) sgs_nil))))
  (ss_ret (se_tup (sa_cons (se_var 3) (sa_cons (se_var 2) (sa_cons (se_var 4) (sa_cons (se_var 5) sa_nil))))))))))⟩
theorem fxX_rule_in (G0 : Fx P w K mg base 5 "rule_in" ["size", "tokens"] (spD K 2 f_rule_in)) (d : Df K mg "rule_in" (top 60)) (T : Txt K w mg) (G_event_in : Fx P w K mg base 3 "event_in" ["size", "token"] (spD K 2 f_event_in)) (G_side_in : Fx P w K mg base 4 "side_in" ["tokens"] (spD K 1 f_side_in)) (G_parts_between : Fx P w K mg base 1 "parts_between" ["tokens", "sign"] (spD K 2 f_parts_between)) (GX_event_in : FxX P w K mg base 3 "event_in" ["size", "token"] 2 f_event_in fX_event_in) (GX_side_in : FxX P w K mg base 4 "side_in" ["tokens"] 1 f_side_in fX_side_in) {C0 : Addr} (X_0 : XC P w K mg base 0 C0) {C3 : Addr} (X_3 : XC3 P w K mg base C3) : FxX P w K mg base 5 "rule_in" ["size", "tokens"] 2 f_rule_in (fX_rule_in) :=
  fx_ofX G0 d sc_rule_in bb_rule_in rfl fun f cdv A outer s H E hr => ⟨_,
  by have tk := takes_of (X := cxOf (L2.CX P w) P w K mg base N_rule_in "rule_in" (defScope (top 60)) f cdv A outer s H E) (E := E) rfl rfl rfl rfl; have po := passes_of (X := cxOf (L2.CX P w) P w K mg base N_rule_in "rule_in" (defScope (top 60)) f cdv A outer s H E) rfl; exact (pss_cons (ps_set (i := 2) sc_rule_in.nd rfl (by first | exact .inl rfl | exact .inr rfl) (pe_fxX GX_event_in rfl rfl (hr.mono (by decide)) (by rfl) tk (pa_cons (PE.nox (pv 0)) (pa_cons (PE.nox (pe_ix ix_seq (pv 1) pe_int (fun _ _ => rfl))) pa_nil))))
  (pss_cons (ps_set (i := 3) sc_rule_in.nd rfl (by first | exact .inl rfl | exact .inr rfl) (pe_fxX GX_event_in rfl rfl (hr.mono (by decide)) (by rfl) tk (pa_cons (PE.nox (pv 0)) (pa_cons (PE.nox (pe_ix ix_seq (pv 1) pe_int (fun _ _ => rfl))) pa_nil))))
  (pss_cons (ps_if (PT.nox (pt_cmpR (op_eqD hr.units) (pv 3) (pv 2) (nomark _)))
  (pss_one (ps_raise3 X_3 rfl tk (hr.mono (by decide)) (by rfl) (pe_ix ix_seq (pe_ix ix_seq (pv 1) pe_int (fun _ _ => rfl)) pe_int (fun _ _ => rfl)) pe_str))
  pss_nil)
  (pss_cons (ps_asg (pe_lcR (own := [("part", 6)]) (g := (gName 6)) rfl rfl tk (fun _ _ _ _ _ h => h) rfl sc_rule_in.nd (pi_seq (PE.nox (pe_fx G_parts_between (hr.mono (by decide)) (by rfl) (pa_cons (pe_slice sl_anyS (pv 1) (po_some pe_int) po_none) (pa_cons (pe_gstr T.c_POINTS (by rfl)) pa_nil))))) (blkOk_by (own := [("part", 6)]) (N := N_rule_in) (sc := defScope (top 60)) (by decide +kernel)) (fun _ _ _ _ _ => (pg_name (i := 6) sc_rule_in.nd rfl (by first | exact .inl rfl | exact .inr rfl))) (fun _ _ _ _ _ => pts_nil) (fun _ _ _ _ _ => (pe_fxR GX_side_in rfl rfl (hr.mono (by decide)) (by rfl) (pa_cons (PE.nox (pv 6)) pa_nil)))) (pg_sq rfl (pgs_cons (pg_name (i := 4) sc_rule_in.nd rfl (by first | exact .inl rfl | exact .inr rfl)) (pgs_cons (pg_name (i := 5) sc_rule_in.nd rfl (by first | exact .inl rfl | exact .inr rfl)) pgs_nil))))
  (pss_one (ps_nox (ps_ret (pe_tup (pa_cons (pv 3) (pa_cons (pv 2) (pa_cons (pv 4) (pa_cons (pv 5) pa_nil)))))))))))),
  fun x => (ssg_seqC (fun _ _ _ _ _ _ _ h => h) (ssg_set (i := 2) (seg_callX (sag_cons cx1_kept (seg_of (se_var 0)) (sag_cons cx1_kept (seg_of (se_op s2_ixS (se_var 1) se_int)) sag_nil))))
  (ssg_seqC (fun _ _ _ _ _ _ _ h => h) (ssg_set (i := 3) (seg_callX (sag_cons cx1_kept (seg_of (se_var 0)) (sag_cons cx1_kept (seg_of (se_op s2_ixS (se_var 1) se_int)) sag_nil))))
  (ssg_seqC (fun _ _ _ _ _ _ _ h => h) (ssg_if cx1_kept (stg_of (st_test (se_op s2_eq (se_var 3) (se_var 2))))
  (ssg_raise3 X_3 (se_op s2_ixS (se_op s2_ixS (se_var 1) se_int) se_int) se_str)
  (ssg_of ss_next))
  (ssg_seqC (fun _ _ _ _ _ _ _ h => h) (ssg_asg (vs := [4, 5]) (seg_own (sog_lcX (fun _ _ _ _ _ _ _ h => h) (vs := [6]) (sig_seq (seg_of (se_call (sa_cons (se_slS (se_var 1) (sop_some se_int) sop_none) (sa_cons se_str sa_nil))))) (sg_name 6) st_yes (seg_callX (sag_cons cx1_kept (seg_of (se_var 6)) sag_nil)))) (sg_tup (sgs_cons (sg_name 4) (sgs_cons (sg_name 5) sgs_nil))))
  (ssg_of (ss_ret (se_tup (sa_cons (se_var 3) (sa_cons (se_var 2) (sa_cons (se_var 4) (sa_cons (se_var 5) sa_nil)))))))))))⟩
theorem fx_read_net (d : Df K mg "read_net" (top 61)) (T : Txt K w mg) (G_tokens_of : Fx P w K mg base 6 "tokens_of" ["text", "kind"] (spD K 2 f_tokens_of)) (G_size_in : Fx P w K mg base 3 "size_in" ["token"] (spD K 1 f_size_in)) (G_parts_between : Fx P w K mg base 1 "parts_between" ["tokens", "sign"] (spD K 2 f_parts_between)) (G_rule_in : Fx P w K mg base 5 "rule_in" ["size", "tokens"] (spD K 2 f_rule_in)) : Fx P w K mg base 7 "read_net" ["text"] (spD K 1 f_read_net) :=
  fx_of d sc_read_net bb_read_net rfl fun f cdv A outer s H Q E hr => ⟨_,
  (pss_cons (ps_set (i := 1) sc_read_net.nd rfl (by first | exact .inl rfl | exact .inr rfl) (pe_fx G_tokens_of (hr.mono (by decide)) (by rfl) (pa_cons (pv 0) (pa_cons (pe_gstr T.c_NET (by rfl)) pa_nil))))
  (pss_cons (ps_set (i := 2) sc_read_net.nd rfl (by first | exact .inl rfl | exact .inr rfl) (pe_fx G_size_in (hr.mono (by decide)) (by rfl) (pa_cons (pe_ix ix_seq (pv 1) pe_int (fun _ _ => rfl)) pa_nil)))
  (pss_cons (ps_set (i := 3) sc_read_net.nd rfl (by first | exact .inl rfl | exact .inr rfl) (pe_slice sl_anyS (pv 1) (po_some pe_int) (po_some (pe_un un_neg pe_int))))
  (pss_cons (ps_set (i := 4) sc_read_net.nd rfl (by first | exact .inl rfl | exact .inr rfl) (pe_lst pa_nil))
  (pss_cons (ps_for PassesOwn.never rfl (pi_seq (pe_ifExp (pt_truth (pv 3) (by intro _; rfl)) (pe_fx G_parts_between (hr.mono (by decide)) (by rfl) (pa_cons (pv 3) (pa_cons pe_str pa_nil))) (pe_lst pa_nil))) (pg_name (i := 5) sc_read_net.nd rfl (by first | exact .inl rfl | exact .inr rfl))
  (pss_cons (ps_if (pt_cmpR (op_eqD hr.units) (pe_callB L2.call_len_seq (by rfl) T.b_len PySem.boot_len (pa_cons (pv 4) pa_nil)) (pe_gint T.c_MOST_RULES (by rfl)) (nomark _))
  (pss_one ps_never)
  pss_nil)
  (pss_one (ps_expr (pe_bm PySem.F.plainAttrs_list PySem.F.slot_list_append PySem.F.type_list_append mt_append (pv 4) (pa_cons (pe_fx G_rule_in (hr.mono (by decide)) (by rfl) (pa_cons (pv 2) (pa_cons (pv 5) pa_nil))) pa_nil))))))
  (pss_one (ps_ret (pe_tup (pa_cons (pv 2) (pa_cons (pe_callTy call_tuple_of (by rfl) T.b_tuple bt_tuple (pa_cons (pv 4) pa_nil)) pa_nil)))))))))),
  (ss_seq (ss_set (i := 1) (se_call (sa_cons (se_var 0) (sa_cons se_str sa_nil))))
  (ss_seq (ss_set (i := 2) (se_call (sa_cons (se_op s2_ixS (se_var 1) se_int) sa_nil)))
  (ss_seq (ss_set (i := 3) (se_slS (se_var 1) (sop_some se_int) (sop_some (se_un s1_neg se_int))))
  (ss_seq (ss_asgO (so_lst sa_nil))
  (ss_seq (ss_for (vs := [5]) (si_seq (se_if (st_truth (se_var 3)) (se_call (sa_cons (se_var 3) (sa_cons se_str sa_nil))) (se_own (so_lst sa_nil)))) (sg_name 5)
  (ss_seq (ss_if (st_test (se_op s2_eq (se_oLen 4) se_int))
  ss_never
  ss_next)
  (ss_app 4 (se_call (sa_cons (se_var 2) (sa_cons (se_var 5) sa_nil))))))
  (ss_frz 4 (ss_ret (se_tup (sa_cons (se_var 2) (sa_cons (se_cb sc_tuple (sa_cons (se_var 4) sa_nil)) sa_nil))))))))))⟩
theorem fxX_read_net (G0 : Fx P w K mg base 7 "read_net" ["text"] (spD K 1 f_read_net)) (d : Df K mg "read_net" (top 61)) (T : Txt K w mg) (G_tokens_of : Fx P w K mg base 6 "tokens_of" ["text", "kind"] (spD K 2 f_tokens_of)) (G_size_in : Fx P w K mg base 3 "size_in" ["token"] (spD K 1 f_size_in)) (G_parts_between : Fx P w K mg base 1 "parts_between" ["tokens", "sign"] (spD K 2 f_parts_between)) (G_rule_in : Fx P w K mg base 5 "rule_in" ["size", "tokens"] (spD K 2 f_rule_in)) (GX_tokens_of : FxX P w K mg base 6 "tokens_of" ["text", "kind"] 2 f_tokens_of fX_tokens_of) (GX_size_in : FxX P w K mg base 3 "size_in" ["token"] 1 f_size_in fX_size_in) (GX_rule_in : FxX P w K mg base 5 "rule_in" ["size", "tokens"] 2 f_rule_in fX_rule_in) {C0 : Addr} (X_0 : XC P w K mg base 0 C0) {C3 : Addr} (X_3 : XC3 P w K mg base C3) : FxX P w K mg base 7 "read_net" ["text"] 1 f_read_net (fX_read_net) :=
  fx_ofX G0 d sc_read_net bb_read_net rfl fun f cdv A outer s H E hr => ⟨_,
  by have tk := takes_of (X := cxOf (L2.CX P w) P w K mg base N_read_net "read_net" (defScope (top 61)) f cdv A outer s H E) (E := E) rfl rfl rfl rfl; have po := passes_of (X := cxOf (L2.CX P w) P w K mg base N_read_net "read_net" (defScope (top 61)) f cdv A outer s H E) rfl; exact (pss_cons (ps_set (i := 1) sc_read_net.nd rfl (by first | exact .inl rfl | exact .inr rfl) (pe_fxX GX_tokens_of rfl rfl (hr.mono (by decide)) (by rfl) tk (pa_cons (PE.nox (pv 0)) (pa_cons (PE.nox (pe_gstr T.c_NET (by rfl))) pa_nil))))
  (pss_cons (ps_set (i := 2) sc_read_net.nd rfl (by first | exact .inl rfl | exact .inr rfl) (pe_fxX GX_size_in rfl rfl (hr.mono (by decide)) (by rfl) tk (pa_cons (PE.nox (pe_ix ix_seq (pv 1) pe_int (fun _ _ => rfl))) pa_nil)))
  (pss_cons (ps_nox (ps_set (i := 3) sc_read_net.nd rfl (by first | exact .inl rfl | exact .inr rfl) (pe_slice sl_anyS (pv 1) (po_some pe_int) (po_some (pe_un un_neg pe_int)))))
  (pss_cons (ps_nox (ps_set (i := 4) sc_read_net.nd rfl (by first | exact .inl rfl | exact .inr rfl) (pe_lst pa_nil)))
  (pss_cons (ps_for po rfl (pi_seq (PE.nox (pe_ifExp (pt_truth (pv 3) (by intro _; rfl)) (pe_fx G_parts_between (hr.mono (by decide)) (by rfl) (pa_cons (pv 3) (pa_cons pe_str pa_nil))) (pe_lst pa_nil)))) (pg_name (i := 5) sc_read_net.nd rfl (by first | exact .inl rfl | exact .inr rfl))
  (pss_cons (ps_if (PT.nox (pt_cmpR (op_eqD hr.units) (pe_callB L2.call_len_seq (by rfl) T.b_len PySem.boot_len (pa_cons (pv 4) pa_nil)) (pe_gint T.c_MOST_RULES (by rfl)) (nomark _)))
  (pss_one (ps_raise3 X_3 rfl tk (hr.mono (by decide)) (by rfl) (pe_ix ix_seq (pe_ix ix_seq (pv 5) pe_int (fun _ _ => rfl)) pe_int (fun _ _ => rfl)) pe_str))
  pss_nil)
  (pss_one (ps_expr (pe_bm PySem.F.plainAttrs_list PySem.F.slot_list_append PySem.F.type_list_append mt_append (PE.nox (pv 4)) (pa_cons (pe_fxX GX_rule_in rfl rfl (hr.mono (by decide)) (by rfl) tk (pa_cons (PE.nox (pv 2)) (pa_cons (PE.nox (pv 5)) pa_nil))) pa_nil))))))
  (pss_one (ps_nox (ps_ret (pe_tup (pa_cons (pv 2) (pa_cons (pe_callTy call_tuple_of (by rfl) T.b_tuple bt_tuple (pa_cons (pv 4) pa_nil)) pa_nil))))))))))),
  fun x => (ssg_seqC (fun _ _ _ _ _ _ _ h => h) (ssg_set (i := 1) (seg_callX (sag_cons cx1_kept (seg_of (se_var 0)) (sag_cons cx1_kept (seg_of se_str) sag_nil))))
  (ssg_seqC (fun _ _ _ _ _ _ _ h => h) (ssg_set (i := 2) (seg_callX (sag_cons cx1_kept (seg_of (se_op s2_ixS (se_var 1) se_int)) sag_nil)))
  (ssg_seqC (fun _ _ _ _ _ _ _ h => h) (ssg_of (ss_set (i := 3) (se_slS (se_var 1) (sop_some se_int) (sop_some (se_un s1_neg se_int)))))
  (ssg_seqC (fun _ _ _ _ _ _ _ h => h) (ssg_of (ss_asgO (so_lst sa_nil)))
  (ssg_seqC (fun _ _ _ _ _ _ _ h => h) (ssg_forG (vs := [5]) cx1_base (sig_seq (seg_of (se_if (st_truth (se_var 3)) (se_call (sa_cons (se_var 3) (sa_cons se_str sa_nil))) (se_own (so_lst sa_nil))))) (sg_name 5)
  (ssg_seqC (fun _ _ _ _ _ _ _ h => h) (ssg_if cx1_kept (stg_of (st_test (se_op s2_eq (se_oLen 4) se_int)))
  (ssg_raise3 X_3 (se_op s2_ixS (se_op s2_ixS (se_var 5) se_int) se_int) se_str)
  (ssg_of ss_next))
  (ssg_app 4 (seg_callX (sag_cons cx1_kept (seg_of (se_var 2)) (sag_cons cx1_kept (seg_of (se_var 5)) sag_nil))))))
  (ssg_of (ss_frz 4 (ss_ret (se_tup (sa_cons (se_var 2) (sa_cons (se_cb sc_tuple (sa_cons (se_var 4) sa_nil)) sa_nil)))))))))))⟩
theorem fx_is_whole (d : Df K mg "is_whole" (top 9)) (T : Txt K w mg)  : Fx P w K mg base 1 "is_whole" ["value"] (spD K 1 f_is_whole) :=
  fx_of d sc_is_whole bb_is_whole rfl fun f cdv A outer s H Q E hr => ⟨_,
  (pss_one (ps_ret (pe_and (pe_callB call_isi2 (by rfl) T.b_isinstance bt_isi (pa_cons (pv 0) (pa_cons (pe_bltn (v := .ty "int") (by rfl) T.b_int bt_int rfl) pa_nil))) (pe_one (pe_not (pe_callB call_isi2 (by rfl) T.b_isinstance bt_isi (pa_cons (pv 0) (pa_cons (pe_bltn (v := .ty "bool") (by rfl) T.b_bool bt_bool rfl) pa_nil)))))))),
  (ss_ret (se_and (se_isi ty_int (se_var 0)) (se_not (se_isi ty_bool (se_var 0)))))⟩
theorem fx_is_integer (d : Df K mg "is_integer" (top 10)) (T : Txt K w mg) (G_is_whole : Fx P w K mg base 1 "is_whole" ["value"] (spD K 1 f_is_whole)) : Fx P w K mg base 2 "is_integer" ["value", "least", "greatest"] (spD K 3 f_is_integer) :=
  fx_of d sc_is_integer bb_is_integer rfl fun f cdv A outer s H Q E hr => ⟨_,
  (pss_one (ps_ret (pe_and (pe_fx G_is_whole (hr.mono (by decide)) (by rfl) (pa_cons (pv 0) pa_nil)) (pe_one (pe_chain op_le op_le (pv 1) (pv 0) (pv 2)))))),
  (ss_ret (se_and (se_call (sa_cons (se_var 0) sa_nil)) (se_chain s2_le s2_le (se_var 1) (se_var 0) (se_var 2))))⟩
theorem fx_is_side (d : Df K mg "is_side" (top 12)) (T : Txt K w mg) (G_is_integer : Fx P w K mg base 2 "is_integer" ["value", "least", "greatest"] (spD K 3 f_is_integer)) : Fx P w K mg base 3 "is_side" ["value"] (spD K 1 f_is_side) :=
  fx_of d sc_is_side bb_is_side rfl fun f cdv A outer s H Q E hr => ⟨_,
  (pss_one (ps_ret (pe_or (pe_cmpR op_isN (pv 0) pe_non (nomark _)) (pe_one (pe_fx G_is_integer (hr.mono (by decide)) (by rfl) (pa_cons (pv 0) (pa_cons (pe_un un_neg (pe_gint T.c_GREATEST_SIDE (by rfl))) (pa_cons (pe_gint T.c_GREATEST_SIDE (by rfl)) pa_nil)))))))),
  (ss_ret (se_or (se_op s2_isN (se_var 0) se_non) (se_call (sa_cons (se_var 0) (sa_cons (se_un s1_neg se_int) (sa_cons se_int sa_nil))))))⟩
theorem fx_is_event (d : Df K mg "is_event" (top 11)) (T : Txt K w mg) (G_is_integer : Fx P w K mg base 2 "is_integer" ["value", "least", "greatest"] (spD K 3 f_is_integer)) : Fx P w K mg base 3 "is_event" ["value", "size"] (spD K 2 f_is_event) :=
  fx_of d sc_is_event bb_is_event rfl fun f cdv A outer s H Q E hr => ⟨_,
  (pss_one (ps_ret (pe_fx G_is_integer (hr.mono (by decide)) (by rfl) (pa_cons (pv 0) (pa_cons pe_int (pa_cons (pe_op op_sub (pv 1) pe_int) pa_nil)))))),
  (ss_ret (se_call (sa_cons (se_var 0) (sa_cons se_int (sa_cons (se_op s2_sub (se_var 1) se_int) sa_nil)))))⟩
theorem fx_is_rule (d : Df K mg "is_rule" (top 13)) (T : Txt K w mg) (G_is_side : Fx P w K mg base 3 "is_side" ["value"] (spD K 1 f_is_side)) (G_is_event : Fx P w K mg base 3 "is_event" ["value", "size"] (spD K 2 f_is_event)) : Fx P w K mg base 4 "is_rule" ["value", "size"] (spD K 2 f_is_rule) :=
  fx_of d sc_is_rule bb_is_rule rfl fun f cdv A outer s H Q E hr => ⟨_,
  (pss_cons (ps_if (PW.pt (pw_or (pt_not (pt_truth (pe_callB call_isi2 (by rfl) T.b_isinstance bt_isi (pa_cons (pv 0) (pa_cons (pe_bltn (v := .ty "tuple") (by rfl) T.b_tuple bt_tuple rfl) pa_nil))) (by intro _; rfl))) (pw_or1 (pt_cmpR (op_neD hr.units) (pe_callB call_lenS (by rfl) T.b_len PySem.boot_len (pa_cons (pv 0) pa_nil)) pe_int (nomark _)))))
  (pss_one (ps_ret pe_bl))
  pss_nil)
  (pss_cons (ps_asg (pv 0) (pg_sq rfl (pgs_cons (pg_name (i := 2) sc_is_rule.nd rfl (by first | exact .inl rfl | exact .inr rfl)) (pgs_cons (pg_name (i := 3) sc_is_rule.nd rfl (by first | exact .inl rfl | exact .inr rfl)) (pgs_cons (pg_name (i := 4) sc_is_rule.nd rfl (by first | exact .inl rfl | exact .inr rfl)) (pgs_cons (pg_name (i := 5) sc_is_rule.nd rfl (by first | exact .inl rfl | exact .inr rfl)) pgs_nil))))))
  (pss_cons (ps_if (PW.pt (pw_or (pt_not (pt_truth (pe_fx G_is_event (hr.mono (by decide)) (by rfl) (pa_cons (pv 2) (pa_cons (pv 1) pa_nil))) (by intro _; rfl))) (pw_or (pt_not (pt_truth (pe_fx G_is_event (hr.mono (by decide)) (by rfl) (pa_cons (pv 3) (pa_cons (pv 1) pa_nil))) (by intro _; rfl))) (pw_or1 (pt_cmpR (op_eqD hr.units) (pv 2) (pv 3) (nomark _))))))
  (pss_one (ps_ret pe_bl))
  pss_nil)
  (pss_cons (ps_if (PW.pt (pw_and (pt_cmpR op_isN (pv 4) pe_non (nomark _)) (pw_and1 (pt_cmpR op_isN (pv 5) pe_non (nomark _)))))
  (pss_one (ps_ret pe_bl))
  pss_nil)
  (pss_one (ps_ret (pe_and (pe_fx G_is_side (hr.mono (by decide)) (by rfl) (pa_cons (pv 4) pa_nil)) (pe_one (pe_fx G_is_side (hr.mono (by decide)) (by rfl) (pa_cons (pv 5) pa_nil)))))))))),
  (ss_seq (ss_if (st_or (st_not (st_truth (se_isi ty_tuple (se_var 0)))) (st_test (se_op s2_ne (se_cb sc_lenS (sa_cons (se_var 0) sa_nil)) se_int)))
  (ss_ret se_bl)
  ss_next)
  (ss_seq (ss_asg (vs := [2, 3, 4, 5]) (se_var 0) (sg_tup (sgs_cons (sg_name 2) (sgs_cons (sg_name 3) (sgs_cons (sg_name 4) (sgs_cons (sg_name 5) sgs_nil))))))
  (ss_seq (ss_if (st_or (st_not (st_truth (se_call (sa_cons (se_var 2) (sa_cons (se_var 1) sa_nil))))) (st_or (st_not (st_truth (se_call (sa_cons (se_var 3) (sa_cons (se_var 1) sa_nil))))) (st_test (se_op s2_eq (se_var 2) (se_var 3)))))
  (ss_ret se_bl)
  ss_next)
  (ss_seq (ss_if (st_and (st_test (se_op s2_isN (se_var 4) se_non)) (st_test (se_op s2_isN (se_var 5) se_non)))
  (ss_ret se_bl)
  ss_next)
  (ss_ret (se_and (se_call (sa_cons (se_var 4) sa_nil)) (se_call (sa_cons (se_var 5) sa_nil))))))))⟩
theorem fx_is_net (d : Df K mg "is_net" (top 14)) (T : Txt K w mg) (G_is_integer : Fx P w K mg base 2 "is_integer" ["value", "least", "greatest"] (spD K 3 f_is_integer)) (G_is_rule : Fx P w K mg base 4 "is_rule" ["value", "size"] (spD K 2 f_is_rule)) : Fx P w K mg base 5 "is_net" ["value"] (spD K 1 f_is_net) :=
  fx_of d sc_is_net bb_is_net rfl fun f cdv A outer s H Q E hr => ⟨_,
  (pss_cons (ps_if (PW.pt (pw_or (pt_not (pt_truth (pe_callB call_isi2 (by rfl) T.b_isinstance bt_isi (pa_cons (pv 0) (pa_cons (pe_bltn (v := .ty "tuple") (by rfl) T.b_tuple bt_tuple rfl) pa_nil))) (by intro _; rfl))) (pw_or1 (pt_cmpR (op_neD hr.units) (pe_callB call_lenS (by rfl) T.b_len PySem.boot_len (pa_cons (pv 0) pa_nil)) pe_int (nomark _)))))
  (pss_one (ps_ret pe_bl))
  pss_nil)
  (pss_cons (ps_asg (pv 0) (pg_sq rfl (pgs_cons (pg_name (i := 1) sc_is_net.nd rfl (by first | exact .inl rfl | exact .inr rfl)) (pgs_cons (pg_name (i := 2) sc_is_net.nd rfl (by first | exact .inl rfl | exact .inr rfl)) pgs_nil))))
  (pss_cons (ps_if (pt_not (pt_truth (pe_fx G_is_integer (hr.mono (by decide)) (by rfl) (pa_cons (pv 1) (pa_cons pe_int (pa_cons (pe_gint T.c_MOST_EVENTS (by rfl)) pa_nil)))) (by intro _; rfl)))
  (pss_one (ps_ret pe_bl))
  pss_nil)
  (pss_cons (ps_if (PW.pt (pw_or (pt_not (pt_truth (pe_callB call_isi2 (by rfl) T.b_isinstance bt_isi (pa_cons (pv 2) (pa_cons (pe_bltn (v := .ty "tuple") (by rfl) T.b_tuple bt_tuple rfl) pa_nil))) (by intro _; rfl))) (pw_or1 (pt_cmpR op_gt (pe_callB call_lenS (by rfl) T.b_len PySem.boot_len (pa_cons (pv 2) pa_nil)) (pe_gint T.c_MOST_RULES (by rfl)) (nomark _)))))
  (pss_one (ps_ret pe_bl))
  pss_nil)
  (pss_one (ps_ret (pe_callB (cr_all rfl) (by rfl) T.b_all bt_all (pa_cons (pe_lc (own := [("rule", 3)]) (g := (gName 3)) rfl sc_is_net.nd (pi_seq (pv 2)) (blkOk_by (own := [("rule", 3)]) (N := N_is_net) (sc := defScope (top 14)) (by decide +kernel)) (fun _ _ _ _ _ => (pg_name (i := 3) sc_is_net.nd rfl (by first | exact .inl rfl | exact .inr rfl))) (fun _ _ _ _ _ => pts_nil) (fun _ _ _ _ _ => (pe_fx G_is_rule (hr.mono (by decide)) (by rfl) (pa_cons (pv 3) (pa_cons (pv 1) pa_nil))))) pa_nil)))))))),
  (ss_seq (ss_if (st_or (st_not (st_truth (se_isi ty_tuple (se_var 0)))) (st_test (se_op s2_ne (se_cb sc_lenS (sa_cons (se_var 0) sa_nil)) se_int)))
  (ss_ret se_bl)
  ss_next)
  (ss_seq (ss_asg (vs := [1, 2]) (se_var 0) (sg_tup (sgs_cons (sg_name 1) (sgs_cons (sg_name 2) sgs_nil))))
  (ss_seq (ss_if (st_not (st_truth (se_call (sa_cons (se_var 1) (sa_cons se_int (sa_cons se_int sa_nil))))))
  (ss_ret se_bl)
  ss_next)
  (ss_seq (ss_if (st_or (st_not (st_truth (se_isi ty_tuple (se_var 2)))) (st_test (se_op s2_gt (se_cb sc_lenS (sa_cons (se_var 2) sa_nil)) se_int)))
  (ss_ret se_bl)
  ss_next)
  (ss_ret (se_cb sc_all (sa_cons (se_own (so_lc (vs := [3]) (si_seq (se_var 2)) (sg_name 3) st_yes (se_call (sa_cons (se_var 3) (sa_cons (se_var 1) sa_nil))))) sa_nil)))))))⟩
theorem fx_check_net (d : Df K mg "check_net" (top 16)) (T : Txt K w mg) (G_is_net : Fx P w K mg base 5 "is_net" ["value"] (spD K 1 f_is_net)) : Fx P w K mg base 6 "check_net" ["net"] (spD K 1 f_check_net) :=
  fx_of d sc_check_net bb_check_net rfl fun f cdv A outer s H Q E hr => ⟨_,
  (pss_one (ps_if (pt_not (pt_truth (pe_fx G_is_net (hr.mono (by decide)) (by rfl) (pa_cons (pv 0) pa_nil)) (by intro _; rfl)))
  (pss_one ps_never)
  pss_nil)),
  (ss_if (st_not (st_truth (se_call (sa_cons (se_var 0) sa_nil))))
  ss_never
  ss_next)⟩
theorem fxX_check_net (G0 : Fx P w K mg base 6 "check_net" ["net"] (spD K 1 f_check_net)) (d : Df K mg "check_net" (top 16)) (T : Txt K w mg) (G_is_net : Fx P w K mg base 5 "is_net" ["value"] (spD K 1 f_is_net))  {C0 : Addr} (X_0 : XC P w K mg base 0 C0) {C3 : Addr} (X_3 : XC3 P w K mg base C3) : FxX P w K mg base 6 "check_net" ["net"] 1 f_check_net (fX_check_net) :=
  fx_ofX G0 d sc_check_net bb_check_net rfl fun f cdv A outer s H E hr => ⟨_,
  by have tk := takes_of (X := cxOf (L2.CX P w) P w K mg base N_check_net "check_net" (defScope (top 16)) f cdv A outer s H E) (E := E) rfl rfl rfl rfl; have po := passes_of (X := cxOf (L2.CX P w) P w K mg base N_check_net "check_net" (defScope (top 16)) f cdv A outer s H E) rfl; exact (pss_one (ps_if (PT.nox (pt_not (pt_truth (pe_fx G_is_net (hr.mono (by decide)) (by rfl) (pa_cons (pv 0) pa_nil)) (by intro _; rfl))))
  (pss_one (ps_raise1 (c := 0) X_0 rfl tk (hr.mono (by decide)) (by rfl) pe_str))
  pss_nil)),
  fun x => (ssg_if cx1_kept (stg_of (st_not (st_truth (se_call (sa_cons (se_var 0) sa_nil)))))
  (ssg_raise (c := 0) X_0 se_str)
  (ssg_of ss_next))⟩
theorem fx_pieces_of (d : Df K mg "pieces_of" (top 62)) (T : Txt K w mg) (G_parts_between : Fx P w K mg base 1 "parts_between" ["tokens", "sign"] (spD K 2 f_parts_between)) : Fx P w K mg base 2 "pieces_of" ["tokens"] (spD K 1 f_pieces_of) :=
  fx_of d sc_pieces_of bb_pieces_of rfl fun f cdv A outer s H Q E hr => ⟨_,
  (pss_one (ps_ret (pe_ifExp (pt_cmpR op_gt (pe_callB call_lenS (by rfl) T.b_len PySem.boot_len (pa_cons (pv 0) pa_nil)) pe_int (nomark _)) (pe_fx G_parts_between (hr.mono (by decide)) (by rfl) (pa_cons (pe_slice sl_anyS (pv 0) po_none (po_some (pe_un un_neg pe_int))) (pa_cons pe_str pa_nil))) (pe_lst pa_nil)))),
  (ss_ret (se_if (st_test (se_op s2_gt (se_cb sc_lenS (sa_cons (se_var 0) sa_nil)) se_int)) (se_call (sa_cons (se_slS (se_var 0) sop_none (sop_some (se_un s1_neg se_int))) (sa_cons se_str sa_nil))) (se_own (so_lst sa_nil))))⟩
theorem fx_read_row (d : Df K mg "read_row" (top 63)) (T : Txt K w mg) (G_check_net : Fx P w K mg base 6 "check_net" ["net"] (spD K 1 f_check_net)) (G_pieces_of : Fx P w K mg base 2 "pieces_of" ["tokens"] (spD K 1 f_pieces_of)) (G_tokens_of : Fx P w K mg base 6 "tokens_of" ["text", "kind"] (spD K 2 f_tokens_of)) (G_event_in : Fx P w K mg base 3 "event_in" ["size", "token"] (spD K 2 f_event_in)) (G_integer_in : Fx P w K mg base 3 "integer_in" ["tokens", "greatest", "problem"] (spD K 3 f_integer_in)) : Fx P w K mg base 7 "read_row" ["net", "text"] (spD K 2 f_read_row) :=
  fx_of d sc_read_row bb_read_row rfl fun f cdv A outer s H Q E hr => ⟨_,
  (pss_cons (ps_expr (pe_fx G_check_net (hr.mono (by decide)) (by rfl) (pa_cons (pv 0) pa_nil)))
  (pss_cons (ps_set (i := 2) sc_read_row.nd rfl (by first | exact .inl rfl | exact .inr rfl) (pe_lst pa_nil))
  (pss_cons (ps_for PassesOwn.never rfl (pi_seq (pe_fx G_pieces_of (hr.mono (by decide)) (by rfl) (pa_cons (pe_fx G_tokens_of (hr.mono (by decide)) (by rfl) (pa_cons (pv 1) (pa_cons (pe_gstr T.c_ROW (by rfl)) pa_nil))) pa_nil))) (pg_name (i := 3) sc_read_row.nd rfl (by first | exact .inl rfl | exact .inr rfl))
  (pss_cons (ps_if (pt_cmpR (op_eqD hr.units) (pe_callB L2.call_len_seq (by rfl) T.b_len PySem.boot_len (pa_cons (pv 2) pa_nil)) (pe_gint T.c_MOST_NEWS (by rfl)) (nomark _))
  (pss_one ps_never)
  pss_nil)
  (pss_cons (ps_set (i := 4) sc_read_row.nd rfl (by first | exact .inl rfl | exact .inr rfl) (pe_fx G_event_in (hr.mono (by decide)) (by rfl) (pa_cons (pe_ix ix_seq (pv 0) pe_int (fun _ _ => rfl)) (pa_cons (pe_ix ix_seq (pv 3) pe_int (fun _ _ => rfl)) pa_nil))))
  (pss_one (ps_expr (pe_bm PySem.F.plainAttrs_list PySem.F.slot_list_append PySem.F.type_list_append mt_append (pv 2) (pa_cons (pe_tup (pa_cons (pv 4) (pa_cons (pe_fx G_integer_in (hr.mono (by decide)) (by rfl) (pa_cons (pe_slice sl_anyS (pv 3) (po_some pe_int) po_none) (pa_cons (pe_gint T.c_GREATEST_NEWS_TIME (by rfl)) (pa_cons pe_str pa_nil)))) pa_nil))) pa_nil)))))))
  (pss_one (ps_ret (pe_callTy call_tuple_of (by rfl) T.b_tuple bt_tuple (pa_cons (pv 2) pa_nil))))))),
  (ss_seq (ss_drop (se_call (sa_cons (se_var 0) sa_nil)))
  (ss_seq (ss_asgO (so_lst sa_nil))
  (ss_seq (ss_for (vs := [3]) (si_seq (se_call (sa_cons (se_call (sa_cons (se_var 1) (sa_cons se_str sa_nil))) sa_nil))) (sg_name 3)
  (ss_seq (ss_if (st_test (se_op s2_eq (se_oLen 2) se_int))
  ss_never
  ss_next)
  (ss_seq (ss_set (i := 4) (se_call (sa_cons (se_op s2_ixS (se_var 0) se_int) (sa_cons (se_op s2_ixS (se_var 3) se_int) sa_nil))))
  (ss_app 2 (se_tup (sa_cons (se_var 4) (sa_cons (se_call (sa_cons (se_slS (se_var 3) (sop_some se_int) sop_none) (sa_cons se_int (sa_cons se_str sa_nil)))) sa_nil)))))))
  (ss_frz 2 (ss_ret (se_cb sc_tuple (sa_cons (se_var 2) sa_nil)))))))⟩
theorem fxX_read_row (G0 : Fx P w K mg base 7 "read_row" ["net", "text"] (spD K 2 f_read_row)) (d : Df K mg "read_row" (top 63)) (T : Txt K w mg) (G_check_net : Fx P w K mg base 6 "check_net" ["net"] (spD K 1 f_check_net)) (G_pieces_of : Fx P w K mg base 2 "pieces_of" ["tokens"] (spD K 1 f_pieces_of)) (G_tokens_of : Fx P w K mg base 6 "tokens_of" ["text", "kind"] (spD K 2 f_tokens_of)) (G_event_in : Fx P w K mg base 3 "event_in" ["size", "token"] (spD K 2 f_event_in)) (G_integer_in : Fx P w K mg base 3 "integer_in" ["tokens", "greatest", "problem"] (spD K 3 f_integer_in)) (GX_check_net : FxX P w K mg base 6 "check_net" ["net"] 1 f_check_net fX_check_net) (GX_tokens_of : FxX P w K mg base 6 "tokens_of" ["text", "kind"] 2 f_tokens_of fX_tokens_of) (GX_event_in : FxX P w K mg base 3 "event_in" ["size", "token"] 2 f_event_in fX_event_in) (GX_integer_in : FxX P w K mg base 3 "integer_in" ["tokens", "greatest", "problem"] 3 f_integer_in fX_integer_in) {C0 : Addr} (X_0 : XC P w K mg base 0 C0) {C3 : Addr} (X_3 : XC3 P w K mg base C3) : FxX P w K mg base 7 "read_row" ["net", "text"] 2 f_read_row (fX_read_row) :=
  fx_ofX G0 d sc_read_row bb_read_row rfl fun f cdv A outer s H E hr => ⟨_,
  by have tk := takes_of (X := cxOf (L2.CX P w) P w K mg base N_read_row "read_row" (defScope (top 63)) f cdv A outer s H E) (E := E) rfl rfl rfl rfl; have po := passes_of (X := cxOf (L2.CX P w) P w K mg base N_read_row "read_row" (defScope (top 63)) f cdv A outer s H E) rfl; exact (pss_cons (ps_expr (pe_fxX GX_check_net rfl rfl (hr.mono (by decide)) (by rfl) tk (pa_cons (PE.nox (pv 0)) pa_nil)))
  (pss_cons (ps_nox (ps_set (i := 2) sc_read_row.nd rfl (by first | exact .inl rfl | exact .inr rfl) (pe_lst pa_nil)))
  (pss_cons (ps_for po rfl (pi_seq (pe_fx G_pieces_of (hr.mono (by decide)) (by rfl) (pa_cons (pe_fxX GX_tokens_of rfl rfl (hr.mono (by decide)) (by rfl) tk (pa_cons (PE.nox (pv 1)) (pa_cons (PE.nox (pe_gstr T.c_ROW (by rfl))) pa_nil))) pa_nil))) (pg_name (i := 3) sc_read_row.nd rfl (by first | exact .inl rfl | exact .inr rfl))
  (pss_cons (ps_if (PT.nox (pt_cmpR (op_eqD hr.units) (pe_callB L2.call_len_seq (by rfl) T.b_len PySem.boot_len (pa_cons (pv 2) pa_nil)) (pe_gint T.c_MOST_NEWS (by rfl)) (nomark _)))
  (pss_one (ps_raise3 X_3 rfl tk (hr.mono (by decide)) (by rfl) (pe_ix ix_seq (pe_ix ix_seq (pv 3) pe_int (fun _ _ => rfl)) pe_int (fun _ _ => rfl)) pe_str))
  pss_nil)
  (pss_cons (ps_set (i := 4) sc_read_row.nd rfl (by first | exact .inl rfl | exact .inr rfl) (pe_fxX GX_event_in rfl rfl (hr.mono (by decide)) (by rfl) tk (pa_cons (PE.nox (pe_ix ix_seq (pv 0) pe_int (fun _ _ => rfl))) (pa_cons (PE.nox (pe_ix ix_seq (pv 3) pe_int (fun _ _ => rfl))) pa_nil))))
  (pss_one (ps_expr (pe_bm PySem.F.plainAttrs_list PySem.F.slot_list_append PySem.F.type_list_append mt_append (PE.nox (pv 2)) (pa_cons (pe_tup (pa_cons (PE.nox (pv 4)) (pa_cons (pe_fxX GX_integer_in rfl rfl (hr.mono (by decide)) (by rfl) tk (pa_cons (PE.nox (pe_slice sl_anyS (pv 3) (po_some pe_int) po_none)) (pa_cons (PE.nox (pe_gint T.c_GREATEST_NEWS_TIME (by rfl))) (pa_cons (PE.nox pe_str) pa_nil)))) pa_nil))) pa_nil)))))))
  (pss_one (ps_nox (ps_ret (pe_callTy call_tuple_of (by rfl) T.b_tuple bt_tuple (pa_cons (pv 2) pa_nil)))))))),
  fun x => (ssg_seqC (fun _ _ _ _ _ _ _ h => h) (ssg_drop (seg_callX (sag_cons cx1_kept (seg_of (se_var 0)) sag_nil)))
  (ssg_seqC (fun _ _ _ _ _ _ _ h => h) (ssg_of (ss_asgO (so_lst sa_nil)))
  (ssg_seqC (fun _ _ _ _ _ _ _ h => h) (ssg_forG (vs := [3]) cx1_base (sig_seq (seg_call (sag_cons cx1_kept (seg_callX (sag_cons cx1_kept (seg_of (se_var 1)) (sag_cons cx1_kept (seg_of se_str) sag_nil))) sag_nil))) (sg_name 3)
  (ssg_seqC (fun _ _ _ _ _ _ _ h => h) (ssg_if cx1_kept (stg_of (st_test (se_op s2_eq (se_oLen 2) se_int)))
  (ssg_raise3 X_3 (se_op s2_ixS (se_op s2_ixS (se_var 3) se_int) se_int) se_str)
  (ssg_of ss_next))
  (ssg_seqC (fun _ _ _ _ _ _ _ h => h) (ssg_set (i := 4) (seg_callX (sag_cons cx1_kept (seg_of (se_op s2_ixS (se_var 0) se_int)) (sag_cons cx1_kept (seg_of (se_op s2_ixS (se_var 3) se_int)) sag_nil))))
  (ssg_app 2 (seg_tup (sag_cons cx1_kept (seg_of (se_var 4)) (sag_cons cx1_kept (seg_callX (sag_cons cx1_kept (seg_of (se_slS (se_var 3) (sop_some se_int) sop_none)) (sag_cons cx1_kept (seg_of se_int) (sag_cons cx1_kept (seg_of se_str) sag_nil)))) sag_nil)))))))
  (ssg_of (ss_frz 2 (ss_ret (se_cb sc_tuple (sa_cons (se_var 2) sa_nil))))))))⟩
theorem fx_read_times (d : Df K mg "read_times" (top 64)) (T : Txt K w mg) (G_check_net : Fx P w K mg base 6 "check_net" ["net"] (spD K 1 f_check_net)) (G_tokens_of : Fx P w K mg base 6 "tokens_of" ["text", "kind"] (spD K 2 f_tokens_of)) (G_pieces_of : Fx P w K mg base 2 "pieces_of" ["tokens"] (spD K 1 f_pieces_of)) (G_event_in : Fx P w K mg base 3 "event_in" ["size", "token"] (spD K 2 f_event_in)) (G_integer_in : Fx P w K mg base 3 "integer_in" ["tokens", "greatest", "problem"] (spD K 3 f_integer_in)) : Fx P w K mg base 7 "read_times" ["net", "text"] (spD K 2 f_read_times) :=
  fx_of d sc_read_times bb_read_times rfl fun f cdv A outer s H Q E hr => ⟨_,
  (pss_cons (ps_expr (pe_fx G_check_net (hr.mono (by decide)) (by rfl) (pa_cons (pv 0) pa_nil)))
  (pss_cons (ps_set (i := 2) sc_read_times.nd rfl (by first | exact .inl rfl | exact .inr rfl) (pe_fx G_tokens_of (hr.mono (by decide)) (by rfl) (pa_cons (pv 1) (pa_cons (pe_gstr T.c_ROW (by rfl)) pa_nil))))
  (pss_cons (ps_set (i := 3) sc_read_times.nd rfl (by first | exact .inl rfl | exact .inr rfl) pe_dnewK)
  (pss_cons (ps_for PassesOwn.never rfl (pi_seq (pe_fx G_pieces_of (hr.mono (by decide)) (by rfl) (pa_cons (pv 2) pa_nil))) (pg_name (i := 4) sc_read_times.nd rfl (by first | exact .inl rfl | exact .inr rfl))
  (pss_cons (ps_set (i := 5) sc_read_times.nd rfl (by first | exact .inl rfl | exact .inr rfl) (pe_fx G_event_in (hr.mono (by decide)) (by rfl) (pa_cons (pe_ix ix_seq (pv 0) pe_int (fun _ _ => rfl)) (pa_cons (pe_ix ix_seq (pv 4) pe_int (fun _ _ => rfl)) pa_nil))))
  (pss_cons (ps_if (pt_cmpR (op_kIn (hr.units1)) (pv 5) (pv 3) (by rfl))
  (pss_one ps_never)
  pss_nil)
  (pss_one (ps_dput (hr.units1) (pv 3) (pv 5) (pe_fx G_integer_in (hr.mono (by decide)) (by rfl) (pa_cons (pe_slice sl_anyS (pv 4) (po_some pe_int) po_none) (pa_cons (pe_gint T.c_GREATEST_TIME (by rfl)) (pa_cons pe_str pa_nil)))) (by rfl))))))
  (pss_cons (ps_if (pt_cmpR op_lt (pe_callB call_lenD (by rfl) T.b_len PySem.boot_len (pa_cons (pv 3) pa_nil)) (pe_ix ix_seq (pv 0) pe_int (fun _ _ => rfl)) (nomark _))
  (pss_one ps_never)
  pss_nil)
  (pss_one (ps_ret (pe_callTy call_tuple_of (by rfl) T.b_tuple bt_tuple (pa_cons (pe_lc (own := [("event", 5)]) (g := (gName 5)) rfl sc_read_times.nd (pi_range1 (by rfl) T.b_range (pa_cons (pe_ix ix_seq (pv 0) pe_int (fun _ _ => rfl)) pa_nil)) (blkOk_by (own := [("event", 5)]) (N := N_read_times) (sc := defScope (top 64)) (by decide +kernel)) (fun _ _ _ _ _ => (pg_name (i := 5) sc_read_times.nd rfl (by first | exact .inl rfl | exact .inr rfl))) (fun _ _ _ _ _ => pts_nil) (fun _ _ _ _ _ => (pe_dget (hr.units1) (pv 3) (pv 5) (fun _ _ => rfl)))) pa_nil))))))))),
  (ss_seq (ss_drop (se_call (sa_cons (se_var 0) sa_nil)))
  (ss_seq (ss_set (i := 2) (se_call (sa_cons (se_var 1) (sa_cons se_str sa_nil))))
  (ss_seq (ss_newK 3)
  (ss_seq (ss_for (vs := [4]) (si_seq (se_call (sa_cons (se_var 2) sa_nil))) (sg_name 4)
  (ss_seq (ss_set (i := 5) (se_call (sa_cons (se_op s2_ixS (se_var 0) se_int) (sa_cons (se_op s2_ixS (se_var 4) se_int) sa_nil))))
  (ss_seq (ss_if (st_test (se_inK false 3 (se_var 5)))
  ss_never
  ss_next)
  (ss_putK 3 (se_var 5) (se_call (sa_cons (se_slS (se_var 4) (sop_some se_int) sop_none) (sa_cons se_int (sa_cons se_str sa_nil))))))))
  (ss_seq (ss_if (st_test (se_op s2_lt (se_lenK 3) (se_op s2_ixS (se_var 0) se_int)))
  ss_never
  ss_next)
  (ss_ret (se_cb sc_tuple (sa_cons (se_own (so_lc (vs := [5]) (si_range1 (sa_cons (se_op s2_ixS (se_var 0) se_int) sa_nil)) (sg_name 5) st_yes (se_getK 3 (se_var 5)))) sa_nil))))))))⟩
theorem fxX_read_times (G0 : Fx P w K mg base 7 "read_times" ["net", "text"] (spD K 2 f_read_times)) (d : Df K mg "read_times" (top 64)) (T : Txt K w mg) (G_check_net : Fx P w K mg base 6 "check_net" ["net"] (spD K 1 f_check_net)) (G_tokens_of : Fx P w K mg base 6 "tokens_of" ["text", "kind"] (spD K 2 f_tokens_of)) (G_pieces_of : Fx P w K mg base 2 "pieces_of" ["tokens"] (spD K 1 f_pieces_of)) (G_event_in : Fx P w K mg base 3 "event_in" ["size", "token"] (spD K 2 f_event_in)) (G_integer_in : Fx P w K mg base 3 "integer_in" ["tokens", "greatest", "problem"] (spD K 3 f_integer_in)) (GX_check_net : FxX P w K mg base 6 "check_net" ["net"] 1 f_check_net fX_check_net) (GX_tokens_of : FxX P w K mg base 6 "tokens_of" ["text", "kind"] 2 f_tokens_of fX_tokens_of) (GX_event_in : FxX P w K mg base 3 "event_in" ["size", "token"] 2 f_event_in fX_event_in) (GX_integer_in : FxX P w K mg base 3 "integer_in" ["tokens", "greatest", "problem"] 3 f_integer_in fX_integer_in) {C0 : Addr} (X_0 : XC P w K mg base 0 C0) {C3 : Addr} (X_3 : XC3 P w K mg base C3) : FxX P w K mg base 7 "read_times" ["net", "text"] 2 f_read_times (fX_read_times) :=
  fx_ofX G0 d sc_read_times bb_read_times rfl fun f cdv A outer s H E hr => ⟨_,
  by have tk := takes_of (X := cxOf (L2.CX P w) P w K mg base N_read_times "read_times" (defScope (top 64)) f cdv A outer s H E) (E := E) rfl rfl rfl rfl; have po := passes_of (X := cxOf (L2.CX P w) P w K mg base N_read_times "read_times" (defScope (top 64)) f cdv A outer s H E) rfl; exact (pss_cons (ps_expr (pe_fxX GX_check_net rfl rfl (hr.mono (by decide)) (by rfl) tk (pa_cons (PE.nox (pv 0)) pa_nil)))
  (pss_cons (ps_set (i := 2) sc_read_times.nd rfl (by first | exact .inl rfl | exact .inr rfl) (pe_fxX GX_tokens_of rfl rfl (hr.mono (by decide)) (by rfl) tk (pa_cons (PE.nox (pv 1)) (pa_cons (PE.nox (pe_gstr T.c_ROW (by rfl))) pa_nil))))
  (pss_cons (ps_nox (ps_set (i := 3) sc_read_times.nd rfl (by first | exact .inl rfl | exact .inr rfl) pe_dnewK))
  (pss_cons (ps_for po rfl (pi_seq (PE.nox (pe_fx G_pieces_of (hr.mono (by decide)) (by rfl) (pa_cons (pv 2) pa_nil)))) (pg_name (i := 4) sc_read_times.nd rfl (by first | exact .inl rfl | exact .inr rfl))
  (pss_cons (ps_set (i := 5) sc_read_times.nd rfl (by first | exact .inl rfl | exact .inr rfl) (pe_fxX GX_event_in rfl rfl (hr.mono (by decide)) (by rfl) tk (pa_cons (PE.nox (pe_ix ix_seq (pv 0) pe_int (fun _ _ => rfl))) (pa_cons (PE.nox (pe_ix ix_seq (pv 4) pe_int (fun _ _ => rfl))) pa_nil))))
  (pss_cons (ps_if (PT.nox (pt_cmpR (op_kIn (hr.units1)) (pv 5) (pv 3) (by rfl)))
  (pss_one (ps_raise3 X_3 rfl tk (hr.mono (by decide)) (by rfl) (pe_ix ix_seq (pe_ix ix_seq (pv 4) pe_int (fun _ _ => rfl)) pe_int (fun _ _ => rfl)) pe_str))
  pss_nil)
  (pss_one (ps_dput (hr.units1) (PE.nox (pv 3)) (PE.nox (pv 5)) (pe_fxX GX_integer_in rfl rfl (hr.mono (by decide)) (by rfl) tk (pa_cons (PE.nox (pe_slice sl_anyS (pv 4) (po_some pe_int) po_none)) (pa_cons (PE.nox (pe_gint T.c_GREATEST_TIME (by rfl))) (pa_cons (PE.nox pe_str) pa_nil)))) (by rfl))))))
  (pss_cons (ps_if (PT.nox (pt_cmpR op_lt (pe_callB call_lenD (by rfl) T.b_len PySem.boot_len (pa_cons (pv 3) pa_nil)) (pe_ix ix_seq (pv 0) pe_int (fun _ _ => rfl)) (nomark _)))
  (pss_one (ps_raise3 X_3 rfl tk (hr.mono (by decide)) (by rfl) (pe_ix ix_seq (pe_ix ix_seq (pv 2) (pe_un un_neg pe_int) (fun _ _ => rfl)) pe_int (fun _ _ => rfl)) pe_str))
  pss_nil)
  (pss_one (ps_nox (ps_ret (pe_callTy call_tuple_of (by rfl) T.b_tuple bt_tuple (pa_cons (pe_lc (own := [("event", 5)]) (g := (gName 5)) rfl sc_read_times.nd (pi_range1 (by rfl) T.b_range (pa_cons (pe_ix ix_seq (pv 0) pe_int (fun _ _ => rfl)) pa_nil)) (blkOk_by (own := [("event", 5)]) (N := N_read_times) (sc := defScope (top 64)) (by decide +kernel)) (fun _ _ _ _ _ => (pg_name (i := 5) sc_read_times.nd rfl (by first | exact .inl rfl | exact .inr rfl))) (fun _ _ _ _ _ => pts_nil) (fun _ _ _ _ _ => (pe_dget (hr.units1) (pv 3) (pv 5) (fun _ _ => rfl)))) pa_nil)))))))))),
  fun x => (ssg_seqC (fun _ _ _ _ _ _ _ h => h) (ssg_drop (seg_callX (sag_cons cx1_kept (seg_of (se_var 0)) sag_nil)))
  (ssg_seqC (fun _ _ _ _ _ _ _ h => h) (ssg_set (i := 2) (seg_callX (sag_cons cx1_kept (seg_of (se_var 1)) (sag_cons cx1_kept (seg_of se_str) sag_nil))))
  (ssg_seqC (fun _ _ _ _ _ _ _ h => h) (ssg_of (ss_newK 3))
  (ssg_seqC (fun _ _ _ _ _ _ _ h => h) (ssg_forG (vs := [4]) cx1_base (sig_seq (seg_of (se_call (sa_cons (se_var 2) sa_nil)))) (sg_name 4)
  (ssg_seqC (fun _ _ _ _ _ _ _ h => h) (ssg_set (i := 5) (seg_callX (sag_cons cx1_kept (seg_of (se_op s2_ixS (se_var 0) se_int)) (sag_cons cx1_kept (seg_of (se_op s2_ixS (se_var 4) se_int)) sag_nil))))
  (ssg_seqC (fun _ _ _ _ _ _ _ h => h) (ssg_if cx1_kept (stg_of (st_test (se_inK false 3 (se_var 5))))
  (ssg_raise3 X_3 (se_op s2_ixS (se_op s2_ixS (se_var 4) se_int) se_int) se_str)
  (ssg_of ss_next))
  (ssg_putK 3 (se_var 5) (seg_callX (sag_cons cx1_kept (seg_of (se_slS (se_var 4) (sop_some se_int) sop_none)) (sag_cons cx1_kept (seg_of se_int) (sag_cons cx1_kept (seg_of se_str) sag_nil))))))))
  (ssg_seqC (fun _ _ _ _ _ _ _ h => h) (ssg_if cx1_kept (stg_of (st_test (se_op s2_lt (se_lenK 3) (se_op s2_ixS (se_var 0) se_int))))
  (ssg_raise3 X_3 (se_op s2_ixS (se_op s2_ixS (se_var 2) (se_un s1_neg se_int)) se_int) se_str)
  (ssg_of ss_next))
  (ssg_of (ss_ret (se_cb sc_tuple (sa_cons (se_own (so_lc (vs := [5]) (si_range1 (sa_cons (se_op s2_ixS (se_var 0) se_int) sa_nil)) (sg_name 5) st_yes (se_getK 3 (se_var 5)))) sa_nil)))))))))⟩
theorem fx_side_text (d : Df K mg "side_text" (top 66)) (T : Txt K w mg)  : Fx P w K mg base 1 "side_text" ["side"] (spD K 1 f_side_text) :=
  fx_of d sc_side_text bb_side_text rfl fun f cdv A outer s H Q E hr => ⟨_,
  (pss_one (ps_ret (pe_ifExp (pt_cmpR op_isN (pv 0) pe_non (nomark _)) pe_str (pe_callTy call_str_int (by rfl) T.b_str bt_str (pa_cons (pv 0) pa_nil))))),
  (ss_ret (se_if (st_test (se_op s2_isN (se_var 0) se_non)) se_str (se_cb sc_str (sa_cons (se_var 0) sa_nil))))⟩
theorem fx_rule_text (d : Df K mg "rule_text" (top 67)) (T : Txt K w mg) (G_side_text : Fx P w K mg base 1 "side_text" ["side"] (spD K 1 f_side_text)) : Fx P w K mg base 2 "rule_text" ["rule"] (spD K 1 f_rule_text) :=
  fx_of d sc_rule_text bb_rule_text rfl fun f cdv A outer s H Q E hr => ⟨_,
  (pss_cons (ps_asg (pv 0) (pg_sq rfl (pgs_cons (pg_name (i := 1) sc_rule_text.nd rfl (by first | exact .inl rfl | exact .inr rfl)) (pgs_cons (pg_name (i := 2) sc_rule_text.nd rfl (by first | exact .inl rfl | exact .inr rfl)) (pgs_cons (pg_name (i := 3) sc_rule_text.nd rfl (by first | exact .inl rfl | exact .inr rfl)) (pgs_cons (pg_name (i := 4) sc_rule_text.nd rfl (by first | exact .inl rfl | exact .inr rfl)) pgs_nil))))))
  (pss_one (ps_ret (pe_joined (PJ.cons (pe_fmt (pe_ix ix_seq (pe_gstr T.c_EVENT_LETTERS (by rfl)) (pv 2) (fun _ _ => rfl))) (PJ.cons pe_str (PJ.cons (pe_fmt (pe_ix ix_seq (pe_gstr T.c_EVENT_LETTERS (by rfl)) (pv 1) (fun _ _ => rfl))) (PJ.cons pe_str (PJ.cons (pe_fmt (pe_fx G_side_text (hr.mono (by decide)) (by rfl) (pa_cons (pv 3) pa_nil))) (PJ.cons pe_str (PJ.cons (pe_fmt (pe_fx G_side_text (hr.mono (by decide)) (by rfl) (pa_cons (pv 4) pa_nil))) PJ.nil))))))))))),
  (ss_seq (ss_asg (vs := [1, 2, 3, 4]) (se_var 0) (sg_tup (sgs_cons (sg_name 1) (sgs_cons (sg_name 2) (sgs_cons (sg_name 3) (sgs_cons (sg_name 4) sgs_nil))))))
  (ss_ret (se_js (SEs.cons (se_fmt (se_op s2_ixS se_str (se_var 2))) (SEs.cons se_str (SEs.cons (se_fmt (se_op s2_ixS se_str (se_var 1))) (SEs.cons se_str (SEs.cons (se_fmt (se_call (sa_cons (se_var 3) sa_nil))) (SEs.cons se_str (SEs.cons (se_fmt (se_call (sa_cons (se_var 4) sa_nil))) SEs.nil))))))) Str.empty)))⟩
theorem fx_net_text (d : Df K mg "net_text" (top 68)) (T : Txt K w mg) (G_check_net : Fx P w K mg base 6 "check_net" ["net"] (spD K 1 f_check_net)) (G_rule_text : Fx P w K mg base 2 "rule_text" ["rule"] (spD K 1 f_rule_text)) : Fx P w K mg base 7 "net_text" ["net"] (spD K 1 f_net_text) :=
  fx_of d sc_net_text bb_net_text rfl fun f cdv A outer s H Q E hr => ⟨_,
  (pss_cons (ps_expr (pe_fx G_check_net (hr.mono (by decide)) (by rfl) (pa_cons (pv 0) pa_nil)))
  (pss_cons (ps_asg (pv 0) (pg_sq rfl (pgs_cons (pg_name (i := 2) sc_net_text.nd rfl (by first | exact .inl rfl | exact .inr rfl)) (pgs_cons (pg_name (i := 3) sc_net_text.nd rfl (by first | exact .inl rfl | exact .inr rfl)) pgs_nil))))
  (pss_cons (ps_set (i := 1) sc_net_text.nd rfl (by first | exact .inl rfl | exact .inr rfl) (pe_joined (PJ.cons (pe_fmt (pv 2)) (PJ.cons pe_str PJ.nil))))
  (pss_cons (ps_if (pt_truth (pv 3) (by intro _; rfl))
  (pss_one (ps_aug (i := 1) sc_net_text.nd rfl (by first | exact .inl rfl | exact .inr rfl) (pe_op op_addS pe_str (pe_m1 PySem.F.slot_str_join PySem.F.type_str_join mt_join pe_str (pe_lc (own := [("rule", 4)]) (g := (gName 4)) rfl sc_net_text.nd (pi_seq (pv 3)) (blkOk_by (own := [("rule", 4)]) (N := N_net_text) (sc := defScope (top 68)) (by decide +kernel)) (fun _ _ _ _ _ => (pg_name (i := 4) sc_net_text.nd rfl (by first | exact .inl rfl | exact .inr rfl))) (fun _ _ _ _ _ => pts_nil) (fun _ _ _ _ _ => (pe_fx G_rule_text (hr.mono (by decide)) (by rfl) (pa_cons (pv 4) pa_nil)))))) ip_addS))
  pss_nil)
  (pss_one (ps_ret (pv 1))))))),
  (ss_seq (ss_drop (se_call (sa_cons (se_var 0) sa_nil)))
  (ss_seq (ss_asg (vs := [2, 3]) (se_var 0) (sg_tup (sgs_cons (sg_name 2) (sgs_cons (sg_name 3) sgs_nil))))
  (ss_seq (ss_set (i := 1) (se_js (SEs.cons (se_fmt (se_var 2)) (SEs.cons se_str SEs.nil)) Str.empty))
  (ss_seq (ss_if (st_truth (se_var 3))
  (ss_augS 1 (se_op s2_addS se_str (se_tm sm_join se_str (se_own (so_lc (vs := [4]) (si_seq (se_var 3)) (sg_name 4) st_yes (se_call (sa_cons (se_var 4) sa_nil)))))))
  ss_next)
  (ss_ret (se_var 1))))))⟩
theorem fxX_net_text (G0 : Fx P w K mg base 7 "net_text" ["net"] (spD K 1 f_net_text)) (d : Df K mg "net_text" (top 68)) (T : Txt K w mg) (G_check_net : Fx P w K mg base 6 "check_net" ["net"] (spD K 1 f_check_net)) (G_rule_text : Fx P w K mg base 2 "rule_text" ["rule"] (spD K 1 f_rule_text)) (GX_check_net : FxX P w K mg base 6 "check_net" ["net"] 1 f_check_net fX_check_net) {C0 : Addr} (X_0 : XC P w K mg base 0 C0) {C3 : Addr} (X_3 : XC3 P w K mg base C3) : FxX P w K mg base 7 "net_text" ["net"] 1 f_net_text (fX_net_text) :=
  fx_ofX G0 d sc_net_text bb_net_text rfl fun f cdv A outer s H E hr => ⟨_,
  by have tk := takes_of (X := cxOf (L2.CX P w) P w K mg base N_net_text "net_text" (defScope (top 68)) f cdv A outer s H E) (E := E) rfl rfl rfl rfl; have po := passes_of (X := cxOf (L2.CX P w) P w K mg base N_net_text "net_text" (defScope (top 68)) f cdv A outer s H E) rfl; exact (pss_cons (ps_expr (pe_fxX GX_check_net rfl rfl (hr.mono (by decide)) (by rfl) tk (pa_cons (PE.nox (pv 0)) pa_nil)))
  (pss_cons (ps_nox (ps_asg (pv 0) (pg_sq rfl (pgs_cons (pg_name (i := 2) sc_net_text.nd rfl (by first | exact .inl rfl | exact .inr rfl)) (pgs_cons (pg_name (i := 3) sc_net_text.nd rfl (by first | exact .inl rfl | exact .inr rfl)) pgs_nil)))))
  (pss_cons (ps_nox (ps_set (i := 1) sc_net_text.nd rfl (by first | exact .inl rfl | exact .inr rfl) (pe_joined (PJ.cons (pe_fmt (pv 2)) (PJ.cons pe_str PJ.nil)))))
  (pss_cons (ps_nox (ps_if (pt_truth (pv 3) (by intro _; rfl))
  (pss_one (ps_aug (i := 1) sc_net_text.nd rfl (by first | exact .inl rfl | exact .inr rfl) (pe_op op_addS pe_str (pe_m1 PySem.F.slot_str_join PySem.F.type_str_join mt_join pe_str (pe_lc (own := [("rule", 4)]) (g := (gName 4)) rfl sc_net_text.nd (pi_seq (pv 3)) (blkOk_by (own := [("rule", 4)]) (N := N_net_text) (sc := defScope (top 68)) (by decide +kernel)) (fun _ _ _ _ _ => (pg_name (i := 4) sc_net_text.nd rfl (by first | exact .inl rfl | exact .inr rfl))) (fun _ _ _ _ _ => pts_nil) (fun _ _ _ _ _ => (pe_fx G_rule_text (hr.mono (by decide)) (by rfl) (pa_cons (pv 4) pa_nil)))))) ip_addS))
  pss_nil))
  (pss_one (ps_nox (ps_ret (pv 1)))))))),
  fun x => (ssg_seqC (fun _ _ _ _ _ _ _ h => h) (ssg_drop (seg_callX (sag_cons cx1_kept (seg_of (se_var 0)) sag_nil)))
  (ssg_seqC (fun _ _ _ _ _ _ _ h => h) (ssg_of (ss_asg (vs := [2, 3]) (se_var 0) (sg_tup (sgs_cons (sg_name 2) (sgs_cons (sg_name 3) sgs_nil)))))
  (ssg_seqC (fun _ _ _ _ _ _ _ h => h) (ssg_of (ss_set (i := 1) (se_js (SEs.cons (se_fmt (se_var 2)) (SEs.cons se_str SEs.nil)) Str.empty)))
  (ssg_seqC (fun _ _ _ _ _ _ _ h => h) (ssg_of (ss_if (st_truth (se_var 3))
  (ss_augS 1 (se_op s2_addS se_str (se_tm sm_join se_str (se_own (so_lc (vs := [4]) (si_seq (se_var 3)) (sg_name 4) st_yes (se_call (sa_cons (se_var 4) sa_nil)))))))
  ss_next))
  (ssg_of (ss_ret (se_var 1)))))))⟩
theorem fx_is_news_time (d : Df K mg "is_news_time" (top 21)) (T : Txt K w mg) (G_is_integer : Fx P w K mg base 2 "is_integer" ["value", "least", "greatest"] (spD K 3 f_is_integer)) : Fx P w K mg base 3 "is_news_time" ["value"] (spD K 1 f_is_news_time) :=
  fx_of d sc_is_news_time bb_is_news_time rfl fun f cdv A outer s H Q E hr => ⟨_,
  (pss_one (ps_ret (pe_fx G_is_integer (hr.mono (by decide)) (by rfl) (pa_cons (pv 0) (pa_cons (pe_un un_neg (pe_gint T.c_GREATEST_NEWS_TIME (by rfl))) (pa_cons (pe_gint T.c_GREATEST_NEWS_TIME (by rfl)) pa_nil)))))),
  (ss_ret (se_call (sa_cons (se_var 0) (sa_cons (se_un s1_neg se_int) (sa_cons se_int sa_nil)))))⟩
theorem fx_is_news (d : Df K mg "is_news" (top 22)) (T : Txt K w mg) (G_is_event : Fx P w K mg base 3 "is_event" ["value", "size"] (spD K 2 f_is_event)) (G_is_news_time : Fx P w K mg base 3 "is_news_time" ["value"] (spD K 1 f_is_news_time)) : Fx P w K mg base 4 "is_news" ["value", "size"] (spD K 2 f_is_news) :=
  fx_of d sc_is_news bb_is_news rfl fun f cdv A outer s H Q E hr => ⟨_,
  (pss_cons (ps_if (PW.pt (pw_or (pt_not (pt_truth (pe_callB call_isi2 (by rfl) T.b_isinstance bt_isi (pa_cons (pv 0) (pa_cons (pe_bltn (v := .ty "tuple") (by rfl) T.b_tuple bt_tuple rfl) pa_nil))) (by intro _; rfl))) (pw_or1 (pt_cmpR (op_neD hr.units) (pe_callB call_lenS (by rfl) T.b_len PySem.boot_len (pa_cons (pv 0) pa_nil)) pe_int (nomark _)))))
  (pss_one (ps_ret pe_bl))
  pss_nil)
  (pss_cons (ps_asg (pv 0) (pg_sq rfl (pgs_cons (pg_name (i := 2) sc_is_news.nd rfl (by first | exact .inl rfl | exact .inr rfl)) (pgs_cons (pg_name (i := 3) sc_is_news.nd rfl (by first | exact .inl rfl | exact .inr rfl)) pgs_nil))))
  (pss_one (ps_ret (pe_and (pe_fx G_is_event (hr.mono (by decide)) (by rfl) (pa_cons (pv 2) (pa_cons (pv 1) pa_nil))) (pe_one (pe_fx G_is_news_time (hr.mono (by decide)) (by rfl) (pa_cons (pv 3) pa_nil)))))))),
  (ss_seq (ss_if (st_or (st_not (st_truth (se_isi ty_tuple (se_var 0)))) (st_test (se_op s2_ne (se_cb sc_lenS (sa_cons (se_var 0) sa_nil)) se_int)))
  (ss_ret se_bl)
  ss_next)
  (ss_seq (ss_asg (vs := [2, 3]) (se_var 0) (sg_tup (sgs_cons (sg_name 2) (sgs_cons (sg_name 3) sgs_nil))))
  (ss_ret (se_and (se_call (sa_cons (se_var 2) (sa_cons (se_var 1) sa_nil))) (se_call (sa_cons (se_var 3) sa_nil))))))⟩
theorem fx_are_news (d : Df K mg "are_news" (top 23)) (T : Txt K w mg) (G_is_news : Fx P w K mg base 4 "is_news" ["value", "size"] (spD K 2 f_is_news)) : Fx P w K mg base 5 "are_news" ["value", "size", "most"] (spD K 3 f_are_news) :=
  fx_of d sc_are_news bb_are_news rfl fun f cdv A outer s H Q E hr => ⟨_,
  (pss_cons (ps_if (PW.pt (pw_or (pt_not (pt_truth (pe_callB call_isi2 (by rfl) T.b_isinstance bt_isi (pa_cons (pv 0) (pa_cons (pe_bltn (v := .ty "tuple") (by rfl) T.b_tuple bt_tuple rfl) pa_nil))) (by intro _; rfl))) (pw_or1 (pt_cmpR op_gt (pe_callB call_lenS (by rfl) T.b_len PySem.boot_len (pa_cons (pv 0) pa_nil)) (pv 2) (nomark _)))))
  (pss_one (ps_ret pe_bl))
  pss_nil)
  (pss_one (ps_ret (pe_callB (cr_all rfl) (by rfl) T.b_all bt_all (pa_cons (pe_lc (own := [("piece", 3)]) (g := (gName 3)) rfl sc_are_news.nd (pi_seq (pv 0)) (blkOk_by (own := [("piece", 3)]) (N := N_are_news) (sc := defScope (top 23)) (by decide +kernel)) (fun _ _ _ _ _ => (pg_name (i := 3) sc_are_news.nd rfl (by first | exact .inl rfl | exact .inr rfl))) (fun _ _ _ _ _ => pts_nil) (fun _ _ _ _ _ => (pe_fx G_is_news (hr.mono (by decide)) (by rfl) (pa_cons (pv 3) (pa_cons (pv 1) pa_nil))))) pa_nil))))),
  (ss_seq (ss_if (st_or (st_not (st_truth (se_isi ty_tuple (se_var 0)))) (st_test (se_op s2_gt (se_cb sc_lenS (sa_cons (se_var 0) sa_nil)) (se_var 2))))
  (ss_ret se_bl)
  ss_next)
  (ss_ret (se_cb sc_all (sa_cons (se_own (so_lc (vs := [3]) (si_seq (se_var 0)) (sg_name 3) st_yes (se_call (sa_cons (se_var 3) (sa_cons (se_var 1) sa_nil))))) sa_nil))))⟩
theorem fx_is_row (d : Df K mg "is_row" (top 24)) (T : Txt K w mg) (G_are_news : Fx P w K mg base 5 "are_news" ["value", "size", "most"] (spD K 3 f_are_news)) : Fx P w K mg base 6 "is_row" ["value", "size"] (spD K 2 f_is_row) :=
  fx_of d sc_is_row bb_is_row rfl fun f cdv A outer s H Q E hr => ⟨_,
  (pss_one (ps_ret (pe_fx G_are_news (hr.mono (by decide)) (by rfl) (pa_cons (pv 0) (pa_cons (pv 1) (pa_cons (pe_gint T.c_MOST_NEWS (by rfl)) pa_nil)))))),
  (ss_ret (se_call (sa_cons (se_var 0) (sa_cons (se_var 1) (sa_cons se_int sa_nil)))))⟩
theorem fx_check_row (d : Df K mg "check_row" (top 25)) (T : Txt K w mg) (G_is_row : Fx P w K mg base 6 "is_row" ["value", "size"] (spD K 2 f_is_row)) : Fx P w K mg base 7 "check_row" ["name", "value", "size"] (spD K 3 f_check_row) :=
  fx_of d sc_check_row bb_check_row rfl fun f cdv A outer s H Q E hr => ⟨_,
  (pss_one (ps_if (pt_not (pt_truth (pe_fx G_is_row (hr.mono (by decide)) (by rfl) (pa_cons (pv 1) (pa_cons (pv 2) pa_nil))) (by intro _; rfl)))
  (pss_one ps_never)
  pss_nil)),
  (ss_if (st_not (st_truth (se_call (sa_cons (se_var 1) (sa_cons (se_var 2) sa_nil)))))
  ss_never
  ss_next)⟩
theorem fxX_check_row (G0 : Fx P w K mg base 7 "check_row" ["name", "value", "size"] (spD K 3 f_check_row)) (d : Df K mg "check_row" (top 25)) (T : Txt K w mg) (G_is_row : Fx P w K mg base 6 "is_row" ["value", "size"] (spD K 2 f_is_row))  {C0 : Addr} (X_0 : XC P w K mg base 0 C0) {C3 : Addr} (X_3 : XC3 P w K mg base C3) : FxX P w K mg base 7 "check_row" ["name", "value", "size"] 3 f_check_row (fX_check_row) :=
  fx_ofX G0 d sc_check_row bb_check_row rfl fun f cdv A outer s H E hr => ⟨_,
  by have tk := takes_of (X := cxOf (L2.CX P w) P w K mg base N_check_row "check_row" (defScope (top 25)) f cdv A outer s H E) (E := E) rfl rfl rfl rfl; have po := passes_of (X := cxOf (L2.CX P w) P w K mg base N_check_row "check_row" (defScope (top 25)) f cdv A outer s H E) rfl; exact (pss_one (ps_if (PT.nox (pt_not (pt_truth (pe_fx G_is_row (hr.mono (by decide)) (by rfl) (pa_cons (pv 1) (pa_cons (pv 2) pa_nil))) (by intro _; rfl))))
  (pss_one (ps_raise1 (c := 0) X_0 rfl tk (hr.mono (by decide)) (by rfl) (pv 0)))
  pss_nil)),
  fun x => (ssg_if cx1_kept (stg_of (st_not (st_truth (se_call (sa_cons (se_var 1) (sa_cons (se_var 2) sa_nil))))))
  (ssg_raise (c := 0) X_0 (se_var 0))
  (ssg_of ss_next))⟩
theorem fx_news_text (d : Df K mg "news_text" (top 69)) (T : Txt K w mg)  : Fx P w K mg base 1 "news_text" ["pieces"] (spD K 1 f_news_text) :=
  fx_of d sc_news_text bb_news_text rfl fun f cdv A outer s H Q E hr => ⟨_,
  (pss_one (ps_ret (pe_m1 PySem.F.slot_str_join PySem.F.type_str_join mt_join pe_str (pe_lc (own := [("event", 1), ("time", 2)]) (g := (gSq K 2 (gCons (gName 1) (gCons (gName 2) gNil)))) rfl sc_news_text.nd (pi_seq (pv 0)) (blkOk_by (own := [("event", 1), ("time", 2)]) (N := N_news_text) (sc := defScope (top 69)) (by decide +kernel)) (fun _ _ _ _ _ => (pg_sq rfl (pgs_cons (pg_name (i := 1) sc_news_text.nd rfl (by first | exact .inl rfl | exact .inr rfl)) (pgs_cons (pg_name (i := 2) sc_news_text.nd rfl (by first | exact .inl rfl | exact .inr rfl)) pgs_nil)))) (fun _ _ _ _ _ => pts_nil) (fun _ _ _ _ _ => (pe_joined (PJ.cons (pe_fmt (pe_ix ix_seq (pe_gstr T.c_EVENT_LETTERS (by rfl)) (pv 1) (fun _ _ => rfl))) (PJ.cons pe_str (PJ.cons (pe_fmt (pv 2)) PJ.nil))))))))),
  (ss_ret (se_tm sm_join se_str (se_own (so_lc (vs := [1, 2]) (si_seq (se_var 0)) (sg_tup (sgs_cons (sg_name 1) (sgs_cons (sg_name 2) sgs_nil))) st_yes (se_js (SEs.cons (se_fmt (se_op s2_ixS se_str (se_var 1))) (SEs.cons se_str (SEs.cons (se_fmt (se_var 2)) SEs.nil))) Str.empty)))))⟩
theorem fx_row_text (d : Df K mg "row_text" (top 70)) (T : Txt K w mg) (G_check_row : Fx P w K mg base 7 "check_row" ["name", "value", "size"] (spD K 3 f_check_row)) (G_news_text : Fx P w K mg base 1 "news_text" ["pieces"] (spD K 1 f_news_text)) : Fx P w K mg base 8 "row_text" ["row"] (spD K 1 f_row_text) :=
  fx_of d sc_row_text bb_row_text rfl fun f cdv A outer s H Q E hr => ⟨_,
  (pss_cons (ps_expr (pe_fx G_check_row (hr.mono (by decide)) (by rfl) (pa_cons pe_str (pa_cons (pv 0) (pa_cons (pe_gint T.c_MOST_EVENTS (by rfl)) pa_nil)))))
  (pss_one (ps_ret (pe_fx G_news_text (hr.mono (by decide)) (by rfl) (pa_cons (pv 0) pa_nil))))),
  (ss_seq (ss_drop (se_call (sa_cons se_str (sa_cons (se_var 0) (sa_cons se_int sa_nil)))))
  (ss_ret (se_call (sa_cons (se_var 0) sa_nil))))⟩
theorem fxX_row_text (G0 : Fx P w K mg base 8 "row_text" ["row"] (spD K 1 f_row_text)) (d : Df K mg "row_text" (top 70)) (T : Txt K w mg) (G_check_row : Fx P w K mg base 7 "check_row" ["name", "value", "size"] (spD K 3 f_check_row)) (G_news_text : Fx P w K mg base 1 "news_text" ["pieces"] (spD K 1 f_news_text)) (GX_check_row : FxX P w K mg base 7 "check_row" ["name", "value", "size"] 3 f_check_row fX_check_row) {C0 : Addr} (X_0 : XC P w K mg base 0 C0) {C3 : Addr} (X_3 : XC3 P w K mg base C3) : FxX P w K mg base 8 "row_text" ["row"] 1 f_row_text (fX_row_text) :=
  fx_ofX G0 d sc_row_text bb_row_text rfl fun f cdv A outer s H E hr => ⟨_,
  by have tk := takes_of (X := cxOf (L2.CX P w) P w K mg base N_row_text "row_text" (defScope (top 70)) f cdv A outer s H E) (E := E) rfl rfl rfl rfl; have po := passes_of (X := cxOf (L2.CX P w) P w K mg base N_row_text "row_text" (defScope (top 70)) f cdv A outer s H E) rfl; exact (pss_cons (ps_expr (pe_fxX GX_check_row rfl rfl (hr.mono (by decide)) (by rfl) tk (pa_cons (PE.nox pe_str) (pa_cons (PE.nox (pv 0)) (pa_cons (PE.nox (pe_gint T.c_MOST_EVENTS (by rfl))) pa_nil)))))
  (pss_one (ps_nox (ps_ret (pe_fx G_news_text (hr.mono (by decide)) (by rfl) (pa_cons (pv 0) pa_nil)))))),
  fun x => (ssg_seqC (fun _ _ _ _ _ _ _ h => h) (ssg_drop (seg_callX (sag_cons cx1_kept (seg_of se_str) (sag_cons cx1_kept (seg_of (se_var 0)) (sag_cons cx1_kept (seg_of se_int) sag_nil)))))
  (ssg_of (ss_ret (se_call (sa_cons (se_var 0) sa_nil)))))⟩
theorem fx_is_times (d : Df K mg "is_times" (top 15)) (T : Txt K w mg) (G_is_integer : Fx P w K mg base 2 "is_integer" ["value", "least", "greatest"] (spD K 3 f_is_integer)) : Fx P w K mg base 3 "is_times" ["value", "net"] (spD K 2 f_is_times) :=
  fx_of d sc_is_times bb_is_times rfl fun f cdv A outer s H Q E hr => ⟨_,
  (pss_cons (ps_if (PW.pt (pw_or (pt_not (pt_truth (pe_callB call_isi2 (by rfl) T.b_isinstance bt_isi (pa_cons (pv 0) (pa_cons (pe_bltn (v := .ty "tuple") (by rfl) T.b_tuple bt_tuple rfl) pa_nil))) (by intro _; rfl))) (pw_or1 (pt_cmpR (op_neD hr.units) (pe_callB call_lenS (by rfl) T.b_len PySem.boot_len (pa_cons (pv 0) pa_nil)) (pe_ix ix_seq (pv 1) pe_int (fun _ _ => rfl)) (nomark _)))))
  (pss_one (ps_ret pe_bl))
  pss_nil)
  (pss_one (ps_ret (pe_callB (cr_all rfl) (by rfl) T.b_all bt_all (pa_cons (pe_lc (own := [("time", 2)]) (g := (gName 2)) rfl sc_is_times.nd (pi_seq (pv 0)) (blkOk_by (own := [("time", 2)]) (N := N_is_times) (sc := defScope (top 15)) (by decide +kernel)) (fun _ _ _ _ _ => (pg_name (i := 2) sc_is_times.nd rfl (by first | exact .inl rfl | exact .inr rfl))) (fun _ _ _ _ _ => pts_nil) (fun _ _ _ _ _ => (pe_fx G_is_integer (hr.mono (by decide)) (by rfl) (pa_cons (pv 2) (pa_cons (pe_un un_neg (pe_gint T.c_GREATEST_TIME (by rfl))) (pa_cons (pe_gint T.c_GREATEST_TIME (by rfl)) pa_nil)))))) pa_nil))))),
  (ss_seq (ss_if (st_or (st_not (st_truth (se_isi ty_tuple (se_var 0)))) (st_test (se_op s2_ne (se_cb sc_lenS (sa_cons (se_var 0) sa_nil)) (se_op s2_ixS (se_var 1) se_int))))
  (ss_ret se_bl)
  ss_next)
  (ss_ret (se_cb sc_all (sa_cons (se_own (so_lc (vs := [2]) (si_seq (se_var 0)) (sg_name 2) st_yes (se_call (sa_cons (se_var 2) (sa_cons (se_un s1_neg se_int) (sa_cons se_int sa_nil)))))) sa_nil))))⟩
theorem fx_check_times (d : Df K mg "check_times" (top 17)) (T : Txt K w mg) (G_is_times : Fx P w K mg base 3 "is_times" ["value", "net"] (spD K 2 f_is_times)) : Fx P w K mg base 4 "check_times" ["net", "times"] (spD K 2 f_check_times) :=
  fx_of d sc_check_times bb_check_times rfl fun f cdv A outer s H Q E hr => ⟨_,
  (pss_one (ps_if (pt_not (pt_truth (pe_fx G_is_times (hr.mono (by decide)) (by rfl) (pa_cons (pv 1) (pa_cons (pv 0) pa_nil))) (by intro _; rfl)))
  (pss_one ps_never)
  pss_nil)),
  (ss_if (st_not (st_truth (se_call (sa_cons (se_var 1) (sa_cons (se_var 0) sa_nil)))))
  ss_never
  ss_next)⟩
theorem fxX_check_times (G0 : Fx P w K mg base 4 "check_times" ["net", "times"] (spD K 2 f_check_times)) (d : Df K mg "check_times" (top 17)) (T : Txt K w mg) (G_is_times : Fx P w K mg base 3 "is_times" ["value", "net"] (spD K 2 f_is_times))  {C0 : Addr} (X_0 : XC P w K mg base 0 C0) {C3 : Addr} (X_3 : XC3 P w K mg base C3) : FxX P w K mg base 4 "check_times" ["net", "times"] 2 f_check_times (fX_check_times) :=
  fx_ofX G0 d sc_check_times bb_check_times rfl fun f cdv A outer s H E hr => ⟨_,
  by have tk := takes_of (X := cxOf (L2.CX P w) P w K mg base N_check_times "check_times" (defScope (top 17)) f cdv A outer s H E) (E := E) rfl rfl rfl rfl; have po := passes_of (X := cxOf (L2.CX P w) P w K mg base N_check_times "check_times" (defScope (top 17)) f cdv A outer s H E) rfl; exact (pss_one (ps_if (PT.nox (pt_not (pt_truth (pe_fx G_is_times (hr.mono (by decide)) (by rfl) (pa_cons (pv 1) (pa_cons (pv 0) pa_nil))) (by intro _; rfl))))
  (pss_one (ps_raise1 (c := 0) X_0 rfl tk (hr.mono (by decide)) (by rfl) pe_str))
  pss_nil)),
  fun x => (ssg_if cx1_kept (stg_of (st_not (st_truth (se_call (sa_cons (se_var 1) (sa_cons (se_var 0) sa_nil))))))
  (ssg_raise (c := 0) X_0 se_str)
  (ssg_of ss_next))⟩
theorem fx_times_text (d : Df K mg "times_text" (top 71)) (T : Txt K w mg) (G_check_net : Fx P w K mg base 6 "check_net" ["net"] (spD K 1 f_check_net)) (G_check_times : Fx P w K mg base 4 "check_times" ["net", "times"] (spD K 2 f_check_times)) (G_news_text : Fx P w K mg base 1 "news_text" ["pieces"] (spD K 1 f_news_text)) : Fx P w K mg base 7 "times_text" ["net", "times"] (spD K 2 f_times_text) :=
  fx_of d sc_times_text bb_times_text rfl fun f cdv A outer s H Q E hr => ⟨_,
  (pss_cons (ps_expr (pe_fx G_check_net (hr.mono (by decide)) (by rfl) (pa_cons (pv 0) pa_nil)))
  (pss_cons (ps_expr (pe_fx G_check_times (hr.mono (by decide)) (by rfl) (pa_cons (pv 0) (pa_cons (pv 1) pa_nil))))
  (pss_one (ps_ret (pe_fx G_news_text (hr.mono (by decide)) (by rfl) (pa_cons (pe_listEn rfl (pa_cons (pv 1) pa_nil) (by rfl) T.b_list bt_list (by rfl) T.b_enumerate) pa_nil)))))),
  (ss_seq (ss_drop (se_call (sa_cons (se_var 0) sa_nil)))
  (ss_seq (ss_drop (se_call (sa_cons (se_var 0) (sa_cons (se_var 1) sa_nil))))
  (ss_ret (se_call (sa_cons (se_listEn (sa_cons (se_var 1) sa_nil)) sa_nil)))))⟩
theorem fxX_times_text (G0 : Fx P w K mg base 7 "times_text" ["net", "times"] (spD K 2 f_times_text)) (d : Df K mg "times_text" (top 71)) (T : Txt K w mg) (G_check_net : Fx P w K mg base 6 "check_net" ["net"] (spD K 1 f_check_net)) (G_check_times : Fx P w K mg base 4 "check_times" ["net", "times"] (spD K 2 f_check_times)) (G_news_text : Fx P w K mg base 1 "news_text" ["pieces"] (spD K 1 f_news_text)) (GX_check_net : FxX P w K mg base 6 "check_net" ["net"] 1 f_check_net fX_check_net) (GX_check_times : FxX P w K mg base 4 "check_times" ["net", "times"] 2 f_check_times fX_check_times) {C0 : Addr} (X_0 : XC P w K mg base 0 C0) {C3 : Addr} (X_3 : XC3 P w K mg base C3) : FxX P w K mg base 7 "times_text" ["net", "times"] 2 f_times_text (fX_times_text) :=
  fx_ofX G0 d sc_times_text bb_times_text rfl fun f cdv A outer s H E hr => ⟨_,
  by have tk := takes_of (X := cxOf (L2.CX P w) P w K mg base N_times_text "times_text" (defScope (top 71)) f cdv A outer s H E) (E := E) rfl rfl rfl rfl; have po := passes_of (X := cxOf (L2.CX P w) P w K mg base N_times_text "times_text" (defScope (top 71)) f cdv A outer s H E) rfl; exact (pss_cons (ps_expr (pe_fxX GX_check_net rfl rfl (hr.mono (by decide)) (by rfl) tk (pa_cons (PE.nox (pv 0)) pa_nil)))
  (pss_cons (ps_expr (pe_fxX GX_check_times rfl rfl (hr.mono (by decide)) (by rfl) tk (pa_cons (PE.nox (pv 0)) (pa_cons (PE.nox (pv 1)) pa_nil))))
  (pss_one (ps_nox (ps_ret (pe_fx G_news_text (hr.mono (by decide)) (by rfl) (pa_cons (pe_listEn rfl (pa_cons (pv 1) pa_nil) (by rfl) T.b_list bt_list (by rfl) T.b_enumerate) pa_nil))))))),
  fun x => (ssg_seqC (fun _ _ _ _ _ _ _ h => h) (ssg_drop (seg_callX (sag_cons cx1_kept (seg_of (se_var 0)) sag_nil)))
  (ssg_seqC (fun _ _ _ _ _ _ _ h => h) (ssg_drop (seg_callX (sag_cons cx1_kept (seg_of (se_var 0)) (sag_cons cx1_kept (seg_of (se_var 1)) sag_nil))))
  (ssg_of (ss_ret (se_call (sa_cons (se_listEn (sa_cons (se_var 1) sa_nil)) sa_nil))))))⟩
theorem fx_L_refused (d : Df K mg "_law_refused" (top 82)) (T : Txt K w mg) (G_next_tokens : Fx P w K mg base 6 "next_tokens" ["text", "kind"] (spD K 2 f_next_tokens)) (G_read_net : Fx P w K mg base 7 "read_net" ["text"] (spD K 1 f_read_net)) (G_read_row : Fx P w K mg base 7 "read_row" ["net", "text"] (spD K 2 f_read_row)) (G_read_times : Fx P w K mg base 7 "read_times" ["net", "text"] (spD K 2 f_read_times)) (G_net_text : Fx P w K mg base 7 "net_text" ["net"] (spD K 1 f_net_text)) (G_row_text : Fx P w K mg base 8 "row_text" ["row"] (spD K 1 f_row_text)) (G_times_text : Fx P w K mg base 7 "times_text" ["net", "times"] (spD K 2 f_times_text)) (GX_next_tokens : FxX P w K mg base 6 "next_tokens" ["text", "kind"] 2 f_next_tokens fX_next_tokens) (GX_read_net : FxX P w K mg base 7 "read_net" ["text"] 1 f_read_net fX_read_net) (GX_read_row : FxX P w K mg base 7 "read_row" ["net", "text"] 2 f_read_row fX_read_row) (GX_read_times : FxX P w K mg base 7 "read_times" ["net", "text"] 2 f_read_times fX_read_times) (GX_net_text : FxX P w K mg base 7 "net_text" ["net"] 1 f_net_text fX_net_text) (GX_row_text : FxX P w K mg base 8 "row_text" ["row"] 1 f_row_text fX_row_text) (GX_times_text : FxX P w K mg base 7 "times_text" ["net", "times"] 2 f_times_text fX_times_text) {C0 : Addr} (X_0 : XC P w K mg base 0 C0) {C3 : Addr} (X_3 : XC3 P w K mg base C3) {B_BadValue : Addr} (N_BadValue : mg "BadValue" = some (.ref B_BadValue)) (E_BadValue : ExF K mg B_BadValue [some true, none, none, some false]) {B_TextError : Addr} (N_TextError : mg "TextError" = some (.ref B_TextError)) (E_TextError : ExF K mg B_TextError [some false, none, none, some true]) : Fx P w K mg base 9 "_law_refused" ["which", "one", "other"] (spD K 3 f_L_refused) :=
  fx_of d sc_L_refused bb_L_refused rfl fun f cdv A outer s H Q E hr => ⟨_,
  (pss_cons (ps_tryH rfl rfl sc_L_refused.nd takes0 (fun W pn xe tk po => (pss_one (ps_if (PT.nox (pt_cmpR (op_eqD hr.units) (pv 0) pe_int (nomark _)))
  (pss_one (ps_expr (pe_fxX GX_next_tokens rfl rfl (hr.mono (by decide)) (by rfl) tk (pa_cons (PE.nox (pv 1)) (pa_cons (PE.nox (pv 2)) pa_nil)))))
  (pss_one (ps_if (PT.nox (pt_cmpR (op_eqD hr.units) (pv 0) pe_int (nomark _)))
  (pss_one (ps_expr (pe_fxX GX_read_net rfl rfl (hr.mono (by decide)) (by rfl) tk (pa_cons (PE.nox (pv 1)) pa_nil))))
  (pss_one (ps_if (PT.nox (pt_cmpR (op_eqD hr.units) (pv 0) pe_int (nomark _)))
  (pss_one (ps_expr (pe_fxX GX_read_row rfl rfl (hr.mono (by decide)) (by rfl) tk (pa_cons (PE.nox (pv 1)) (pa_cons (PE.nox (pv 2)) pa_nil)))))
  (pss_one (ps_if (PT.nox (pt_cmpR (op_eqD hr.units) (pv 0) pe_int (nomark _)))
  (pss_one (ps_expr (pe_fxX GX_read_times rfl rfl (hr.mono (by decide)) (by rfl) tk (pa_cons (PE.nox (pv 1)) (pa_cons (PE.nox (pv 2)) pa_nil)))))
  (pss_one (ps_if (PT.nox (pt_cmpR (op_eqD hr.units) (pv 0) pe_int (nomark _)))
  (pss_one (ps_expr (pe_fxX GX_net_text rfl rfl (hr.mono (by decide)) (by rfl) tk (pa_cons (PE.nox (pv 1)) pa_nil))))
  (pss_one (ps_if (PT.nox (pt_cmpR (op_eqD hr.units) (pv 0) pe_int (nomark _)))
  (pss_one (ps_expr (pe_fxX GX_row_text rfl rfl (hr.mono (by decide)) (by rfl) tk (pa_cons (PE.nox (pv 1)) pa_nil))))
  (pss_one (ps_expr (pe_fxX GX_times_text rfl rfl (hr.mono (by decide)) (by rfl) tk (pa_cons (PE.nox (pv 1)) (pa_cons (PE.nox (pv 2)) pa_nil))))))))))))))))))
  (.cons (h := ⟨.ref B_BadValue, 3, fun a cls d => (tRet (tXf a cls d C0 (xfld 0) (tVar 3)))⟩) ⟨by rfl, by decide, .inl N_BadValue⟩ rfl rfl (fun a oe cls d pn hz hf => show PSs _ _ (tRet (tXf a cls d C0 (xfld 0) (tVar 3))) from (pss_one (ps_ret (pe_xf X_0.xf X_0.no hz hf (pv 3))))) .nil))
  (pss_one (ps_ret pe_non))),
  (ss_seq (ss_try (fun W x => (ssg_if cx1_kept (stg_of (st_test (se_op s2_eq (se_var 0) se_int)))
  (ssg_drop (seg_callX (sag_cons cx1_kept (seg_of (se_var 1)) (sag_cons cx1_kept (seg_of (se_var 2)) sag_nil))))
  (ssg_if cx1_kept (stg_of (st_test (se_op s2_eq (se_var 0) se_int)))
  (ssg_drop (seg_callX (sag_cons cx1_kept (seg_of (se_var 1)) sag_nil)))
  (ssg_if cx1_kept (stg_of (st_test (se_op s2_eq (se_var 0) se_int)))
  (ssg_drop (seg_callX (sag_cons cx1_kept (seg_of (se_var 1)) (sag_cons cx1_kept (seg_of (se_var 2)) sag_nil))))
  (ssg_if cx1_kept (stg_of (st_test (se_op s2_eq (se_var 0) se_int)))
  (ssg_drop (seg_callX (sag_cons cx1_kept (seg_of (se_var 1)) (sag_cons cx1_kept (seg_of (se_var 2)) sag_nil))))
  (ssg_if cx1_kept (stg_of (st_test (se_op s2_eq (se_var 0) se_int)))
  (ssg_drop (seg_callX (sag_cons cx1_kept (seg_of (se_var 1)) sag_nil)))
  (ssg_if cx1_kept (stg_of (st_test (se_op s2_eq (se_var 0) se_int)))
  (ssg_drop (seg_callX (sag_cons cx1_kept (seg_of (se_var 1)) sag_nil)))
  (ssg_drop (seg_callX (sag_cons cx1_kept (seg_of (se_var 1)) (sag_cons cx1_kept (seg_of (se_var 2)) sag_nil)))))))))))
  (.cons ⟨rfl, E_BadValue, fun a cls dx c e => (ssg_ret (seg_xf (c0 := 0) X_0.gC))⟩ .nil))
  (ss_ret se_non))⟩
theorem fx_L_net_rows (d : Df K mg "_law_net_rows" (top 78)) (T : Txt K w mg)  : Fx P w K mg base 1 "_law_net_rows" [] (spD K 0 f_L_net_rows) :=
  fx_of d sc_L_net_rows bb_L_net_rows rfl fun f cdv A outer s H Q E hr => ⟨_,
  (pss_cons (ps_set (i := 0) sc_L_net_rows.nd rfl (by first | exact .inl rfl | exact .inr rfl) pe_str)
  (pss_cons (ps_set (i := 1) sc_L_net_rows.nd rfl (by first | exact .inl rfl | exact .inr rfl) pe_str)
  (pss_cons (ps_set (i := 2) sc_L_net_rows.nd rfl (by first | exact .inl rfl | exact .inr rfl) pe_str)
  (pss_cons (ps_set (i := 3) sc_L_net_rows.nd rfl (by first | exact .inl rfl | exact .inr rfl) pe_str)
  (pss_cons (ps_set (i := 4) sc_L_net_rows.nd rfl (by first | exact .inl rfl | exact .inr rfl) pe_str)
  (pss_cons (ps_set (i := 5) sc_L_net_rows.nd rfl (by first | exact .inl rfl | exact .inr rfl) (pe_op op_addS pe_str (pe_op op_mulS pe_str pe_int)))
  (pss_one (ps_ret (pe_lst (pa_cons (pe_tup (pa_cons pe_str (pa_cons (pv 0) pa_nil))) (pa_cons (pe_tup (pa_cons pe_str (pa_cons (pv 0) pa_nil))) (pa_cons (pe_tup (pa_cons pe_str (pa_cons (pv 0) pa_nil))) (pa_cons (pe_tup (pa_cons (pe_op op_addS (pv 5) pe_str) (pa_cons (pv 1) pa_nil))) (pa_cons (pe_tup (pa_cons (pe_op op_addS (pv 5) pe_str) (pa_cons (pv 1) pa_nil))) (pa_cons (pe_tup (pa_cons pe_str (pa_cons (pv 2) pa_nil))) (pa_cons (pe_tup (pa_cons pe_str (pa_cons (pv 2) pa_nil))) (pa_cons (pe_tup (pa_cons pe_str (pa_cons (pv 2) pa_nil))) (pa_cons (pe_tup (pa_cons pe_str (pa_cons (pv 2) pa_nil))) (pa_cons (pe_tup (pa_cons pe_str (pa_cons (pv 3) pa_nil))) (pa_cons (pe_tup (pa_cons pe_str (pa_cons (pv 3) pa_nil))) (pa_cons (pe_tup (pa_cons pe_str (pa_cons (pv 4) pa_nil))) (pa_cons (pe_tup (pa_cons pe_str (pa_cons (pv 4) pa_nil))) (pa_cons (pe_tup (pa_cons pe_str (pa_cons (pv 4) pa_nil))) (pa_cons (pe_tup (pa_cons pe_str (pa_cons (pv 4) pa_nil))) (pa_cons (pe_tup (pa_cons pe_str (pa_cons (pv 4) pa_nil))) (pa_cons (pe_tup (pa_cons pe_str (pa_cons (pv 4) pa_nil))) (pa_cons (pe_tup (pa_cons pe_str (pa_cons (pv 4) pa_nil))) (pa_cons (pe_tup (pa_cons pe_str (pa_cons (pv 3) pa_nil))) (pa_cons (pe_tup (pa_cons pe_str (pa_cons (pv 4) pa_nil))) pa_nil))))))))))))))))))))))))))))),
  (ss_seq (ss_set (i := 0) se_str)
  (ss_seq (ss_set (i := 1) se_str)
  (ss_seq (ss_set (i := 2) se_str)
  (ss_seq (ss_set (i := 3) se_str)
  (ss_seq (ss_set (i := 4) se_str)
  (ss_seq (ss_set (i := 5) (se_op s2_addS se_str (se_op s2_mulS se_str se_int)))
  (ss_ret (se_own (so_lst (sa_cons (se_tup (sa_cons se_str (sa_cons (se_var 0) sa_nil))) (sa_cons (se_tup (sa_cons se_str (sa_cons (se_var 0) sa_nil))) (sa_cons (se_tup (sa_cons se_str (sa_cons (se_var 0) sa_nil))) (sa_cons (se_tup (sa_cons (se_op s2_addS (se_var 5) se_str) (sa_cons (se_var 1) sa_nil))) (sa_cons (se_tup (sa_cons (se_op s2_addS (se_var 5) se_str) (sa_cons (se_var 1) sa_nil))) (sa_cons (se_tup (sa_cons se_str (sa_cons (se_var 2) sa_nil))) (sa_cons (se_tup (sa_cons se_str (sa_cons (se_var 2) sa_nil))) (sa_cons (se_tup (sa_cons se_str (sa_cons (se_var 2) sa_nil))) (sa_cons (se_tup (sa_cons se_str (sa_cons (se_var 2) sa_nil))) (sa_cons (se_tup (sa_cons se_str (sa_cons (se_var 3) sa_nil))) (sa_cons (se_tup (sa_cons se_str (sa_cons (se_var 3) sa_nil))) (sa_cons (se_tup (sa_cons se_str (sa_cons (se_var 4) sa_nil))) (sa_cons (se_tup (sa_cons se_str (sa_cons (se_var 4) sa_nil))) (sa_cons (se_tup (sa_cons se_str (sa_cons (se_var 4) sa_nil))) (sa_cons (se_tup (sa_cons se_str (sa_cons (se_var 4) sa_nil))) (sa_cons (se_tup (sa_cons se_str (sa_cons (se_var 4) sa_nil))) (sa_cons (se_tup (sa_cons se_str (sa_cons (se_var 4) sa_nil))) (sa_cons (se_tup (sa_cons se_str (sa_cons (se_var 4) sa_nil))) (sa_cons (se_tup (sa_cons se_str (sa_cons (se_var 3) sa_nil))) (sa_cons (se_tup (sa_cons se_str (sa_cons (se_var 4) sa_nil))) sa_nil)))))))))))))))))))))))))))))⟩
theorem fx_L_row_rows (d : Df K mg "_law_row_rows" (top 79)) (T : Txt K w mg)  : Fx P w K mg base 1 "_law_row_rows" [] (spD K 0 f_L_row_rows) :=
  fx_of d sc_L_row_rows bb_L_row_rows rfl fun f cdv A outer s H Q E hr => ⟨_,
  (pss_cons (ps_set (i := 0) sc_L_row_rows.nd rfl (by first | exact .inl rfl | exact .inr rfl) pe_str)
  (pss_cons (ps_set (i := 1) sc_L_row_rows.nd rfl (by first | exact .inl rfl | exact .inr rfl) pe_str)
  (pss_cons (ps_set (i := 2) sc_L_row_rows.nd rfl (by first | exact .inl rfl | exact .inr rfl) pe_str)
  (pss_cons (ps_set (i := 3) sc_L_row_rows.nd rfl (by first | exact .inl rfl | exact .inr rfl) (pe_op op_addS pe_str (pe_op op_mulS pe_str pe_int)))
  (pss_one (ps_ret (pe_lst (pa_cons (pe_tup (pa_cons (pe_op op_addS (pv 3) pe_str) (pa_cons (pv 0) pa_nil))) (pa_cons (pe_tup (pa_cons (pe_op op_addS (pv 3) pe_str) (pa_cons (pv 0) pa_nil))) (pa_cons (pe_tup (pa_cons pe_str (pa_cons (pv 1) pa_nil))) (pa_cons (pe_tup (pa_cons pe_str (pa_cons (pv 1) pa_nil))) (pa_cons (pe_tup (pa_cons pe_str (pa_cons (pv 2) pa_nil))) (pa_cons (pe_tup (pa_cons pe_str (pa_cons (pv 2) pa_nil))) (pa_cons (pe_tup (pa_cons pe_str (pa_cons (pv 2) pa_nil))) (pa_cons (pe_tup (pa_cons pe_str (pa_cons (pv 2) pa_nil))) pa_nil))))))))))))))),
  (ss_seq (ss_set (i := 0) se_str)
  (ss_seq (ss_set (i := 1) se_str)
  (ss_seq (ss_set (i := 2) se_str)
  (ss_seq (ss_set (i := 3) (se_op s2_addS se_str (se_op s2_mulS se_str se_int)))
  (ss_ret (se_own (so_lst (sa_cons (se_tup (sa_cons (se_op s2_addS (se_var 3) se_str) (sa_cons (se_var 0) sa_nil))) (sa_cons (se_tup (sa_cons (se_op s2_addS (se_var 3) se_str) (sa_cons (se_var 0) sa_nil))) (sa_cons (se_tup (sa_cons se_str (sa_cons (se_var 1) sa_nil))) (sa_cons (se_tup (sa_cons se_str (sa_cons (se_var 1) sa_nil))) (sa_cons (se_tup (sa_cons se_str (sa_cons (se_var 2) sa_nil))) (sa_cons (se_tup (sa_cons se_str (sa_cons (se_var 2) sa_nil))) (sa_cons (se_tup (sa_cons se_str (sa_cons (se_var 2) sa_nil))) (sa_cons (se_tup (sa_cons se_str (sa_cons (se_var 2) sa_nil))) sa_nil)))))))))))))))⟩
theorem fx_L_times_rows (d : Df K mg "_law_times_rows" (top 80)) (T : Txt K w mg)  : Fx P w K mg base 1 "_law_times_rows" [] (spD K 0 f_L_times_rows) :=
  fx_of d sc_L_times_rows bb_L_times_rows rfl fun f cdv A outer s H Q E hr => ⟨_,
  (pss_cons (ps_set (i := 0) sc_L_times_rows.nd rfl (by first | exact .inl rfl | exact .inr rfl) pe_str)
  (pss_cons (ps_set (i := 1) sc_L_times_rows.nd rfl (by first | exact .inl rfl | exact .inr rfl) pe_str)
  (pss_cons (ps_set (i := 2) sc_L_times_rows.nd rfl (by first | exact .inl rfl | exact .inr rfl) pe_str)
  (pss_cons (ps_set (i := 3) sc_L_times_rows.nd rfl (by first | exact .inl rfl | exact .inr rfl) pe_str)
  (pss_one (ps_ret (pe_lst (pa_cons (pe_tup (pa_cons pe_str (pa_cons (pv 3) pa_nil))) (pa_cons (pe_tup (pa_cons pe_str (pa_cons (pv 3) pa_nil))) (pa_cons (pe_tup (pa_cons pe_str (pa_cons (pv 3) pa_nil))) (pa_cons (pe_tup (pa_cons pe_str (pa_cons (pv 0) pa_nil))) (pa_cons (pe_tup (pa_cons pe_str (pa_cons (pv 0) pa_nil))) (pa_cons (pe_tup (pa_cons pe_str (pa_cons (pv 1) pa_nil))) (pa_cons (pe_tup (pa_cons pe_str (pa_cons (pv 1) pa_nil))) (pa_cons (pe_tup (pa_cons pe_str (pa_cons (pv 2) pa_nil))) (pa_cons (pe_tup (pa_cons pe_str (pa_cons (pv 2) pa_nil))) (pa_cons (pe_tup (pa_cons pe_str (pa_cons (pv 2) pa_nil))) (pa_cons (pe_tup (pa_cons pe_str (pa_cons (pv 1) pa_nil))) pa_nil)))))))))))))))))),
  (ss_seq (ss_set (i := 0) se_str)
  (ss_seq (ss_set (i := 1) se_str)
  (ss_seq (ss_set (i := 2) se_str)
  (ss_seq (ss_set (i := 3) se_str)
  (ss_ret (se_own (so_lst (sa_cons (se_tup (sa_cons se_str (sa_cons (se_var 3) sa_nil))) (sa_cons (se_tup (sa_cons se_str (sa_cons (se_var 3) sa_nil))) (sa_cons (se_tup (sa_cons se_str (sa_cons (se_var 3) sa_nil))) (sa_cons (se_tup (sa_cons se_str (sa_cons (se_var 0) sa_nil))) (sa_cons (se_tup (sa_cons se_str (sa_cons (se_var 0) sa_nil))) (sa_cons (se_tup (sa_cons se_str (sa_cons (se_var 1) sa_nil))) (sa_cons (se_tup (sa_cons se_str (sa_cons (se_var 1) sa_nil))) (sa_cons (se_tup (sa_cons se_str (sa_cons (se_var 2) sa_nil))) (sa_cons (se_tup (sa_cons se_str (sa_cons (se_var 2) sa_nil))) (sa_cons (se_tup (sa_cons se_str (sa_cons (se_var 2) sa_nil))) (sa_cons (se_tup (sa_cons se_str (sa_cons (se_var 1) sa_nil))) sa_nil))))))))))))))))))⟩
theorem fx_L_told (d : Df K mg "_law_told" (top 81)) (T : Txt K w mg) (G_read_net : Fx P w K mg base 7 "read_net" ["text"] (spD K 1 f_read_net)) (G_read_row : Fx P w K mg base 7 "read_row" ["net", "text"] (spD K 2 f_read_row)) (G_read_times : Fx P w K mg base 7 "read_times" ["net", "text"] (spD K 2 f_read_times)) (GX_read_net : FxX P w K mg base 7 "read_net" ["text"] 1 f_read_net fX_read_net) (GX_read_row : FxX P w K mg base 7 "read_row" ["net", "text"] 2 f_read_row fX_read_row) (GX_read_times : FxX P w K mg base 7 "read_times" ["net", "text"] 2 f_read_times fX_read_times) {C0 : Addr} (X_0 : XC P w K mg base 0 C0) {C3 : Addr} (X_3 : XC3 P w K mg base C3) {B_BadValue : Addr} (N_BadValue : mg "BadValue" = some (.ref B_BadValue)) (E_BadValue : ExF K mg B_BadValue [some true, none, none, some false]) {B_TextError : Addr} (N_TextError : mg "TextError" = some (.ref B_TextError)) (E_TextError : ExF K mg B_TextError [some false, none, none, some true]) : Fx P w K mg base 8 "_law_told" ["kind", "text"] (spD K 2 f_L_told) :=
  fx_of d sc_L_told bb_L_told rfl fun f cdv A outer s H Q E hr => ⟨_,
  (pss_cons (ps_set (i := 2) sc_L_told.nd rfl (by first | exact .inl rfl | exact .inr rfl) (pe_tup (pa_cons pe_int (pa_cons (pe_tup (pa_cons (pe_tup (pa_cons pe_int (pa_cons pe_int (pa_cons pe_int (pa_cons pe_int pa_nil))))) pa_nil)) pa_nil))))
  (pss_cons (ps_tryH rfl rfl sc_L_told.nd takes0 (fun W pn xe tk po => (pss_one (ps_if (PT.nox (pt_cmpR (op_eqD hr.units) (pv 0) pe_str (nomark _)))
  (pss_one (ps_expr (pe_fxX GX_read_net rfl rfl (hr.mono (by decide)) (by rfl) tk (pa_cons (PE.nox (pv 1)) pa_nil))))
  (pss_one (ps_if (PT.nox (pt_cmpR (op_eqD hr.units) (pv 0) pe_str (nomark _)))
  (pss_one (ps_expr (pe_fxX GX_read_row rfl rfl (hr.mono (by decide)) (by rfl) tk (pa_cons (PE.nox (pv 2)) (pa_cons (PE.nox (pv 1)) pa_nil)))))
  (pss_one (ps_expr (pe_fxX GX_read_times rfl rfl (hr.mono (by decide)) (by rfl) tk (pa_cons (PE.nox (pv 2)) (pa_cons (PE.nox (pv 1)) pa_nil))))))))))
  (.cons (h := ⟨.ref B_TextError, 3, fun a cls d => (tRet (tTup (tCons (tXf a cls d C3 "column" (tVar 3)) (tCons (tXf a cls d C3 "words" (tVar 3)) tNil))))⟩) ⟨by rfl, by decide, .inl N_TextError⟩ rfl rfl (fun a oe cls d pn hz hf => show PSs _ _ (tRet (tTup (tCons (tXf a cls d C3 "column" (tVar 3)) (tCons (tXf a cls d C3 "words" (tVar 3)) tNil)))) from (pss_one (ps_ret (pe_tup (pa_cons (pe_xf X_3.xf X_3.no1 hz hf (pv 3)) (pa_cons (pe_xf X_3.xf X_3.no2 hz hf (pv 3)) pa_nil)))))) .nil))
  (pss_one (ps_ret pe_non)))),
  (ss_seq (ss_set (i := 2) (se_tup (sa_cons se_int (sa_cons (se_tup (sa_cons (se_tup (sa_cons se_int (sa_cons se_int (sa_cons se_int (sa_cons se_int sa_nil))))) sa_nil)) sa_nil))))
  (ss_seq (ss_try (fun W x => (ssg_if cx1_kept (stg_of (st_test (se_op s2_eq (se_var 0) se_str)))
  (ssg_drop (seg_callX (sag_cons cx1_kept (seg_of (se_var 1)) sag_nil)))
  (ssg_if cx1_kept (stg_of (st_test (se_op s2_eq (se_var 0) se_str)))
  (ssg_drop (seg_callX (sag_cons cx1_kept (seg_of (se_var 2)) (sag_cons cx1_kept (seg_of (se_var 1)) sag_nil))))
  (ssg_drop (seg_callX (sag_cons cx1_kept (seg_of (se_var 2)) (sag_cons cx1_kept (seg_of (se_var 1)) sag_nil)))))))
  (.cons ⟨rfl, E_TextError, fun a cls dx c e => (ssg_ret (seg_tup (sag_cons ch_kept (seg_xfC X_3.gC) (sag_cons ch_kept (seg_xfW X_3.gC) sag_nil))))⟩ .nil))
  (ss_ret se_non)))⟩
theorem fx_law {f : Addr} {fd : FuncData} (F : Fun K "law" "law" (top 83) f fd) (T : Txt K w mg) (G_L_stream : Fx P w K mg base 1 "_law_stream" ["script"] (spStream K)) (G_L_pick : Fx P w K mg base 2 "_law_pick" ["stream", "rows"] (spS K 1 f_L_pick)) (G_L_equal : Fx P w K mg base 9 "_law_equal" ["actual", "due"] (spD K 2 (f_equal 8))) (G_L_refused : Fx P w K mg base 9 "_law_refused" ["which", "one", "other"] (spD K 3 f_L_refused)) (G_L_net_rows : Fx P w K mg base 1 "_law_net_rows" [] (spD K 0 f_L_net_rows)) (G_L_row_rows : Fx P w K mg base 1 "_law_row_rows" [] (spD K 0 f_L_row_rows)) (G_L_times_rows : Fx P w K mg base 1 "_law_times_rows" [] (spD K 0 f_L_times_rows)) (G_L_next : Fx P w K mg base 1 "_law_next" ["stream", "many"] (spS K 1 f_next)) (G_L_told : Fx P w K mg base 8 "_law_told" ["kind", "text"] (spD K 2 f_L_told)) (pure : t_law { nx := fun _ => False, rt := fun d => d = .bool true } (none :: some .strm :: List.replicate (N_law.length - 2) none)) : FnOk P w K mg base CX0 11 f fd ["script"] (spLaw K) :=
  law_of F sc_law (by decide) pure fun cdv A outer s H Q E hr => ⟨_,
  (pss_cons (ps_set (i := 1) sc_law.nd rfl (by first | exact .inl rfl | exact .inr rfl) (pe_fx G_L_stream (hr.mono (by decide)) (by rfl) (pa_cons (pv 0) pa_nil)))
  (pss_cons (ps_set (i := 2) sc_law.nd rfl (by first | exact .inl rfl | exact .inr rfl) (pe_fx G_L_pick (hr.mono (by decide)) (by rfl) (pa_cons (pv 1) (pa_cons (pe_lst (pa_cons pe_str (pa_cons pe_str (pa_cons pe_str pa_nil)))) pa_nil))))
  (pss_cons (ps_set (i := 3) sc_law.nd rfl (by first | exact .inl rfl | exact .inr rfl) (pe_dget (hr.units1) (pe_disp (pps_cons pe_str (pe_fx0 G_L_net_rows (hr.mono (by decide)) (by rfl)) (pps_cons pe_str (pe_fx0 G_L_row_rows (hr.mono (by decide)) (by rfl)) (pps_cons pe_str (pe_fx0 G_L_times_rows (hr.mono (by decide)) (by rfl)) pps_nil))) (by rfl) (by rfl) (fun z => by cases z) (by decide)) (pv 2) (fun _ _ => rfl)))
  (pss_cons (ps_asg (pe_fx G_L_pick (hr.mono (by decide)) (by rfl) (pa_cons (pv 1) (pa_cons (pv 3) pa_nil))) (pg_sq rfl (pgs_cons (pg_name (i := 4) sc_law.nd rfl (by first | exact .inl rfl | exact .inr rfl)) (pgs_cons (pg_name (i := 16) sc_law.nd rfl (by first | exact .inl rfl | exact .inr rfl)) pgs_nil))))
  (pss_setU (i := 4) sc_law.nd rfl (by first | exact .inl rfl | exact .inr rfl) (peu_op op_addS (peu_op op_addS (peu_op op_mulS peu_str (pe_op op_addS pe_int (pe_fx G_L_next (hr.mono (by decide)) (by rfl) (pa_cons (pv 1) (pa_cons pe_int pa_nil))))) (pv 4)) (pe_op op_mulS pe_str (pe_fx G_L_next (hr.mono (by decide)) (by rfl) (pa_cons (pv 1) (pa_cons pe_int pa_nil))))) (psst_cons (pst_setT (i := 5) sc_law.nd rfl (by first | exact .inl rfl | exact .inr rfl) (CwR.pet_replC (pv 4))) (PSsT.of
  (pss_cons (ps_set (i := 6) sc_law.nd rfl (by first | exact .inl rfl | exact .inr rfl) (pe_ifExp (pt_cmpR (op_eqD hr.units) (pe_ix ix_seq (pe_strip (pv 4)) (pe_un un_neg pe_int) (fun _ _ => rfl)) pe_str (nomark _)) (pe_op op_addS (pe_callB call_lenS (by rfl) T.b_len PySem.boot_len (pa_cons (pv 5) pa_nil)) pe_int) (pe_op op_addS (pe_m1 PySem.F.slot_str_index PySem.F.type_str_index mt_sindex (pv 4) pe_str) pe_int)))
  (pss_cons (ps_if (pt_not (pt_truth (pe_fx G_L_equal (hr.mono (by decide)) (by rfl) (pa_cons (pe_fx G_L_told (hr.mono (by decide)) (by rfl) (pa_cons (pv 2) (pa_cons (pv 5) pa_nil))) (pa_cons (pe_tup (pa_cons (pv 6) (pa_cons (pv 16) pa_nil))) pa_nil))) (by intro _; rfl)))
  (pss_one (ps_ret pe_bl))
  pss_nil)
  (pss_cons (ps_set (i := 7) sc_law.nd rfl (by first | exact .inl rfl | exact .inr rfl) (pe_lst (pa_cons (pe_tup (pa_cons pe_str (pa_cons pe_str pa_nil))) (pa_cons (pe_tup (pa_cons pe_str (pa_cons pe_str pa_nil))) (pa_cons (pe_tup (pa_cons pe_str (pa_cons (pe_op op_addS pe_str (pe_op op_mulS pe_str pe_int)) pa_nil))) (pa_cons (pe_tup (pa_cons pe_str (pa_cons pe_str pa_nil))) (pa_cons (pe_tup (pa_cons pe_str (pa_cons (pe_op op_addS pe_str (pe_op op_mulS pe_str pe_int)) pa_nil))) (pa_cons (pe_tup (pa_cons pe_str (pa_cons pe_str pa_nil))) pa_nil))))))))
  (pss_cons (ps_if (pt_cmpR (op_neD hr.units) (pe_lc (own := [("one", 17), ("text", 5)]) (g := (gSq K 2 (gCons (gName 17) (gCons (gName 5) gNil)))) rfl sc_law.nd (pi_seq (pv 7)) (blkOk_by (own := [("one", 17), ("text", 5)]) (N := N_law) (sc := defScope (top 83)) (by decide +kernel)) (fun _ _ _ _ _ => (pg_sq rfl (pgs_cons (pg_name (i := 17) sc_law.nd rfl (by first | exact .inl rfl | exact .inr rfl)) (pgs_cons (pg_name (i := 5) sc_law.nd rfl (by first | exact .inl rfl | exact .inr rfl)) pgs_nil)))) (fun _ _ _ _ _ => pts_nil) (fun _ _ _ _ _ => (pe_fx G_L_told (hr.mono (by decide)) (by rfl) (pa_cons (pv 17) (pa_cons (pv 5) pa_nil))))) (pe_op op_mulS (pe_lst (pa_cons pe_non pa_nil)) pe_int) (nomark _))
  (pss_one (ps_ret pe_bl))
  pss_nil)
  (pss_cons (ps_set (i := 8) sc_law.nd rfl (by first | exact .inl rfl | exact .inr rfl) (pe_fx G_L_pick (hr.mono (by decide)) (by rfl) (pa_cons (pv 1) (pa_cons (pe_lst (pa_cons pe_non (pa_cons (pe_op op_mulS pe_str pe_int) (pa_cons pe_str (pa_cons (pe_lst (pa_cons pe_str pa_nil)) (pa_cons pe_int pa_nil)))))) pa_nil))))
  (pss_cons (ps_set (i := 9) sc_law.nd rfl (by first | exact .inl rfl | exact .inr rfl) (pe_fx G_L_pick (hr.mono (by decide)) (by rfl) (pa_cons (pv 1) (pa_cons (pe_lst (pa_cons pe_non (pa_cons pe_int (pa_cons pe_str (pa_cons pe_bl (pa_cons (pe_lst (pa_cons pe_str pa_nil)) (pa_cons pe_str pa_nil))))))) pa_nil))))
  (pss_cons (ps_set (i := 10) sc_law.nd rfl (by first | exact .inl rfl | exact .inr rfl) (pe_fx G_L_pick (hr.mono (by decide)) (by rfl) (pa_cons (pv 1) (pa_cons (pe_lst (pa_cons pe_non (pa_cons (pe_tup (pa_cons pe_int pa_nil)) (pa_cons (pe_tup (pa_cons pe_int (pa_cons (pe_tup pa_nil) pa_nil))) (pa_cons (pe_tup (pa_cons pe_int (pa_cons (pe_tup pa_nil) pa_nil))) (pa_cons (pe_tup (pa_cons pe_int (pa_cons (pe_tup (pa_cons (pe_tup (pa_cons pe_int (pa_cons pe_int (pa_cons pe_int (pa_cons pe_int pa_nil))))) pa_nil)) pa_nil))) (pa_cons (pe_tup (pa_cons pe_int (pa_cons (pe_tup (pa_cons (pe_tup (pa_cons pe_int (pa_cons pe_int (pa_cons pe_non (pa_cons pe_non pa_nil))))) pa_nil)) pa_nil))) (pa_cons (pe_lst (pa_cons pe_int (pa_cons (pe_tup pa_nil) pa_nil))) (pa_cons (pe_tup (pa_cons pe_int (pa_cons (pe_tup (pa_cons (pe_tup (pa_cons pe_int (pa_cons pe_int (pa_cons pe_int (pa_cons pe_int pa_nil))))) pa_nil)) pa_nil))) pa_nil))))))))) pa_nil))))
  (pss_cons (ps_set (i := 11) sc_law.nd rfl (by first | exact .inl rfl | exact .inr rfl) (pe_tup (pa_cons pe_int (pa_cons (pe_tup (pa_cons (pe_tup (pa_cons pe_int (pa_cons pe_int (pa_cons pe_int (pa_cons pe_int pa_nil))))) pa_nil)) pa_nil))))
  (pss_cons (ps_set (i := 12) sc_law.nd rfl (by first | exact .inl rfl | exact .inr rfl) (pe_fx G_L_pick (hr.mono (by decide)) (by rfl) (pa_cons (pv 1) (pa_cons (pe_lst (pa_cons pe_non (pa_cons (pe_lst (pa_cons (pe_tup (pa_cons pe_int (pa_cons pe_int pa_nil))) pa_nil)) (pa_cons (pe_tup (pa_cons (pe_tup (pa_cons pe_int (pa_cons pe_int pa_nil))) pa_nil)) (pa_cons (pe_tup (pa_cons (pe_tup (pa_cons pe_int (pa_cons (pe_un un_neg pe_int) pa_nil))) pa_nil)) (pa_cons (pe_tup (pa_cons (pe_tup (pa_cons pe_int (pa_cons pe_int pa_nil))) pa_nil)) (pa_cons (pe_tup (pa_cons (pe_tup (pa_cons (pe_un un_neg pe_int) (pa_cons pe_int pa_nil))) pa_nil)) (pa_cons (pe_tup (pa_cons (pe_tup (pa_cons pe_bl (pa_cons pe_int pa_nil))) pa_nil)) (pa_cons (pe_tup (pa_cons (pe_tup (pa_cons pe_int (pa_cons pe_bl pa_nil))) pa_nil)) (pa_cons (pe_tup (pa_cons (pe_tup (pa_cons pe_int pa_nil)) pa_nil)) (pa_cons (pe_op op_mulS (pe_tup (pa_cons (pe_tup (pa_cons pe_int (pa_cons pe_int pa_nil))) pa_nil)) pe_int) (pa_cons (pe_tup (pa_cons (pe_lst (pa_cons pe_int (pa_cons pe_int pa_nil))) pa_nil)) (pa_cons (pe_tup (pa_cons (pe_tup (pa_cons pe_int (pa_cons pe_non pa_nil))) pa_nil)) pa_nil))))))))))))) pa_nil))))
  (pss_cons (ps_set (i := 13) sc_law.nd rfl (by first | exact .inl rfl | exact .inr rfl) (pe_fx G_L_pick (hr.mono (by decide)) (by rfl) (pa_cons (pv 1) (pa_cons (pe_lst (pa_cons pe_non (pa_cons (pe_lst (pa_cons pe_int (pa_cons pe_int pa_nil))) (pa_cons (pe_tup (pa_cons pe_int pa_nil)) (pa_cons (pe_tup (pa_cons pe_int (pa_cons pe_int (pa_cons pe_int pa_nil)))) (pa_cons (pe_tup (pa_cons pe_int (pa_cons pe_int pa_nil))) (pa_cons (pe_tup (pa_cons (pe_un un_neg pe_int) (pa_cons pe_int pa_nil))) (pa_cons (pe_tup (pa_cons pe_bl (pa_cons pe_int pa_nil))) (pa_cons (pe_tup (pa_cons pe_int (pa_cons pe_non pa_nil))) (pa_cons (pe_tup (pa_cons pe_str (pa_cons pe_int pa_nil))) pa_nil)))))))))) pa_nil))))
  (pss_cons (ps_set (i := 14) sc_law.nd rfl (by first | exact .inl rfl | exact .inr rfl) (pe_lst (pa_cons (pe_fx G_L_refused (hr.mono (by decide)) (by rfl) (pa_cons pe_int (pa_cons (pv 8) (pa_cons (pv 9) pa_nil)))) (pa_cons (pe_fx G_L_refused (hr.mono (by decide)) (by rfl) (pa_cons pe_int (pa_cons pe_str (pa_cons (pv 9) pa_nil)))) (pa_cons (pe_fx G_L_refused (hr.mono (by decide)) (by rfl) (pa_cons pe_int (pa_cons (pv 8) (pa_cons pe_int pa_nil)))) (pa_cons (pe_fx G_L_refused (hr.mono (by decide)) (by rfl) (pa_cons pe_int (pa_cons (pv 10) (pa_cons (pv 8) pa_nil)))) (pa_cons (pe_fx G_L_refused (hr.mono (by decide)) (by rfl) (pa_cons pe_int (pa_cons (pv 11) (pa_cons (pv 8) pa_nil)))) (pa_cons (pe_fx G_L_refused (hr.mono (by decide)) (by rfl) (pa_cons pe_int (pa_cons (pv 10) (pa_cons (pv 8) pa_nil)))) (pa_cons (pe_fx G_L_refused (hr.mono (by decide)) (by rfl) (pa_cons pe_int (pa_cons (pv 11) (pa_cons (pv 8) pa_nil)))) pa_nil)))))))))
  (pss_cons (ps_set (i := 15) sc_law.nd rfl (by first | exact .inl rfl | exact .inr rfl) (pe_lst (pa_cons (pe_fx G_L_refused (hr.mono (by decide)) (by rfl) (pa_cons pe_int (pa_cons (pv 10) (pa_cons pe_int pa_nil)))) (pa_cons (pe_fx G_L_refused (hr.mono (by decide)) (by rfl) (pa_cons pe_int (pa_cons (pv 12) (pa_cons pe_int pa_nil)))) (pa_cons (pe_fx G_L_refused (hr.mono (by decide)) (by rfl) (pa_cons pe_int (pa_cons (pv 10) (pa_cons (pv 13) pa_nil)))) (pa_cons (pe_fx G_L_refused (hr.mono (by decide)) (by rfl) (pa_cons pe_int (pa_cons (pv 11) (pa_cons (pv 13) pa_nil)))) pa_nil))))))
  (pss_one (ps_ret (pe_and (pe_cmpR (op_eqD hr.units) (pv 14) (pe_lst (pa_cons pe_str (pa_cons pe_str (pa_cons pe_str (pa_cons pe_str (pa_cons pe_str (pa_cons pe_str (pa_cons pe_str pa_nil)))))))) (nomark _)) (pe_one (pe_cmpR (op_eqD hr.units) (pv 15) (pe_lst (pa_cons pe_str (pa_cons pe_str (pa_cons pe_str (pa_cons pe_str pa_nil))))) (nomark _))))))))))))))))))))))))),
  (ss_seq (ss_set (i := 2) (se_callS 1 (sa_cons (se_own (so_lst (sa_cons se_str (sa_cons se_str (sa_cons se_str sa_nil))))) sa_nil)))
  (ss_seq (ss_set (i := 3) (se_disG (.cons (se_call sa_nil) (.cons (se_call sa_nil) (.cons (se_call sa_nil) .nil))) (se_var 2)))
  (ss_seq (ss_asg (vs := [4, 16]) (se_callS 1 (sa_cons (se_var 3) sa_nil)) (sg_tup (sgs_cons (sg_name 4) (sgs_cons (sg_name 16) sgs_nil))))
  (ss_seq (ss_set (i := 4) (se_op s2_addS (se_op s2_addS (se_op s2_mulS se_str (se_op s2_addS se_int (se_callS 1 (sa_cons se_int sa_nil)))) (se_var 4)) (se_op s2_mulS se_str (se_callS 1 (sa_cons se_int sa_nil)))))
  (ss_seq (ss_set (i := 5) (se_repl (se_var 4)))
  (ss_seq (ss_set (i := 6) (se_if (st_test (se_op s2_eq (se_op s2_ixS (se_strip (se_var 4)) (se_un s1_neg se_int)) se_str)) (se_op s2_addS (se_cb sc_lenS (sa_cons (se_var 5) sa_nil)) se_int) (se_op s2_addS (se_tm sm_idxT (se_var 4) se_str) se_int)))
  (ss_seq (ss_if (st_not (st_truth (se_call (sa_cons (se_call (sa_cons (se_var 2) (sa_cons (se_var 5) sa_nil))) (sa_cons (se_tup (sa_cons (se_var 6) (sa_cons (se_var 16) sa_nil))) sa_nil)))))
  (ss_ret se_bl)
  ss_next)
  (ss_seq (ss_set (i := 7) (se_own (so_lst (sa_cons (se_tup (sa_cons se_str (sa_cons se_str sa_nil))) (sa_cons (se_tup (sa_cons se_str (sa_cons se_str sa_nil))) (sa_cons (se_tup (sa_cons se_str (sa_cons (se_op s2_addS se_str (se_op s2_mulS se_str se_int)) sa_nil))) (sa_cons (se_tup (sa_cons se_str (sa_cons se_str sa_nil))) (sa_cons (se_tup (sa_cons se_str (sa_cons (se_op s2_addS se_str (se_op s2_mulS se_str se_int)) sa_nil))) (sa_cons (se_tup (sa_cons se_str (sa_cons se_str sa_nil))) sa_nil)))))))))
  (ss_seq (ss_if (st_test (se_op s2_ne (se_own (so_lc (vs := [17, 5]) (si_seq (se_var 7)) (sg_tup (sgs_cons (sg_name 17) (sgs_cons (sg_name 5) sgs_nil))) st_yes (se_call (sa_cons (se_var 17) (sa_cons (se_var 5) sa_nil))))) (se_op s2_mulS (se_own (so_lst (sa_cons se_non sa_nil))) se_int)))
  (ss_ret se_bl)
  ss_next)
  (ss_seq (ss_set (i := 8) (se_callS 1 (sa_cons (se_own (so_lst (sa_cons se_non (sa_cons (se_op s2_mulS se_str se_int) (sa_cons se_str (sa_cons (se_own (so_lst (sa_cons se_str sa_nil))) (sa_cons se_int sa_nil))))))) sa_nil)))
  (ss_seq (ss_set (i := 9) (se_callS 1 (sa_cons (se_own (so_lst (sa_cons se_non (sa_cons se_int (sa_cons se_str (sa_cons se_bl (sa_cons (se_own (so_lst (sa_cons se_str sa_nil))) (sa_cons se_str sa_nil)))))))) sa_nil)))
  (ss_seq (ss_set (i := 10) (se_callS 1 (sa_cons (se_own (so_lst (sa_cons se_non (sa_cons (se_tup (sa_cons se_int sa_nil)) (sa_cons (se_tup (sa_cons se_int (sa_cons (se_tup sa_nil) sa_nil))) (sa_cons (se_tup (sa_cons se_int (sa_cons (se_tup sa_nil) sa_nil))) (sa_cons (se_tup (sa_cons se_int (sa_cons (se_tup (sa_cons (se_tup (sa_cons se_int (sa_cons se_int (sa_cons se_int (sa_cons se_int sa_nil))))) sa_nil)) sa_nil))) (sa_cons (se_tup (sa_cons se_int (sa_cons (se_tup (sa_cons (se_tup (sa_cons se_int (sa_cons se_int (sa_cons se_non (sa_cons se_non sa_nil))))) sa_nil)) sa_nil))) (sa_cons (se_own (so_lst (sa_cons se_int (sa_cons (se_tup sa_nil) sa_nil)))) (sa_cons (se_tup (sa_cons se_int (sa_cons (se_tup (sa_cons (se_tup (sa_cons se_int (sa_cons se_int (sa_cons se_int (sa_cons se_int sa_nil))))) sa_nil)) sa_nil))) sa_nil)))))))))) sa_nil)))
  (ss_seq (ss_set (i := 11) (se_tup (sa_cons se_int (sa_cons (se_tup (sa_cons (se_tup (sa_cons se_int (sa_cons se_int (sa_cons se_int (sa_cons se_int sa_nil))))) sa_nil)) sa_nil))))
  (ss_seq (ss_set (i := 12) (se_callS 1 (sa_cons (se_own (so_lst (sa_cons se_non (sa_cons (se_own (so_lst (sa_cons (se_tup (sa_cons se_int (sa_cons se_int sa_nil))) sa_nil))) (sa_cons (se_tup (sa_cons (se_tup (sa_cons se_int (sa_cons se_int sa_nil))) sa_nil)) (sa_cons (se_tup (sa_cons (se_tup (sa_cons se_int (sa_cons (se_un s1_neg se_int) sa_nil))) sa_nil)) (sa_cons (se_tup (sa_cons (se_tup (sa_cons se_int (sa_cons se_int sa_nil))) sa_nil)) (sa_cons (se_tup (sa_cons (se_tup (sa_cons (se_un s1_neg se_int) (sa_cons se_int sa_nil))) sa_nil)) (sa_cons (se_tup (sa_cons (se_tup (sa_cons se_bl (sa_cons se_int sa_nil))) sa_nil)) (sa_cons (se_tup (sa_cons (se_tup (sa_cons se_int (sa_cons se_bl sa_nil))) sa_nil)) (sa_cons (se_tup (sa_cons (se_tup (sa_cons se_int sa_nil)) sa_nil)) (sa_cons (se_op s2_mulS (se_tup (sa_cons (se_tup (sa_cons se_int (sa_cons se_int sa_nil))) sa_nil)) se_int) (sa_cons (se_tup (sa_cons (se_own (so_lst (sa_cons se_int (sa_cons se_int sa_nil)))) sa_nil)) (sa_cons (se_tup (sa_cons (se_tup (sa_cons se_int (sa_cons se_non sa_nil))) sa_nil)) sa_nil)))))))))))))) sa_nil)))
  (ss_seq (ss_set (i := 13) (se_callS 1 (sa_cons (se_own (so_lst (sa_cons se_non (sa_cons (se_own (so_lst (sa_cons se_int (sa_cons se_int sa_nil)))) (sa_cons (se_tup (sa_cons se_int sa_nil)) (sa_cons (se_tup (sa_cons se_int (sa_cons se_int (sa_cons se_int sa_nil)))) (sa_cons (se_tup (sa_cons se_int (sa_cons se_int sa_nil))) (sa_cons (se_tup (sa_cons (se_un s1_neg se_int) (sa_cons se_int sa_nil))) (sa_cons (se_tup (sa_cons se_bl (sa_cons se_int sa_nil))) (sa_cons (se_tup (sa_cons se_int (sa_cons se_non sa_nil))) (sa_cons (se_tup (sa_cons se_str (sa_cons se_int sa_nil))) sa_nil))))))))))) sa_nil)))
  (ss_seq (ss_set (i := 14) (se_own (so_lst (sa_cons (se_call (sa_cons se_int (sa_cons (se_var 8) (sa_cons (se_var 9) sa_nil)))) (sa_cons (se_call (sa_cons se_int (sa_cons se_str (sa_cons (se_var 9) sa_nil)))) (sa_cons (se_call (sa_cons se_int (sa_cons (se_var 8) (sa_cons se_int sa_nil)))) (sa_cons (se_call (sa_cons se_int (sa_cons (se_var 10) (sa_cons (se_var 8) sa_nil)))) (sa_cons (se_call (sa_cons se_int (sa_cons (se_var 11) (sa_cons (se_var 8) sa_nil)))) (sa_cons (se_call (sa_cons se_int (sa_cons (se_var 10) (sa_cons (se_var 8) sa_nil)))) (sa_cons (se_call (sa_cons se_int (sa_cons (se_var 11) (sa_cons (se_var 8) sa_nil)))) sa_nil))))))))))
  (ss_seq (ss_set (i := 15) (se_own (so_lst (sa_cons (se_call (sa_cons se_int (sa_cons (se_var 10) (sa_cons se_int sa_nil)))) (sa_cons (se_call (sa_cons se_int (sa_cons (se_var 12) (sa_cons se_int sa_nil)))) (sa_cons (se_call (sa_cons se_int (sa_cons (se_var 10) (sa_cons (se_var 13) sa_nil)))) (sa_cons (se_call (sa_cons se_int (sa_cons (se_var 11) (sa_cons (se_var 13) sa_nil)))) sa_nil)))))))
  (ss_ret (se_and (se_op s2_eq (se_var 14) (se_own (so_lst (sa_cons se_str (sa_cons se_str (sa_cons se_str (sa_cons se_str (sa_cons se_str (sa_cons se_str (sa_cons se_str sa_nil)))))))))) (se_op s2_eq (se_var 15) (se_own (so_lst (sa_cons se_str (sa_cons se_str (sa_cons se_str (sa_cons se_str sa_nil))))))))))))))))))))))))))⟩
end
theorem all_mk {l : PySem.W.OpenLaw} {w : World} {K : PySem.W.Frag} {h : Heap} {mg : Str → Option Value} {fa : Addr} (X : K.In h) (G : h.Ns mainGlobals mg) (hfa : mg "law" = some (.ref fa))
  {od0 an0 : Option Addr} {sl0 : Array (Option Value)} {oc0 kV0 dc0 pm0 cd0 ct0 : Value} {f0 : Addr}
  {od1 an1 : Option Addr} {sl1 : Array (Option Value)} {oc1 kV1 dc1 pm1 cd1 ct1 : Value} {f1 : Addr}
  {od2 an2 : Option Addr} {sl2 : Array (Option Value)} {oc2 kV2 dc2 pm2 cd2 ct2 : Value} {f2 : Addr}
  {od3 an3 : Option Addr} {sl3 : Array (Option Value)} {oc3 kV3 dc3 pm3 cd3 ct3 : Value} {f3 : Addr}
  {od4 an4 : Option Addr} {sl4 : Array (Option Value)} {oc4 kV4 dc4 pm4 cd4 ct4 : Value} {f4 : Addr}
  {od5 an5 : Option Addr} {sl5 : Array (Option Value)} {oc5 kV5 dc5 pm5 cd5 ct5 : Value} {f5 : Addr}
  {od6 an6 : Option Addr} {sl6 : Array (Option Value)} {oc6 kV6 dc6 pm6 cd6 ct6 : Value} {f6 : Addr}
  {od7 an7 : Option Addr} {sl7 : Array (Option Value)} {oc7 kV7 dc7 pm7 cd7 ct7 : Value} {f7 : Addr}
  {od8 an8 : Option Addr} {sl8 : Array (Option Value)} {oc8 kV8 dc8 pm8 cd8 ct8 : Value} {f8 : Addr}
  {od9 an9 : Option Addr} {sl9 : Array (Option Value)} {oc9 kV9 dc9 pm9 cd9 ct9 : Value} {f9 : Addr}
  {od10 an10 : Option Addr} {sl10 : Array (Option Value)} {oc10 kV10 dc10 pm10 cd10 ct10 : Value} {f10 : Addr}
  {od11 an11 : Option Addr} {sl11 : Array (Option Value)} {oc11 kV11 dc11 pm11 cd11 ct11 : Value} {f11 : Addr}
  {od12 an12 : Option Addr} {sl12 : Array (Option Value)} {oc12 kV12 dc12 pm12 cd12 ct12 : Value} {f12 : Addr}
  {od13 an13 : Option Addr} {sl13 : Array (Option Value)} {oc13 kV13 dc13 pm13 cd13 ct13 : Value} {f13 : Addr}
  {od14 an14 : Option Addr} {sl14 : Array (Option Value)} {oc14 kV14 dc14 pm14 cd14 ct14 : Value} {f14 : Addr}
  {od15 an15 : Option Addr} {sl15 : Array (Option Value)} {oc15 kV15 dc15 pm15 cd15 ct15 : Value} {f15 : Addr}
  {od16 an16 : Option Addr} {sl16 : Array (Option Value)} {oc16 kV16 dc16 pm16 cd16 ct16 : Value} {f16 : Addr}
  {od17 an17 : Option Addr} {sl17 : Array (Option Value)} {oc17 kV17 dc17 pm17 cd17 ct17 : Value} {f17 : Addr}
  {od18 an18 : Option Addr} {sl18 : Array (Option Value)} {oc18 kV18 dc18 pm18 cd18 ct18 : Value} {f18 : Addr}
  {od19 an19 : Option Addr} {sl19 : Array (Option Value)} {oc19 kV19 dc19 pm19 cd19 ct19 : Value} {f19 : Addr}
  {od20 an20 : Option Addr} {sl20 : Array (Option Value)} {oc20 kV20 dc20 pm20 cd20 ct20 : Value} {f20 : Addr}
  {od21 an21 : Option Addr} {sl21 : Array (Option Value)} {oc21 kV21 dc21 pm21 cd21 ct21 : Value} {f21 : Addr}
  {od22 an22 : Option Addr} {sl22 : Array (Option Value)} {oc22 kV22 dc22 pm22 cd22 ct22 : Value} {f22 : Addr}
  {od23 an23 : Option Addr} {sl23 : Array (Option Value)} {oc23 kV23 dc23 pm23 cd23 ct23 : Value} {f23 : Addr}
  {od24 an24 : Option Addr} {sl24 : Array (Option Value)} {oc24 kV24 dc24 pm24 cd24 ct24 : Value} {f24 : Addr}
  {od25 an25 : Option Addr} {sl25 : Array (Option Value)} {oc25 kV25 dc25 pm25 cd25 ct25 : Value} {f25 : Addr}
  {od26 an26 : Option Addr} {sl26 : Array (Option Value)} {oc26 kV26 dc26 pm26 cd26 ct26 : Value} {f26 : Addr}
  {od27 an27 : Option Addr} {sl27 : Array (Option Value)} {oc27 kV27 dc27 pm27 cd27 ct27 : Value} {f27 : Addr}
  {od28 an28 : Option Addr} {sl28 : Array (Option Value)} {oc28 kV28 dc28 pm28 cd28 ct28 : Value} {f28 : Addr}
  {od29 an29 : Option Addr} {sl29 : Array (Option Value)} {oc29 kV29 dc29 pm29 cd29 ct29 : Value} {f29 : Addr}
  {od30 an30 : Option Addr} {sl30 : Array (Option Value)} {oc30 kV30 dc30 pm30 cd30 ct30 : Value} {f30 : Addr}
  {od31 an31 : Option Addr} {sl31 : Array (Option Value)} {oc31 kV31 dc31 pm31 cd31 ct31 : Value} {f31 : Addr}
  {od32 an32 : Option Addr} {sl32 : Array (Option Value)} {oc32 kV32 dc32 pm32 cd32 ct32 : Value} {f32 : Addr}
  {od33 an33 : Option Addr} {sl33 : Array (Option Value)} {oc33 kV33 dc33 pm33 cd33 ct33 : Value} {f33 : Addr}
  {od34 an34 : Option Addr} {sl34 : Array (Option Value)} {oc34 kV34 dc34 pm34 cd34 ct34 : Value} {f34 : Addr}
  {od35 an35 : Option Addr} {sl35 : Array (Option Value)} {oc35 kV35 dc35 pm35 cd35 ct35 : Value} {f35 : Addr}
  {od36 an36 : Option Addr} {sl36 : Array (Option Value)} {oc36 kV36 dc36 pm36 cd36 ct36 : Value} {f36 : Addr}
  {od37 an37 : Option Addr} {sl37 : Array (Option Value)} {oc37 kV37 dc37 pm37 cd37 ct37 : Value} {f37 : Addr}
  {od38 an38 : Option Addr} {sl38 : Array (Option Value)} {oc38 kV38 dc38 pm38 cd38 ct38 : Value} {f38 : Addr}
  {od39 an39 : Option Addr} {sl39 : Array (Option Value)} {oc39 kV39 dc39 pm39 cd39 ct39 : Value} {f39 : Addr}
  {od40 an40 : Option Addr} {sl40 : Array (Option Value)} {oc40 kV40 dc40 pm40 cd40 ct40 : Value} {f40 : Addr}
  {od41 an41 : Option Addr} {sl41 : Array (Option Value)} {oc41 kV41 dc41 pm41 cd41 ct41 : Value} {f41 : Addr}
  {od42 an42 : Option Addr} {sl42 : Array (Option Value)} {oc42 kV42 dc42 pm42 cd42 ct42 : Value} {f42 : Addr}
  {od43 an43 : Option Addr} {sl43 : Array (Option Value)} {oc43 kV43 dc43 pm43 cd43 ct43 : Value} {f43 : Addr}
  {od44 an44 : Option Addr} {sl44 : Array (Option Value)} {oc44 kV44 dc44 pm44 cd44 ct44 : Value} {f44 : Addr}
  {od45 an45 : Option Addr} {sl45 : Array (Option Value)} {oc45 kV45 dc45 pm45 cd45 ct45 : Value} {f45 : Addr}
  {od46 an46 : Option Addr} {sl46 : Array (Option Value)} {oc46 kV46 dc46 pm46 cd46 ct46 : Value} {f46 : Addr}
  {od47 an47 : Option Addr} {sl47 : Array (Option Value)} {oc47 kV47 dc47 pm47 cd47 ct47 : Value} {f47 : Addr}
  {od48 an48 : Option Addr} {sl48 : Array (Option Value)} {oc48 kV48 dc48 pm48 cd48 ct48 : Value} {f48 : Addr}
  {od49 an49 : Option Addr} {sl49 : Array (Option Value)} {oc49 kV49 dc49 pm49 cd49 ct49 : Value} {f49 : Addr}
  {od50 an50 : Option Addr} {sl50 : Array (Option Value)} {oc50 kV50 dc50 pm50 cd50 ct50 : Value} {f50 : Addr}
  {od51 an51 : Option Addr} {sl51 : Array (Option Value)} {oc51 kV51 dc51 pm51 cd51 ct51 : Value} {f51 : Addr}
  {od52 an52 : Option Addr} {sl52 : Array (Option Value)} {oc52 kV52 dc52 pm52 cd52 ct52 : Value} {f52 : Addr}
  {BB : Addr} {C0 fI0 : Addr} {xq0 xr0 : Str} {xN0 : Addr} {xb0 : List Value} {xn0 : List Str} {xs0 : List Value} {xv0 : Bool} {xw0 : Option Bool} {xx0 : Option Addr} {m00 m10 m20 m30 m50 : Option Value} {xod0 xan0 : Option Addr} {xsl0 : Array (Option Value)} {xoc0 xkV0 xdc0 xpm0 xcd0 xct0 : Value} {C3 fI3 : Addr} {xq3 xr3 : Str} {xN3 : Addr} {xb3 : List Value} {xn3 : List Str} {xs3 : List Value} {xv3 : Bool} {xw3 : Option Bool} {xx3 : Option Addr} {m03 m13 m23 m33 m53 : Option Value} {xod3 xan3 : Option Addr} {xsl3 : Array (Option Value)} {xoc3 xkV3 xdc3 xpm3 xcd3 xct3 : Value} {B_BadValue : Addr} {B_TextError : Addr} {kA0 : Addr} {kE0 : Array DictEntry} {kN0 : Nat} {kt2 : Tok} {kt3 : Tok} {kb1 : Addr} {ko1 : Option Addr} {kn1 : Nat} {ks1 : Array (Option Value)} {kb0 : Addr} {ko0 : Option Addr} {kn0 : Nat} {ks0 : Array (Option Value)} {kt7 : Tok} {kt8 : Tok} {kb6 : Addr} {ko6 : Option Addr} {kn6 : Nat} {ks6 : Array (Option Value)} {kb5 : Addr} {ko5 : Option Addr} {kn5 : Nat} {ks5 : Array (Option Value)} {kt12 : Tok} {kt13 : Tok} {kb11 : Addr} {ko11 : Option Addr} {kn11 : Nat} {ks11 : Array (Option Value)} {kt15 : Tok} {kt16 : Tok} {kb14 : Addr} {ko14 : Option Addr} {kn14 : Nat} {ks14 : Array (Option Value)} {kb10 : Addr} {ko10 : Option Addr} {kn10 : Nat} {ks10 : Array (Option Value)} {kt20 : Tok} {kt21 : Tok} {kb19 : Addr} {ko19 : Option Addr} {kn19 : Nat} {ks19 : Array (Option Value)} {kb18 : Addr} {ko18 : Option Addr} {kn18 : Nat} {ks18 : Array (Option Value)} {kt25 : Tok} {kt26 : Tok} {kb24 : Addr} {ko24 : Option Addr} {kn24 : Nat} {ks24 : Array (Option Value)} {kb23 : Addr} {ko23 : Option Addr} {kn23 : Nat} {ks23 : Array (Option Value)} {kt30 : Tok} {kt31 : Tok} {kb29 : Addr} {ko29 : Option Addr} {kn29 : Nat} {ks29 : Array (Option Value)} {kb28 : Addr} {ko28 : Option Addr} {kn28 : Nat} {ks28 : Array (Option Value)} {kt35 : Tok} {kt36 : Tok} {kb34 : Addr} {ko34 : Option Addr} {kn34 : Nat} {ks34 : Array (Option Value)} {kt38 : Tok} {kt39 : Tok} {kb37 : Addr} {ko37 : Option Addr} {kn37 : Nat} {ks37 : Array (Option Value)} {kt41 : Tok} {kt42 : Tok} {kb40 : Addr} {ko40 : Option Addr} {kn40 : Nat} {ks40 : Array (Option Value)} {kb33 : Addr} {ko33 : Option Addr} {kn33 : Nat} {ks33 : Array (Option Value)} {kt46 : Tok} {kt47 : Tok} {kb45 : Addr} {ko45 : Option Addr} {kn45 : Nat} {ks45 : Array (Option Value)} {kb44 : Addr} {ko44 : Option Addr} {kn44 : Nat} {ks44 : Array (Option Value)} {kt51 : Tok} {kt52 : Tok} {kb50 : Addr} {ko50 : Option Addr} {kn50 : Nat} {ks50 : Array (Option Value)} {kb49 : Addr} {ko49 : Option Addr} {kn49 : Nat} {ks49 : Array (Option Value)} {kt56 : Tok} {kt57 : Tok} {kb55 : Addr} {ko55 : Option Addr} {kn55 : Nat} {ks55 : Array (Option Value)} {kt59 : Tok} {kt60 : Tok} {kb58 : Addr} {ko58 : Option Addr} {kn58 : Nat} {ks58 : Array (Option Value)} {kt62 : Tok} {kt63 : Tok} {kb61 : Addr} {ko61 : Option Addr} {kn61 : Nat} {ks61 : Array (Option Value)} {kt65 : Tok} {kt66 : Tok} {kb64 : Addr} {ko64 : Option Addr} {kn64 : Nat} {ks64 : Array (Option Value)} {kb54 : Addr} {ko54 : Option Addr} {kn54 : Nat} {ks54 : Array (Option Value)} {kt70 : Tok} {kt71 : Tok} {kb69 : Addr} {ko69 : Option Addr} {kn69 : Nat} {ks69 : Array (Option Value)} {kt73 : Tok} {kt74 : Tok} {kb72 : Addr} {ko72 : Option Addr} {kn72 : Nat} {ks72 : Array (Option Value)} {kb68 : Addr} {ko68 : Option Addr} {kn68 : Nat} {ks68 : Array (Option Value)} {kt78 : Tok} {kt79 : Tok} {kb77 : Addr} {ko77 : Option Addr} {kn77 : Nat} {ks77 : Array (Option Value)} {kb76 : Addr} {ko76 : Option Addr} {kn76 : Nat} {ks76 : Array (Option Value)} {kt83 : Tok} {kt84 : Tok} {kb82 : Addr} {ko82 : Option Addr} {kn82 : Nat} {ks82 : Array (Option Value)} {kt86 : Tok} {kt87 : Tok} {kb85 : Addr} {ko85 : Option Addr} {kn85 : Nat} {ks85 : Array (Option Value)} {kb81 : Addr} {ko81 : Option Addr} {kn81 : Nat} {ks81 : Array (Option Value)} {kt91 : Tok} {kt92 : Tok} {kb90 : Addr} {ko90 : Option Addr} {kn90 : Nat} {ks90 : Array (Option Value)} {kb89 : Addr} {ko89 : Option Addr} {kn89 : Nat} {ks89 : Array (Option Value)} {kt96 : Tok} {kt97 : Tok} {kb95 : Addr} {ko95 : Option Addr} {kn95 : Nat} {ks95 : Array (Option Value)} {kt99 : Tok} {kt100 : Tok} {kb98 : Addr} {ko98 : Option Addr} {kn98 : Nat} {ks98 : Array (Option Value)} {kb94 : Addr} {ko94 : Option Addr} {kn94 : Nat} {ks94 : Array (Option Value)} {kt104 : Tok} {kt105 : Tok} {kb103 : Addr} {ko103 : Option Addr} {kn103 : Nat} {ks103 : Array (Option Value)} {kb102 : Addr} {ko102 : Option Addr} {kn102 : Nat} {ks102 : Array (Option Value)} {kt109 : Tok} {kt110 : Tok} {kb108 : Addr} {ko108 : Option Addr} {kn108 : Nat} {ks108 : Array (Option Value)} {kt112 : Tok} {kt113 : Tok} {kb111 : Addr} {ko111 : Option Addr} {kn111 : Nat} {ks111 : Array (Option Value)} {kb107 : Addr} {ko107 : Option Addr} {kn107 : Nat} {ks107 : Array (Option Value)} {kt117 : Tok} {kt118 : Tok} {kb116 : Addr} {ko116 : Option Addr} {kn116 : Nat} {ks116 : Array (Option Value)} {kb115 : Addr} {ko115 : Option Addr} {kn115 : Nat} {ks115 : Array (Option Value)} {kt122 : Tok} {kt123 : Tok} {kb121 : Addr} {ko121 : Option Addr} {kn121 : Nat} {ks121 : Array (Option Value)} {kt125 : Tok} {kt126 : Tok} {kb124 : Addr} {ko124 : Option Addr} {kn124 : Nat} {ks124 : Array (Option Value)} {kb120 : Addr} {ko120 : Option Addr} {kn120 : Nat} {ks120 : Array (Option Value)} {kt130 : Tok} {kt131 : Tok} {kb129 : Addr} {ko129 : Option Addr} {kn129 : Nat} {ks129 : Array (Option Value)} {kb128 : Addr} {ko128 : Option Addr} {kn128 : Nat} {ks128 : Array (Option Value)} {tk0 : Tok} {tk1 : Tok} {tk2 : Tok} {tk3 : Tok} {tk4 : Tok} {tk5 : Tok} {tk6 : Tok} {tk7 : Tok} {tk8 : Tok} {tk9 : Tok} {tk10 : Tok} {tk11 : Tok} {tk12 : Tok} {tk13 : Tok} {tk14 : Tok} {tk15 : Tok} {tk16 : Tok} {tk17 : Tok} {tk18 : Tok} {tk19 : Tok}
  (xa0 : PySem.W.nsIn K mainGlobals "BadValue" = some (some (.ref C0)))
  (xl0 : K.lookup C0 = some (excClassObj xq0 xr0 C0 xN0 xb0 [.ref BB, .type "ValueError", .type "Exception", .type "BaseException", .type "object"] true xn0 xs0 xv0 xw0 xx0 m00 m10 m20 m30 m50 "ValueError.__new__"))
  (xg0 : PySem.W.findIn K (.ref C0) "__setattr__" = some (some (.builtin "object.__setattr__")))
  (xh0 : PySem.W.findIn K (.ref C0) "__getattribute__" = some (some (.builtin "BaseException.__getattribute__")))
  (xi0 : PySem.W.findIn K (.ref C0) "__getattr__" = some none)
  (xj0 : PySem.W.findIn K (.ref C0) "name" = some none)
  (xk0 : PySem.W.findIn K (.ref C0) "__init__" = some (some (.ref fI0)))
  (xo0 : PySem.W.typeIn K (.ref fI0) = some (.type "function"))
  (xp0 : K.lookup fI0 = some ⟨xoc0, xod0, .func (PySem.W.fnOf "__init__" "BadValue.__init__" (defArgs (clsInit (top 2))) (defBody (clsInit (top 2))) (defScope (clsInit (top 2))) .none xkV0 xdc0 xpm0 xan0 xcd0 xct0), xsl0⟩)
  (xt0 : PySem.W.codeIn K xcd0 "BadValue.__init__" = true)
  (xu0 : PySem.W.keepIn K (.ref C0) = true)
  (xy0 : PySem.W.keepIn K (.ref fI0) = true)
  (xz0 : PySem.W.subIn K (.ref C0) (.type "BaseException") = some true)
  (ya0 : PySem.W.typeIn K (.ref C0) = some (.type "type"))
  (yb0 : PySem.W.hasDictIn K C0 = true)
  (xa3 : PySem.W.nsIn K mainGlobals "TextError" = some (some (.ref C3)))
  (xl3 : K.lookup C3 = some (excClassObj xq3 xr3 C3 xN3 xb3 [.ref BB, .type "ValueError", .type "Exception", .type "BaseException", .type "object"] true xn3 xs3 xv3 xw3 xx3 m03 m13 m23 m33 m53 "ValueError.__new__"))
  (xg3 : PySem.W.findIn K (.ref C3) "__setattr__" = some (some (.builtin "object.__setattr__")))
  (xh3 : PySem.W.findIn K (.ref C3) "__getattribute__" = some (some (.builtin "BaseException.__getattribute__")))
  (xi3 : PySem.W.findIn K (.ref C3) "__getattr__" = some none)
  (xj3 : PySem.W.findIn K (.ref C3) "column" = some none)
  (xj3w : PySem.W.findIn K (.ref C3) "words" = some none)
  (xk3 : PySem.W.findIn K (.ref C3) "__init__" = some (some (.ref fI3)))
  (xo3 : PySem.W.typeIn K (.ref fI3) = some (.type "function"))
  (xp3 : K.lookup fI3 = some ⟨xoc3, xod3, .func (PySem.W.fnOf "__init__" "TextError.__init__" (defArgs (clsInit (top 3))) (defBody (clsInit (top 3))) (defScope (clsInit (top 3))) .none xkV3 xdc3 xpm3 xan3 xcd3 xct3), xsl3⟩)
  (xt3 : PySem.W.codeIn K xcd3 "TextError.__init__" = true)
  (xu3 : PySem.W.keepIn K (.ref C3) = true)
  (xy3 : PySem.W.keepIn K (.ref fI3) = true)
  (xz3 : PySem.W.subIn K (.ref C3) (.type "BaseException") = some true)
  (ya3 : PySem.W.typeIn K (.ref C3) = some (.type "type"))
  (yb3 : PySem.W.hasDictIn K C3 = true)
  (ha_BadValue : PySem.W.nsIn K mainGlobals "BadValue" = some (some (.ref B_BadValue)))
  (hb_BadValue : PySem.W.subIn K (.ref B_BadValue) (.type "BaseException") = some true)
  (hc_BadValue : PySem.W.hasDictIn K B_BadValue = true)
  (hd_BadValue : PySem.W.typeIn K (.ref B_BadValue) = some (.type "type"))
  (he_BadValue_0 : PySem.W.subIn K (.ref C0) (.ref B_BadValue) = some true)
  (he_BadValue_3 : PySem.W.subIn K (.ref C3) (.ref B_BadValue) = some false)
  (ha_TextError : PySem.W.nsIn K mainGlobals "TextError" = some (some (.ref B_TextError)))
  (hb_TextError : PySem.W.subIn K (.ref B_TextError) (.type "BaseException") = some true)
  (hc_TextError : PySem.W.hasDictIn K B_TextError = true)
  (hd_TextError : PySem.W.typeIn K (.ref B_TextError) = some (.type "type"))
  (he_TextError_0 : PySem.W.subIn K (.ref C0) (.ref B_TextError) = some false)
  (he_TextError_3 : PySem.W.subIn K (.ref C3) (.ref B_TextError) = some true)
  (kx0 : PySem.W.nsIn K mainGlobals "COURSES" = some (some (.ref kA0)))
  (ky0 : K.lookup kA0 = some ⟨.type "dict", none, .dict kE0 kN0, #[]⟩)
  (kl0 : PySem.W.KeysLit w.params kE0.toList)
  (kz4 : PySem.W.nsIn K kA0 "net" = some (some (.ref kb0)))
  (ku0 : K.lookup kb0 = some ⟨.type "tuple", ko0, .seq [.ref kb1].toArray kn0, ks0⟩)
  (ku1 : K.lookup kb1 = some ⟨.type "tuple", ko1, .seq [.str "a number" kt2, .str "size" kt3].toArray kn1, ks1⟩)
  (kz9 : PySem.W.nsIn K kA0 "size" = some (some (.ref kb5)))
  (ku5 : K.lookup kb5 = some ⟨.type "tuple", ko5, .seq [.ref kb6].toArray kn5, ks5⟩)
  (ku6 : K.lookup kb6 = some ⟨.type "tuple", ko6, .seq [.str "\":\"" kt7, .str "colon" kt8].toArray kn6, ks6⟩)
  (kz17 : PySem.W.nsIn K kA0 "colon" = some (some (.ref kb10)))
  (ku10 : K.lookup kb10 = some ⟨.type "tuple", ko10, .seq [.ref kb11, .ref kb14].toArray kn10, ks10⟩)
  (ku14 : K.lookup kb14 = some ⟨.type "tuple", ko14, .seq [.str "the end" kt15, .str "done" kt16].toArray kn14, ks14⟩)
  (ku11 : K.lookup kb11 = some ⟨.type "tuple", ko11, .seq [.str "an event" kt12, .str "rule end" kt13].toArray kn11, ks11⟩)
  (kz22 : PySem.W.nsIn K kA0 "rule end" = some (some (.ref kb18)))
  (ku18 : K.lookup kb18 = some ⟨.type "tuple", ko18, .seq [.ref kb19].toArray kn18, ks18⟩)
  (ku19 : K.lookup kb19 = some ⟨.type "tuple", ko19, .seq [.str "\"-\"" kt20, .str "dash" kt21].toArray kn19, ks19⟩)
  (kz27 : PySem.W.nsIn K kA0 "dash" = some (some (.ref kb23)))
  (ku23 : K.lookup kb23 = some ⟨.type "tuple", ko23, .seq [.ref kb24].toArray kn23, ks23⟩)
  (ku24 : K.lookup kb24 = some ⟨.type "tuple", ko24, .seq [.str "an event" kt25, .str "rule start" kt26].toArray kn24, ks24⟩)
  (kz32 : PySem.W.nsIn K kA0 "rule start" = some (some (.ref kb28)))
  (ku28 : K.lookup kb28 = some ⟨.type "tuple", ko28, .seq [.ref kb29].toArray kn28, ks28⟩)
  (ku29 : K.lookup kb29 = some ⟨.type "tuple", ko29, .seq [.str "in" kt30, .str "sides" kt31].toArray kn29, ks29⟩)
  (kz43 : PySem.W.nsIn K kA0 "sides" = some (some (.ref kb33)))
  (ku33 : K.lookup kb33 = some ⟨.type "tuple", ko33, .seq [.ref kb34, .ref kb37, .ref kb40].toArray kn33, ks33⟩)
  (ku40 : K.lookup kb40 = some ⟨.type "tuple", ko40, .seq [.str "\"..\"" kt41, .str "no low" kt42].toArray kn40, ks40⟩)
  (ku37 : K.lookup kb37 = some ⟨.type "tuple", ko37, .seq [.str "\"-\"" kt38, .str "low below 0" kt39].toArray kn37, ks37⟩)
  (ku34 : K.lookup kb34 = some ⟨.type "tuple", ko34, .seq [.str "a number" kt35, .str "low" kt36].toArray kn34, ks34⟩)
  (kz48 : PySem.W.nsIn K kA0 "low below 0" = some (some (.ref kb44)))
  (ku44 : K.lookup kb44 = some ⟨.type "tuple", ko44, .seq [.ref kb45].toArray kn44, ks44⟩)
  (ku45 : K.lookup kb45 = some ⟨.type "tuple", ko45, .seq [.str "a number" kt46, .str "low" kt47].toArray kn45, ks45⟩)
  (kz53 : PySem.W.nsIn K kA0 "low" = some (some (.ref kb49)))
  (ku49 : K.lookup kb49 = some ⟨.type "tuple", ko49, .seq [.ref kb50].toArray kn49, ks49⟩)
  (ku50 : K.lookup kb50 = some ⟨.type "tuple", ko50, .seq [.str "\"..\"" kt51, .str "behind low" kt52].toArray kn50, ks50⟩)
  (kz67 : PySem.W.nsIn K kA0 "behind low" = some (some (.ref kb54)))
  (ku54 : K.lookup kb54 = some ⟨.type "tuple", ko54, .seq [.ref kb55, .ref kb58, .ref kb61, .ref kb64].toArray kn54, ks54⟩)
  (ku64 : K.lookup kb64 = some ⟨.type "tuple", ko64, .seq [.str "the end" kt65, .str "done" kt66].toArray kn64, ks64⟩)
  (ku61 : K.lookup kb61 = some ⟨.type "tuple", ko61, .seq [.str "\"-\"" kt62, .str "high below 0" kt63].toArray kn61, ks61⟩)
  (ku58 : K.lookup kb58 = some ⟨.type "tuple", ko58, .seq [.str "\";\"" kt59, .str "semicolon" kt60].toArray kn58, ks58⟩)
  (ku55 : K.lookup kb55 = some ⟨.type "tuple", ko55, .seq [.str "a number" kt56, .str "high" kt57].toArray kn55, ks55⟩)
  (kz75 : PySem.W.nsIn K kA0 "no low" = some (some (.ref kb68)))
  (ku68 : K.lookup kb68 = some ⟨.type "tuple", ko68, .seq [.ref kb69, .ref kb72].toArray kn68, ks68⟩)
  (ku72 : K.lookup kb72 = some ⟨.type "tuple", ko72, .seq [.str "\"-\"" kt73, .str "high below 0" kt74].toArray kn72, ks72⟩)
  (ku69 : K.lookup kb69 = some ⟨.type "tuple", ko69, .seq [.str "a number" kt70, .str "high" kt71].toArray kn69, ks69⟩)
  (kz80 : PySem.W.nsIn K kA0 "high below 0" = some (some (.ref kb76)))
  (ku76 : K.lookup kb76 = some ⟨.type "tuple", ko76, .seq [.ref kb77].toArray kn76, ks76⟩)
  (ku77 : K.lookup kb77 = some ⟨.type "tuple", ko77, .seq [.str "a number" kt78, .str "high" kt79].toArray kn77, ks77⟩)
  (kz88 : PySem.W.nsIn K kA0 "high" = some (some (.ref kb81)))
  (ku81 : K.lookup kb81 = some ⟨.type "tuple", ko81, .seq [.ref kb82, .ref kb85].toArray kn81, ks81⟩)
  (ku85 : K.lookup kb85 = some ⟨.type "tuple", ko85, .seq [.str "the end" kt86, .str "done" kt87].toArray kn85, ks85⟩)
  (ku82 : K.lookup kb82 = some ⟨.type "tuple", ko82, .seq [.str "\";\"" kt83, .str "semicolon" kt84].toArray kn82, ks82⟩)
  (kz93 : PySem.W.nsIn K kA0 "semicolon" = some (some (.ref kb89)))
  (ku89 : K.lookup kb89 = some ⟨.type "tuple", ko89, .seq [.ref kb90].toArray kn89, ks89⟩)
  (ku90 : K.lookup kb90 = some ⟨.type "tuple", ko90, .seq [.str "an event" kt91, .str "rule end" kt92].toArray kn90, ks90⟩)
  (kz101 : PySem.W.nsIn K kA0 "row" = some (some (.ref kb94)))
  (ku94 : K.lookup kb94 = some ⟨.type "tuple", ko94, .seq [.ref kb95, .ref kb98].toArray kn94, ks94⟩)
  (ku98 : K.lookup kb98 = some ⟨.type "tuple", ko98, .seq [.str "the end" kt99, .str "done" kt100].toArray kn98, ks98⟩)
  (ku95 : K.lookup kb95 = some ⟨.type "tuple", ko95, .seq [.str "an event" kt96, .str "told" kt97].toArray kn95, ks95⟩)
  (kz106 : PySem.W.nsIn K kA0 "told" = some (some (.ref kb102)))
  (ku102 : K.lookup kb102 = some ⟨.type "tuple", ko102, .seq [.ref kb103].toArray kn102, ks102⟩)
  (ku103 : K.lookup kb103 = some ⟨.type "tuple", ko103, .seq [.str "\"=\"" kt104, .str "equals" kt105].toArray kn103, ks103⟩)
  (kz114 : PySem.W.nsIn K kA0 "equals" = some (some (.ref kb107)))
  (ku107 : K.lookup kb107 = some ⟨.type "tuple", ko107, .seq [.ref kb108, .ref kb111].toArray kn107, ks107⟩)
  (ku111 : K.lookup kb111 = some ⟨.type "tuple", ko111, .seq [.str "\"-\"" kt112, .str "time below 0" kt113].toArray kn111, ks111⟩)
  (ku108 : K.lookup kb108 = some ⟨.type "tuple", ko108, .seq [.str "a number" kt109, .str "time" kt110].toArray kn108, ks108⟩)
  (kz119 : PySem.W.nsIn K kA0 "time below 0" = some (some (.ref kb115)))
  (ku115 : K.lookup kb115 = some ⟨.type "tuple", ko115, .seq [.ref kb116].toArray kn115, ks115⟩)
  (ku116 : K.lookup kb116 = some ⟨.type "tuple", ko116, .seq [.str "a number" kt117, .str "time" kt118].toArray kn116, ks116⟩)
  (kz127 : PySem.W.nsIn K kA0 "time" = some (some (.ref kb120)))
  (ku120 : K.lookup kb120 = some ⟨.type "tuple", ko120, .seq [.ref kb121, .ref kb124].toArray kn120, ks120⟩)
  (ku124 : K.lookup kb124 = some ⟨.type "tuple", ko124, .seq [.str "the end" kt125, .str "done" kt126].toArray kn124, ks124⟩)
  (ku121 : K.lookup kb121 = some ⟨.type "tuple", ko121, .seq [.str "\",\"" kt122, .str "comma" kt123].toArray kn121, ks121⟩)
  (kz132 : PySem.W.nsIn K kA0 "comma" = some (some (.ref kb128)))
  (ku128 : K.lookup kb128 = some ⟨.type "tuple", ko128, .seq [.ref kb129].toArray kn128, ks128⟩)
  (ku129 : K.lookup kb129 = some ⟨.type "tuple", ko129, .seq [.str "an event" kt130, .str "told" kt131].toArray kn129, ks129⟩)
  (a0 : PySem.W.nsIn K mainGlobals "_law_stream" = some (some (.ref f0))) (l0 : K.lookup f0 = some ⟨oc0, od0, .func (PySem.W.fnOf "_law_stream" "_law_stream" (defArgs (top 73)) (defBody (top 73)) (defScope (top 73)) .none kV0 dc0 pm0 an0 cd0 ct0), sl0⟩) (e0 : PySem.W.codeIn K cd0 "_law_stream" = true) (k0 : PySem.W.keepIn K (.ref f0) = true)
  (a1 : PySem.W.nsIn K mainGlobals "_law_next" = some (some (.ref f1))) (l1 : K.lookup f1 = some ⟨oc1, od1, .func (PySem.W.fnOf "_law_next" "_law_next" (defArgs (top 74)) (defBody (top 74)) (defScope (top 74)) .none kV1 dc1 pm1 an1 cd1 ct1), sl1⟩) (e1 : PySem.W.codeIn K cd1 "_law_next" = true) (k1 : PySem.W.keepIn K (.ref f1) = true)
  (a2 : PySem.W.nsIn K mainGlobals "_law_pick" = some (some (.ref f2))) (l2 : K.lookup f2 = some ⟨oc2, od2, .func (PySem.W.fnOf "_law_pick" "_law_pick" (defArgs (top 77)) (defBody (top 77)) (defScope (top 77)) .none kV2 dc2 pm2 an2 cd2 ct2), sl2⟩) (e2 : PySem.W.codeIn K cd2 "_law_pick" = true) (k2 : PySem.W.keepIn K (.ref f2) = true)
  (a3 : PySem.W.nsIn K mainGlobals "_law_is_integer" = some (some (.ref f3))) (l3 : K.lookup f3 = some ⟨oc3, od3, .func (PySem.W.fnOf "_law_is_integer" "_law_is_integer" (defArgs (top 75)) (defBody (top 75)) (defScope (top 75)) .none kV3 dc3 pm3 an3 cd3 ct3), sl3⟩) (e3 : PySem.W.codeIn K cd3 "_law_is_integer" = true) (k3 : PySem.W.keepIn K (.ref f3) = true)
  (a4 : PySem.W.nsIn K mainGlobals "_law_equal" = some (some (.ref f4))) (l4 : K.lookup f4 = some ⟨oc4, od4, .func (PySem.W.fnOf "_law_equal" "_law_equal" (defArgs (top 76)) (defBody (top 76)) (defScope (top 76)) .none kV4 dc4 pm4 an4 cd4 ct4), sl4⟩) (e4 : PySem.W.codeIn K cd4 "_law_equal" = true) (k4 : PySem.W.keepIn K (.ref f4) = true)
  (a5 : PySem.W.nsIn K mainGlobals "check_text" = some (some (.ref f5))) (l5 : K.lookup f5 = some ⟨oc5, od5, .func (PySem.W.fnOf "check_text" "check_text" (defArgs (top 39)) (defBody (top 39)) (defScope (top 39)) .none kV5 dc5 pm5 an5 cd5 ct5), sl5⟩) (e5 : PySem.W.codeIn K cd5 "check_text" = true) (k5 : PySem.W.keepIn K (.ref f5) = true)
  (a6 : PySem.W.nsIn K mainGlobals "possible_at" = some (some (.ref f6))) (l6 : K.lookup f6 = some ⟨oc6, od6, .func (PySem.W.fnOf "possible_at" "possible_at" (defArgs (top 50)) (defBody (top 50)) (defScope (top 50)) .none kV6 dc6 pm6 an6 cd6 ct6), sl6⟩) (e6 : PySem.W.codeIn K cd6 "possible_at" = true) (k6 : PySem.W.keepIn K (.ref f6) = true)
  (a7 : PySem.W.nsIn K mainGlobals "words_for" = some (some (.ref f7))) (l7 : K.lookup f7 = some ⟨oc7, od7, .func (PySem.W.fnOf "words_for" "words_for" (defArgs (top 48)) (defBody (top 48)) (defScope (top 48)) .none kV7 dc7 pm7 an7 cd7 ct7), sl7⟩) (e7 : PySem.W.codeIn K cd7 "words_for" = true) (k7 : PySem.W.keepIn K (.ref f7) = true)
  (a8 : PySem.W.nsIn K mainGlobals "listed" = some (some (.ref f8))) (l8 : K.lookup f8 = some ⟨oc8, od8, .func (PySem.W.fnOf "listed" "listed" (defArgs (top 49)) (defBody (top 49)) (defScope (top 49)) .none kV8 dc8 pm8 an8 cd8 ct8), sl8⟩) (e8 : PySem.W.codeIn K cd8 "listed" = true) (k8 : PySem.W.keepIn K (.ref f8) = true)
  (a9 : PySem.W.nsIn K mainGlobals "place_behind" = some (some (.ref f9))) (l9 : K.lookup f9 = some ⟨oc9, od9, .func (PySem.W.fnOf "place_behind" "place_behind" (defArgs (top 51)) (defBody (top 51)) (defScope (top 51)) .none kV9 dc9 pm9 an9 cd9 ct9), sl9⟩) (e9 : PySem.W.codeIn K cd9 "place_behind" = true) (k9 : PySem.W.keepIn K (.ref f9) = true)
  (a10 : PySem.W.nsIn K mainGlobals "place_behind_all" = some (some (.ref f10))) (l10 : K.lookup f10 = some ⟨oc10, od10, .func (PySem.W.fnOf "place_behind_all" "place_behind_all" (defArgs (top 52)) (defBody (top 52)) (defScope (top 52)) .none kV10 dc10 pm10 an10 cd10 ct10), sl10⟩) (e10 : PySem.W.codeIn K cd10 "place_behind_all" = true) (k10 : PySem.W.keepIn K (.ref f10) = true)
  (a11 : PySem.W.nsIn K mainGlobals "run_from" = some (some (.ref f11))) (l11 : K.lookup f11 = some ⟨oc11, od11, .func (PySem.W.fnOf "run_from" "run_from" (defArgs (top 40)) (defBody (top 40)) (defScope (top 40)) .none kV11 dc11 pm11 an11 cd11 ct11), sl11⟩) (e11 : PySem.W.codeIn K cd11 "run_from" = true) (k11 : PySem.W.keepIn K (.ref f11) = true)
  (a12 : PySem.W.nsIn K mainGlobals "letters_kind" = some (some (.ref f12))) (l12 : K.lookup f12 = some ⟨oc12, od12, .func (PySem.W.fnOf "letters_kind" "letters_kind" (defArgs (top 41)) (defBody (top 41)) (defScope (top 41)) .none kV12 dc12 pm12 an12 cd12 ct12), sl12⟩) (e12 : PySem.W.codeIn K cd12 "letters_kind" = true) (k12 : PySem.W.keepIn K (.ref f12) = true)
  (a13 : PySem.W.nsIn K mainGlobals "token_at" = some (some (.ref f13))) (l13 : K.lookup f13 = some ⟨oc13, od13, .func (PySem.W.fnOf "token_at" "token_at" (defArgs (top 42)) (defBody (top 42)) (defScope (top 42)) .none kV13 dc13 pm13 an13 cd13 ct13), sl13⟩) (e13 : PySem.W.codeIn K cd13 "token_at" = true) (k13 : PySem.W.keepIn K (.ref f13) = true)
  (a14 : PySem.W.nsIn K mainGlobals "scan" = some (some (.ref f14))) (l14 : K.lookup f14 = some ⟨oc14, od14, .func (PySem.W.fnOf "scan" "scan" (defArgs (top 43)) (defBody (top 43)) (defScope (top 43)) .none kV14 dc14 pm14 an14 cd14 ct14), sl14⟩) (e14 : PySem.W.codeIn K cd14 "scan" = true) (k14 : PySem.W.keepIn K (.ref f14) = true)
  (a15 : PySem.W.nsIn K mainGlobals "next_tokens" = some (some (.ref f15))) (l15 : K.lookup f15 = some ⟨oc15, od15, .func (PySem.W.fnOf "next_tokens" "next_tokens" (defArgs (top 53)) (defBody (top 53)) (defScope (top 53)) .none kV15 dc15 pm15 an15 cd15 ct15), sl15⟩) (e15 : PySem.W.codeIn K cd15 "next_tokens" = true) (k15 : PySem.W.keepIn K (.ref f15) = true)
  (a16 : PySem.W.nsIn K mainGlobals "tokens_of" = some (some (.ref f16))) (l16 : K.lookup f16 = some ⟨oc16, od16, .func (PySem.W.fnOf "tokens_of" "tokens_of" (defArgs (top 54)) (defBody (top 54)) (defScope (top 54)) .none kV16 dc16 pm16 an16 cd16 ct16), sl16⟩) (e16 : PySem.W.codeIn K cd16 "tokens_of" = true) (k16 : PySem.W.keepIn K (.ref f16) = true)
  (a17 : PySem.W.nsIn K mainGlobals "size_in" = some (some (.ref f17))) (l17 : K.lookup f17 = some ⟨oc17, od17, .func (PySem.W.fnOf "size_in" "size_in" (defArgs (top 59)) (defBody (top 59)) (defScope (top 59)) .none kV17 dc17 pm17 an17 cd17 ct17), sl17⟩) (e17 : PySem.W.codeIn K cd17 "size_in" = true) (k17 : PySem.W.keepIn K (.ref f17) = true)
  (a18 : PySem.W.nsIn K mainGlobals "parts_between" = some (some (.ref f18))) (l18 : K.lookup f18 = some ⟨oc18, od18, .func (PySem.W.fnOf "parts_between" "parts_between" (defArgs (top 55)) (defBody (top 55)) (defScope (top 55)) .none kV18 dc18 pm18 an18 cd18 ct18), sl18⟩) (e18 : PySem.W.codeIn K cd18 "parts_between" = true) (k18 : PySem.W.keepIn K (.ref f18) = true)
  (a19 : PySem.W.nsIn K mainGlobals "event_in" = some (some (.ref f19))) (l19 : K.lookup f19 = some ⟨oc19, od19, .func (PySem.W.fnOf "event_in" "event_in" (defArgs (top 56)) (defBody (top 56)) (defScope (top 56)) .none kV19 dc19 pm19 an19 cd19 ct19), sl19⟩) (e19 : PySem.W.codeIn K cd19 "event_in" = true) (k19 : PySem.W.keepIn K (.ref f19) = true)
  (a20 : PySem.W.nsIn K mainGlobals "integer_in" = some (some (.ref f20))) (l20 : K.lookup f20 = some ⟨oc20, od20, .func (PySem.W.fnOf "integer_in" "integer_in" (defArgs (top 57)) (defBody (top 57)) (defScope (top 57)) .none kV20 dc20 pm20 an20 cd20 ct20), sl20⟩) (e20 : PySem.W.codeIn K cd20 "integer_in" = true) (k20 : PySem.W.keepIn K (.ref f20) = true)
  (a21 : PySem.W.nsIn K mainGlobals "side_in" = some (some (.ref f21))) (l21 : K.lookup f21 = some ⟨oc21, od21, .func (PySem.W.fnOf "side_in" "side_in" (defArgs (top 58)) (defBody (top 58)) (defScope (top 58)) .none kV21 dc21 pm21 an21 cd21 ct21), sl21⟩) (e21 : PySem.W.codeIn K cd21 "side_in" = true) (k21 : PySem.W.keepIn K (.ref f21) = true)
  (a22 : PySem.W.nsIn K mainGlobals "rule_in" = some (some (.ref f22))) (l22 : K.lookup f22 = some ⟨oc22, od22, .func (PySem.W.fnOf "rule_in" "rule_in" (defArgs (top 60)) (defBody (top 60)) (defScope (top 60)) .none kV22 dc22 pm22 an22 cd22 ct22), sl22⟩) (e22 : PySem.W.codeIn K cd22 "rule_in" = true) (k22 : PySem.W.keepIn K (.ref f22) = true)
  (a23 : PySem.W.nsIn K mainGlobals "read_net" = some (some (.ref f23))) (l23 : K.lookup f23 = some ⟨oc23, od23, .func (PySem.W.fnOf "read_net" "read_net" (defArgs (top 61)) (defBody (top 61)) (defScope (top 61)) .none kV23 dc23 pm23 an23 cd23 ct23), sl23⟩) (e23 : PySem.W.codeIn K cd23 "read_net" = true) (k23 : PySem.W.keepIn K (.ref f23) = true)
  (a24 : PySem.W.nsIn K mainGlobals "is_whole" = some (some (.ref f24))) (l24 : K.lookup f24 = some ⟨oc24, od24, .func (PySem.W.fnOf "is_whole" "is_whole" (defArgs (top 9)) (defBody (top 9)) (defScope (top 9)) .none kV24 dc24 pm24 an24 cd24 ct24), sl24⟩) (e24 : PySem.W.codeIn K cd24 "is_whole" = true) (k24 : PySem.W.keepIn K (.ref f24) = true)
  (a25 : PySem.W.nsIn K mainGlobals "is_integer" = some (some (.ref f25))) (l25 : K.lookup f25 = some ⟨oc25, od25, .func (PySem.W.fnOf "is_integer" "is_integer" (defArgs (top 10)) (defBody (top 10)) (defScope (top 10)) .none kV25 dc25 pm25 an25 cd25 ct25), sl25⟩) (e25 : PySem.W.codeIn K cd25 "is_integer" = true) (k25 : PySem.W.keepIn K (.ref f25) = true)
  (a26 : PySem.W.nsIn K mainGlobals "is_side" = some (some (.ref f26))) (l26 : K.lookup f26 = some ⟨oc26, od26, .func (PySem.W.fnOf "is_side" "is_side" (defArgs (top 12)) (defBody (top 12)) (defScope (top 12)) .none kV26 dc26 pm26 an26 cd26 ct26), sl26⟩) (e26 : PySem.W.codeIn K cd26 "is_side" = true) (k26 : PySem.W.keepIn K (.ref f26) = true)
  (a27 : PySem.W.nsIn K mainGlobals "is_event" = some (some (.ref f27))) (l27 : K.lookup f27 = some ⟨oc27, od27, .func (PySem.W.fnOf "is_event" "is_event" (defArgs (top 11)) (defBody (top 11)) (defScope (top 11)) .none kV27 dc27 pm27 an27 cd27 ct27), sl27⟩) (e27 : PySem.W.codeIn K cd27 "is_event" = true) (k27 : PySem.W.keepIn K (.ref f27) = true)
  (a28 : PySem.W.nsIn K mainGlobals "is_rule" = some (some (.ref f28))) (l28 : K.lookup f28 = some ⟨oc28, od28, .func (PySem.W.fnOf "is_rule" "is_rule" (defArgs (top 13)) (defBody (top 13)) (defScope (top 13)) .none kV28 dc28 pm28 an28 cd28 ct28), sl28⟩) (e28 : PySem.W.codeIn K cd28 "is_rule" = true) (k28 : PySem.W.keepIn K (.ref f28) = true)
  (a29 : PySem.W.nsIn K mainGlobals "is_net" = some (some (.ref f29))) (l29 : K.lookup f29 = some ⟨oc29, od29, .func (PySem.W.fnOf "is_net" "is_net" (defArgs (top 14)) (defBody (top 14)) (defScope (top 14)) .none kV29 dc29 pm29 an29 cd29 ct29), sl29⟩) (e29 : PySem.W.codeIn K cd29 "is_net" = true) (k29 : PySem.W.keepIn K (.ref f29) = true)
  (a30 : PySem.W.nsIn K mainGlobals "check_net" = some (some (.ref f30))) (l30 : K.lookup f30 = some ⟨oc30, od30, .func (PySem.W.fnOf "check_net" "check_net" (defArgs (top 16)) (defBody (top 16)) (defScope (top 16)) .none kV30 dc30 pm30 an30 cd30 ct30), sl30⟩) (e30 : PySem.W.codeIn K cd30 "check_net" = true) (k30 : PySem.W.keepIn K (.ref f30) = true)
  (a31 : PySem.W.nsIn K mainGlobals "pieces_of" = some (some (.ref f31))) (l31 : K.lookup f31 = some ⟨oc31, od31, .func (PySem.W.fnOf "pieces_of" "pieces_of" (defArgs (top 62)) (defBody (top 62)) (defScope (top 62)) .none kV31 dc31 pm31 an31 cd31 ct31), sl31⟩) (e31 : PySem.W.codeIn K cd31 "pieces_of" = true) (k31 : PySem.W.keepIn K (.ref f31) = true)
  (a32 : PySem.W.nsIn K mainGlobals "read_row" = some (some (.ref f32))) (l32 : K.lookup f32 = some ⟨oc32, od32, .func (PySem.W.fnOf "read_row" "read_row" (defArgs (top 63)) (defBody (top 63)) (defScope (top 63)) .none kV32 dc32 pm32 an32 cd32 ct32), sl32⟩) (e32 : PySem.W.codeIn K cd32 "read_row" = true) (k32 : PySem.W.keepIn K (.ref f32) = true)
  (a33 : PySem.W.nsIn K mainGlobals "read_times" = some (some (.ref f33))) (l33 : K.lookup f33 = some ⟨oc33, od33, .func (PySem.W.fnOf "read_times" "read_times" (defArgs (top 64)) (defBody (top 64)) (defScope (top 64)) .none kV33 dc33 pm33 an33 cd33 ct33), sl33⟩) (e33 : PySem.W.codeIn K cd33 "read_times" = true) (k33 : PySem.W.keepIn K (.ref f33) = true)
  (a34 : PySem.W.nsIn K mainGlobals "side_text" = some (some (.ref f34))) (l34 : K.lookup f34 = some ⟨oc34, od34, .func (PySem.W.fnOf "side_text" "side_text" (defArgs (top 66)) (defBody (top 66)) (defScope (top 66)) .none kV34 dc34 pm34 an34 cd34 ct34), sl34⟩) (e34 : PySem.W.codeIn K cd34 "side_text" = true) (k34 : PySem.W.keepIn K (.ref f34) = true)
  (a35 : PySem.W.nsIn K mainGlobals "rule_text" = some (some (.ref f35))) (l35 : K.lookup f35 = some ⟨oc35, od35, .func (PySem.W.fnOf "rule_text" "rule_text" (defArgs (top 67)) (defBody (top 67)) (defScope (top 67)) .none kV35 dc35 pm35 an35 cd35 ct35), sl35⟩) (e35 : PySem.W.codeIn K cd35 "rule_text" = true) (k35 : PySem.W.keepIn K (.ref f35) = true)
  (a36 : PySem.W.nsIn K mainGlobals "net_text" = some (some (.ref f36))) (l36 : K.lookup f36 = some ⟨oc36, od36, .func (PySem.W.fnOf "net_text" "net_text" (defArgs (top 68)) (defBody (top 68)) (defScope (top 68)) .none kV36 dc36 pm36 an36 cd36 ct36), sl36⟩) (e36 : PySem.W.codeIn K cd36 "net_text" = true) (k36 : PySem.W.keepIn K (.ref f36) = true)
  (a37 : PySem.W.nsIn K mainGlobals "is_news_time" = some (some (.ref f37))) (l37 : K.lookup f37 = some ⟨oc37, od37, .func (PySem.W.fnOf "is_news_time" "is_news_time" (defArgs (top 21)) (defBody (top 21)) (defScope (top 21)) .none kV37 dc37 pm37 an37 cd37 ct37), sl37⟩) (e37 : PySem.W.codeIn K cd37 "is_news_time" = true) (k37 : PySem.W.keepIn K (.ref f37) = true)
  (a38 : PySem.W.nsIn K mainGlobals "is_news" = some (some (.ref f38))) (l38 : K.lookup f38 = some ⟨oc38, od38, .func (PySem.W.fnOf "is_news" "is_news" (defArgs (top 22)) (defBody (top 22)) (defScope (top 22)) .none kV38 dc38 pm38 an38 cd38 ct38), sl38⟩) (e38 : PySem.W.codeIn K cd38 "is_news" = true) (k38 : PySem.W.keepIn K (.ref f38) = true)
  (a39 : PySem.W.nsIn K mainGlobals "are_news" = some (some (.ref f39))) (l39 : K.lookup f39 = some ⟨oc39, od39, .func (PySem.W.fnOf "are_news" "are_news" (defArgs (top 23)) (defBody (top 23)) (defScope (top 23)) .none kV39 dc39 pm39 an39 cd39 ct39), sl39⟩) (e39 : PySem.W.codeIn K cd39 "are_news" = true) (k39 : PySem.W.keepIn K (.ref f39) = true)
  (a40 : PySem.W.nsIn K mainGlobals "is_row" = some (some (.ref f40))) (l40 : K.lookup f40 = some ⟨oc40, od40, .func (PySem.W.fnOf "is_row" "is_row" (defArgs (top 24)) (defBody (top 24)) (defScope (top 24)) .none kV40 dc40 pm40 an40 cd40 ct40), sl40⟩) (e40 : PySem.W.codeIn K cd40 "is_row" = true) (k40 : PySem.W.keepIn K (.ref f40) = true)
  (a41 : PySem.W.nsIn K mainGlobals "check_row" = some (some (.ref f41))) (l41 : K.lookup f41 = some ⟨oc41, od41, .func (PySem.W.fnOf "check_row" "check_row" (defArgs (top 25)) (defBody (top 25)) (defScope (top 25)) .none kV41 dc41 pm41 an41 cd41 ct41), sl41⟩) (e41 : PySem.W.codeIn K cd41 "check_row" = true) (k41 : PySem.W.keepIn K (.ref f41) = true)
  (a42 : PySem.W.nsIn K mainGlobals "news_text" = some (some (.ref f42))) (l42 : K.lookup f42 = some ⟨oc42, od42, .func (PySem.W.fnOf "news_text" "news_text" (defArgs (top 69)) (defBody (top 69)) (defScope (top 69)) .none kV42 dc42 pm42 an42 cd42 ct42), sl42⟩) (e42 : PySem.W.codeIn K cd42 "news_text" = true) (k42 : PySem.W.keepIn K (.ref f42) = true)
  (a43 : PySem.W.nsIn K mainGlobals "row_text" = some (some (.ref f43))) (l43 : K.lookup f43 = some ⟨oc43, od43, .func (PySem.W.fnOf "row_text" "row_text" (defArgs (top 70)) (defBody (top 70)) (defScope (top 70)) .none kV43 dc43 pm43 an43 cd43 ct43), sl43⟩) (e43 : PySem.W.codeIn K cd43 "row_text" = true) (k43 : PySem.W.keepIn K (.ref f43) = true)
  (a44 : PySem.W.nsIn K mainGlobals "is_times" = some (some (.ref f44))) (l44 : K.lookup f44 = some ⟨oc44, od44, .func (PySem.W.fnOf "is_times" "is_times" (defArgs (top 15)) (defBody (top 15)) (defScope (top 15)) .none kV44 dc44 pm44 an44 cd44 ct44), sl44⟩) (e44 : PySem.W.codeIn K cd44 "is_times" = true) (k44 : PySem.W.keepIn K (.ref f44) = true)
  (a45 : PySem.W.nsIn K mainGlobals "check_times" = some (some (.ref f45))) (l45 : K.lookup f45 = some ⟨oc45, od45, .func (PySem.W.fnOf "check_times" "check_times" (defArgs (top 17)) (defBody (top 17)) (defScope (top 17)) .none kV45 dc45 pm45 an45 cd45 ct45), sl45⟩) (e45 : PySem.W.codeIn K cd45 "check_times" = true) (k45 : PySem.W.keepIn K (.ref f45) = true)
  (a46 : PySem.W.nsIn K mainGlobals "times_text" = some (some (.ref f46))) (l46 : K.lookup f46 = some ⟨oc46, od46, .func (PySem.W.fnOf "times_text" "times_text" (defArgs (top 71)) (defBody (top 71)) (defScope (top 71)) .none kV46 dc46 pm46 an46 cd46 ct46), sl46⟩) (e46 : PySem.W.codeIn K cd46 "times_text" = true) (k46 : PySem.W.keepIn K (.ref f46) = true)
  (a47 : PySem.W.nsIn K mainGlobals "_law_refused" = some (some (.ref f47))) (l47 : K.lookup f47 = some ⟨oc47, od47, .func (PySem.W.fnOf "_law_refused" "_law_refused" (defArgs (top 82)) (defBody (top 82)) (defScope (top 82)) .none kV47 dc47 pm47 an47 cd47 ct47), sl47⟩) (e47 : PySem.W.codeIn K cd47 "_law_refused" = true) (k47 : PySem.W.keepIn K (.ref f47) = true)
  (a48 : PySem.W.nsIn K mainGlobals "_law_net_rows" = some (some (.ref f48))) (l48 : K.lookup f48 = some ⟨oc48, od48, .func (PySem.W.fnOf "_law_net_rows" "_law_net_rows" (defArgs (top 78)) (defBody (top 78)) (defScope (top 78)) .none kV48 dc48 pm48 an48 cd48 ct48), sl48⟩) (e48 : PySem.W.codeIn K cd48 "_law_net_rows" = true) (k48 : PySem.W.keepIn K (.ref f48) = true)
  (a49 : PySem.W.nsIn K mainGlobals "_law_row_rows" = some (some (.ref f49))) (l49 : K.lookup f49 = some ⟨oc49, od49, .func (PySem.W.fnOf "_law_row_rows" "_law_row_rows" (defArgs (top 79)) (defBody (top 79)) (defScope (top 79)) .none kV49 dc49 pm49 an49 cd49 ct49), sl49⟩) (e49 : PySem.W.codeIn K cd49 "_law_row_rows" = true) (k49 : PySem.W.keepIn K (.ref f49) = true)
  (a50 : PySem.W.nsIn K mainGlobals "_law_times_rows" = some (some (.ref f50))) (l50 : K.lookup f50 = some ⟨oc50, od50, .func (PySem.W.fnOf "_law_times_rows" "_law_times_rows" (defArgs (top 80)) (defBody (top 80)) (defScope (top 80)) .none kV50 dc50 pm50 an50 cd50 ct50), sl50⟩) (e50 : PySem.W.codeIn K cd50 "_law_times_rows" = true) (k50 : PySem.W.keepIn K (.ref f50) = true)
  (a51 : PySem.W.nsIn K mainGlobals "_law_told" = some (some (.ref f51))) (l51 : K.lookup f51 = some ⟨oc51, od51, .func (PySem.W.fnOf "_law_told" "_law_told" (defArgs (top 81)) (defBody (top 81)) (defScope (top 81)) .none kV51 dc51 pm51 an51 cd51 ct51), sl51⟩) (e51 : PySem.W.codeIn K cd51 "_law_told" = true) (k51 : PySem.W.keepIn K (.ref f51) = true)
  (a52 : PySem.W.nsIn K mainGlobals "law" = some (some (.ref f52))) (l52 : K.lookup f52 = some ⟨oc52, od52, .func (PySem.W.fnOf "law" "law" (defArgs (top 83)) (defBody (top 83)) (defScope (top 83)) .none kV52 dc52 pm52 an52 cd52 ct52), sl52⟩) (e52 : PySem.W.codeIn K cd52 "law" = true) (k52 : PySem.W.keepIn K (.ref f52) = true)
  (z0 : PySem.W.nsIn K mainGlobals "abs" = some none) (z1 : PySem.W.nsIn K mainGlobals "all" = some none) (z2 : PySem.W.nsIn K mainGlobals "bool" = some none) (z3 : PySem.W.nsIn K mainGlobals "enumerate" = some none) (z4 : PySem.W.nsIn K mainGlobals "int" = some none) (z5 : PySem.W.nsIn K mainGlobals "isinstance" = some none) (z6 : PySem.W.nsIn K mainGlobals "len" = some none) (z7 : PySem.W.nsIn K mainGlobals "list" = some none) (z8 : PySem.W.nsIn K mainGlobals "range" = some none) (z9 : PySem.W.nsIn K mainGlobals "str" = some none) (z10 : PySem.W.nsIn K mainGlobals "tuple" = some none) (y0 : PySem.W.nsIn K mainGlobals "DIGITS" = some (some (.str "0123456789" tk0))) (y1 : PySem.W.nsIn K mainGlobals "END" = some (some (.str "end" tk1))) (y2 : PySem.W.nsIn K mainGlobals "EVENT" = some (some (.str "event" tk2))) (y3 : PySem.W.nsIn K mainGlobals "EVENT_LETTERS" = some (some (.str "abcdef" tk3))) (y4 : PySem.W.nsIn K mainGlobals "GREATEST_NEWS_TIME" = some (some (.int 500 tk4))) (y5 : PySem.W.nsIn K mainGlobals "GREATEST_SIDE" = some (some (.int 100 tk5))) (y6 : PySem.W.nsIn K mainGlobals "GREATEST_TIME" = some (some (.int 1000 tk6))) (y7 : PySem.W.nsIn K mainGlobals "LETTERS" = some (some (.str "abcdefghijklmnopqrstuvwxyz" tk7))) (y8 : PySem.W.nsIn K mainGlobals "LONGEST_TEXT" = some (some (.int 600 tk8))) (y9 : PySem.W.nsIn K mainGlobals "MOST_DIGITS" = some (some (.int 6 tk9))) (y10 : PySem.W.nsIn K mainGlobals "MOST_EVENTS" = some (some (.int 6 tk10))) (y11 : PySem.W.nsIn K mainGlobals "MOST_NEWS" = some (some (.int 8 tk11))) (y12 : PySem.W.nsIn K mainGlobals "MOST_RULES" = some (some (.int 12 tk12))) (y13 : PySem.W.nsIn K mainGlobals "NET" = some (some (.str "net" tk13))) (y14 : PySem.W.nsIn K mainGlobals "NUMBER" = some (some (.str "number" tk14))) (y15 : PySem.W.nsIn K mainGlobals "POINTS" = some (some (.str ".." tk15))) (y16 : PySem.W.nsIn K mainGlobals "ROW" = some (some (.str "row" tk16))) (y17 : PySem.W.nsIn K mainGlobals "SHORT_SIGNS" = some (some (.str ":;,=-" tk17))) (y18 : PySem.W.nsIn K mainGlobals "SIGN" = some (some (.str "sign" tk18))) (y19 : PySem.W.nsIn K mainGlobals "WORD" = some (some (.str "word" tk19)))
  (pure : t_law { nx := fun _ => False, rt := fun d => d = .bool true } (none :: some .strm :: List.replicate (N_law.length - 2) none)) :
    ∃ fd : FuncData, (∀ (s : Shared) (v : Value), BindsTo s fd ⟨[v], []⟩ [("script", v)]) ∧ ∀ base : Heap, K.In base → base.Ns mainGlobals mg → FnOk l.prog w K mg base CX0 11 fa fd ["script"] (spLaw K) := by
  have T : Txt K w mg := ⟨PySem.W.mg_none_of X G z0, PySem.W.mg_none_of X G z1, PySem.W.mg_none_of X G z2, PySem.W.mg_none_of X G z3, PySem.W.mg_none_of X G z4, PySem.W.mg_none_of X G z5, PySem.W.mg_none_of X G z6, PySem.W.mg_none_of X G z7, PySem.W.mg_none_of X G z8, PySem.W.mg_none_of X G z9, PySem.W.mg_none_of X G z10, ⟨_, PySem.W.mg_of X G y0⟩, ⟨_, PySem.W.mg_of X G y1⟩, ⟨_, PySem.W.mg_of X G y2⟩, ⟨_, PySem.W.mg_of X G y3⟩, ⟨_, PySem.W.mg_of X G y4⟩, ⟨_, PySem.W.mg_of X G y5⟩, ⟨_, PySem.W.mg_of X G y6⟩, ⟨_, PySem.W.mg_of X G y7⟩, ⟨_, PySem.W.mg_of X G y8⟩, ⟨_, PySem.W.mg_of X G y9⟩, ⟨_, PySem.W.mg_of X G y10⟩, ⟨_, PySem.W.mg_of X G y11⟩, ⟨_, PySem.W.mg_of X G y12⟩, ⟨_, PySem.W.mg_of X G y13⟩, ⟨_, PySem.W.mg_of X G y14⟩, ⟨_, PySem.W.mg_of X G y15⟩, ⟨_, PySem.W.mg_of X G y16⟩, ⟨_, PySem.W.mg_of X G y17⟩, ⟨_, PySem.W.mg_of X G y18⟩, ⟨_, PySem.W.mg_of X G y19⟩, tab_mk (PySem.W.mg_of X G kx0) ky0 kl0 (tabL_cons kz4 (rp_ktup ku0 (Nat.le_of_ble_eq_true rfl) (kv_ref (rp_ktup ku1 (Nat.le_of_ble_eq_true rfl) (kv_str (kv_str kv_nil))) kv_nil)) (tabL_cons kz9 (rp_ktup ku5 (Nat.le_of_ble_eq_true rfl) (kv_ref (rp_ktup ku6 (Nat.le_of_ble_eq_true rfl) (kv_str (kv_str kv_nil))) kv_nil)) (tabL_cons kz17 (rp_ktup ku10 (Nat.le_of_ble_eq_true rfl) (kv_ref (rp_ktup ku11 (Nat.le_of_ble_eq_true rfl) (kv_str (kv_str kv_nil))) (kv_ref (rp_ktup ku14 (Nat.le_of_ble_eq_true rfl) (kv_str (kv_str kv_nil))) kv_nil))) (tabL_cons kz22 (rp_ktup ku18 (Nat.le_of_ble_eq_true rfl) (kv_ref (rp_ktup ku19 (Nat.le_of_ble_eq_true rfl) (kv_str (kv_str kv_nil))) kv_nil)) (tabL_cons kz27 (rp_ktup ku23 (Nat.le_of_ble_eq_true rfl) (kv_ref (rp_ktup ku24 (Nat.le_of_ble_eq_true rfl) (kv_str (kv_str kv_nil))) kv_nil)) (tabL_cons kz32 (rp_ktup ku28 (Nat.le_of_ble_eq_true rfl) (kv_ref (rp_ktup ku29 (Nat.le_of_ble_eq_true rfl) (kv_str (kv_str kv_nil))) kv_nil)) (tabL_cons kz43 (rp_ktup ku33 (Nat.le_of_ble_eq_true rfl) (kv_ref (rp_ktup ku34 (Nat.le_of_ble_eq_true rfl) (kv_str (kv_str kv_nil))) (kv_ref (rp_ktup ku37 (Nat.le_of_ble_eq_true rfl) (kv_str (kv_str kv_nil))) (kv_ref (rp_ktup ku40 (Nat.le_of_ble_eq_true rfl) (kv_str (kv_str kv_nil))) kv_nil)))) (tabL_cons kz48 (rp_ktup ku44 (Nat.le_of_ble_eq_true rfl) (kv_ref (rp_ktup ku45 (Nat.le_of_ble_eq_true rfl) (kv_str (kv_str kv_nil))) kv_nil)) (tabL_cons kz53 (rp_ktup ku49 (Nat.le_of_ble_eq_true rfl) (kv_ref (rp_ktup ku50 (Nat.le_of_ble_eq_true rfl) (kv_str (kv_str kv_nil))) kv_nil)) (tabL_cons kz67 (rp_ktup ku54 (Nat.le_of_ble_eq_true rfl) (kv_ref (rp_ktup ku55 (Nat.le_of_ble_eq_true rfl) (kv_str (kv_str kv_nil))) (kv_ref (rp_ktup ku58 (Nat.le_of_ble_eq_true rfl) (kv_str (kv_str kv_nil))) (kv_ref (rp_ktup ku61 (Nat.le_of_ble_eq_true rfl) (kv_str (kv_str kv_nil))) (kv_ref (rp_ktup ku64 (Nat.le_of_ble_eq_true rfl) (kv_str (kv_str kv_nil))) kv_nil))))) (tabL_cons kz75 (rp_ktup ku68 (Nat.le_of_ble_eq_true rfl) (kv_ref (rp_ktup ku69 (Nat.le_of_ble_eq_true rfl) (kv_str (kv_str kv_nil))) (kv_ref (rp_ktup ku72 (Nat.le_of_ble_eq_true rfl) (kv_str (kv_str kv_nil))) kv_nil))) (tabL_cons kz80 (rp_ktup ku76 (Nat.le_of_ble_eq_true rfl) (kv_ref (rp_ktup ku77 (Nat.le_of_ble_eq_true rfl) (kv_str (kv_str kv_nil))) kv_nil)) (tabL_cons kz88 (rp_ktup ku81 (Nat.le_of_ble_eq_true rfl) (kv_ref (rp_ktup ku82 (Nat.le_of_ble_eq_true rfl) (kv_str (kv_str kv_nil))) (kv_ref (rp_ktup ku85 (Nat.le_of_ble_eq_true rfl) (kv_str (kv_str kv_nil))) kv_nil))) (tabL_cons kz93 (rp_ktup ku89 (Nat.le_of_ble_eq_true rfl) (kv_ref (rp_ktup ku90 (Nat.le_of_ble_eq_true rfl) (kv_str (kv_str kv_nil))) kv_nil)) (tabL_cons kz101 (rp_ktup ku94 (Nat.le_of_ble_eq_true rfl) (kv_ref (rp_ktup ku95 (Nat.le_of_ble_eq_true rfl) (kv_str (kv_str kv_nil))) (kv_ref (rp_ktup ku98 (Nat.le_of_ble_eq_true rfl) (kv_str (kv_str kv_nil))) kv_nil))) (tabL_cons kz106 (rp_ktup ku102 (Nat.le_of_ble_eq_true rfl) (kv_ref (rp_ktup ku103 (Nat.le_of_ble_eq_true rfl) (kv_str (kv_str kv_nil))) kv_nil)) (tabL_cons kz114 (rp_ktup ku107 (Nat.le_of_ble_eq_true rfl) (kv_ref (rp_ktup ku108 (Nat.le_of_ble_eq_true rfl) (kv_str (kv_str kv_nil))) (kv_ref (rp_ktup ku111 (Nat.le_of_ble_eq_true rfl) (kv_str (kv_str kv_nil))) kv_nil))) (tabL_cons kz119 (rp_ktup ku115 (Nat.le_of_ble_eq_true rfl) (kv_ref (rp_ktup ku116 (Nat.le_of_ble_eq_true rfl) (kv_str (kv_str kv_nil))) kv_nil)) (tabL_cons kz127 (rp_ktup ku120 (Nat.le_of_ble_eq_true rfl) (kv_ref (rp_ktup ku121 (Nat.le_of_ble_eq_true rfl) (kv_str (kv_str kv_nil))) (kv_ref (rp_ktup ku124 (Nat.le_of_ble_eq_true rfl) (kv_str (kv_str kv_nil))) kv_nil))) (tabL_cons kz132 (rp_ktup ku128 (Nat.le_of_ble_eq_true rfl) (kv_ref (rp_ktup ku129 (Nat.le_of_ble_eq_true rfl) (kv_str (kv_str kv_nil))) kv_nil)) tabL_nil))))))))))))))))))))⟩
  have d0 : Df K mg "_law_stream" (top 73) := ⟨_, _, fun_mk (st := (top 73)) l0 e0 k0, PySem.W.mg_of X G a0⟩
  have d1 : Df K mg "_law_next" (top 74) := ⟨_, _, fun_mk (st := (top 74)) l1 e1 k1, PySem.W.mg_of X G a1⟩
  have d2 : Df K mg "_law_pick" (top 77) := ⟨_, _, fun_mk (st := (top 77)) l2 e2 k2, PySem.W.mg_of X G a2⟩
  have d3 : Df K mg "_law_is_integer" (top 75) := ⟨_, _, fun_mk (st := (top 75)) l3 e3 k3, PySem.W.mg_of X G a3⟩
  have d4 : Df K mg "_law_equal" (top 76) := ⟨_, _, fun_mk (st := (top 76)) l4 e4 k4, PySem.W.mg_of X G a4⟩
  have d5 : Df K mg "check_text" (top 39) := ⟨_, _, fun_mk (st := (top 39)) l5 e5 k5, PySem.W.mg_of X G a5⟩
  have d6 : Df K mg "possible_at" (top 50) := ⟨_, _, fun_mk (st := (top 50)) l6 e6 k6, PySem.W.mg_of X G a6⟩
  have d7 : Df K mg "words_for" (top 48) := ⟨_, _, fun_mk (st := (top 48)) l7 e7 k7, PySem.W.mg_of X G a7⟩
  have d8 : Df K mg "listed" (top 49) := ⟨_, _, fun_mk (st := (top 49)) l8 e8 k8, PySem.W.mg_of X G a8⟩
  have d9 : Df K mg "place_behind" (top 51) := ⟨_, _, fun_mk (st := (top 51)) l9 e9 k9, PySem.W.mg_of X G a9⟩
  have d10 : Df K mg "place_behind_all" (top 52) := ⟨_, _, fun_mk (st := (top 52)) l10 e10 k10, PySem.W.mg_of X G a10⟩
  have d11 : Df K mg "run_from" (top 40) := ⟨_, _, fun_mk (st := (top 40)) l11 e11 k11, PySem.W.mg_of X G a11⟩
  have d12 : Df K mg "letters_kind" (top 41) := ⟨_, _, fun_mk (st := (top 41)) l12 e12 k12, PySem.W.mg_of X G a12⟩
  have d13 : Df K mg "token_at" (top 42) := ⟨_, _, fun_mk (st := (top 42)) l13 e13 k13, PySem.W.mg_of X G a13⟩
  have d14 : Df K mg "scan" (top 43) := ⟨_, _, fun_mk (st := (top 43)) l14 e14 k14, PySem.W.mg_of X G a14⟩
  have d15 : Df K mg "next_tokens" (top 53) := ⟨_, _, fun_mk (st := (top 53)) l15 e15 k15, PySem.W.mg_of X G a15⟩
  have d16 : Df K mg "tokens_of" (top 54) := ⟨_, _, fun_mk (st := (top 54)) l16 e16 k16, PySem.W.mg_of X G a16⟩
  have d17 : Df K mg "size_in" (top 59) := ⟨_, _, fun_mk (st := (top 59)) l17 e17 k17, PySem.W.mg_of X G a17⟩
  have d18 : Df K mg "parts_between" (top 55) := ⟨_, _, fun_mk (st := (top 55)) l18 e18 k18, PySem.W.mg_of X G a18⟩
  have d19 : Df K mg "event_in" (top 56) := ⟨_, _, fun_mk (st := (top 56)) l19 e19 k19, PySem.W.mg_of X G a19⟩
  have d20 : Df K mg "integer_in" (top 57) := ⟨_, _, fun_mk (st := (top 57)) l20 e20 k20, PySem.W.mg_of X G a20⟩
  have d21 : Df K mg "side_in" (top 58) := ⟨_, _, fun_mk (st := (top 58)) l21 e21 k21, PySem.W.mg_of X G a21⟩
  have d22 : Df K mg "rule_in" (top 60) := ⟨_, _, fun_mk (st := (top 60)) l22 e22 k22, PySem.W.mg_of X G a22⟩
  have d23 : Df K mg "read_net" (top 61) := ⟨_, _, fun_mk (st := (top 61)) l23 e23 k23, PySem.W.mg_of X G a23⟩
  have d24 : Df K mg "is_whole" (top 9) := ⟨_, _, fun_mk (st := (top 9)) l24 e24 k24, PySem.W.mg_of X G a24⟩
  have d25 : Df K mg "is_integer" (top 10) := ⟨_, _, fun_mk (st := (top 10)) l25 e25 k25, PySem.W.mg_of X G a25⟩
  have d26 : Df K mg "is_side" (top 12) := ⟨_, _, fun_mk (st := (top 12)) l26 e26 k26, PySem.W.mg_of X G a26⟩
  have d27 : Df K mg "is_event" (top 11) := ⟨_, _, fun_mk (st := (top 11)) l27 e27 k27, PySem.W.mg_of X G a27⟩
  have d28 : Df K mg "is_rule" (top 13) := ⟨_, _, fun_mk (st := (top 13)) l28 e28 k28, PySem.W.mg_of X G a28⟩
  have d29 : Df K mg "is_net" (top 14) := ⟨_, _, fun_mk (st := (top 14)) l29 e29 k29, PySem.W.mg_of X G a29⟩
  have d30 : Df K mg "check_net" (top 16) := ⟨_, _, fun_mk (st := (top 16)) l30 e30 k30, PySem.W.mg_of X G a30⟩
  have d31 : Df K mg "pieces_of" (top 62) := ⟨_, _, fun_mk (st := (top 62)) l31 e31 k31, PySem.W.mg_of X G a31⟩
  have d32 : Df K mg "read_row" (top 63) := ⟨_, _, fun_mk (st := (top 63)) l32 e32 k32, PySem.W.mg_of X G a32⟩
  have d33 : Df K mg "read_times" (top 64) := ⟨_, _, fun_mk (st := (top 64)) l33 e33 k33, PySem.W.mg_of X G a33⟩
  have d34 : Df K mg "side_text" (top 66) := ⟨_, _, fun_mk (st := (top 66)) l34 e34 k34, PySem.W.mg_of X G a34⟩
  have d35 : Df K mg "rule_text" (top 67) := ⟨_, _, fun_mk (st := (top 67)) l35 e35 k35, PySem.W.mg_of X G a35⟩
  have d36 : Df K mg "net_text" (top 68) := ⟨_, _, fun_mk (st := (top 68)) l36 e36 k36, PySem.W.mg_of X G a36⟩
  have d37 : Df K mg "is_news_time" (top 21) := ⟨_, _, fun_mk (st := (top 21)) l37 e37 k37, PySem.W.mg_of X G a37⟩
  have d38 : Df K mg "is_news" (top 22) := ⟨_, _, fun_mk (st := (top 22)) l38 e38 k38, PySem.W.mg_of X G a38⟩
  have d39 : Df K mg "are_news" (top 23) := ⟨_, _, fun_mk (st := (top 23)) l39 e39 k39, PySem.W.mg_of X G a39⟩
  have d40 : Df K mg "is_row" (top 24) := ⟨_, _, fun_mk (st := (top 24)) l40 e40 k40, PySem.W.mg_of X G a40⟩
  have d41 : Df K mg "check_row" (top 25) := ⟨_, _, fun_mk (st := (top 25)) l41 e41 k41, PySem.W.mg_of X G a41⟩
  have d42 : Df K mg "news_text" (top 69) := ⟨_, _, fun_mk (st := (top 69)) l42 e42 k42, PySem.W.mg_of X G a42⟩
  have d43 : Df K mg "row_text" (top 70) := ⟨_, _, fun_mk (st := (top 70)) l43 e43 k43, PySem.W.mg_of X G a43⟩
  have d44 : Df K mg "is_times" (top 15) := ⟨_, _, fun_mk (st := (top 15)) l44 e44 k44, PySem.W.mg_of X G a44⟩
  have d45 : Df K mg "check_times" (top 17) := ⟨_, _, fun_mk (st := (top 17)) l45 e45 k45, PySem.W.mg_of X G a45⟩
  have d46 : Df K mg "times_text" (top 71) := ⟨_, _, fun_mk (st := (top 71)) l46 e46 k46, PySem.W.mg_of X G a46⟩
  have d47 : Df K mg "_law_refused" (top 82) := ⟨_, _, fun_mk (st := (top 82)) l47 e47 k47, PySem.W.mg_of X G a47⟩
  have d48 : Df K mg "_law_net_rows" (top 78) := ⟨_, _, fun_mk (st := (top 78)) l48 e48 k48, PySem.W.mg_of X G a48⟩
  have d49 : Df K mg "_law_row_rows" (top 79) := ⟨_, _, fun_mk (st := (top 79)) l49 e49 k49, PySem.W.mg_of X G a49⟩
  have d50 : Df K mg "_law_times_rows" (top 80) := ⟨_, _, fun_mk (st := (top 80)) l50 e50 k50, PySem.W.mg_of X G a50⟩
  have d51 : Df K mg "_law_told" (top 81) := ⟨_, _, fun_mk (st := (top 81)) l51 e51 k51, PySem.W.mg_of X G a51⟩
  have e := hfa.symm.trans (PySem.W.mg_of X G a52)
  cases e
  refine ⟨PySem.W.fnOf "law" "law" (defArgs (top 83)) (defBody (top 83)) (defScope (top 83)) .none kV52 dc52 pm52 an52 cd52 ct52, fun s v => .of_eq rfl, fun base _ _ => ?_⟩
  have X_0 : XC l.prog w K mg base 0 C0 := ⟨PySem.W.mg_of X G xa0, ⟨⟨_, _, _, _, _, _, _, _, _, _, _, _, _, _, _, xl0, by rfl⟩, xg0, xz0, ya0, xu0⟩, xj0, ⟨xh0, xi0, xz0, yb0⟩,
    ⟨fI0, _, xk0, xo0, ini_ok (fun_mk (st := (clsInit (top 2))) xp0 xt0 xy0) ⟨rfl, rfl, rfl, by decide +kernel, rfl, by decide +kernel, by decide +kernel⟩ rfl (by decide) (fun cdv A outer s H Q E => ⟨pv 0, pv 1, rfl⟩), (fun_mk (st := (clsInit (top 2))) xp0 xt0 xy0).binds (ps := ["self", "name"]) fun _ _ _ _ _ _ us hl => match us, hl with | [_, _], _ => rfl⟩⟩
  have X_3 : XC3 l.prog w K mg base C3 := ⟨PySem.W.mg_of X G xa3, ⟨⟨_, _, _, _, _, _, _, _, _, _, _, _, _, _, _, xl3, by rfl⟩, xg3, xz3, ya3, xu3⟩, xj3, xj3w, ⟨xh3, xi3, xz3, yb3⟩,
    ⟨fI3, _, xk3, xo3, ini_ok2 (fun_mk (st := (clsInit (top 3))) xp3 xt3 xy3) ⟨rfl, rfl, rfl, by decide +kernel, rfl, by decide +kernel, by decide +kernel⟩ rfl (fun cdv A outer s H Q E => ⟨⟨pv 0, pv 1, rfl⟩, pv 0, pv 2, rfl⟩), (fun_mk (st := (clsInit (top 3))) xp3 xt3 xy3).binds (ps := ["self", "column", "words"]) fun _ _ _ _ _ _ us hl => match us, hl with | [_, _, _], _ => rfl⟩⟩
  have N_BadValue : mg "BadValue" = some (.ref B_BadValue) := PySem.W.mg_of X G ha_BadValue
  have E_BadValue : ExF K mg B_BadValue [some true, none, none, some false] := by
    intro c b C hc hm
    match c, hc with
    | 0, hc => cases (X_0.gC.symm.trans hm); cases hc; exact PySem.W.exm_ref hb_BadValue hc_BadValue hd_BadValue he_BadValue_0
    | 1, hc => simp at hc
    | 2, hc => simp at hc
    | 3, hc => cases (X_3.gC.symm.trans hm); cases hc; exact PySem.W.exm_ref hb_BadValue hc_BadValue hd_BadValue he_BadValue_3
    | n + 4, hc => simp at hc
  have N_TextError : mg "TextError" = some (.ref B_TextError) := PySem.W.mg_of X G ha_TextError
  have E_TextError : ExF K mg B_TextError [some false, none, none, some true] := by
    intro c b C hc hm
    match c, hc with
    | 0, hc => cases (X_0.gC.symm.trans hm); cases hc; exact PySem.W.exm_ref hb_TextError hc_TextError hd_TextError he_TextError_0
    | 1, hc => simp at hc
    | 2, hc => simp at hc
    | 3, hc => cases (X_3.gC.symm.trans hm); cases hc; exact PySem.W.exm_ref hb_TextError hc_TextError hd_TextError he_TextError_3
    | n + 4, hc => simp at hc
  have G_L_stream : Fx l.prog w K mg base 1 "_law_stream" ["script"] (spStream K) := fx_L_stream d0 T 
  have G_L_next : Fx l.prog w K mg base 1 "_law_next" ["stream", "many"] (spS K 1 f_next) := fx_L_next d1 T 
  have G_L_pick : Fx l.prog w K mg base 2 "_law_pick" ["stream", "rows"] (spS K 1 f_L_pick) := fx_L_pick d2 T G_L_next
  have G_L_is_integer : Fx l.prog w K mg base 1 "_law_is_integer" ["actual"] (spD K 1 f_L_is_integer) := fx_L_is_integer d3 T 
  have G_L_equal : Fx l.prog w K mg base 9 "_law_equal" ["actual", "due"] (spD K 2 (f_equal 8)) := fx_L_equal d4 T G_L_is_integer
  have G_check_text : Fx l.prog w K mg base 3 "check_text" ["text"] (spD K 1 f_check_text) := fx_check_text d5 T 
  have GX_check_text : FxX l.prog w K mg base 3 "check_text" ["text"] 1 f_check_text fX_check_text := fxX_check_text G_check_text d5 T   X_0 X_3
  have G_possible_at : Fx l.prog w K mg base 1 "possible_at" ["place"] (spD K 1 f_possible_at) := fx_possible_at d6 T 
  have G_words_for : Fx l.prog w K mg base 1 "words_for" ["token"] (spD K 1 f_words_for) := fx_words_for d7 T 
  have G_listed : Fx l.prog w K mg base 1 "listed" ["words"] (spD K 1 f_listed) := fx_listed d8 T 
  have G_place_behind : Fx l.prog w K mg base 3 "place_behind" ["place", "token"] (spD K 2 f_place_behind) := fx_place_behind d9 T G_words_for G_listed G_possible_at
  have GX_place_behind : FxX l.prog w K mg base 3 "place_behind" ["place", "token"] 2 f_place_behind fX_place_behind := fxX_place_behind G_place_behind d9 T G_words_for G_listed G_possible_at  X_0 X_3
  have G_place_behind_all : Fx l.prog w K mg base 4 "place_behind_all" ["tokens", "kind"] (spD K 2 f_place_behind_all) := fx_place_behind_all d10 T G_place_behind
  have GX_place_behind_all : FxX l.prog w K mg base 4 "place_behind_all" ["tokens", "kind"] 2 f_place_behind_all fX_place_behind_all := fxX_place_behind_all G_place_behind_all d10 T G_place_behind GX_place_behind X_0 X_3
  have G_run_from : Fx l.prog w K mg base 1 "run_from" ["text", "at", "characters"] (spD K 3 f_run_from) := fx_run_from d11 T 
  have G_letters_kind : Fx l.prog w K mg base 3 "letters_kind" ["letters", "column"] (spD K 2 f_letters_kind) := fx_letters_kind d12 T 
  have GX_letters_kind : FxX l.prog w K mg base 3 "letters_kind" ["letters", "column"] 2 f_letters_kind fX_letters_kind := fxX_letters_kind G_letters_kind d12 T   X_0 X_3
  have G_token_at : Fx l.prog w K mg base 4 "token_at" ["text", "at"] (spD K 2 f_token_at) := fx_token_at d13 T G_run_from G_letters_kind
  have GX_token_at : FxX l.prog w K mg base 4 "token_at" ["text", "at"] 2 f_token_at fX_token_at := fxX_token_at G_token_at d13 T G_run_from G_letters_kind GX_letters_kind X_0 X_3
  have G_scan : Fx l.prog w K mg base 5 "scan" ["text"] (spD K 1 f_scan) := fx_scan d14 T G_check_text G_token_at
  have GX_scan : FxX l.prog w K mg base 5 "scan" ["text"] 1 f_scan fX_scan := fxX_scan G_scan d14 T G_check_text G_token_at GX_check_text GX_token_at X_0 X_3
  have G_next_tokens : Fx l.prog w K mg base 6 "next_tokens" ["text", "kind"] (spD K 2 f_next_tokens) := fx_next_tokens d15 T G_check_text G_possible_at G_place_behind_all G_scan
  have GX_next_tokens : FxX l.prog w K mg base 6 "next_tokens" ["text", "kind"] 2 f_next_tokens fX_next_tokens := fxX_next_tokens G_next_tokens d15 T G_check_text G_possible_at G_place_behind_all G_scan GX_check_text GX_place_behind_all GX_scan X_0 X_3
  have G_tokens_of : Fx l.prog w K mg base 6 "tokens_of" ["text", "kind"] (spD K 2 f_tokens_of) := fx_tokens_of d16 T G_scan G_place_behind_all
  have GX_tokens_of : FxX l.prog w K mg base 6 "tokens_of" ["text", "kind"] 2 f_tokens_of fX_tokens_of := fxX_tokens_of G_tokens_of d16 T G_scan G_place_behind_all GX_scan GX_place_behind_all X_0 X_3
  have G_size_in : Fx l.prog w K mg base 3 "size_in" ["token"] (spD K 1 f_size_in) := fx_size_in d17 T 
  have GX_size_in : FxX l.prog w K mg base 3 "size_in" ["token"] 1 f_size_in fX_size_in := fxX_size_in G_size_in d17 T   X_0 X_3
  have G_parts_between : Fx l.prog w K mg base 1 "parts_between" ["tokens", "sign"] (spD K 2 f_parts_between) := fx_parts_between d18 T 
  have G_event_in : Fx l.prog w K mg base 3 "event_in" ["size", "token"] (spD K 2 f_event_in) := fx_event_in d19 T 
  have GX_event_in : FxX l.prog w K mg base 3 "event_in" ["size", "token"] 2 f_event_in fX_event_in := fxX_event_in G_event_in d19 T   X_0 X_3
  have G_integer_in : Fx l.prog w K mg base 3 "integer_in" ["tokens", "greatest", "problem"] (spD K 3 f_integer_in) := fx_integer_in d20 T 
  have GX_integer_in : FxX l.prog w K mg base 3 "integer_in" ["tokens", "greatest", "problem"] 3 f_integer_in fX_integer_in := fxX_integer_in G_integer_in d20 T   X_0 X_3
  have G_side_in : Fx l.prog w K mg base 4 "side_in" ["tokens"] (spD K 1 f_side_in) := fx_side_in d21 T G_integer_in
  have GX_side_in : FxX l.prog w K mg base 4 "side_in" ["tokens"] 1 f_side_in fX_side_in := fxX_side_in G_side_in d21 T G_integer_in GX_integer_in X_0 X_3
  have G_rule_in : Fx l.prog w K mg base 5 "rule_in" ["size", "tokens"] (spD K 2 f_rule_in) := fx_rule_in d22 T G_event_in G_side_in G_parts_between
  have GX_rule_in : FxX l.prog w K mg base 5 "rule_in" ["size", "tokens"] 2 f_rule_in fX_rule_in := fxX_rule_in G_rule_in d22 T G_event_in G_side_in G_parts_between GX_event_in GX_side_in X_0 X_3
  have G_read_net : Fx l.prog w K mg base 7 "read_net" ["text"] (spD K 1 f_read_net) := fx_read_net d23 T G_tokens_of G_size_in G_parts_between G_rule_in
  have GX_read_net : FxX l.prog w K mg base 7 "read_net" ["text"] 1 f_read_net fX_read_net := fxX_read_net G_read_net d23 T G_tokens_of G_size_in G_parts_between G_rule_in GX_tokens_of GX_size_in GX_rule_in X_0 X_3
  have G_is_whole : Fx l.prog w K mg base 1 "is_whole" ["value"] (spD K 1 f_is_whole) := fx_is_whole d24 T 
  have G_is_integer : Fx l.prog w K mg base 2 "is_integer" ["value", "least", "greatest"] (spD K 3 f_is_integer) := fx_is_integer d25 T G_is_whole
  have G_is_side : Fx l.prog w K mg base 3 "is_side" ["value"] (spD K 1 f_is_side) := fx_is_side d26 T G_is_integer
  have G_is_event : Fx l.prog w K mg base 3 "is_event" ["value", "size"] (spD K 2 f_is_event) := fx_is_event d27 T G_is_integer
  have G_is_rule : Fx l.prog w K mg base 4 "is_rule" ["value", "size"] (spD K 2 f_is_rule) := fx_is_rule d28 T G_is_side G_is_event
  have G_is_net : Fx l.prog w K mg base 5 "is_net" ["value"] (spD K 1 f_is_net) := fx_is_net d29 T G_is_integer G_is_rule
  have G_check_net : Fx l.prog w K mg base 6 "check_net" ["net"] (spD K 1 f_check_net) := fx_check_net d30 T G_is_net
  have GX_check_net : FxX l.prog w K mg base 6 "check_net" ["net"] 1 f_check_net fX_check_net := fxX_check_net G_check_net d30 T G_is_net  X_0 X_3
  have G_pieces_of : Fx l.prog w K mg base 2 "pieces_of" ["tokens"] (spD K 1 f_pieces_of) := fx_pieces_of d31 T G_parts_between
  have G_read_row : Fx l.prog w K mg base 7 "read_row" ["net", "text"] (spD K 2 f_read_row) := fx_read_row d32 T G_check_net G_pieces_of G_tokens_of G_event_in G_integer_in
  have GX_read_row : FxX l.prog w K mg base 7 "read_row" ["net", "text"] 2 f_read_row fX_read_row := fxX_read_row G_read_row d32 T G_check_net G_pieces_of G_tokens_of G_event_in G_integer_in GX_check_net GX_tokens_of GX_event_in GX_integer_in X_0 X_3
  have G_read_times : Fx l.prog w K mg base 7 "read_times" ["net", "text"] (spD K 2 f_read_times) := fx_read_times d33 T G_check_net G_tokens_of G_pieces_of G_event_in G_integer_in
  have GX_read_times : FxX l.prog w K mg base 7 "read_times" ["net", "text"] 2 f_read_times fX_read_times := fxX_read_times G_read_times d33 T G_check_net G_tokens_of G_pieces_of G_event_in G_integer_in GX_check_net GX_tokens_of GX_event_in GX_integer_in X_0 X_3
  have G_side_text : Fx l.prog w K mg base 1 "side_text" ["side"] (spD K 1 f_side_text) := fx_side_text d34 T 
  have G_rule_text : Fx l.prog w K mg base 2 "rule_text" ["rule"] (spD K 1 f_rule_text) := fx_rule_text d35 T G_side_text
  have G_net_text : Fx l.prog w K mg base 7 "net_text" ["net"] (spD K 1 f_net_text) := fx_net_text d36 T G_check_net G_rule_text
  have GX_net_text : FxX l.prog w K mg base 7 "net_text" ["net"] 1 f_net_text fX_net_text := fxX_net_text G_net_text d36 T G_check_net G_rule_text GX_check_net X_0 X_3
  have G_is_news_time : Fx l.prog w K mg base 3 "is_news_time" ["value"] (spD K 1 f_is_news_time) := fx_is_news_time d37 T G_is_integer
  have G_is_news : Fx l.prog w K mg base 4 "is_news" ["value", "size"] (spD K 2 f_is_news) := fx_is_news d38 T G_is_event G_is_news_time
  have G_are_news : Fx l.prog w K mg base 5 "are_news" ["value", "size", "most"] (spD K 3 f_are_news) := fx_are_news d39 T G_is_news
  have G_is_row : Fx l.prog w K mg base 6 "is_row" ["value", "size"] (spD K 2 f_is_row) := fx_is_row d40 T G_are_news
  have G_check_row : Fx l.prog w K mg base 7 "check_row" ["name", "value", "size"] (spD K 3 f_check_row) := fx_check_row d41 T G_is_row
  have GX_check_row : FxX l.prog w K mg base 7 "check_row" ["name", "value", "size"] 3 f_check_row fX_check_row := fxX_check_row G_check_row d41 T G_is_row  X_0 X_3
  have G_news_text : Fx l.prog w K mg base 1 "news_text" ["pieces"] (spD K 1 f_news_text) := fx_news_text d42 T 
  have G_row_text : Fx l.prog w K mg base 8 "row_text" ["row"] (spD K 1 f_row_text) := fx_row_text d43 T G_check_row G_news_text
  have GX_row_text : FxX l.prog w K mg base 8 "row_text" ["row"] 1 f_row_text fX_row_text := fxX_row_text G_row_text d43 T G_check_row G_news_text GX_check_row X_0 X_3
  have G_is_times : Fx l.prog w K mg base 3 "is_times" ["value", "net"] (spD K 2 f_is_times) := fx_is_times d44 T G_is_integer
  have G_check_times : Fx l.prog w K mg base 4 "check_times" ["net", "times"] (spD K 2 f_check_times) := fx_check_times d45 T G_is_times
  have GX_check_times : FxX l.prog w K mg base 4 "check_times" ["net", "times"] 2 f_check_times fX_check_times := fxX_check_times G_check_times d45 T G_is_times  X_0 X_3
  have G_times_text : Fx l.prog w K mg base 7 "times_text" ["net", "times"] (spD K 2 f_times_text) := fx_times_text d46 T G_check_net G_check_times G_news_text
  have GX_times_text : FxX l.prog w K mg base 7 "times_text" ["net", "times"] 2 f_times_text fX_times_text := fxX_times_text G_times_text d46 T G_check_net G_check_times G_news_text GX_check_net GX_check_times X_0 X_3
  have G_L_refused : Fx l.prog w K mg base 9 "_law_refused" ["which", "one", "other"] (spD K 3 f_L_refused) := fx_L_refused d47 T G_next_tokens G_read_net G_read_row G_read_times G_net_text G_row_text G_times_text GX_next_tokens GX_read_net GX_read_row GX_read_times GX_net_text GX_row_text GX_times_text X_0 X_3 N_BadValue E_BadValue N_TextError E_TextError
  have G_L_net_rows : Fx l.prog w K mg base 1 "_law_net_rows" [] (spD K 0 f_L_net_rows) := fx_L_net_rows d48 T 
  have G_L_row_rows : Fx l.prog w K mg base 1 "_law_row_rows" [] (spD K 0 f_L_row_rows) := fx_L_row_rows d49 T 
  have G_L_times_rows : Fx l.prog w K mg base 1 "_law_times_rows" [] (spD K 0 f_L_times_rows) := fx_L_times_rows d50 T 
  have G_L_told : Fx l.prog w K mg base 8 "_law_told" ["kind", "text"] (spD K 2 f_L_told) := fx_L_told d51 T G_read_net G_read_row G_read_times GX_read_net GX_read_row GX_read_times X_0 X_3 N_BadValue E_BadValue N_TextError E_TextError
  exact fx_law (fun_mk (st := (top 83)) l52 e52 k52) T G_L_stream G_L_pick G_L_equal G_L_refused G_L_net_rows G_L_row_rows G_L_times_rows G_L_next G_L_told pure
theorem walk {l : PySem.W.OpenLaw} {q : Program} {loose : List Str} {XP : (Str → Option Value) → Heap → Prop} {YP : World → Heap → Prop} {d : DefRec} {K : Params → PySem.W.Frag} (hn : l.most = some 63) (hdf : d.params.defaults = [])
    (hY : ∀ (w : World) (h : Heap), YP w h → (K w.params).In h)
    (F : ∀ (w : World) (mg : Str → Option Value) (fa : Addr) (h : Heap), (K w.params).In h → h.Ns mainGlobals mg → mg d.name = some (.ref fa) →
      ∃ fd : FuncData, (∀ (s : Shared) (u : Value), BindsTo s fd ⟨[u], []⟩ [("script", u)]) ∧ ∀ base : Heap, (K w.params).In base → base.Ns mainGlobals mg → FnOk l.prog w (K w.params) mg base CX0 11 fa fd ["script"] (spLaw (K w.params))) :
    PySem.W.WalkO q loose XP YP l.row.toRowW d [] (fun f vs => PySem.call f vs) :=
  L2.walk_of (n := 63) (k := 11) (x := "script") (CX := fun _ => CX0) (sp := fun w => spLaw (K w.params)) hn (by decide) hdf ⟨rfl, by decide, by decide⟩ hY F (fun _ _ a ns hl _ hS => ⟨a, ns, rfl, hS, hl, fun _ => rfl⟩) fun _ _ _ _ _ z => z
end Law
open PySem PySem.W PyProof.Rows in
set_option maxRecDepth 100000 in
set_option maxHeartbeats 0 in
theorem PySem.Challenge.cw_allbide_k75_problems_of_texts_holds : PySem.Challenge.rw_allbide_k75_problems_of_texts.Holds := by
  w_on; o_law; k_head; (case hw => w_witness2)
  k_fill
  refine Law.walk (l := PySem.Challenge.rw_allbide_k75_problems_of_texts) rfl rfl (fun w h Y => PySem.W.kIn_of Y) ?F
  case F =>
    intro w mg fa h KX G hmg
    refine' Law.all_mk KX G hmg ?xa0 ?xl0 ?xg0 ?xh0 ?xi0 ?xj0 ?xk0 ?xo0 ?xp0 ?xt0 ?xu0 ?xy0 ?xz0 ?ya0 ?yb0 ?xa3 ?xl3 ?xg3 ?xh3 ?xi3 ?xj3 ?xj3w ?xk3 ?xo3 ?xp3 ?xt3 ?xu3 ?xy3 ?xz3 ?ya3 ?yb3 ?ha_BadValue ?hb_BadValue ?hc_BadValue ?hd_BadValue ?he_BadValue_0 ?he_BadValue_3 ?ha_TextError ?hb_TextError ?hc_TextError ?hd_TextError ?he_TextError_0 ?he_TextError_3 ?kx0 ?ky0 ?kl0 ?kz4 ?ku0 ?ku1 ?kz9 ?ku5 ?ku6 ?kz17 ?ku10 ?ku14 ?ku11 ?kz22 ?ku18 ?ku19 ?kz27 ?ku23 ?ku24 ?kz32 ?ku28 ?ku29 ?kz43 ?ku33 ?ku40 ?ku37 ?ku34 ?kz48 ?ku44 ?ku45 ?kz53 ?ku49 ?ku50 ?kz67 ?ku54 ?ku64 ?ku61 ?ku58 ?ku55 ?kz75 ?ku68 ?ku72 ?ku69 ?kz80 ?ku76 ?ku77 ?kz88 ?ku81 ?ku85 ?ku82 ?kz93 ?ku89 ?ku90 ?kz101 ?ku94 ?ku98 ?ku95 ?kz106 ?ku102 ?ku103 ?kz114 ?ku107 ?ku111 ?ku108 ?kz119 ?ku115 ?ku116 ?kz127 ?ku120 ?ku124 ?ku121 ?kz132 ?ku128 ?ku129 ?a0 ?l0 ?e0 ?k0 ?a1 ?l1 ?e1 ?k1 ?a2 ?l2 ?e2 ?k2 ?a3 ?l3 ?e3 ?k3 ?a4 ?l4 ?e4 ?k4 ?a5 ?l5 ?e5 ?k5 ?a6 ?l6 ?e6 ?k6 ?a7 ?l7 ?e7 ?k7 ?a8 ?l8 ?e8 ?k8 ?a9 ?l9 ?e9 ?k9 ?a10 ?l10 ?e10 ?k10 ?a11 ?l11 ?e11 ?k11 ?a12 ?l12 ?e12 ?k12 ?a13 ?l13 ?e13 ?k13 ?a14 ?l14 ?e14 ?k14 ?a15 ?l15 ?e15 ?k15 ?a16 ?l16 ?e16 ?k16 ?a17 ?l17 ?e17 ?k17 ?a18 ?l18 ?e18 ?k18 ?a19 ?l19 ?e19 ?k19 ?a20 ?l20 ?e20 ?k20 ?a21 ?l21 ?e21 ?k21 ?a22 ?l22 ?e22 ?k22 ?a23 ?l23 ?e23 ?k23 ?a24 ?l24 ?e24 ?k24 ?a25 ?l25 ?e25 ?k25 ?a26 ?l26 ?e26 ?k26 ?a27 ?l27 ?e27 ?k27 ?a28 ?l28 ?e28 ?k28 ?a29 ?l29 ?e29 ?k29 ?a30 ?l30 ?e30 ?k30 ?a31 ?l31 ?e31 ?k31 ?a32 ?l32 ?e32 ?k32 ?a33 ?l33 ?e33 ?k33 ?a34 ?l34 ?e34 ?k34 ?a35 ?l35 ?e35 ?k35 ?a36 ?l36 ?e36 ?k36 ?a37 ?l37 ?e37 ?k37 ?a38 ?l38 ?e38 ?k38 ?a39 ?l39 ?e39 ?k39 ?a40 ?l40 ?e40 ?k40 ?a41 ?l41 ?e41 ?k41 ?a42 ?l42 ?e42 ?k42 ?a43 ?l43 ?e43 ?k43 ?a44 ?l44 ?e44 ?k44 ?a45 ?l45 ?e45 ?k45 ?a46 ?l46 ?e46 ?k46 ?a47 ?l47 ?e47 ?k47 ?a48 ?l48 ?e48 ?k48 ?a49 ?l49 ?e49 ?k49 ?a50 ?l50 ?e50 ?k50 ?a51 ?l51 ?e51 ?k51 ?a52 ?l52 ?e52 ?k52 ?z0 ?z1 ?z2 ?z3 ?z4 ?z5 ?z6 ?z7 ?z8 ?z9 ?z10 ?y0 ?y1 ?y2 ?y3 ?y4 ?y5 ?y6 ?y7 ?y8 ?y9 ?y10 ?y11 ?y12 ?y13 ?y14 ?y15 ?y16 ?y17 ?y18 ?y19 Law.pure_law
    (case xa0 => k_is)
    (case xl0 => k_is)
    (case xg0 => k_is)
    (case xh0 => k_is)
    (case xi0 => k_is)
    (case xj0 => k_is)
    (case xk0 => k_is)
    (case xo0 => k_is)
    (case xp0 => k_is)
    (case xt0 => k_is)
    (case xu0 => k_is)
    (case xy0 => k_is)
    (case xz0 => k_is)
    (case ya0 => k_is)
    (case yb0 => k_is)
    (case xa3 => k_is)
    (case xl3 => k_is)
    (case xg3 => k_is)
    (case xh3 => k_is)
    (case xi3 => k_is)
    (case xj3 => k_is)
    (case xj3w => k_is)
    (case xk3 => k_is)
    (case xo3 => k_is)
    (case xp3 => k_is)
    (case xt3 => k_is)
    (case xu3 => k_is)
    (case xy3 => k_is)
    (case xz3 => k_is)
    (case ya3 => k_is)
    (case yb3 => k_is)
    (case ha_BadValue => k_is)
    (case hb_BadValue => k_is)
    (case hc_BadValue => k_is)
    (case hd_BadValue => k_is)
    (case he_BadValue_0 => k_is)
    (case he_BadValue_3 => k_is)
    (case ha_TextError => k_is)
    (case hb_TextError => k_is)
    (case hc_TextError => k_is)
    (case hd_TextError => k_is)
    (case he_TextError_0 => k_is)
    (case he_TextError_3 => k_is)
    (case kx0 => k_is)
    (case ky0 => k_is)
    (case kl0 => exact ⟨⟨_, _, rfl, rfl⟩, ⟨_, _, rfl, rfl⟩, ⟨_, _, rfl, rfl⟩, ⟨_, _, rfl, rfl⟩, ⟨_, _, rfl, rfl⟩, ⟨_, _, rfl, rfl⟩, ⟨_, _, rfl, rfl⟩, ⟨_, _, rfl, rfl⟩, ⟨_, _, rfl, rfl⟩, ⟨_, _, rfl, rfl⟩, ⟨_, _, rfl, rfl⟩, ⟨_, _, rfl, rfl⟩, ⟨_, _, rfl, rfl⟩, ⟨_, _, rfl, rfl⟩, ⟨_, _, rfl, rfl⟩, ⟨_, _, rfl, rfl⟩, ⟨_, _, rfl, rfl⟩, ⟨_, _, rfl, rfl⟩, ⟨_, _, rfl, rfl⟩, ⟨_, _, rfl, rfl⟩, trivial⟩)
    (case kz4 => k_is)
    (case ku0 => k_is)
    (case ku1 => k_is)
    (case kz9 => k_is)
    (case ku5 => k_is)
    (case ku6 => k_is)
    (case kz17 => k_is)
    (case ku10 => k_is)
    (case ku14 => k_is)
    (case ku11 => k_is)
    (case kz22 => k_is)
    (case ku18 => k_is)
    (case ku19 => k_is)
    (case kz27 => k_is)
    (case ku23 => k_is)
    (case ku24 => k_is)
    (case kz32 => k_is)
    (case ku28 => k_is)
    (case ku29 => k_is)
    (case kz43 => k_is)
    (case ku33 => k_is)
    (case ku40 => k_is)
    (case ku37 => k_is)
    (case ku34 => k_is)
    (case kz48 => k_is)
    (case ku44 => k_is)
    (case ku45 => k_is)
    (case kz53 => k_is)
    (case ku49 => k_is)
    (case ku50 => k_is)
    (case kz67 => k_is)
    (case ku54 => k_is)
    (case ku64 => k_is)
    (case ku61 => k_is)
    (case ku58 => k_is)
    (case ku55 => k_is)
    (case kz75 => k_is)
    (case ku68 => k_is)
    (case ku72 => k_is)
    (case ku69 => k_is)
    (case kz80 => k_is)
    (case ku76 => k_is)
    (case ku77 => k_is)
    (case kz88 => k_is)
    (case ku81 => k_is)
    (case ku85 => k_is)
    (case ku82 => k_is)
    (case kz93 => k_is)
    (case ku89 => k_is)
    (case ku90 => k_is)
    (case kz101 => k_is)
    (case ku94 => k_is)
    (case ku98 => k_is)
    (case ku95 => k_is)
    (case kz106 => k_is)
    (case ku102 => k_is)
    (case ku103 => k_is)
    (case kz114 => k_is)
    (case ku107 => k_is)
    (case ku111 => k_is)
    (case ku108 => k_is)
    (case kz119 => k_is)
    (case ku115 => k_is)
    (case ku116 => k_is)
    (case kz127 => k_is)
    (case ku120 => k_is)
    (case ku124 => k_is)
    (case ku121 => k_is)
    (case kz132 => k_is)
    (case ku128 => k_is)
    (case ku129 => k_is)
    (case a0 => k_is)
    (case l0 => k_is)
    (case e0 => k_is)
    (case k0 => k_is)
    (case a1 => k_is)
    (case l1 => k_is)
    (case e1 => k_is)
    (case k1 => k_is)
    (case a2 => k_is)
    (case l2 => k_is)
    (case e2 => k_is)
    (case k2 => k_is)
    (case a3 => k_is)
    (case l3 => k_is)
    (case e3 => k_is)
    (case k3 => k_is)
    (case a4 => k_is)
    (case l4 => k_is)
    (case e4 => k_is)
    (case k4 => k_is)
    (case a5 => k_is)
    (case l5 => k_is)
    (case e5 => k_is)
    (case k5 => k_is)
    (case a6 => k_is)
    (case l6 => k_is)
    (case e6 => k_is)
    (case k6 => k_is)
    (case a7 => k_is)
    (case l7 => k_is)
    (case e7 => k_is)
    (case k7 => k_is)
    (case a8 => k_is)
    (case l8 => k_is)
    (case e8 => k_is)
    (case k8 => k_is)
    (case a9 => k_is)
    (case l9 => k_is)
    (case e9 => k_is)
    (case k9 => k_is)
    (case a10 => k_is)
    (case l10 => k_is)
    (case e10 => k_is)
    (case k10 => k_is)
    (case a11 => k_is)
    (case l11 => k_is)
    (case e11 => k_is)
    (case k11 => k_is)
    (case a12 => k_is)
    (case l12 => k_is)
    (case e12 => k_is)
    (case k12 => k_is)
    (case a13 => k_is)
    (case l13 => k_is)
    (case e13 => k_is)
    (case k13 => k_is)
    (case a14 => k_is)
    (case l14 => k_is)
    (case e14 => k_is)
    (case k14 => k_is)
    (case a15 => k_is)
    (case l15 => k_is)
    (case e15 => k_is)
    (case k15 => k_is)
    (case a16 => k_is)
    (case l16 => k_is)
    (case e16 => k_is)
    (case k16 => k_is)
    (case a17 => k_is)
    (case l17 => k_is)
    (case e17 => k_is)
    (case k17 => k_is)
    (case a18 => k_is)
    (case l18 => k_is)
    (case e18 => k_is)
    (case k18 => k_is)
    (case a19 => k_is)
    (case l19 => k_is)
    (case e19 => k_is)
    (case k19 => k_is)
    (case a20 => k_is)
    (case l20 => k_is)
    (case e20 => k_is)
    (case k20 => k_is)
    (case a21 => k_is)
    (case l21 => k_is)
    (case e21 => k_is)
    (case k21 => k_is)
    (case a22 => k_is)
    (case l22 => k_is)
    (case e22 => k_is)
    (case k22 => k_is)
    (case a23 => k_is)
    (case l23 => k_is)
    (case e23 => k_is)
    (case k23 => k_is)
    (case a24 => k_is)
    (case l24 => k_is)
    (case e24 => k_is)
    (case k24 => k_is)
    (case a25 => k_is)
    (case l25 => k_is)
    (case e25 => k_is)
    (case k25 => k_is)
    (case a26 => k_is)
    (case l26 => k_is)
    (case e26 => k_is)
    (case k26 => k_is)
    (case a27 => k_is)
    (case l27 => k_is)
    (case e27 => k_is)
    (case k27 => k_is)
    (case a28 => k_is)
    (case l28 => k_is)
    (case e28 => k_is)
    (case k28 => k_is)
    (case a29 => k_is)
    (case l29 => k_is)
    (case e29 => k_is)
    (case k29 => k_is)
    (case a30 => k_is)
    (case l30 => k_is)
    (case e30 => k_is)
    (case k30 => k_is)
    (case a31 => k_is)
    (case l31 => k_is)
    (case e31 => k_is)
    (case k31 => k_is)
    (case a32 => k_is)
    (case l32 => k_is)
    (case e32 => k_is)
    (case k32 => k_is)
    (case a33 => k_is)
    (case l33 => k_is)
    (case e33 => k_is)
    (case k33 => k_is)
    (case a34 => k_is)
    (case l34 => k_is)
    (case e34 => k_is)
    (case k34 => k_is)
    (case a35 => k_is)
    (case l35 => k_is)
    (case e35 => k_is)
    (case k35 => k_is)
    (case a36 => k_is)
    (case l36 => k_is)
    (case e36 => k_is)
    (case k36 => k_is)
    (case a37 => k_is)
    (case l37 => k_is)
    (case e37 => k_is)
    (case k37 => k_is)
    (case a38 => k_is)
    (case l38 => k_is)
    (case e38 => k_is)
    (case k38 => k_is)
    (case a39 => k_is)
    (case l39 => k_is)
    (case e39 => k_is)
    (case k39 => k_is)
    (case a40 => k_is)
    (case l40 => k_is)
    (case e40 => k_is)
    (case k40 => k_is)
    (case a41 => k_is)
    (case l41 => k_is)
    (case e41 => k_is)
    (case k41 => k_is)
    (case a42 => k_is)
    (case l42 => k_is)
    (case e42 => k_is)
    (case k42 => k_is)
    (case a43 => k_is)
    (case l43 => k_is)
    (case e43 => k_is)
    (case k43 => k_is)
    (case a44 => k_is)
    (case l44 => k_is)
    (case e44 => k_is)
    (case k44 => k_is)
    (case a45 => k_is)
    (case l45 => k_is)
    (case e45 => k_is)
    (case k45 => k_is)
    (case a46 => k_is)
    (case l46 => k_is)
    (case e46 => k_is)
    (case k46 => k_is)
    (case a47 => k_is)
    (case l47 => k_is)
    (case e47 => k_is)
    (case k47 => k_is)
    (case a48 => k_is)
    (case l48 => k_is)
    (case e48 => k_is)
    (case k48 => k_is)
    (case a49 => k_is)
    (case l49 => k_is)
    (case e49 => k_is)
    (case k49 => k_is)
    (case a50 => k_is)
    (case l50 => k_is)
    (case e50 => k_is)
    (case k50 => k_is)
    (case a51 => k_is)
    (case l51 => k_is)
    (case e51 => k_is)
    (case k51 => k_is)
    (case a52 => k_is)
    (case l52 => k_is)
    (case e52 => k_is)
    (case k52 => k_is)
    (case z0 => k_is)
    (case z1 => k_is)
    (case z2 => k_is)
    (case z3 => k_is)
    (case z4 => k_is)
    (case z5 => k_is)
    (case z6 => k_is)
    (case z7 => k_is)
    (case z8 => k_is)
    (case z9 => k_is)
    (case z10 => k_is)
    (case y0 => k_is)
    (case y1 => k_is)
    (case y2 => k_is)
    (case y3 => k_is)
    (case y4 => k_is)
    (case y5 => k_is)
    (case y6 => k_is)
    (case y7 => k_is)
    (case y8 => k_is)
    (case y9 => k_is)
    (case y10 => k_is)
    (case y11 => k_is)
    (case y12 => k_is)
    (case y13 => k_is)
    (case y14 => k_is)
    (case y15 => k_is)
    (case y16 => k_is)
    (case y17 => k_is)
    (case y18 => k_is)
    (case y19 => k_is)
