import PyProof.Rows.All
import Wide.All
import OpenK.AllK
import Wide.FinOn
import HandS.ForMost
import HandS.IsInst
import HandS.TupAny
import HandS.TupMul
import HandS.Style
import HandS.Zip
import KE.GoesEnum
import KE.KRevSl
import HandS.Conv
import HandS.Dict
import HandS.SortKw
import HandS.SetFor
import HandS.More
import HandS.NoneIn
import HandS.Deep
import HandS.Exc
import HandS.ExcOwn
import HandS.ExcInit
import HandS.ExcField
import HandS.WordsExc
import HandS.ExcIs
import KE.KExcIs
import HandS.DictComp
import HandS.ListItems
import KE.KSortTupAny
import HandS.Keys
import HandS.SortInts
import HandS.SlotsOwn
import HandS.ExcValue
import KE.GoesZip
import KE.GoesMore
import KE.SortData
import KE.KDictZip
import KE.DatumOrd
import HandS.TryOnly
import KE.KDictPairs
import PySem.Challenge.RW_allbide_k66_whole_every_row_of_times_can
set_option Elab.async false
set_option linter.all false
set_option maxRecDepth 100000
set_option maxHeartbeats 8000000
namespace GR
section
variable {X : Type} (sv ev : X → Nat) (wv : X → Int) (es : List X)
def wlen (p : List X) : Int := (p.map wv).sum
def IsW : Nat → Nat → List X → Prop
  | i, j, [] => i = j
  | i, j, x :: p => x ∈ es ∧ sv x = i ∧ IsW (ev x) j p
variable {sv ev wv es}
theorem wlen_nil : wlen wv ([] : List X) = 0 := rfl
theorem wlen_cons (x : X) (p : List X) : wlen wv (x :: p) = wv x + wlen wv p := by unfold wlen; rw [List.map_cons, List.sum_cons]
theorem wlen_append : ∀ (p q : List X), wlen wv (p ++ q) = wlen wv p + wlen wv q
  | [], q => by rw [List.nil_append, wlen_nil]; omega
  | x :: p, q => by rw [List.cons_append, wlen_cons, wlen_cons, wlen_append p q]; omega
theorem wlen_one (x : X) : wlen wv [x] = wv x := by rw [wlen_cons, wlen_nil]; omega
theorem isW_append : ∀ {p q : List X} {i j : Nat}, IsW sv ev es i j (p ++ q) ↔ ∃ m, IsW sv ev es i m p ∧ IsW sv ev es m j q
  | [], q, i, j => ⟨fun h => ⟨i, rfl, h⟩, fun ⟨m, h1, h2⟩ => by cases (show i = m from h1); exact h2⟩
  | x :: p, q, i, j => by
    constructor
    · intro ⟨h1, h2, h3⟩
      obtain ⟨m, h4, h5⟩ := isW_append.mp h3
      exact ⟨m, ⟨h1, h2, h4⟩, h5⟩
    · intro ⟨m, ⟨h1, h2, h3⟩, h4⟩
      exact ⟨h1, h2, isW_append.mpr ⟨m, h3, h4⟩⟩
theorem isW_one {x : X} (h : x ∈ es) : IsW sv ev es (sv x) (ev x) [x] := ⟨h, rfl, rfl⟩
theorem isW_end : ∀ {p : List X} {i j k : Nat}, IsW sv ev es i j p → IsW sv ev es i k p → j = k
  | [], _, _, _, h1, h2 => (show _ = _ from h1).symm.trans h2
  | _ :: _, _, _, _, h1, h2 => isW_end h1.2.2 h2.2.2
theorem isW_mem : ∀ {p : List X} {i j : Nat}, IsW sv ev es i j p → ∀ x ∈ p, x ∈ es
  | [], _, _, _, _, hx => absurd hx List.not_mem_nil
  | y :: p, _, _, h, x, hx => by
    rcases List.mem_cons.mp hx with rfl | hx
    · exact h.1
    · exact isW_mem h.2.2 x hx
theorem isW_lt {n : Nat} (he : ∀ x ∈ es, sv x < n ∧ ev x < n) : ∀ {p : List X} {i j : Nat}, i < n → IsW sv ev es i j p → j < n
  | [], _, _, hi, h => by cases (show _ = _ from h); exact hi
  | x :: p, _, _, hi, h => isW_lt he (he x h.1).2 h.2.2
/-! ### the vertices of a walk, and a round in a long one -/
def vx (ev : X → Nat) (i : Nat) (p : List X) : List Nat := i :: p.map ev
theorem vx_lt {n : Nat} (he : ∀ x ∈ es, sv x < n ∧ ev x < n) {p : List X} {i j : Nat} (hi : i < n) (h : IsW sv ev es i j p) : ∀ v ∈ vx ev i p, v < n := by
  intro v hv
  rcases List.mem_cons.mp hv with rfl | hv
  · exact hi
  · obtain ⟨x, hx, rfl⟩ := List.mem_map.mp hv
    exact (he x (isW_mem h x hx)).2
theorem pigeon : ∀ (n : Nat) (l : List Nat), (∀ v ∈ l, v < n) → n < l.length → ¬ l.Nodup
  | 0, [], _, h, _ => absurd h (Nat.lt_irrefl _)
  | 0, v :: _, hl, _, _ => absurd (hl v List.mem_cons_self) (Nat.not_lt_zero _)
  | n + 1, l, hl, hn, hd => by
    refine pigeon n (l.erase n) (fun v hv => ?_) ?_ (hd.erase n)
    · have h2 := (List.Nodup.mem_erase_iff hd).mp hv
      have := hl v h2.2
      have := h2.1
      omega
    · by_cases hm : n ∈ l
      · rw [List.length_erase_of_mem hm]; omega
      · rw [List.erase_of_not_mem hm]; omega
theorem vx_take {p : List X} {i j : Nat} (h : IsW sv ev es i j p) : ∀ (k : Nat) (v : Nat), (vx ev i p)[k]? = some v → IsW sv ev es i v (p.take k) ∧ IsW sv ev es v j (p.drop k) := by
  induction p generalizing i with
  | nil =>
    intro k v hk
    match k, hk with
    | 0, hk => cases hk; exact ⟨rfl, h⟩
  | cons x p ih =>
    intro k v hk
    match k, hk with
    | 0, hk => cases hk; exact ⟨rfl, h⟩
    | k + 1, hk =>
      have hk : (vx ev (ev x) p)[k]? = some v := by simpa [vx] using hk
      obtain ⟨h1, h2⟩ := ih h.2.2 k v hk
      exact ⟨⟨h.1, h.2.1, h1⟩, h2⟩
theorem split_long {n : Nat} (he : ∀ x ∈ es, sv x < n ∧ ev x < n) {p : List X} {i j : Nat} (hi : i < n) (h : IsW sv ev es i j p) (hl : n ≤ p.length) :
    ∃ (p1 p2 p3 : List X) (m : Nat), p = p1 ++ (p2 ++ p3) ∧ p2 ≠ [] ∧ p1.length + p2.length ≤ n ∧ IsW sv ev es i m p1 ∧ IsW sv ev es m m p2 ∧ IsW sv ev es m j p3 := by
  have hn : ¬ ((vx ev i p).take (n + 1)).Nodup := by
    refine pigeon n _ (fun v hv => vx_lt he hi h v (List.mem_of_mem_take hv)) ?_
    rw [List.length_take]
    unfold vx
    rw [List.length_cons, List.length_map]
    omega
  have : ∃ (a b : Nat) (v : Nat), a < b ∧ b ≤ n ∧ (vx ev i p)[a]? = some v ∧ (vx ev i p)[b]? = some v := by
    apply Classical.byContradiction
    intro hc
    refine hn (List.pairwise_iff_getElem.mpr fun a b ha hb hab heq => hc ?_)
    have hb' : b < n + 1 ∧ b < (vx ev i p).length := by rw [List.length_take] at hb; omega
    refine ⟨a, b, ((vx ev i p).take (n + 1))[a], hab, by omega, ?_, ?_⟩
    · rw [List.getElem_take]; exact List.getElem?_eq_getElem _
    · rw [heq, List.getElem_take]; exact List.getElem?_eq_getElem _
  obtain ⟨a, b, v, hab, hbn, h1, h2⟩ := this
  have hbp : b ≤ p.length := by
    have hb : b < (vx ev i p).length := by
      apply Classical.byContradiction
      intro hc
      rw [List.getElem?_eq_none (by omega)] at h2
      cases h2
    unfold vx at hb
    rw [List.length_cons, List.length_map] at hb
    omega
  obtain ⟨w1, w2⟩ := vx_take h a v h1
  obtain ⟨w3, w4⟩ := vx_take h b v h2
  have e : p = p.take a ++ ((p.drop a).take (b - a) ++ p.drop b) := by
    have e1 : p.drop b = (p.drop a).drop (b - a) := by rw [List.drop_drop]; congr 1; omega
    rw [e1, List.take_append_drop, List.take_append_drop]
  have e3 : p.take b = p.take a ++ (p.drop a).take (b - a) := by
    have : b = a + (b - a) := by omega
    rw [this, List.take_add]
    congr 2
    omega
  rw [e3] at w3
  obtain ⟨m, u1, u2⟩ := isW_append.mp w3
  obtain rfl := isW_end w1 u1
  refine ⟨p.take a, (p.drop a).take (b - a), p.drop b, v, e, ?_, ?_, w1, u2, w4⟩
  · intro hz
    have := congrArg List.length hz
    rw [List.length_take, List.length_drop, List.length_nil] at this
    omega
  · rw [List.length_take, List.length_take, List.length_drop]
    omega
/-! ### no round below 0 -/
variable (sv ev wv es) in
def NoNeg : Prop := ∀ (i : Nat) (p : List X), IsW sv ev es i i p → 0 ≤ wlen wv p
theorem short_walk {n : Nat} (he : ∀ x ∈ es, sv x < n ∧ ev x < n) (hz : NoNeg sv ev wv es) : ∀ (k : Nat) {p : List X} {i j : Nat}, p.length ≤ k → i < n → IsW sv ev es i j p →
    ∃ q, IsW sv ev es i j q ∧ q.length < n ∧ wlen wv q ≤ wlen wv p
  | k, p, i, j, hk, hi, h => by
    by_cases hl : p.length < n
    · exact ⟨p, h, hl, Int.le_refl _⟩
    · obtain ⟨p1, p2, p3, m, e, h2, _, w1, w2, w3⟩ := split_long he hi h (by omega)
      have l2 : 0 < p2.length := List.length_pos_iff.mpr h2
      have hk' : p.length = p1.length + (p2.length + p3.length) := by rw [e, List.length_append, List.length_append]
      match k, hk with
      | 0, hk => omega
      | k + 1, hk =>
        obtain ⟨q, h3, h4, h5⟩ := short_walk he hz k (p := p1 ++ p3) (by rw [List.length_append]; omega) hi (isW_append.mpr ⟨m, w1, w3⟩)
        refine ⟨q, h3, h4, ?_⟩
        have := hz m p2 w2
        rw [e, wlen_append, wlen_append]
        rw [wlen_append] at h5
        omega
theorem short_neg {n : Nat} (he : ∀ x ∈ es, sv x < n ∧ ev x < n) : ∀ (k : Nat) {p : List X} {i : Nat}, p.length ≤ k → i < n → IsW sv ev es i i p → wlen wv p < 0 →
    ∃ (m : Nat) (q : List X), m < n ∧ IsW sv ev es m m q ∧ q.length ≤ n ∧ wlen wv q < 0
  | k, p, i, hk, hi, h, hn => by
    by_cases hl : p.length ≤ n
    · exact ⟨i, p, hi, h, hl, hn⟩
    · obtain ⟨p1, p2, p3, m, e, h2, h12, w1, w2, w3⟩ := split_long he hi h (by omega)
      have l2 : 0 < p2.length := List.length_pos_iff.mpr h2
      by_cases hz : wlen wv p2 < 0
      · exact ⟨m, p2, isW_lt he hi w1, w2, by omega, hz⟩
      · have hk' : p.length = p1.length + (p2.length + p3.length) := by rw [e, List.length_append, List.length_append]
        match k, hk with
        | 0, hk => omega
        | k + 1, hk =>
          refine short_neg he k (p := p1 ++ p3) (by rw [List.length_append]; omega) hi (isW_append.mpr ⟨m, w1, w3⟩) ?_
          rw [e, wlen_append, wlen_append] at hn
          rw [wlen_append]
          omega
theorem noNeg_of {n : Nat} (he : ∀ x ∈ es, sv x < n ∧ ev x < n) (h : ∀ (i : Nat) (p : List X), i < n → IsW sv ev es i i p → p.length ≤ n → 0 ≤ wlen wv p) : NoNeg sv ev wv es := by
  intro i p hp
  match p, hp with
  | [], _ => exact Int.le_refl _
  | x :: p, hp =>
    apply Classical.byContradiction
    intro hc
    have hi : i < n := by rw [← hp.2.1]; exact (he x hp.1).1
    obtain ⟨m, q, h1, h2, h3, h4⟩ := short_neg (wv := wv) he _ (Nat.le_refl _) hi hp (by omega)
    have := h m q h1 h2 h3
    omega
/-- heights for which all edges hold: no round is below 0 -/
theorem pot_walk {t : Nat → Int} (ht : ∀ x ∈ es, t (ev x) - t (sv x) ≤ wv x) : ∀ {p : List X} {i j : Nat}, IsW sv ev es i j p → t j - t i ≤ wlen wv p
  | [], _, _, h => by cases (show _ = _ from h); rw [wlen_nil]; omega
  | x :: p, _, _, h => by
    have h1 := ht x h.1
    have h2 := pot_walk ht h.2.2
    rw [wlen_cons]
    have := h.2.1
    subst this
    omega
theorem pot_noNeg {t : Nat → Int} (ht : ∀ x ∈ es, t (ev x) - t (sv x) ≤ wv x) : NoNeg sv ev wv es := fun i p h => by
  have := pot_walk ht h
  omega
/-! ### the least length of the walks from i to j -/
variable (sv ev wv es) in
/-- o is the least length of a walk from i to j, none if there is no walk -/
structure Dst (i j : Nat) (o : Option Int) : Prop where
  ex : ∀ L, o = some L → ∃ p, IsW sv ev es i j p ∧ wlen wv p = L
  le : ∀ p, IsW sv ev es i j p → ∃ L, o = some L ∧ L ≤ wlen wv p
theorem Dst.uniq {i j : Nat} {o o' : Option Int} (h : Dst sv ev wv es i j o) (h' : Dst sv ev wv es i j o') : o = o' := by
  match o, o' with
  | none, none => rfl
  | some L, none =>
    obtain ⟨p, h1, _⟩ := h.ex L rfl
    obtain ⟨_, h2, _⟩ := h'.le p h1
    cases h2
  | none, some L =>
    obtain ⟨p, h1, _⟩ := h'.ex L rfl
    obtain ⟨_, h2, _⟩ := h.le p h1
    cases h2
  | some L, some L' =>
    obtain ⟨p, h1, h2⟩ := h.ex L rfl
    obtain ⟨q, h3, h4⟩ := h'.ex L' rfl
    obtain ⟨_, e1, l1⟩ := h.le q h3
    obtain ⟨_, e2, l2⟩ := h'.le p h1
    cases e1; cases e2
    congr 1
    omega
/-! options as numbers with infinity -/
def omin : Option Int → Option Int → Option Int
  | none, b => b
  | some a, none => some a
  | some a, some b => some (if b < a then b else a)
def oadd : Option Int → Option Int → Option Int
  | some a, some b => some (a + b)
  | _, _ => none
/-- a is at most b -/
def ole : Option Int → Option Int → Prop
  | _, none => True
  | none, some _ => False
  | some a, some b => a ≤ b
theorem ole_refl (a : Option Int) : ole a a := by cases a <;> simp [ole]
theorem ole_trans {a b c : Option Int} (h : ole a b) (h' : ole b c) : ole a c := by
  cases a <;> cases b <;> cases c <;> simp_all [ole]; omega
theorem omin_left (a b : Option Int) : ole (omin a b) a := by
  cases a <;> cases b <;> simp [ole, omin]; split <;> omega
theorem omin_right (a b : Option Int) : ole (omin a b) b := by
  cases a <;> cases b <;> simp [ole, omin]; split <;> omega
theorem omin_cases (a b : Option Int) : omin a b = a ∨ omin a b = b := by
  cases a <;> cases b <;> simp [omin]; omega
theorem oadd_mono {a b c d : Option Int} (h1 : ole a b) (h2 : ole c d) : ole (oadd a c) (oadd b d) := by
  cases a <;> cases b <;> cases c <;> cases d <;> simp_all [ole, oadd]; omega
theorem Dst.ole {i j : Nat} {o : Option Int} (h : Dst sv ev wv es i j o) {p : List X} (hp : IsW sv ev es i j p) : ole o (some (wlen wv p)) := by
  obtain ⟨L, rfl, hl⟩ := h.le p hp
  exact hl
theorem Dst.tri {i j k : Nat} {a b c : Option Int} (h1 : Dst sv ev wv es i j a) (h2 : Dst sv ev wv es j k b) (h3 : Dst sv ev wv es i k c) : GR.ole c (oadd a b) := by
  match a, b with
  | none, _ => cases b <;> cases c <;> exact True.intro
  | some _, none => cases c <;> exact True.intro
  | some L, some M =>
    obtain ⟨p, p1, p2⟩ := h1.ex L rfl
    obtain ⟨q, q1, q2⟩ := h2.ex M rfl
    have := h3.ole (isW_append.mpr ⟨j, p1, q1⟩)
    rw [wlen_append, p2, q2] at this
    exact this
theorem Dst.self {i : Nat} (hz : NoNeg sv ev wv es) : Dst sv ev wv es i i (some 0) :=
  ⟨fun L e => by cases e; exact ⟨[], rfl, rfl⟩, fun p h => ⟨0, rfl, hz i p h⟩⟩
/-! ### a fold with what is done -/
theorem foldl_inv {α β : Type} {f : β → α → β} (P : List α → β → Prop) : ∀ {l : List α} {b : β}, P [] b → (∀ pre x c, x ∈ l → P pre c → P (pre ++ [x]) (f c x)) → P l (l.foldl f b) := by
  intro l b h0 hs
  have key : ∀ (r pre : List α) (c : β), (∀ x ∈ r, x ∈ l) → P pre c → P (pre ++ r) (r.foldl f c) := by
    intro r
    induction r with
    | nil => intro pre c _ h; rw [List.append_nil]; exact h
    | cons x r ih =>
      intro pre c hr h
      rw [List.foldl_cons]
      have := ih (pre ++ [x]) (f c x) (fun y hy => hr y (List.mem_cons_of_mem _ hy)) (hs pre x c (hr x List.mem_cons_self) h)
      rw [List.append_assoc] at this
      exact this
  have := key l [] b (fun _ h => h) h0
  rwa [List.nil_append] at this
/-! ### the table over each third one -/
abbrev Tb := Nat → Nat → Option Int
def upd2 (T : Tb) (i j : Nat) (o : Option Int) : Tb := fun a b => if a = i ∧ b = j then o else T a b
def fwCell (k : Nat) (T : Tb) (ij : Nat × Nat) : Tb := upd2 T ij.1 ij.2 (omin (T ij.1 ij.2) (oadd (T ij.1 k) (T k ij.2)))
def prs (n : Nat) : List (Nat × Nat) := (List.range n).flatMap fun i => (List.range n).map fun j => (i, j)
def fwSt (n : Nat) (T : Tb) (k : Nat) : Tb := (prs n).foldl (fwCell k) T
def fw (n : Nat) (T : Tb) : Tb := (List.range n).foldl (fwSt n) T
variable (sv ev wv es) in
def Sound (T : Tb) : Prop := ∀ i j L, T i j = some L → ∃ p, IsW sv ev es i j p ∧ wlen wv p = L
theorem Sound.upd {T : Tb} (h : Sound sv ev wv es T) {i j : Nat} {o : Option Int} (ho : ∀ L, o = some L → ∃ p, IsW sv ev es i j p ∧ wlen wv p = L) : Sound sv ev wv es (upd2 T i j o) := by
  intro a b L e
  unfold upd2 at e
  split at e
  · rename_i hab; obtain ⟨rfl, rfl⟩ := hab; exact ho L e
  · exact h a b L e
theorem Sound.add {T : Tb} (h : Sound sv ev wv es T) {i j k : Nat} {L : Int} (e : oadd (T i k) (T k j) = some L) : ∃ p, IsW sv ev es i j p ∧ wlen wv p = L := by
  cases e1 : T i k with
  | none => rw [e1] at e; cases e
  | some a =>
    cases e2 : T k j with
    | none => rw [e1, e2] at e; cases e
    | some b =>
      rw [e1, e2] at e
      cases e
      obtain ⟨p, p1, p2⟩ := h i k a e1
      obtain ⟨q, q1, q2⟩ := h k j b e2
      exact ⟨p ++ q, isW_append.mpr ⟨k, p1, q1⟩, by rw [wlen_append, p2, q2]⟩
theorem Sound.cell {T : Tb} (h : Sound sv ev wv es T) (k : Nat) (ij : Nat × Nat) : Sound sv ev wv es (fwCell k T ij) := by
  refine h.upd fun L e => ?_
  rcases omin_cases (T ij.1 ij.2) (oadd (T ij.1 k) (T k ij.2)) with z | z
  · rw [z] at e; exact h _ _ _ e
  · rw [z] at e; exact h.add e
theorem Sound.fw {T : Tb} (h : Sound sv ev wv es T) (n : Nat) : Sound sv ev wv es (GR.fw n T) := by
  unfold GR.fw
  refine foldl_inv (P := fun _ R => Sound sv ev wv es R) h fun _ k c _ hc => ?_
  unfold fwSt
  exact foldl_inv (P := fun _ R => Sound sv ev wv es R) hc fun _ x c _ h => h.cell k x
/-! ### tables of walks: one edge more, again and again -/
abbrev Wt (X : Type) := Nat → Option (List X)
def upd1 (R : Wt X) (j : Nat) (o : Option (List X)) : Wt X := fun b => if b = j then o else R b
variable (sv ev wv) in
def bfOne (row : Wt X) (R : Wt X) (x : X) : Wt X := match row (sv x) with
  | none => R
  | some p => (match R (ev x) with
    | none => upd1 R (ev x) (some (p ++ [x]))
    | some q => if wlen wv p + wv x < wlen wv q then upd1 R (ev x) (some (p ++ [x])) else R)
variable (wv) in
def oL (o : Option (List X)) : Option Int := o.map (wlen wv)
theorem bfOne_n {row R : Wt X} {x : X} (h : row (sv x) = none) : bfOne sv ev wv row R x = R := by unfold bfOne; rw [h]
theorem bfOne_a {row R : Wt X} {x : X} {p : List X} (h : row (sv x) = some p) (h2 : R (ev x) = none) : bfOne sv ev wv row R x = upd1 R (ev x) (some (p ++ [x])) := by unfold bfOne; rw [h]; dsimp only; rw [h2]
theorem bfOne_b {row R : Wt X} {x : X} {p q : List X} (h : row (sv x) = some p) (h2 : R (ev x) = some q) : bfOne sv ev wv row R x = if wlen wv p + wv x < wlen wv q then upd1 R (ev x) (some (p ++ [x])) else R := by unfold bfOne; rw [h]; dsimp only; rw [h2]
theorem bfOne_c {row R : Wt X} {x : X} {p : List X} (h : row (sv x) = some p) : (bfOne sv ev wv row R x = upd1 R (ev x) (some (p ++ [x])) ∧ ole (some (wlen wv p + wv x)) (oL wv (R (ev x)))) ∨ (bfOne sv ev wv row R x = R ∧ ole (oL wv (R (ev x))) (some (wlen wv p + wv x))) := by
  cases h2 : R (ev x) with
  | none => exact .inl ⟨bfOne_a h h2, True.intro⟩
  | some q =>
    rw [bfOne_b h h2]
    by_cases c : wlen wv p + wv x < wlen wv q
    · rw [if_pos c]; exact .inl ⟨rfl, Int.le_of_lt c⟩
    · rw [if_neg c]; exact .inr ⟨rfl, Int.not_lt.mp c⟩
theorem bfOne_le (row R : Wt X) (x : X) (j : Nat) : ole (oL wv (bfOne sv ev wv row R x j)) (oL wv (R j)) := by
  cases h : row (sv x) with
  | none => rw [bfOne_n h]; exact ole_refl _
  | some p =>
    rcases bfOne_c (ev := ev) (wv := wv) (R := R) h with ⟨e, l⟩ | ⟨e, l⟩
    · rw [e]
      unfold upd1
      split
      · rename_i z; subst z
        show ole (some (wlen wv (p ++ [x]))) _
        rw [wlen_append, wlen_one]; exact l
      · exact ole_refl _
    · rw [e]; exact ole_refl _
theorem bfOne_at (row R : Wt X) (x : X) : ole (oL wv (bfOne sv ev wv row R x (ev x))) (oadd (oL wv (row (sv x))) (some (wv x))) := by
  cases h : row (sv x) with
  | none => simp [oL, oadd, ole]
  | some p =>
    rcases bfOne_c (ev := ev) (wv := wv) (R := R) h with ⟨e, l⟩ | ⟨e, l⟩
    · rw [e]
      unfold upd1
      rw [if_pos rfl]
      show ole (some (wlen wv (p ++ [x]))) _
      rw [wlen_append, wlen_one]; exact ole_refl _
    · rw [e]; exact l
variable (sv ev wv es) in
def bfRow (row : Wt X) : Wt X := es.foldl (bfOne sv ev wv row) row
theorem bfRow_le (row : Wt X) (j : Nat) : ole (oL wv (bfRow sv ev wv es row j)) (oL wv (row j)) :=
  foldl_inv (f := bfOne sv ev wv row) (l := es) (b := row) (P := fun _ (R : Wt X) => ole (oL wv (R j)) (oL wv (row j))) (ole_refl _) fun _ x c _ h => ole_trans (bfOne_le row c x j) h
theorem bfRow_at (row : Wt X) {x : X} (hx : x ∈ es) : ole (oL wv (bfRow sv ev wv es row (ev x))) (oadd (oL wv (row (sv x))) (some (wv x))) :=
  foldl_inv (f := bfOne sv ev wv row) (l := es) (b := row) (P := fun pre (R : Wt X) => ∀ y ∈ pre, ole (oL wv (R (ev y))) (oadd (oL wv (row (sv y))) (some (wv y)))) (fun y hy => absurd hy List.not_mem_nil) (fun pre x c _ h y hy => by
    rcases List.mem_append.mp hy with hy | hy
    · exact ole_trans (bfOne_le row c x _) (h y hy)
    · obtain rfl := List.mem_singleton.mp hy
      exact bfOne_at row c y) x hx
theorem bfRow_from (row : Wt X) {j : Nat} {q : List X} (h : bfRow sv ev wv es row j = some q) : row j = some q ∨ ∃ x ∈ es, ∃ p, row (sv x) = some p ∧ ev x = j ∧ q = p ++ [x] := by
  refine foldl_inv (f := bfOne sv ev wv row) (l := es) (b := row) (P := fun _ R => ∀ j q, R j = some q → row j = some q ∨ ∃ x ∈ es, ∃ p, row (sv x) = some p ∧ ev x = j ∧ q = p ++ [x]) (fun _ _ h => .inl h) (fun pre x c hx ih j q h => ?_) j q h
  cases hp : row (sv x) with
  | none => rw [bfOne_n hp] at h; exact ih j q h
  | some p =>
    rcases bfOne_c (ev := ev) (wv := wv) (R := c) hp with ⟨e, _⟩ | ⟨e, _⟩
    · rw [e] at h
      unfold upd1 at h
      split at h
      · rename_i e; cases h; exact .inr ⟨x, hx, p, hp, e.symm, rfl⟩
      · exact ih j q h
    · rw [e] at h; exact ih j q h
variable (sv ev wv es) in
/-- a row of the walks from i with at most k edges -/
structure Kd (k i : Nat) (row : Wt X) : Prop where
  ok : ∀ j q, row j = some q → IsW sv ev es i j q ∧ q.length ≤ k
  le : ∀ j p, IsW sv ev es i j p → p.length ≤ k → ole (oL wv (row j)) (some (wlen wv p))
theorem Kd.zero (i : Nat) : Kd sv ev wv es 0 i (fun j => if i = j then some [] else none) := by
  refine ⟨fun j q h => ?_, fun j p h hl => ?_⟩
  · split at h
    · rename_i e; cases h; exact ⟨e, Nat.le_refl _⟩
    · cases h
  · match p, h, hl with
    | [], h, _ =>
      have e : i = j := h
      rw [if_pos e]
      exact Int.le_refl _
theorem Kd.succ {k i : Nat} {row : Wt X} (h : Kd sv ev wv es k i row) : Kd sv ev wv es (k + 1) i (bfRow sv ev wv es row) := by
  refine ⟨fun j q hq => ?_, fun j p hp hl => ?_⟩
  · rcases bfRow_from row hq with hq | ⟨x, hx, p, h1, rfl, rfl⟩
    · have := h.ok j q hq
      exact ⟨this.1, by omega⟩
    · have := h.ok _ p h1
      exact ⟨isW_append.mpr ⟨_, this.1, isW_one hx⟩, by rw [List.length_append]; simpa using this.2⟩
  · rcases List.eq_nil_or_concat p with rfl | ⟨p, x, rfl⟩
    · exact ole_trans (bfRow_le row j) (h.le j [] hp (Nat.zero_le _))
    · rw [List.concat_eq_append] at hp hl ⊢
      obtain ⟨m, h1, h2, h3, h4⟩ := isW_append.mp hp
      subst h3
      have h4 : ev x = j := h4
      subst h4
      rw [List.length_append] at hl
      have := h.le _ p h1 (by simp at hl; omega)
      rw [wlen_append, wlen_one]
      exact ole_trans (bfRow_at row h2) (oadd_mono this (ole_refl (some (wv x))))
/-- after as many rounds as there are events, without a round below 0: the least walks -/
theorem Kd.dst {n : Nat} (he : ∀ x ∈ es, sv x < n ∧ ev x < n) {W : Nat → Wt X} (h : ∀ i, i < n → Kd sv ev wv es n i (W i)) (hd : ∀ i, i < n → ole (some 0) (oL wv (W i i))) :
    NoNeg sv ev wv es ∧ ∀ i j, i < n → Dst sv ev wv es i j (oL wv (W i j)) := by
  have hz : NoNeg sv ev wv es := noNeg_of he fun i p hi hp hl => by
    have := ole_trans (hd i hi) ((h i hi).le i p hp hl)
    exact this
  refine ⟨hz, fun i j hi => ⟨fun L e => ?_, fun p hp => ?_⟩⟩
  · cases e2 : W i j with
    | none => rw [e2] at e; cases e
    | some q =>
      rw [e2] at e
      cases e
      exact ⟨q, ((h i hi).ok j q e2).1, rfl⟩
  · obtain ⟨q, h1, h2, h3⟩ := short_walk he hz _ (Nat.le_refl _) hi hp
    have := (h i hi).le j q h1 (by omega)
    cases e2 : W i j with
    | none => rw [e2] at this; exact this.elim
    | some q' =>
      rw [e2] at this
      exact ⟨_, rfl, Int.le_trans this h3⟩
end
end GR
namespace Z2
open PySem L2
abbrev Fg := PySem.W.Frag
abbrev D := PyData
/-- a dict whose keys are tuples of ints and texts, one's own: keys, where they lie, values -/
def dctO (w : World) (a : Addr) (xs : List (List Key × Addr × Value)) : HO := .ext fun h => (a == sysModules) = false ∧ xs.length ≤ sizeLine ∧ ∃ o es ep, h.get? a = some o ∧ o.ExactDict ∧ o.data = .dict es ep ∧
  (∀ P : Program, es.toList = xs.map (entryOfKey (tupleKind (mixKind P w)))) ∧ (xs.map (·.1)).Nodup
/-- plain values -/
inductive R0 : V → D → Prop
  | non : R0 .non .none
  | bl (b : Bool) : R0 (.bl b) (.bool b)
  | int (i : Int) : R0 (.int i) (.int i)
def kI (ns : List Int) : List Key := ns.map Sum.inl
/-- a dict whose keys are tuples of ints, with plain values, as data -/
inductive KF (K : Fg) (I : Hp) : List (List Key × Addr × Value) → List (D × D) → Prop
  | nil : KF K I [] []
  | cons {ns : List Int} {b : Addr} {u : Value} {v : V} {d : D} {xs : List (List Key × Addr × Value)} {kvs : List (D × D)} : SqT K I b (ns.map V.int) → RelV v u → R0 v d → KF K I xs kvs → KF K I ((kI ns, b, u) :: xs) ((.tuple (ns.map PyData.int), d) :: kvs)
mutual
inductive Rp (K : Fg) (I : Hp) : V → D → Prop
  | non : Rp K I .non .none
  | bl (b : Bool) : Rp K I (.bl b) (.bool b)
  | int (i : Int) : Rp K I (.int i) (.int i)
  | str (x : Str) : Rp K I (.str x) (.str x)
  | lst {a : Addr} {vs : List V} {ds : List D} : I a = some (.lst vs) → Rps K I vs ds → Rp K I (.ref a) (.list ds)
  | tup {a : Addr} {vs : List V} {ds : List D} : SqT K I a vs → Rps K I vs ds → Rp K I (.ref a) (.tuple ds)
  | dic {a : Addr} {w : World} {xs : List (List Key × Addr × Value)} {kvs : List (D × D)} : I a = some (dctO w a xs) → KF K I xs kvs → Rp K I (.ref a) (.dict kvs)
inductive Rps (K : Fg) (I : Hp) : List V → List D → Prop
  | nil : Rps K I [] []
  | cons {v : V} {vs : List V} {d : D} {ds : List D} : Rp K I v d → Rps K I vs ds → Rps K I (v :: vs) (d :: ds)
end
theorem Same.sqt {K : Fg} {H H' : Hp} {a : Addr} {xs : List V} (e : Same H H') (h : SqT K H a xs) : SqT K H' a xs := by
  rcases h with (h | ⟨o, h⟩) | h
  · exact .inl (.inl (e _ _ h))
  · exact .inl (.inr ⟨o, e _ _ h⟩)
  · exact .inr h
theorem KF.mono {K : Fg} {I I' : Hp} (e : Same I I') : ∀ {xs : List (List Key × Addr × Value)} {ks : List (D × D)}, KF K I xs ks → KF K I' xs ks
  | _, _, .nil => .nil
  | _, _, .cons h1 h2 h3 t => .cons (Same.sqt e h1) h2 h3 (KF.mono e t)
section
variable {K : Fg} {I I' : Hp}
theorem R0.rp {v : V} {d : D} (h : R0 v d) : Rp K I v d := by
  cases h with
  | non => exact .non
  | bl b => exact .bl b
  | int i => exact .int i
mutual
theorem Rp.mono (e : Same I I') : ∀ (d : D) (v : V), Rp K I v d → Rp K I' v d
  | .none, _, h => by cases h; exact .non
  | .bool _, _, h => by cases h; exact .bl _
  | .int _, _, h => by cases h; exact .int _
  | .str _, _, h => by cases h; exact .str _
  | .list ds, _, h => by
    cases h with
    | lst h1 h2 => exact .lst (e _ _ h1) (Rps.mono e ds _ h2)
  | .tuple ds, _, h => by
    cases h with
    | tup h1 h2 => exact .tup (Same.sqt e h1) (Rps.mono e ds _ h2)
  | .dict _, _, h => by
    cases h with
    | dic h1 h2 => exact .dic (e _ _ h1) (KF.mono e h2)
theorem Rps.mono (e : Same I I') : ∀ (ds : List D) (vs : List V), Rps K I vs ds → Rps K I' vs ds
  | [], _, h => by cases h; exact .nil
  | d :: ds, _, h => by
    cases h with
    | cons h1 h2 => exact .cons (Rp.mono e d _ h1) (Rps.mono e ds _ h2)
end
mutual
theorem Rp.dp {H : Hp} (e : Same I H) : ∀ (d : D) (v : V), d.canLay0 = true → Rp K I v d → Dp K H v d
  | .none, _, _, h => by cases h; exact .non
  | .bool _, _, _, h => by cases h; exact .bl _
  | .int _, _, _, h => by cases h; exact .int _
  | .str _, _, _, h => by cases h; exact .str _
  | .list ds, _, c, h => by
    cases h with
    | lst h1 h2 => exact .lst (SqL.of (e _ _ h1)) (Rps.dp e ds _ (by simpa [PyData.canLay0] using c) h2)
  | .tuple ds, _, c, h => by
    cases h with
    | tup h1 h2 => exact .tup (Same.sqt e h1) (Rps.dp e ds _ (by simpa [PyData.canLay0] using c) h2)
  | .dict _, _, c, h => by simp [PyData.canLay0] at c
theorem Rps.dp {H : Hp} (e : Same I H) : ∀ (ds : List D) (vs : List V), PyData.canLayAll0 ds = true → Rps K I vs ds → DpAll K H vs ds
  | [], _, _, h => by cases h; exact .nil
  | d :: ds, _, c, h => by
    have c : (d.canLay0 && PyData.canLayAll0 ds) = true := by simpa [PyData.canLayAll0] using c
    rw [Bool.and_eq_true] at c
    cases h with
    | cons h1 h2 => exact .cons (Rp.dp e d _ c.1 h1) (Rps.dp e ds _ c.2 h2)
end
theorem Rps.length : ∀ {vs : List V} {ds : List D}, Rps K I vs ds → vs.length = ds.length
  | _, _, .nil => rfl
  | _, _, .cons _ t => by rw [List.length_cons, List.length_cons, Rps.length t]
theorem Rps.get : ∀ {vs : List V} {ds : List D} {i : Nat} {x : V}, Rps K I vs ds → vs[i]? = some x → ∃ d, ds[i]? = some d ∧ Rp K I x d
  | _, _, _, _, .nil, e => by simp at e
  | _, _, 0, _, .cons r _, e => by simp at e; subst e; exact ⟨_, rfl, r⟩
  | _, _, i + 1, x, .cons _ t, e => by
    obtain ⟨u, h1, h2⟩ := Rps.get (i := i) (x := x) t (by simpa using e)
    exact ⟨u, by simpa using h1, h2⟩
theorem Rps.got : ∀ {vs : List V} {ds : List D} {i : Nat} {d : D}, Rps K I vs ds → ds[i]? = some d → ∃ x, vs[i]? = some x ∧ Rp K I x d
  | _, _, _, _, .nil, e => by simp at e
  | _, _, 0, _, .cons r _, e => by simp at e; subst e; exact ⟨_, rfl, r⟩
  | _, _, i + 1, x, .cons _ t, e => by
    obtain ⟨u, h1, h2⟩ := Rps.got (i := i) (d := x) t (by simpa using e)
    exact ⟨u, by simpa using h1, h2⟩
theorem Rps.append : ∀ {vs ws : List V} {ds es : List D}, Rps K I vs ds → Rps K I ws es → Rps K I (vs ++ ws) (ds ++ es)
  | _, _, _, _, .nil, s => s
  | _, _, _, _, .cons r t, s => .cons r (Rps.append t s)
theorem Rps.take : ∀ {vs : List V} {ds : List D} (n : Nat), Rps K I vs ds → Rps K I (vs.take n) (ds.take n)
  | _, _, 0, _ => .nil
  | _, _, _ + 1, .nil => .nil
  | _, _, n + 1, .cons r t => .cons r (Rps.take n t)
theorem Rps.drop : ∀ {vs : List V} {ds : List D} (n : Nat), Rps K I vs ds → Rps K I (vs.drop n) (ds.drop n)
  | _, _, 0, r => r
  | _, _, _ + 1, .nil => .nil
  | _, _, n + 1, .cons _ t => Rps.drop n t
theorem Rps.set {x : V} {d : D} (r : Rp K I x d) : ∀ {vs : List V} {ds : List D} (i : Nat), Rps K I vs ds → Rps K I (vs.set i x) (ds.set i d)
  | _, _, _, .nil => .nil
  | _, _, 0, .cons _ t => .cons r t
  | _, _, i + 1, .cons q t => .cons q (Rps.set r i t)
theorem Rps.rep {vs : List V} {ds : List D} (r : Rps K I vs ds) : ∀ n : Nat, Rps K I (List.replicate n vs).flatten (List.replicate n ds).flatten
  | 0 => .nil
  | n + 1 => by
    rw [List.replicate_succ, List.replicate_succ, List.flatten_cons, List.flatten_cons]
    exact Rps.append r (Rps.rep r n)
/-- ints as ints -/
theorem Rps.ints : ∀ {vs : List V} {ns : List Int}, Rps K I vs (ns.map PyData.int) → vs = ns.map V.int
  | _, [], h => by cases h; rfl
  | _, n :: ns, h => by
    cases h with
    | cons h1 h2 => cases h1; rw [List.map_cons, Rps.ints h2]
theorem Rps.ofInts : ∀ (ns : List Int), Rps K I (ns.map V.int) (ns.map PyData.int)
  | [] => .nil
  | n :: ns => .cons (.int n) (Rps.ofInts ns)
theorem Rps.bools : ∀ {vs : List V} {ns : List Bool}, Rps K I vs (ns.map PyData.bool) → vs = ns.map V.bl
  | _, [], h => by cases h; rfl
  | _, n :: ns, h => by
    cases h with
    | cons h1 h2 => cases h1; rw [List.map_cons, Rps.bools h2]
end
/-! ### worlds -/
structure Gr (m : Option Addr) (I H I' H' : Hp) : Prop where
  ii : Same I I'
  ih : Same I' H'
  hh : ∀ a o, H a = some o → m ≠ some a → H' a = some o
  fr : ∀ a, I a = none → H a ≠ none → I' a = none
  th : ∀ a, H a ≠ none → H' a ≠ none
/-- the draws' list at s: the numbers, the cell, the place -/
def Strm (I H : Hp) (s : Addr) : Prop := I s = none ∧ ∃ (l : Addr) (c k : Int) (ns : List Int), H s = some (.lst [.ref l, .int c, .int k]) ∧ I l = some (.lst (ns.map V.int)) ∧ 0 ≤ k
inductive KD (K : Fg) (I : Hp) : List (List Key × Addr × Value) → List (List Key × D) → Prop
  | nil : KD K I [] []
  | cons {k : List Key} {b : Addr} {u : Value} {v : V} {d : D} {xs : List (List Key × Addr × Value)} {ks : List (List Key × D)} : SqT K I b (k.map kV) → RelV v u → Rp K I v d → KD K I xs ks → KD K I ((k, b, u) :: xs) ((k, d) :: ks)
theorem KD.mono {K : Fg} {I I' : Hp} (e : Same I I') : ∀ {xs : List (List Key × Addr × Value)} {ks : List (List Key × D)}, KD K I xs ks → KD K I' xs ks
  | _, _, .nil => .nil
  | _, _, .cons h1 h2 h3 t => .cons (Same.sqt e h1) h2 (Rp.mono e _ _ h3) (KD.mono e t)
/-- a dict of one's own whose keys are ints -/
inductive KDI (K : Fg) (I : Hp) : List (Key × V) → List (Int × D) → Prop
  | nil : KDI K I [] []
  | cons {i : Int} {v : V} {d : D} {xs : List (Key × V)} {ks : List (Int × D)} : Rp K I v d → KDI K I xs ks → KDI K I ((.inl i, v) :: xs) ((i, d) :: ks)
theorem KDI.mono {K : Fg} {I I' : Hp} (e : Same I I') : ∀ {xs : List (Key × V)} {ks : List (Int × D)}, KDI K I xs ks → KDI K I' xs ks
  | _, _, .nil => .nil
  | _, _, .cons h t => .cons (Rp.mono e _ _ h) (KDI.mono e t)
/-- rows of one's own -/
inductive MR (K : Fg) (H0 I H : Hp) : List Addr → List (List D) → Prop
  | nil : MR K H0 I H [] []
  | cons {b : Addr} {vs : List V} {ds : List D} {bs : List Addr} {rows : List (List D)} : H0 b = none → I b = none → H b = some (.lst vs) → Rps K I vs ds → b ∉ bs → MR K H0 I H bs rows → MR K H0 I H (b :: bs) (ds :: rows)
theorem MR.stays {K : Fg} {H0 I H I' H' : Hp} {bs : List Addr} {rows : List (List D)} (ii : Same I I') (m : MR K H0 I H bs rows) (h : ∀ b ∈ bs, H0 b = none → I b = none → H b ≠ none → I' b = none ∧ H' b = H b) : MR K H0 I' H' bs rows := by
  induction m with
  | nil => exact .nil
  | @cons b vs ds bs rows h1 h2 h3 h4 h5 t ih =>
    obtain ⟨g1, g2⟩ := h b List.mem_cons_self h1 h2 (by rw [h3]; exact fun z => nomatch z)
    exact .cons h1 g1 (g2.trans h3) (Rps.mono ii _ _ h4) h5 (ih fun c hc => h c (List.mem_cons_of_mem _ hc))
theorem MR.live {K : Fg} {H0 I H : Hp} {bs : List Addr} {rows : List (List D)} (m : MR K H0 I H bs rows) : ∀ b ∈ bs, H0 b = none ∧ I b = none ∧ ∃ vs, H b = some (.lst vs) := by
  induction m with
  | nil => exact fun b hb => absurd hb List.not_mem_nil
  | @cons b vs ds bs rows h1 h2 h3 h4 h5 t ih =>
    intro c hc
    rcases List.mem_cons.mp hc with rfl | hc
    · exact ⟨h1, h2, _, h3⟩
    · exact ih c hc
/-- what is lent to a function: a list or a dict that another one owns -/
inductive Lnt where
  | l (ds : List D) | d (w : World) (ks : List (List Key × D))
def LntR (K : Fg) (I H : Hp) (a : Addr) : Lnt → Prop
  | .l ds => ∃ vs, H a = some (.lst vs) ∧ Rps K I vs ds
  | .d w ks => ∃ xs, H a = some (dctO w a xs) ∧ KD K I xs ks
theorem LntR.stays {K : Fg} {I I' H H' : Hp} {a : Addr} {x : Lnt} (h : LntR K I H a x) (ii : Same I I') (k : ∀ o, H a = some o → H' a = some o) : LntR K I' H' a x := by
  cases x with
  | l ds => obtain ⟨vs, h1, h2⟩ := h; exact ⟨vs, k _ h1, Rps.mono ii _ _ h2⟩
  | d w ks => obtain ⟨xs, h1, h2⟩ := h; exact ⟨xs, k _ h1, KD.mono ii h2⟩
/-- an instance's fields that are data; those that are lists of its own; there are no others -/
def FldD (K : Fg) (I : Hp) (vs : List (Str × V)) (fs : List (Str × D)) : Prop := ∀ f d, (f, d) ∈ fs → ∃ u, vs.lookup f = some u ∧ Rp K I u d
theorem FldD.mono {K : Fg} {I I' : Hp} {vs : List (Str × V)} {fs : List (Str × D)} (e : Same I I') (h : FldD K I vs fs) : FldD K I' vs fs := fun f d m => by
  obtain ⟨u, h1, h2⟩ := h f d m
  exact ⟨u, h1, Rp.mono e d u h2⟩
def FldL (vs : List (Str × V)) (fs : List (Str × D)) (ls : List (Str × Addr × List D)) : Prop := (∀ f b ds, (f, b, ds) ∈ ls → vs.lookup f = some (.ref b)) ∧ ∀ f, fs.lookup f = none → ls.lookup f = none → vs.lookup f = none
inductive Sl where
  | dat (d : D) | own (ds : List D) | strm | dct (w : World) (ks : List (List Key × D)) | dki (ks : List (Int × D)) | mat (rows : List (List D)) | lnt (x : Lnt) | rng (n : Int) | obj (a C : Addr) (fs : List (Str × D)) (ls : List (Str × Addr × List D)) | obf (a C : Addr) (fs : List (Str × D))
abbrev Ev := List (Option Sl)
structure P0 where
  m : Option Addr
  I0 : Hp
  H0 : Hp
  B : Hp
/-- a step of the world -/
structure Stp (p : P0) (I H I' H' : Hp) : Prop where
  gr : Gr p.m I H I' H'
  st : ∀ s, p.m = some s → Strm I H s → Strm I' H' s
def SlR (K : Fg) (p : P0) (I H : Hp) : Sl → V → Prop
  | .dat d, v => Rp K I v d
  | .own ds, v => ∃ a vs, v = .ref a ∧ p.H0 a = none ∧ I a = none ∧ H a = some (.lst vs) ∧ Rps K I vs ds
  | .strm, v => ∃ a, v = .ref a ∧ p.m = some a
  | .dct w ks, v => ∃ a xs, v = .ref a ∧ p.H0 a = none ∧ I a = none ∧ H a = some (dctO w a xs) ∧ KD K I xs ks
  | .dki ks, v => ∃ a xs, v = .ref a ∧ p.H0 a = none ∧ I a = none ∧ H a = some (.dK xs) ∧ KDI K I xs ks
  | .rng n, v => ∃ a, v = .ref a ∧ I a = some (.rng 0 n)
  | .mat rows, v => ∃ (a : Addr) (bs : List Addr), v = .ref a ∧ p.H0 a = none ∧ I a = none ∧ H a = some (.lst (bs.map V.ref)) ∧ a ∉ bs ∧ MR K p.H0 I H bs rows
  | .lnt x, v => ∃ a, v = .ref a ∧ p.H0 a ≠ none ∧ p.m ≠ some a ∧ LntR K I H a x
  | .obj a C fs ls, v => v = .ref a ∧ (∃ (dx : Addr) (vs : List (Str × V)), I a = some (.ins C dx vs) ∧ FldD K I vs fs ∧ FldL vs fs ls) ∧ MR K p.H0 I H (ls.map (·.2.1)) (ls.map (·.2.2))
  | .obf a C fs, v => v = .ref a ∧ ∃ (dx : Addr) (vs : List (Str × V)), I a = some (.ins C dx vs) ∧ FldD K I vs fs ∧ FldL vs fs []
/-- the cells that a name's own lists take -/
def Cell (x : Sl) (v : V) (H : Hp) (c : Addr) : Prop := match x with
  | .own _ => v = .ref c
  | .mat _ => v = .ref c ∨ ∃ (a : Addr) (bs : List Addr), v = .ref a ∧ H a = some (.lst (bs.map V.ref)) ∧ c ∈ bs
  | .obj _ _ _ ls => c ∈ ls.map (·.2.1)
  | _ => False
def isMat : Sl → Bool | .mat _ => true | .obj _ _ _ _ => true | _ => false
def isTop : Sl → Bool | .mat _ => true | _ => false
theorem top_mat {x : Sl} (h : isTop x = true) : isMat x = true := by cases x <;> first | rfl | exact h
/-- what two names own is apart, where one is a table of rows -/
def SepM (env : Ev) (σ : L2.St) (H : Hp) : Prop := ∀ (i j : Nat) (x y : Sl) (u v : V) (c : Addr), i ≠ j → (isMat x || isMat y) = true → env[i]? = some (some x) → env[j]? = some (some y) → σ[i]? = some (some u) → σ[j]? = some (some v) → Cell x u H c → ¬ Cell y v H c
/-- dicts at two names are two dicts -/
def SepD (env : Ev) (σ : L2.St) : Prop := ∀ (i j : Nat) (w w' : World) (x y : List (List Key × D)) (a : Addr), i ≠ j → env[i]? = some (some (.dct w x)) → env[j]? = some (some (.dct w' y)) → σ[i]? = some (some (.ref a)) → σ[j]? ≠ some (some (.ref a))
structure Rel (K : Fg) (p : P0) (env : Ev) (σ : L2.St) (I H : Hp) : Prop where
  gr : Gr p.m p.I0 p.H0 I H
  sl : ∀ (i : Nat) (x : Sl), env[i]? = some (some x) → ∃ v : V, σ[i]? = some (some v) ∧ SlR K p I H x v
  sep : ∀ (i j : Nat) (x y : List D) (a : Addr), i ≠ j → env[i]? = some (some (.own x)) → env[j]? = some (some (.own y)) → σ[i]? = some (some (.ref a)) → σ[j]? ≠ some (some (.ref a))
  st : ∀ s, p.m = some s → p.H0 s ≠ none ∧ Strm I H s
  bs : Same p.B I
  sd : SepD env σ
  sm : SepM env σ H
theorem Gr.refl {m : Option Addr} {I H : Hp} (e : Same I H) : Gr m I H I H := ⟨Same.refl _, e, fun _ _ h _ => h, fun _ h _ => h, fun _ h => h⟩
theorem Gr.trans {m : Option Addr} {I H I1 H1 I2 H2 : Hp} (a : Gr m I H I1 H1) (b : Gr m I1 H1 I2 H2) : Gr m I H I2 H2 :=
  ⟨a.ii.trans b.ii, b.ih, fun c o h n => b.hh c o (a.hh c o h n) n, fun c h n => b.fr c (a.fr c h n) (a.th c n), fun c h => b.th c (a.th c h)⟩
theorem Gr.weak {m : Option Addr} {I H I1 H1 : Hp} (a : Gr none I H I1 H1) : Gr m I H I1 H1 :=
  ⟨a.ii, a.ih, fun c o h _ => a.hh c o h (fun q => nomatch q), a.fr, a.th⟩
theorem Gr.new {m : Option Addr} {I H : Hp} {p : Addr} {o : HO} (e : Same I H) (hp : H p = none) : Gr m I H (upd I p o) (upd H p o) := by
  have ip : I p = none := Same.free e hp
  refine ⟨fun b u h => ?_, fun b u h => ?_, fun b u h _ => ?_, fun b h n => ?_, fun b h => ?_⟩
  · rw [upd_ne (ne_of_none h ip)]; exact h
  · by_cases hb : b = p
    · subst hb; rw [upd_same] at h ⊢; exact h
    · rw [upd_ne hb] at h ⊢; exact e _ _ h
  · rw [upd_ne (ne_of_none h hp)]; exact h
  · have hb : b ≠ p := fun q => n (by rw [q]; exact hp)
    rw [upd_ne hb]; exact h
  · have hb : b ≠ p := fun q => h (by rw [q]; exact hp)
    rw [upd_ne hb]; exact h
/-- a new thing of one's own -/
theorem Gr.fresh {m : Option Addr} {I H : Hp} {p : Addr} {o : HO} (e : Same I H) (hp : H p = none) : Gr m I H I (upd H p o) := by
  refine ⟨Same.refl _, fun b u h => ?_, fun b u h _ => ?_, fun b h n => h, fun b h => ?_⟩
  · rw [upd_ne (ne_of_none (e _ _ h) hp)]; exact e _ _ h
  · rw [upd_ne (ne_of_none h hp)]; exact h
  · have hb : b ≠ p := fun q => h (by rw [q]; exact hp)
    rw [upd_ne hb]; exact h
theorem Strm.grow {I H I' H' : Hp} {s : Addr} (g : Gr none I H I' H') (h : Strm I H s) : Strm I' H' s := by
  obtain ⟨h0, l, c, k, ns, h1, h2, h3⟩ := h
  exact ⟨g.fr _ h0 (by rw [h1]; exact fun q => nomatch q), l, c, k, ns, g.hh _ _ h1 (fun q => nomatch q), g.ii _ _ h2, h3⟩
theorem Stp.refl {p : P0} {I H : Hp} (e : Same I H) : Stp p I H I H := ⟨Gr.refl e, fun _ _ h => h⟩
theorem Stp.trans {p : P0} {I H I1 H1 I2 H2 : Hp} (a : Stp p I H I1 H1) (b : Stp p I1 H1 I2 H2) : Stp p I H I2 H2 :=
  ⟨a.gr.trans b.gr, fun s e h => b.st s e (a.st s e h)⟩
theorem Stp.of {p : P0} {I H I1 H1 : Hp} (a : Gr none I H I1 H1) : Stp p I H I1 H1 := ⟨a.weak, fun _ _ h => h.grow a⟩
theorem Stp.ii {p : P0} {I H I1 H1 : Hp} (a : Stp p I H I1 H1) : Same I I1 := a.gr.ii
theorem Stp.ih {p : P0} {I H I1 H1 : Hp} (a : Stp p I H I1 H1) : Same I1 H1 := a.gr.ih
theorem refs_inj : ∀ {bs cs : List Addr}, bs.map V.ref = cs.map V.ref → bs = cs
  | [], [], _ => rfl
  | [], _ :: _, h => by simp at h
  | _ :: _, [], h => by simp at h
  | b :: bs, c :: cs, h => by
    rw [List.map_cons, List.map_cons] at h
    injection h with h1 h2
    injection h1 with h1
    rw [h1, refs_inj h2]
theorem cell_to {x : Sl} {v : V} {H H' : Hp} {c : Addr} (k : isTop x = true → ∀ a, v = .ref a → H' a = H a) (h : Cell x v H' c) : Cell x v H c := by
  cases x with
  | mat rows =>
    rcases h with h | ⟨a, bs, e1, e2, e3⟩
    · exact .inl h
    · exact .inr ⟨a, bs, e1, by rw [← k rfl a e1]; exact e2, e3⟩
  | own ds => exact h
  | dat d => exact h
  | rng _ => exact h
  | obj _ _ _ _ => exact h
  | obf _ _ _ => exact h
  | strm => exact h
  | dct w ks => exact h
  | dki ks => exact h
  | lnt x => exact h
theorem cell_live {K : Fg} {p : P0} {I H : Hp} {x : Sl} {v : V} {c : Addr} (s : SlR K p I H x v) (h : Cell x v H c) : p.H0 c = none ∧ I c = none ∧ ∃ vs, H c = some (.lst vs) := by
  cases x with
  | mat rows =>
    obtain ⟨a, bs, rfl, e2, e3, e4, e5, e6⟩ := s
    rcases h with h | ⟨a', bs', f1, f2, f3⟩
    · cases h
      exact ⟨e2, e3, _, e4⟩
    · cases f1
      rw [e4] at f2
      have f2 := HO.lst.inj (Option.some.inj f2)
      have : bs = bs' := refs_inj f2
      subst this
      exact e6.live c f3
  | own ds =>
    obtain ⟨a, vs, rfl, e2, e3, e4, e5⟩ := s
    cases h
    exact ⟨e2, e3, _, e4⟩
  | dat d => exact h.elim
  | rng _ => exact h.elim
  | obf _ _ _ => exact h.elim
  | obj _ _ _ _ => exact s.2.2.live c h
  | strm => exact h.elim
  | dct w ks => exact h.elim
  | dki ks => exact h.elim
  | lnt x => exact h.elim
theorem SepM.keep {env : Ev} {σ : L2.St} {H H' : Hp} (h : SepM env σ H) (k : ∀ (i : Nat) (x : Sl) (u : V) (a : Addr), env[i]? = some (some x) → isTop x = true → σ[i]? = some (some u) → u = .ref a → H' a = H a) : SepM env σ H' :=
  fun i j x y u v c n hm e1 e2 s1 s2 c1 c2 => h i j x y u v c n hm e1 e2 s1 s2 (cell_to (fun m a e => k i x u a e1 m s1 e) c1) (cell_to (fun m a e => k j y v a e2 m s2 e) c2)
section
variable {K : Fg} {p : P0} {env : Ev} {σ : L2.St} {I H I' H' : Hp}
theorem Rel.same (r : Rel K p env σ I H) : Same I H := r.gr.ih
theorem Rel.stp (r : Rel K p env σ I H) (s : Stp p I H I' H') : Rel K p env σ I' H' := by
  refine ⟨r.gr.trans s.gr, fun i x e => ?_, r.sep, fun a e => ⟨(r.st a e).1, s.st a e (r.st a e).2⟩, r.bs.trans s.ii, r.sd, r.sm.keep fun i x u a e hm su eu => ?_⟩
  rotate_left
  · obtain ⟨v, hv, h⟩ := r.sl i x e
    rw [su] at hv
    cases hv
    cases x <;> first | (cases hm) | skip
    obtain ⟨a', bs, e1, e2, e3, e4, _, _⟩ := h
    rw [eu] at e1
    cases e1
    have ne : p.m ≠ some a := fun q => (r.st a q).1 e2
    rw [s.gr.hh a _ e4 ne, e4]
  obtain ⟨v, hv, h⟩ := r.sl i x e
  refine ⟨v, hv, ?_⟩
  cases x with
  | dat d => exact Rp.mono s.ii d v h
  | rng _ => obtain ⟨a_, e1_, e2_⟩ := h; exact ⟨a_, e1_, (s.ii) _ _ e2_⟩
  | obf _ _ _ => obtain ⟨e1, dx, vs, e2, e3, e4⟩ := h; exact ⟨e1, dx, vs, s.ii _ _ e2, e3.mono s.ii, e4⟩
  | obj _ _ _ _ =>
    obtain ⟨e1, ⟨dx, vs, e2, e3, e4⟩, e6⟩ := h
    have ne : ∀ b, p.H0 b = none → p.m ≠ some b := fun b z q => (r.st b q).1 z
    refine ⟨e1, ⟨dx, vs, s.ii _ _ e2, e3.mono s.ii, e4⟩, e6.stays s.ii fun b hb z1 z2 z3 => ⟨s.gr.fr b z2 z3, ?_⟩⟩
    cases hz : H b with
    | none => exact absurd hz z3
    | some o => exact s.gr.hh b o hz (ne b z1)
  | own ds =>
    obtain ⟨a, vs, e1, e2, e3, e4, e5⟩ := h
    have ne : p.m ≠ some a := fun q => (r.st a q).1 e2
    exact ⟨a, vs, e1, e2, s.gr.fr a e3 (by rw [e4]; exact fun q => nomatch q), s.gr.hh a _ e4 ne, Rps.mono s.ii ds vs e5⟩
  | strm => exact h
  | lnt x =>
    obtain ⟨a, e1, e2, e3, e4⟩ := h
    exact ⟨a, e1, e2, e3, e4.stays s.ii fun o q => s.gr.hh a o q e3⟩
  | dct w ks =>
    obtain ⟨a, vs, e1, e2, e3, e4, e5⟩ := h
    have ne : p.m ≠ some a := fun q => (r.st a q).1 e2
    exact ⟨a, vs, e1, e2, s.gr.fr a e3 (by rw [e4]; exact fun q => nomatch q), s.gr.hh a _ e4 ne, KD.mono s.ii e5⟩
  | dki ks =>
    obtain ⟨a, vs, e1, e2, e3, e4, e5⟩ := h
    have ne : p.m ≠ some a := fun q => (r.st a q).1 e2
    exact ⟨a, vs, e1, e2, s.gr.fr a e3 (by rw [e4]; exact fun q => nomatch q), s.gr.hh a _ e4 ne, KDI.mono s.ii e5⟩
  | mat rows =>
    obtain ⟨a, bs, e1, e2, e3, e4, e5, e6⟩ := h
    have ne : ∀ b, p.H0 b = none → p.m ≠ some b := fun b z q => (r.st b q).1 z
    refine ⟨a, bs, e1, e2, s.gr.fr a e3 (by rw [e4]; exact fun q => nomatch q), s.gr.hh a _ e4 (ne a e2), e5, e6.stays s.ii fun b hb z1 z2 z3 => ⟨s.gr.fr b z2 z3, ?_⟩⟩
    cases hz : H b with
    | none => exact absurd hz z3
    | some o => exact s.gr.hh b o hz (ne b z1)
theorem Rel.grow (r : Rel K p env σ I H) (g : Gr none I H I' H') : Rel K p env σ I' H' := r.stp (.of g)
theorem getSet {α : Type} {l : List α} {i j : Nat} {x y : α} (h : (l.set i x)[j]? = some y) : (i = j ∧ y = x ∧ i < l.length) ∨ (i ≠ j ∧ l[j]? = some y) := by
  by_cases e : i = j
  · subst e
    by_cases q : i < l.length
    · rw [List.getElem?_set_self q] at h
      exact .inl ⟨rfl, (Option.some.inj h).symm, q⟩
    · rw [List.getElem?_eq_none (by rw [List.length_set]; omega)] at h; cases h
  · rw [List.getElem?_set_ne e] at h
    exact .inr ⟨e, h⟩
end
theorem SepD.set {env : Ev} {σ : L2.St} (h : SepD env σ) (i : Nat) (x : Option Sl) (v : Option V) (hx : ∀ w ks, x ≠ some (.dct w ks)) : SepD (env.set i x) (σ.set i v) := by
  intro j k w w' y z a n e1 e2 e3 e4
  rcases getSet e1 with ⟨_, q, _⟩ | ⟨n1, q1⟩
  · exact hx _ _ q.symm
  · rcases getSet e2 with ⟨_, q, _⟩ | ⟨n2, q2⟩
    · exact hx _ _ q.symm
    · rw [List.getElem?_set_ne n1] at e3
      rw [List.getElem?_set_ne n2] at e4
      exact h j k w w' y z a n q1 q2 e3 e4
theorem SepD.setE {env : Ev} {σ : L2.St} (h : SepD env σ) (i : Nat) (x : Option Sl) (hx : ∀ w ks, x ≠ some (.dct w ks)) : SepD (env.set i x) σ := by
  intro j k w w' y z a n e1 e2 e3 e4
  rcases getSet e1 with ⟨_, q, _⟩ | ⟨n1, q1⟩
  · exact hx _ _ q.symm
  · rcases getSet e2 with ⟨_, q, _⟩ | ⟨n2, q2⟩
    · exact hx _ _ q.symm
    · exact h j k w w' y z a n q1 q2 e3 e4
theorem SepM.set {env : Ev} {σ : L2.St} {H : Hp} (h : SepM env σ H) (i : Nat) (x : Option Sl) (v : Option V) (hx : ∀ y, x = some y → ∀ (u : V) (c : Addr), ¬ Cell y u H c) : SepM (env.set i x) (σ.set i v) H := by
  intro j k y z u1 u2 c n hm e1 e2 e3 e4 c1 c2
  rcases getSet e1 with ⟨_, q, _⟩ | ⟨n1, q1⟩
  · exact hx y q.symm u1 c c1
  · rcases getSet e2 with ⟨_, q, _⟩ | ⟨n2, q2⟩
    · exact hx z q.symm u2 c c2
    · rw [List.getElem?_set_ne n1] at e3
      rw [List.getElem?_set_ne n2] at e4
      exact h j k y z u1 u2 c n hm q1 q2 e3 e4 c1 c2
theorem SepM.setE {env : Ev} {σ : L2.St} {H : Hp} (h : SepM env σ H) (i : Nat) (x : Option Sl) (hx : ∀ y, x = some y → ∀ (u : V) (c : Addr), Cell y u H c → ∃ w, env[i]? = some (some w) ∧ Cell w u H c ∧ isMat w = isMat y) : SepM (env.set i x) σ H := by
  intro j k y z u1 u2 c n hm e1 e2 e3 e4 c1 c2
  rcases getSet e1 with ⟨rfl, q, _⟩ | ⟨n1, q1⟩
  · obtain ⟨w, ew, cw, mw⟩ := hx y q.symm u1 c c1
    rcases getSet e2 with ⟨rfl, q', _⟩ | ⟨n2, q2⟩
    · exact n rfl
    · exact h _ k w z u1 u2 c n (by rw [mw]; exact hm) ew q2 e3 e4 cw c2
  · rcases getSet e2 with ⟨rfl, q, _⟩ | ⟨n2, q2⟩
    · obtain ⟨w, ew, cw, mw⟩ := hx z q.symm u2 c c2
      exact h j _ y w u1 u2 c n (by rw [mw]; exact hm) q1 ew e3 e4 c1 cw
    · exact h j k y z u1 u2 c n hm q1 q2 e3 e4 c1 c2
structure RelL (K : Fg) (p : P0) (env : Ev) (σ : L2.St) (I H : Hp) : Prop where
  r : Rel K p env σ I H
  len : env.length = σ.length
theorem RelL.stp {K : Fg} {p : P0} {env : Ev} {σ : L2.St} {I H I' H' : Hp} (r : RelL K p env σ I H) (s : Stp p I H I' H') : RelL K p env σ I' H' := ⟨r.r.stp s, r.len⟩
theorem RelL.same {K : Fg} {p : P0} {env : Ev} {σ : L2.St} {I H : Hp} (r : RelL K p env σ I H) : Same I H := r.r.gr.ih
section
variable {K : Fg} {p : P0} {env : Ev} {σ : L2.St} {I H I' H' : Hp}
theorem RelL.rebase (r : RelL K p env σ I H) {B : Hp} (h : Same B I) : RelL K { p with B := B } env σ I H :=
  ⟨⟨r.r.gr, r.r.sl, r.r.sep, r.r.st, h, r.r.sd, r.r.sm⟩, r.len⟩
/-- a name is given data -/
theorem RelL.setDat (r : RelL K p env σ I H) {v : V} {d : D} (h : Rp K I v d) (i : Nat) : RelL K p (env.set i (some (.dat d))) (σ.set i (some v)) I H := by
  refine ⟨⟨r.r.gr, fun j x e => ?_, fun j k x y a n e1 e2 e3 e4 => ?_, r.r.st, r.r.bs, r.r.sd.set _ _ _ (fun _ _ z => nomatch z), r.r.sm.set _ _ _ (fun _ z _ _ c => by cases z; exact c)⟩, by rw [List.length_set, List.length_set]; exact r.len⟩
  · rcases getSet e with ⟨rfl, q, hl⟩ | ⟨n, q⟩
    · cases q
      exact ⟨v, List.getElem?_set_self (by rw [← r.len]; exact hl), h⟩
    · obtain ⟨u, hu, q⟩ := r.r.sl j x q
      exact ⟨u, by rw [List.getElem?_set_ne n]; exact hu, q⟩
  · rcases getSet e1 with ⟨_, q, _⟩ | ⟨n1, q1⟩
    · cases q
    · rcases getSet e2 with ⟨_, q, _⟩ | ⟨n2, q2⟩
      · cases q
      · rw [List.getElem?_set_ne n1] at e3
        rw [List.getElem?_set_ne n2] at e4
        exact r.r.sep j k x y a n q1 q2 e3 e4
/-- a name is given a list of its own -/
theorem RelL.setOwn (r : RelL K p env σ I H) {a : Addr} {vs : List V} {ds : List D} (h0 : p.H0 a = none) (h1 : I a = none) (h2 : H a = some (.lst vs)) (h3 : Rps K I vs ds)
    (hn : ∀ (j : Nat) (x : List D), env[j]? = some (some (.own x)) → σ[j]? ≠ some (some (.ref a))) (hc : ∀ (j : Nat) (x : Sl) (v : V), env[j]? = some (some x) → isMat x = true → σ[j]? = some (some v) → ¬ Cell x v H a) (i : Nat) : RelL K p (env.set i (some (.own ds))) (σ.set i (some (.ref a))) I H := by
  refine ⟨⟨r.r.gr, fun j x e => ?_, fun j k x y b n e1 e2 e3 e4 => ?_, r.r.st, r.r.bs, r.r.sd.set _ _ _ (fun _ _ z => nomatch z), fun j k y z u1 u2 c n hm e1 e2 e3 e4 c1 c2 => ?_⟩, by rw [List.length_set, List.length_set]; exact r.len⟩
  rotate_left
  rotate_left
  · rcases getSet e1 with ⟨rfl, q, hl⟩ | ⟨n1, q1⟩
    · rw [List.getElem?_set_self (by rw [← r.len]; exact hl)] at e3
      cases e3
      cases q
      cases c1
      rcases getSet e2 with ⟨z, _, _⟩ | ⟨n2, q2⟩
      · exact n z
      · rw [List.getElem?_set_ne n2] at e4
        exact hc k z u2 q2 (by simpa [isMat] using hm) e4 c2
    · rw [List.getElem?_set_ne n1] at e3
      rcases getSet e2 with ⟨rfl, q, hl⟩ | ⟨n2, q2⟩
      · rw [List.getElem?_set_self (by rw [← r.len]; exact hl)] at e4
        cases e4
        cases q
        cases c2
        exact hc j y u1 q1 (by simpa [isMat] using hm) e3 c1
      · rw [List.getElem?_set_ne n2] at e4
        exact r.r.sm j k y z u1 u2 c n hm q1 q2 e3 e4 c1 c2
  · rcases getSet e with ⟨rfl, q, hl⟩ | ⟨n, q⟩
    · cases q
      exact ⟨_, List.getElem?_set_self (by rw [← r.len]; exact hl), a, vs, rfl, h0, h1, h2, h3⟩
    · obtain ⟨u, hu, q⟩ := r.r.sl j x q
      exact ⟨u, by rw [List.getElem?_set_ne n]; exact hu, q⟩
  · rcases getSet e1 with ⟨rfl, q, hl⟩ | ⟨n1, q1⟩
    · rw [List.getElem?_set_self (by rw [← r.len]; exact hl)] at e3
      cases e3
      rcases getSet e2 with ⟨z, _, _⟩ | ⟨n2, q2⟩
      · exact n z
      · rw [List.getElem?_set_ne n2] at e4
        exact hn k y q2 e4
    · rw [List.getElem?_set_ne n1] at e3
      rcases getSet e2 with ⟨rfl, q, hl⟩ | ⟨n2, q2⟩
      · rw [List.getElem?_set_self (by rw [← r.len]; exact hl)] at e4
        cases e4
        exact hn j x q1 e3
      · rw [List.getElem?_set_ne n2] at e4
        exact r.r.sep j k x y b n q1 q2 e3 e4
/-- the own list at a is changed -/
theorem RelL.mutOwn (r : RelL K p env σ I H) {i : Nat} {ds ds' : List D} {a : Addr} {vs' : List V} (e : env[i]? = some (some (.own ds))) (hv : σ[i]? = some (some (.ref a))) (h : Rps K I vs' ds') :
    RelL K p (env.set i (some (.own ds'))) σ I (upd H a (.lst vs')) := by
  obtain ⟨v, hv2, a, vs, e1, e2, e3, e4, e5⟩ := r.r.sl i _ e
  rw [hv] at hv2; cases hv2; cases e1
  have nI : ∀ b o, I b = some o → b ≠ a := fun b o q => ne_of_none q e3
  have nm : p.m ≠ some a := fun q => (r.r.st _ q).1 e2
  have hmat : ∀ (j : Nat) (x : Sl) (v : V), env[j]? = some (some x) → isMat x = true → σ[j]? = some (some v) → ¬ Cell x v H a := fun j x v f1 m f2 c =>
    r.r.sm i j (.own ds) x (.ref a) v a (fun z => by subst z; rw [e] at f1; cases f1; cases m) (by rw [m]; simp [isMat]) e f1 hv f2 rfl c
  refine ⟨⟨⟨r.r.gr.ii, fun b o q => by rw [upd_ne (nI b o q)]; exact r.r.gr.ih b o q, fun b o q n => ?_, r.r.gr.fr, fun b q => ?_⟩, fun j x q => ?_, fun j k x y b n q1 q2 q3 q4 => ?_, fun s q => ⟨(r.r.st s q).1, ?_⟩, r.r.bs, r.r.sd.setE _ _ (fun _ _ z => nomatch z),
      (r.r.sm.setE i (some (.own ds')) (fun y z u c cc => by cases z; exact ⟨_, e, cc, rfl⟩)).keep fun j x u b q m su eu => upd_ne fun z => by
        rcases getSet q with ⟨rfl, w, _⟩ | ⟨_, q⟩
        · cases w; cases m
        · subst z
          refine hmat j x u q (top_mat m) su ?_
          cases x <;> first | (cases m) | skip
          exact .inl eu⟩,
    by rw [List.length_set]; exact r.len⟩
  · rw [upd_ne (ne_of_none q e2)]; exact r.r.gr.hh b o q n
  · by_cases hb : b = a
    · rw [hb, upd_same]; exact fun q => nomatch q
    · rw [upd_ne hb]; exact r.r.gr.th b q
  · rcases getSet q with ⟨rfl, z, hl⟩ | ⟨n, z⟩
    · cases z
      exact ⟨_, hv, a, vs', rfl, e2, e3, upd_same, h⟩
    · obtain ⟨u, hu, z2⟩ := r.r.sl j x z
      refine ⟨u, hu, ?_⟩
      cases x with
      | dat d => exact z2
      | rng _ => exact z2
      | obf _ _ _ => exact z2
      | obj _ _ _ _ =>
        obtain ⟨f1, f2, f6⟩ := z2
        exact ⟨f1, f2, f6.stays (Same.refl _) fun c hc z1 z2 z3 => ⟨z2, upd_ne fun w => hmat j _ _ z rfl hu (by rw [← w]; exact hc)⟩⟩
      | own es =>
        obtain ⟨b, ws, f1, f2, f3, f4, f5⟩ := z2
        subst f1
        have nb : b ≠ a := fun w => r.r.sep i j ds es a n e z hv (by rw [← w]; exact hu)
        exact ⟨b, ws, rfl, f2, f3, by rw [upd_ne nb]; exact f4, f5⟩
      | strm => exact z2
      | lnt x =>
        obtain ⟨b, f1, f2, f3, f4⟩ := z2
        have nb : b ≠ a := fun w => f2 (by rw [w]; exact e2)
        exact ⟨b, f1, f2, f3, f4.stays (Same.refl _) fun o q => by rw [upd_ne nb]; exact q⟩
      | dct w ks =>
        obtain ⟨b, ws, f1, f2, f3, f4, f5⟩ := z2
        subst f1
        have nb : b ≠ a := fun w => by
          rw [w, e4] at f4
          exact nomatch f4
        exact ⟨b, ws, rfl, f2, f3, by rw [upd_ne nb]; exact f4, f5⟩
      | dki ks =>
        obtain ⟨b, ws, f1, f2, f3, f4, f5⟩ := z2
        subst f1
        have nb : b ≠ a := fun w => by
          rw [w, e4] at f4
          exact nomatch f4
        exact ⟨b, ws, rfl, f2, f3, by rw [upd_ne nb]; exact f4, f5⟩
      | mat rows =>
        obtain ⟨b, bs, f1, f2, f3, f4, f5, f6⟩ := z2
        subst f1
        have nb : b ≠ a := fun w => hmat j _ _ z rfl hu (.inl (by rw [w]))
        refine ⟨b, bs, rfl, f2, f3, by rw [upd_ne nb]; exact f4, f5, f6.stays (Same.refl _) fun c hc z1 z2 z3 => ⟨z2, upd_ne fun w => ?_⟩⟩
        exact hmat j _ _ z rfl hu (.inr ⟨b, bs, rfl, f4, by rw [← w]; exact hc⟩)
  · have own : ∀ (l : Nat) (x : List D), (env.set i (some (Sl.own ds')))[l]? = some (some (Sl.own x)) → ∃ y : List D, env[l]? = some (some (Sl.own y)) := fun l x w => by
      rcases getSet w with ⟨rfl, _, _⟩ | ⟨_, w⟩
      · exact ⟨_, e⟩
      · exact ⟨_, w⟩
    obtain ⟨x2, w1⟩ := own j x q1
    obtain ⟨y2, w2⟩ := own k y q2
    exact r.r.sep j k x2 y2 b n w1 w2 q3 q4
  · obtain ⟨f0, l, c, k, ns, f1, f2, f3⟩ := (r.r.st s q).2
    have ns2 : s ≠ a := fun w => nm (by rw [q, w])
    exact ⟨f0, l, c, k, ns, by rw [upd_ne ns2]; exact f1, f2, f3⟩
/-- an own list becomes data -/
theorem RelL.freeze (r : RelL K p env σ I H) {i : Nat} {ds : List D} (e : env[i]? = some (some (.own ds))) : ∃ I', Same I I' ∧ RelL K p (env.set i (some (.dat (.list ds)))) σ I' H := by
  obtain ⟨v, hv, a, vs, rfl, e2, e3, e4, e5⟩ := r.r.sl i _ e
  have ii : Same I (upd I a (.lst vs)) := fun b o q => by rw [upd_ne (ne_of_none q e3)]; exact q
  have nm : p.m ≠ some a := fun q => (r.r.st _ q).1 e2
  have hmat : ∀ (j : Nat) (x : Sl) (v : V), env[j]? = some (some x) → isMat x = true → σ[j]? = some (some v) → ¬ Cell x v H a := fun j x v f1 m f2 c =>
    r.r.sm i j (.own ds) x (.ref a) v a (fun z => by subst z; rw [e] at f1; cases f1; cases m) (by rw [m]; simp [isMat]) e f1 hv f2 rfl c
  refine ⟨upd I a (.lst vs), ii, ⟨⟨r.r.gr.ii.trans ii, fun b o q => ?_, r.r.gr.hh, fun b q n => ?_, r.r.gr.th⟩, fun j x q => ?_, fun j k x y b n q1 q2 q3 q4 => ?_, fun s q => ⟨(r.r.st s q).1, ?_⟩, r.r.bs.trans ii, r.r.sd.setE _ _ (fun _ _ z => nomatch z), r.r.sm.setE _ _ (fun y z u c cc => by cases z; exact cc.elim)⟩, by rw [List.length_set]; exact r.len⟩
  · by_cases hb : b = a
    · subst hb; rw [upd_same] at q; cases q; exact e4
    · rw [upd_ne hb] at q; exact r.r.gr.ih b o q
  · have hb : b ≠ a := fun w => n (by rw [w]; exact e2)
    rw [upd_ne hb]; exact r.r.gr.fr b q n
  · rcases getSet q with ⟨rfl, z, hl⟩ | ⟨n, z⟩
    · cases z
      exact ⟨_, hv, .lst upd_same (Rps.mono ii ds vs e5)⟩
    · obtain ⟨u, hu, z2⟩ := r.r.sl j x z
      refine ⟨u, hu, ?_⟩
      cases x with
      | dat d => exact Rp.mono ii d u z2
      | rng _ => obtain ⟨a_, e1_, e2_⟩ := z2; exact ⟨a_, e1_, (ii) _ _ e2_⟩
      | obf _ _ _ => obtain ⟨f1, dx, vs, f2, f3, f4⟩ := z2; exact ⟨f1, dx, vs, ii _ _ f2, f3.mono ii, f4⟩
      | obj _ _ _ _ =>
        obtain ⟨f1, ⟨dx, vs2, f2, f3, f4⟩, f6⟩ := z2
        refine ⟨f1, ⟨dx, vs2, ii _ _ f2, f3.mono ii, f4⟩, f6.stays ii fun c hc z1 z2 z3 => ⟨?_, rfl⟩⟩
        rw [upd_ne fun w => hmat j _ _ z rfl hu (by rw [← w]; exact hc)]
        exact z2
      | own es =>
        obtain ⟨b, ws, f1, f2, f3, f4, f5⟩ := z2
        subst f1
        have nb : b ≠ a := fun w => r.r.sep i j ds es a n e z hv (by rw [← w]; exact hu)
        exact ⟨b, ws, rfl, f2, by rw [upd_ne nb]; exact f3, f4, Rps.mono ii es ws f5⟩
      | strm => exact z2
      | lnt x =>
        obtain ⟨b, f1, f2, f3, f4⟩ := z2
        exact ⟨b, f1, f2, f3, f4.stays ii fun o q => q⟩
      | dct w ks =>
        obtain ⟨b, ws, f1, f2, f3, f4, f5⟩ := z2
        subst f1
        have nb : b ≠ a := fun w => by
          rw [w, e4] at f4
          exact nomatch f4
        exact ⟨b, ws, rfl, f2, by rw [upd_ne nb]; exact f3, f4, KD.mono ii f5⟩
      | dki ks =>
        obtain ⟨b, ws, f1, f2, f3, f4, f5⟩ := z2
        subst f1
        have nb : b ≠ a := fun w => by
          rw [w, e4] at f4
          exact nomatch f4
        exact ⟨b, ws, rfl, f2, by rw [upd_ne nb]; exact f3, f4, KDI.mono ii f5⟩
      | mat rows =>
        obtain ⟨b, bs, f1, f2, f3, f4, f5, f6⟩ := z2
        subst f1
        have nb : b ≠ a := fun w => hmat j _ _ z rfl hu (.inl (by rw [w]))
        refine ⟨b, bs, rfl, f2, by rw [upd_ne nb]; exact f3, f4, f5, f6.stays ii fun c hc z1 z2 z3 => ⟨?_, rfl⟩⟩
        rw [upd_ne fun w => hmat j _ _ z rfl hu (.inr ⟨b, bs, rfl, f4, by rw [← w]; exact hc⟩)]
        exact z2
  · rcases getSet q1 with ⟨_, z, _⟩ | ⟨n1, z1⟩
    · cases z
    · rcases getSet q2 with ⟨_, z, _⟩ | ⟨n2, z2⟩
      · cases z
      · exact r.r.sep j k x y b n z1 z2 q3 q4
  · obtain ⟨f0, l, c, k, ns, f1, f2, f3⟩ := (r.r.st s q).2
    have ns2 : s ≠ a := fun w => nm (by rw [q, w])
    exact ⟨by rw [upd_ne ns2]; exact f0, l, c, k, ns, f1, ii _ _ f2, f3⟩
/-- a cell that nobody here knows is changed -/
theorem RelL.beside (r : RelL K p env σ I H) {a : Addr} {o : HO} (h0 : p.H0 a = none) (h1 : I a = none) (hx : ∀ w xs, H a ≠ some (dctO w a xs)) (hx2 : ∀ xs, H a ≠ some (.dK xs)) (hmat : ∀ (j : Nat) (x : Sl) (v : V), env[j]? = some (some x) → isMat x = true → σ[j]? = some (some v) → ¬ Cell x v H a) (hn : ∀ (j : Nat) (x : List D), env[j]? = some (some (.own x)) → σ[j]? ≠ some (some (.ref a))) : RelL K p env σ I (upd H a o) := by
  have nm : p.m ≠ some a := fun q => (r.r.st _ q).1 h0
  refine ⟨⟨⟨r.r.gr.ii, fun b u q => by rw [upd_ne (ne_of_none q h1)]; exact r.r.gr.ih b u q, fun b u q n => by rw [upd_ne (ne_of_none q h0)]; exact r.r.gr.hh b u q n, r.r.gr.fr, fun b q => ?_⟩, fun j x q => ?_, r.r.sep, fun s q => ⟨(r.r.st s q).1, ?_⟩, r.r.bs, r.r.sd, r.r.sm.keep fun j x u b q m su eu => upd_ne fun z => by
      subst z
      refine hmat j x u q (top_mat m) su ?_
      cases x <;> first | (cases m) | skip
      exact .inl eu⟩, r.len⟩
  · by_cases hb : b = a
    · rw [hb, upd_same]; exact fun q => nomatch q
    · rw [upd_ne hb]; exact r.r.gr.th b q
  · obtain ⟨u, hu, z2⟩ := r.r.sl j x q
    refine ⟨u, hu, ?_⟩
    cases x with
    | dat d => exact z2
    | rng _ => exact z2
    | obf _ _ _ => exact z2
    | obj _ _ _ _ =>
      obtain ⟨f1, f2, f6⟩ := z2
      exact ⟨f1, f2, f6.stays (Same.refl _) fun c hc z1 z2 z3 => ⟨z2, upd_ne fun w => hmat j _ _ q rfl hu (by rw [← w]; exact hc)⟩⟩
    | own es =>
      obtain ⟨b, ws, f1, f2, f3, f4, f5⟩ := z2
      subst f1
      have nb : b ≠ a := fun w => hn j es q (by rw [← w]; exact hu)
      exact ⟨b, ws, rfl, f2, f3, by rw [upd_ne nb]; exact f4, f5⟩
    | strm => exact z2
    | lnt x =>
      obtain ⟨b, f1, f2, f3, f4⟩ := z2
      have nb : b ≠ a := fun w => f2 (by rw [w]; exact h0)
      exact ⟨b, f1, f2, f3, f4.stays (Same.refl _) fun o q => by rw [upd_ne nb]; exact q⟩
    | dct w ks =>
      obtain ⟨b, ws, f1, f2, f3, f4, f5⟩ := z2
      subst f1
      have nb : b ≠ a := fun z => by
        subst z
        exact hx _ _ f4
      exact ⟨b, ws, rfl, f2, f3, by rw [upd_ne nb]; exact f4, f5⟩
    | dki ks =>
      obtain ⟨b, ws, f1, f2, f3, f4, f5⟩ := z2
      subst f1
      have nb : b ≠ a := fun z => by
        subst z
        exact hx2 _ f4
      exact ⟨b, ws, rfl, f2, f3, by rw [upd_ne nb]; exact f4, f5⟩
    | mat rows =>
      obtain ⟨b, bs, f1, f2, f3, f4, f5, f6⟩ := z2
      subst f1
      have nb : b ≠ a := fun w => hmat j _ _ q rfl hu (.inl (by rw [w]))
      refine ⟨b, bs, rfl, f2, f3, by rw [upd_ne nb]; exact f4, f5, f6.stays (Same.refl _) fun c hc z1 z2 z3 => ⟨z2, upd_ne fun w => ?_⟩⟩
      exact hmat j _ _ q rfl hu (.inr ⟨b, bs, rfl, f4, by rw [← w]; exact hc⟩)
  · obtain ⟨f0, l, c, k, ns, f1, f2, f3⟩ := (r.r.st s q).2
    have ns2 : s ≠ a := fun w => nm (by rw [q, w])
    exact ⟨f0, l, c, k, ns, by rw [upd_ne ns2]; exact f1, f2, f3⟩
theorem RelL.cellBack (r : RelL K p env σ I H) (s : Stp p I H I' H') {j : Nat} {x : Sl} {v : V} {c : Addr} (e : env[j]? = some (some x)) (sv : σ[j]? = some (some v)) (h : Cell x v H' c) : Cell x v H c := by
  obtain ⟨u, hu, sl⟩ := r.r.sl j x e
  rw [sv] at hu
  cases hu
  refine cell_to (fun m a ea => ?_) h
  cases x <;> first | (cases m) | skip
  obtain ⟨a', bs, e1, e2, e3, e4, _, _⟩ := sl
  rw [ea] at e1
  cases e1
  rw [s.gr.hh a _ e4 (fun q => (r.r.st a q).1 e2), e4]
theorem RelL.freshCell (r : RelL K p env σ I H) (s : Stp p I H I' H') {l : Addr} (h0 : H l = none) : ∀ (j : Nat) (x : Sl) (v : V), env[j]? = some (some x) → isMat x = true → σ[j]? = some (some v) → ¬ Cell x v H' l := by
  intro j x v e m sv c
  have c' := r.cellBack s e sv c
  obtain ⟨u, hu, sl⟩ := r.r.sl j x e
  rw [sv] at hu
  cases hu
  obtain ⟨_, _, vs, hv⟩ := cell_live sl c'
  rw [h0] at hv
  cases hv
theorem RelL.freshCellU (r : RelL K p env σ I H) {l : Addr} {o : HO} (h0 : H l = none) : ∀ (j : Nat) (x : Sl) (v : V), env[j]? = some (some x) → isMat x = true → σ[j]? = some (some v) → ¬ Cell x v (upd H l o) l := by
  intro j x v e m sv c
  obtain ⟨u, hu, sl⟩ := r.r.sl j x e
  rw [sv] at hu
  cases hu
  have c' : Cell x v H l := cell_to (fun m a ea => upd_ne fun z => by
    subst z
    cases x <;> first | (cases m) | skip
    obtain ⟨a', bs, e1, e2, e3, e4, _, _⟩ := sl
    rw [ea] at e1
    cases e1
    rw [h0] at e4
    cases e4) c
  obtain ⟨_, _, vs, hv⟩ := cell_live sl c'
  rw [h0] at hv
  cases hv
def wipeE (env : Ev) : List Nat → Ev
  | [] => env
  | v :: vs => (wipeE env vs).set v none
theorem RelL.wipe (r : RelL K p env σ I H) : ∀ vs : List Nat, RelL K p (wipeE env vs) (wipe σ vs) I H
  | [] => r
  | v :: vs => by
    have q := RelL.wipe r vs
    refine ⟨⟨q.r.gr, fun j x e => ?_, fun j k x y a n e1 e2 e3 e4 => ?_, q.r.st, q.r.bs, by unfold wipeE L2.wipe; exact q.r.sd.set _ _ _ (fun _ _ z => nomatch z), by unfold wipeE L2.wipe; exact q.r.sm.set _ _ _ (fun _ z => nomatch z)⟩, by unfold wipeE L2.wipe; rw [List.length_set, List.length_set]; exact q.len⟩
    · unfold wipeE at e
      rcases getSet e with ⟨_, z, _⟩ | ⟨n, z⟩
      · cases z
      · obtain ⟨u, hu, z2⟩ := q.r.sl j x z
        exact ⟨u, by unfold L2.wipe; rw [List.getElem?_set_ne n]; exact hu, z2⟩
    · unfold wipeE at e1 e2
      unfold L2.wipe at e3 e4
      rcases getSet e1 with ⟨_, z, _⟩ | ⟨n1, z1⟩
      · cases z
      · rcases getSet e2 with ⟨_, z, _⟩ | ⟨n2, z2⟩
        · cases z
        · rw [List.getElem?_set_ne n1] at e3
          rw [List.getElem?_set_ne n2] at e4
          exact q.r.sep j k x y a n z1 z2 e3 e4
theorem wipe_set {i : Nat} {x : Option V} : ∀ {vs : List Nat} {σ : L2.St}, i ∈ vs → L2.wipe (σ.set i x) vs = L2.wipe σ vs
  | [], _, h => absurd h (by simp)
  | v :: vs, σ, h => by
    unfold L2.wipe
    by_cases hi : i ∈ vs
    · rw [wipe_set hi]
    · have e : i = v := by
        rcases List.mem_cons.mp h with h | h
        · exact h
        · exact absurd h hi
      subst e
      have : ∀ (us : List Nat) (τ : L2.St), i ∉ us → L2.wipe (τ.set i x) us = (L2.wipe τ us).set i x := by
        intro us
        induction us with
        | nil => intro τ _; rfl
        | cons u us ih =>
          intro τ hu
          unfold L2.wipe
          rw [ih τ (fun z => hu (List.mem_cons_of_mem _ z)), List.set_comm _ _ (fun z => hu (by rw [← z]; exact List.mem_cons_self))]
      rw [this vs σ hi, List.set_set]
end
end Z2
namespace Z2
open PySem L2
abbrev T2E := Ev → (D → Prop) → Prop
abbrev T2T := Ev → (Bool → Prop) → Prop
abbrev T2A := Ev → (List D → Prop) → Prop
abbrev R1D := D → (D → Prop) → Prop
abbrev R2D := D → D → (D → Prop) → Prop
abbrev RCD := List D → (D → Prop) → Prop
def SE (K : Fg) (te : TE) (t : T2E) : Prop := ∀ (p : P0) (env : Ev) (σ : L2.St) (I H : Hp) (Q2 : D → Prop) (Q : VK), RelL K p env σ I H → t env Q2 →
  (∀ d v I' H', Q2 d → Stp p I H I' H' → Rp K I' v d → Q v H') → te σ H Q
def SA (K : Fg) (n : Nat) (ta : TA) (t : T2A) : Prop := ∀ (p : P0) (env : Ev) (σ : L2.St) (I H : Hp) (Q2 : List D → Prop) (Q : List V → Hp → Prop), RelL K p env σ I H → t env Q2 →
  (∀ ds vs I' H', Q2 ds → vs.length = n → Stp p I H I' H' → Rps K I' vs ds → Q vs H') → ta σ H Q
def ST (K : Fg) (tt : TT) (t : T2T) : Prop := ∀ (p : P0) (env : Ev) (σ : L2.St) (I H : Hp) (Q2 : Bool → Prop) (Q : Bool → Hp → Prop), RelL K p env σ I H → t env Q2 →
  (∀ b I' H', Q2 b → Stp p I H I' H' → Q b H') → tt σ H Q
/-- a list that is new -/
def SO (K : Fg) (te : TE) (t : T2A) : Prop := ∀ (p : P0) (env : Ev) (σ : L2.St) (I H : Hp) (Q2 : List D → Prop) (Q : VK), RelL K p env σ I H → t env Q2 →
  (∀ ds a vs I' H', Q2 ds → Stp p I H I' H' → H a = none → I' a = none → H' a = some (.lst vs) → Rps K I' vs ds → Q (.ref a) H') → te σ H Q
theorem Stp.lay {p : P0} {I H I' H' : Hp} {a : Addr} {vs : List V} (s : Stp p I H I' H') (h0 : H a = none) (h1 : I' a = none) (h2 : H' a = some (.lst vs)) : Stp p I H (upd I' a (.lst vs)) H' ∧ Same I' (upd I' a (.lst vs)) := by
  have ii : Same I' (upd I' a (.lst vs)) := fun b o q => by rw [upd_ne (ne_of_none q h1)]; exact q
  refine ⟨⟨⟨s.ii.trans ii, fun b o q => ?_, s.gr.hh, fun b q n => ?_, s.gr.th⟩, fun c e h => ?_⟩, ii⟩
  · by_cases hb : b = a
    · subst hb; rw [upd_same] at q; cases q; exact h2
    · rw [upd_ne hb] at q; exact s.ih b o q
  · have hb : b ≠ a := fun w => n (by rw [w]; exact h0)
    rw [upd_ne hb]; exact s.gr.fr b q n
  · obtain ⟨f0, l, x, k, ns, f1, f2, f3⟩ := s.st c e h
    have hc : c ≠ a := fun w => by
      obtain ⟨_, _, _, _, _, g1, _⟩ := h
      rw [w, h0] at g1; cases g1
    exact ⟨by rw [upd_ne hc]; exact f0, l, x, k, ns, f1, ii _ _ f2, f3⟩
def tList (t : T2A) : T2E := fun env Q => t env fun ds => Q (.list ds)
theorem se_own {K : Fg} {te : TE} {t : T2A} (h : SO K te t) : SE K te (tList t) := by
  intro p env σ I H Q2 Q r q k
  refine h p env σ I H _ Q r q fun ds a vs I' H' q2 s h0 h1 h2 h3 => ?_
  obtain ⟨s2, ii⟩ := s.lay h0 h1 h2
  exact k _ _ _ _ q2 s2 (.lst upd_same (Rps.mono ii ds vs h3))
/-! ### names, constants -/
def dVar (i : Nat) : T2E := fun env Q => match env[i]? with | some (some (.dat d)) => Q d | _ => False
def dC (d : D) : T2E := fun _ Q => Q d
theorem se_var {K : Fg} (i : Nat) : SE K (tVar i) (dVar i) := by
  intro p env σ I H Q2 Q r q k
  unfold dVar at q
  cases e : env[i]? with
  | none => rw [e] at q; exact q.elim
  | some o =>
    cases o with
    | none => rw [e] at q; exact q.elim
    | some x =>
      cases x with
      | own _ => rw [e] at q; exact q.elim
      | strm => rw [e] at q; exact q.elim
      | dct _ _ => rw [e] at q; exact q.elim
      | dki _ => rw [e] at q; exact q.elim
      | rng _ => rw [e] at q; exact q.elim
      | obj _ _ _ _ => rw [e] at q; exact q.elim
      | obf _ _ _ => rw [e] at q; exact q.elim
      | lnt _ => rw [e] at q; exact q.elim
      | mat _ => rw [e] at q; exact q.elim
      | dat d =>
        rw [e] at q
        obtain ⟨v, hv, h⟩ := r.r.sl i _ e
        exact ⟨v, hv, k d v I H q (.refl r.same) h⟩
theorem se_int {K : Fg} {n : Int} : SE K (tC (.int n)) (dC (.int n)) := fun _ _ _ I H _ _ r q k => k _ _ I H q (.refl r.same) (.int n)
theorem se_bl {K : Fg} {n : Bool} : SE K (tC (.bl n)) (dC (.bool n)) := fun _ _ _ I H _ _ r q k => k _ _ I H q (.refl r.same) (.bl n)
theorem se_non {K : Fg} : SE K (tC .non) (dC .none) := fun _ _ _ I H _ _ r q k => k _ _ I H q (.refl r.same) .non
theorem se_str {K : Fg} {x : Str} : SE K (tC (.str x)) (dC (.str x)) := fun _ _ _ I H _ _ r q k => k _ _ I H q (.refl r.same) (.str x)
/-! ### operators -/
def Sim1 (K : Fg) (r : V → Hp → VK → Prop) (r2 : R1D) : Prop := ∀ (I H : Hp) (x : V) (dx : D) (Q2 : D → Prop) (Q : VK), Same I H → Rp K I x dx → r2 dx Q2 →
  (∀ d v I' H', Q2 d → Gr none I H I' H' → Rp K I' v d → Q v H') → r x H Q
def Sim2 (K : Fg) (r : R2) (r2 : R2D) : Prop := ∀ (I H : Hp) (x y : V) (dx dy : D) (Q2 : D → Prop) (Q : VK), Same I H → Rp K I x dx → Rp K I y dy → r2 dx dy Q2 →
  (∀ d v I' H', Q2 d → Gr none I H I' H' → Rp K I' v d → Q v H') → r x y H Q
def SimC (K : Fg) (r : List V → Hp → VK → Prop) (r2 : RCD) : Prop := ∀ (I H : Hp) (vs : List V) (ds : List D) (Q2 : D → Prop) (Q : VK), Same I H → Rps K I vs ds → r2 ds Q2 →
  (∀ d v I' H', Q2 d → Gr none I H I' H' → Rp K I' v d → Q v H') → r vs H Q
/-- a call that hands back a new list -/
def SimCO (K : Fg) (r : List V → Hp → VK → Prop) (r2 : List D → (List D → Prop) → Prop) : Prop := ∀ (I H : Hp) (vs : List V) (ds : List D) (Q2 : List D → Prop) (Q : VK), Same I H → Rps K I vs ds → r2 ds Q2 →
  (∀ es a ws, Q2 es → H a = none → Rps K I ws es → Q (.ref a) (upd H a (.lst ws))) → r vs H Q
def Sim2O (K : Fg) (r : R2) (r2 : D → D → (List D → Prop) → Prop) : Prop := ∀ (I H : Hp) (x y : V) (dx dy : D) (Q2 : List D → Prop) (Q : VK), Same I H → Rp K I x dx → Rp K I y dy → r2 dx dy Q2 →
  (∀ es a ws, Q2 es → H a = none → Rps K I ws es → Q (.ref a) (upd H a (.lst ws))) → r x y H Q
def dOp (r : R2D) (a b : T2E) : T2E := fun env Q => a env fun x => b env fun y => r x y Q
def dOpO (r : D → D → (List D → Prop) → Prop) (a b : T2E) : T2A := fun env Q => a env fun x => b env fun y => r x y Q
def dUn (r : R1D) (a : T2E) : T2E := fun env Q => a env fun x => r x Q
def dCB (r : RCD) (a : T2A) : T2E := fun env Q => a env fun ds => r ds Q
def dCBO (r : List D → (List D → Prop) → Prop) (a : T2A) : T2A := fun env Q => a env fun ds => r ds Q
section
variable {K : Fg} {ta tb tc : TE} {a b c : T2E} {r : R2} {r2 : R2D}
theorem se_op (h : Sim2 K r r2) (ha : SE K ta a) (hb : SE K tb b) : SE K (tOp r ta tb) (dOp r2 a b) := by
  intro p env σ I H Q2 Q rl q k
  refine ha p env σ I H _ _ rl q fun d v I1 H1 q1 s1 h1 => ?_
  refine hb p env σ I1 H1 _ _ (rl.stp s1) q1 fun e w I3 H3 q3 s3 h3 => ?_
  exact h I3 H3 v w d e Q2 Q s3.ih (Rp.mono s3.ii d v h1) h3 q3 fun d' v' I' H' q' g r' => k d' v' I' H' q' ((s1.trans s3).trans (.of g)) r'
theorem se_un {r : V → Hp → VK → Prop} {r2 : R1D} (h : Sim1 K r r2) (ha : SE K ta a) : SE K (tUn r ta) (dUn r2 a) := by
  intro p env σ I H Q2 Q rl q k
  refine ha p env σ I H _ _ rl q fun d v I1 H1 q1 s1 h1 => ?_
  exact h I1 H1 v d Q2 Q s1.ih h1 q1 fun d' v' I' H' q' g r' => k d' v' I' H' q' (s1.trans (.of g)) r'
theorem se_cb {r : List V → Hp → VK → Prop} {r2 : RCD} {n : Nat} {t : TA} {u : T2A} (h : SimC K r r2) (ha : SA K n t u) : SE K (tCB r t) (dCB r2 u) := by
  intro p env σ I H Q2 Q rl q k
  refine ha p env σ I H _ _ rl q fun ds vs I1 H1 q1 hl s1 h1 => ?_
  exact h I1 H1 vs ds Q2 Q s1.ih h1 q1 fun d' v' I' H' q' g r' => k d' v' I' H' q' (s1.trans (.of g)) r'
theorem Stp.fresh {p : P0} {I H : Hp} {a : Addr} {o : HO} (e : Same I H) (h : H a = none) : Stp p I H I (upd H a o) := .of (Gr.fresh e h)
theorem so_cb {r : List V → Hp → VK → Prop} {r2 : List D → (List D → Prop) → Prop} {n : Nat} {t : TA} {u : T2A} (h : SimCO K r r2) (ha : SA K n t u) : SO K (tCB r t) (dCBO r2 u) := by
  intro p env σ I H Q2 Q rl q k
  refine ha p env σ I H _ _ rl q fun ds vs I1 H1 q1 hl s1 h1 => ?_
  refine h I1 H1 vs ds Q2 Q s1.ih h1 q1 fun es l ws q' h0 r' => ?_
  have hn : H l = none := by
    cases e : H l with
    | none => rfl
    | some o => exact absurd h0 (s1.gr.th l (by rw [e]; exact fun z => nomatch z))
  exact k es l ws I1 _ q' (s1.trans (Stp.fresh s1.ih h0)) hn (Same.free s1.ih h0) upd_same r'
/-! arguments, displays -/
def dNil : T2A := fun _ Q => Q []
def dCons (a : T2E) (t : T2A) : T2A := fun env Q => a env fun x => t env fun xs => Q (x :: xs)
theorem sa_nil : SA K 0 tNil dNil := fun _ _ _ I H _ _ r q k => k _ _ I H q rfl (.refl r.same) .nil
theorem sa_cons {n : Nat} {t : TA} {u : T2A} (ha : SE K ta a) (ht : SA K n t u) : SA K (n + 1) (tCons ta t) (dCons a u) := by
  intro p env σ I H Q2 Q rl q k
  refine ha p env σ I H _ _ rl q fun d v I1 H1 q1 s1 h1 => ?_
  refine ht p env σ I1 H1 _ _ (rl.stp s1) q1 fun ds vs I3 H3 q3 hl s3 h3 => ?_
  exact k _ _ I3 H3 q3 (by rw [List.length_cons, hl]) (s1.trans s3) (.cons (Rp.mono s3.ii d v h1) h3)
def dTup (t : T2A) : T2E := fun env Q => t env fun ds => Q (.tuple ds)
theorem le_line {n : Nat} (h : n ≤ 1000000) : n ≤ sizeLine := Nat.le_trans h (by decide)
theorem lt_line {n : Nat} (h : n < 1000000) : n < sizeLine := Nat.lt_of_lt_of_le h (by decide)
theorem se_tup {n : Nat} {t : TA} {u : T2A} (ht : SA K n t u) (hn : n ≤ 1000000 := by decide) : SE K (tTup t) (dTup u) := by
  intro p env σ I H Q2 Q rl q k
  refine ht p env σ I H _ _ rl q fun ds vs I1 H1 q1 hl s1 h1 => ⟨le_line (by rw [hl]; exact hn), fun l h0 => ?_⟩
  have g := Gr.new (m := none) (o := .tup vs) s1.ih h0
  exact k _ _ _ _ q1 (s1.trans (.of g)) (.tup (SqT.of upd_same) (Rps.mono g.ii ds vs h1))
theorem so_lst {n : Nat} {t : TA} {u : T2A} (ht : SA K n t u) (hn : n ≤ 1000000 := by decide) : SO K (tLst t) u := by
  intro p env σ I H Q2 Q rl q k
  refine ht p env σ I H _ _ rl q fun ds vs I1 H1 q1 hl s1 h1 => ⟨le_line (by rw [hl]; exact hn), fun l h0 => ?_⟩
  have hn : H l = none := by
    cases e : H l with
    | none => rfl
    | some o => exact absurd h0 (s1.gr.th l (by rw [e]; exact fun z => nomatch z))
  exact k ds l vs I1 _ q1 (s1.trans (Stp.fresh s1.ih h0)) hn (Same.free s1.ih h0) upd_same h1
/-! tests -/
def dB (a : T2E) : T2T := fun env Q => a env fun d => match d with | .bool b => Q b | _ => False
theorem st_test (ha : SE K ta a) : ST K (tTest ta) (dB a) := by
  intro p env σ I H Q2 Q rl q k
  refine ha p env σ I H _ _ rl q fun d v I1 H1 q1 s1 h1 => ?_
  cases d <;> first | exact q1.elim | skip
  cases h1
  exact ⟨_, rfl, k _ _ _ q1 s1⟩
variable {t u : TT} {t2 u2 : T2T}
def dAnd (t u : T2T) : T2T := fun env Q => t env fun c => if c = true then u env Q else Q false
def dOr (t u : T2T) : T2T := fun env Q => t env fun c => if c = true then Q true else u env Q
def dNot (t : T2T) : T2T := fun env Q => t env fun c => Q (!c)
theorem st_and (h1 : ST K t t2) (h2 : ST K u u2) : ST K (tAnd t u) (dAnd t2 u2) := by
  intro p env σ I H Q2 Q rl q k
  refine h1 p env σ I H _ _ rl q fun c I1 H1 q1 s1 => ?_
  cases c with
  | true =>
    rw [if_pos rfl] at q1 ⊢
    exact h2 p env σ I1 H1 _ _ (rl.stp s1) q1 fun c I2 H2 q2 s2 => k c I2 H2 q2 (s1.trans s2)
  | false =>
    rw [if_neg Bool.false_ne_true] at q1 ⊢
    exact k _ _ _ q1 s1
theorem st_or (h1 : ST K t t2) (h2 : ST K u u2) : ST K (tOr t u) (dOr t2 u2) := by
  intro p env σ I H Q2 Q rl q k
  refine h1 p env σ I H _ _ rl q fun c I1 H1 q1 s1 => ?_
  cases c with
  | false =>
    rw [if_neg Bool.false_ne_true] at q1 ⊢
    exact h2 p env σ I1 H1 _ _ (rl.stp s1) q1 fun c I2 H2 q2 s2 => k c I2 H2 q2 (s1.trans s2)
  | true =>
    rw [if_pos rfl] at q1 ⊢
    exact k _ _ _ q1 s1
theorem st_not (h1 : ST K t t2) : ST K (tNot t) (dNot t2) := by
  intro p env σ I H Q2 Q rl q k
  exact h1 p env σ I H _ _ rl q fun c I1 H1 q1 s1 => k _ _ _ q1 s1
theorem st_yes : ST K tYes (fun _ Q => Q true) := fun _ _ _ I H _ _ r q k => k _ I H q (.refl r.same)
/-- and, or, not as values -/
def dAndV (a b : T2E) : T2E := fun env Q => a env fun d => match d with | .bool c => if c = true then b env Q else Q (.bool false) | _ => False
def dOrV (a b : T2E) : T2E := fun env Q => a env fun d => match d with | .bool c => if c = true then Q (.bool true) else b env Q | _ => False
def dNotV (a : T2E) : T2E := fun env Q => a env fun d => match d with | .bool c => Q (.bool (!c)) | _ => False
theorem se_and (ha : SE K ta a) (hb : SE K tb b) : SE K (tAndV ta tb) (dAndV a b) := by
  intro p env σ I H Q2 Q rl q k
  refine ha p env σ I H _ _ rl q fun d v I1 H1 q1 s1 h1 => ?_
  cases d <;> first | exact q1.elim | skip
  rename_i c
  cases h1
  refine ⟨c, rfl, ?_⟩
  cases c with
  | true =>
    dsimp only at q1
    rw [if_pos rfl] at q1 ⊢
    exact hb p env σ I1 H1 _ _ (rl.stp s1) q1 fun d v I2 H2 q2 s2 h2 => k d v I2 H2 q2 (s1.trans s2) h2
  | false =>
    dsimp only at q1
    rw [if_neg Bool.false_ne_true] at q1 ⊢
    exact k _ _ _ _ q1 s1 (.bl _)
theorem se_or (ha : SE K ta a) (hb : SE K tb b) : SE K (tOrV ta tb) (dOrV a b) := by
  intro p env σ I H Q2 Q rl q k
  refine ha p env σ I H _ _ rl q fun d v I1 H1 q1 s1 h1 => ?_
  cases d <;> first | exact q1.elim | skip
  rename_i c
  cases h1
  refine ⟨c, rfl, ?_⟩
  cases c with
  | false =>
    dsimp only at q1
    rw [if_neg Bool.false_ne_true] at q1 ⊢
    exact hb p env σ I1 H1 _ _ (rl.stp s1) q1 fun d v I2 H2 q2 s2 h2 => k d v I2 H2 q2 (s1.trans s2) h2
  | true =>
    dsimp only at q1
    rw [if_pos rfl] at q1 ⊢
    exact k _ _ _ _ q1 s1 (.bl _)
theorem se_not (ha : SE K ta a) : SE K (tNotV ta) (dNotV a) := by
  intro p env σ I H Q2 Q rl q k
  refine ha p env σ I H _ _ rl q fun d v I1 H1 q1 s1 h1 => ?_
  cases d <;> first | exact q1.elim | skip
  rename_i c
  cases h1
  exact ⟨c, rfl, k _ _ _ _ q1 s1 (.bl _)⟩
def dIf (t : T2T) (a b : T2E) : T2E := fun env Q => t env fun c => if c = true then a env Q else b env Q
theorem se_if (h1 : ST K t t2) (ha : SE K ta a) (hb : SE K tb b) : SE K (tIf t ta tb) (dIf t2 a b) := by
  intro p env σ I H Q2 Q rl q k
  refine h1 p env σ I H _ _ rl q fun c I1 H1 q1 s1 => ?_
  cases c with
  | true =>
    rw [if_pos rfl] at q1 ⊢
    exact ha p env σ I1 H1 _ _ (rl.stp s1) q1 fun d v I2 H2 q2 s2 h2 => k d v I2 H2 q2 (s1.trans s2) h2
  | false =>
    rw [if_neg Bool.false_ne_true] at q1 ⊢
    exact hb p env σ I1 H1 _ _ (rl.stp s1) q1 fun d v I2 H2 q2 s2 h2 => k d v I2 H2 q2 (s1.trans s2) h2
def dChain (r r' : R2D) (a b c : T2E) : T2E := fun env Q => a env fun x => b env fun y => r x y fun z => match z with | .bool k => if k = true then c env fun w => r' y w Q else Q (.bool false) | _ => False
theorem se_chain {r' : R2} {r2' : R2D} (h : Sim2 K r r2) (h' : Sim2 K r' r2') (ha : SE K ta a) (hb : SE K tb b) (hc : SE K tc c) : SE K (tChain r r' ta tb tc) (dChain r2 r2' a b c) := by
  intro p env σ I H Q2 Q rl q k
  refine ha p env σ I H _ _ rl q fun d v I1 H1 q1 s1 h1 => ?_
  refine hb p env σ I1 H1 _ _ (rl.stp s1) q1 fun e w I3 H3 q3 s3 h3 => ?_
  refine h I3 H3 v w d e _ _ s3.ih (Rp.mono s3.ii d v h1) h3 q3 fun z zv I4 H4 q4 g4 r4 => ?_
  cases z <;> first | exact q4.elim | skip
  rename_i c
  cases r4
  have s4 := (s1.trans s3).trans (Stp.of g4)
  refine ⟨c, rfl, ?_⟩
  cases c with
  | false =>
    dsimp only at q4
    rw [if_neg Bool.false_ne_true] at q4 ⊢
    exact k _ _ _ _ q4 s4 (.bl _)
  | true =>
    dsimp only at q4
    rw [if_pos rfl] at q4 ⊢
    refine hc p env σ I4 H4 _ _ (rl.stp s4) q4 fun f u I5 H5 q5 s5 h5 => ?_
    exact h' I5 H5 w u e f Q2 Q s5.ih (Rp.mono (g4.ii.trans s5.ii) e w h3) h5 q5 fun d' v' I' H' q' g r' => k d' v' I' H' q' ((s4.trans s5).trans (.of g)) r'
end
/-! ### the operators by values -/
section
variable {K : Fg}
def d2I (g : Int → Int → D) : R2D := fun x y Q => match x, y with | .int i, .int j => Q (g i j) | _, _ => False
def d2IC (C : Int → Int → Prop) (g : Int → Int → D) : R2D := fun x y Q => match x, y with | .int i, .int j => C i j ∧ Q (g i j) | _, _ => False
theorem s2_int {g : Int → Int → Int} : Sim2 K (rI0 fun i j => .int (g i j)) (d2I fun i j => .int (g i j)) := by
  intro I H x y dx dy Q2 Q e hx hy q k
  unfold d2I at q
  split at q
  · cases hx; cases hy; exact ⟨_, _, rfl, rfl, k _ _ I H q (.refl e) (.int _)⟩
  · exact q.elim
theorem s2_bool {g : Int → Int → Bool} : Sim2 K (rI0 fun i j => .bl (g i j)) (d2I fun i j => .bool (g i j)) := by
  intro I H x y dx dy Q2 Q e hx hy q k
  unfold d2I at q
  split at q
  · cases hx; cases hy; exact ⟨_, _, rfl, rfl, k _ _ I H q (.refl e) (.bl _)⟩
  · exact q.elim
theorem s2_intC {C : Int → Int → Prop} {g : Int → Int → Int} : Sim2 K (rI C fun i j => .int (g i j)) (d2IC C fun i j => .int (g i j)) := by
  intro I H x y dx dy Q2 Q e hx hy q k
  unfold d2IC at q
  split at q
  · cases hx; cases hy; exact ⟨_, _, rfl, rfl, q.1, k _ _ I H q.2 (.refl e) (.int _)⟩
  · exact q.elim
theorem Rps.nil_iff {I : Hp} {vs : List V} {ds : List D} (h : Rps K I vs ds) : vs = [] ↔ ds = [] := by
  cases h with
  | nil => simp
  | cons _ _ => simp
/-- t + u of tuples -/
def dCatT : R2D := fun x y Q => match x, y with | .tuple xs, .tuple ys => xs.length + ys.length ≤ 1000000 ∧ Q (.tuple (xs ++ ys)) | _, _ => False
theorem s2_catT : Sim2 K (rCatA K) dCatT := by
  intro I H x y dx dy Q2 Q e hx hy q k
  unfold dCatT at q
  split at q
  · obtain ⟨hl, q⟩ := q
    cases hx with
    | tup h1 h2 =>
      cases hy with
      | tup h3 h4 =>
        rename_i a vs b ws
        refine ⟨a, b, vs, ws, rfl, rfl, Same.sqt e h1, Same.sqt e h3, le_line (by rw [h2.length, h4.length]; exact hl), fun z => ?_, fun z z2 => ?_, fun z z2 l h0 => ?_⟩
        · subst z
          cases h2
          exact k _ _ I H q (.refl e) (.tup h3 h4)
        · subst z2
          cases h4
          rw [List.append_nil] at q
          exact k _ _ I H q (.refl e) (.tup h1 h2)
        · have g := Gr.new (m := none) (o := .tup (vs ++ ws)) e h0
          exact k _ _ _ _ q g (.tup (SqT.of upd_same) (Rps.append (Rps.mono g.ii _ _ h2) (Rps.mono g.ii _ _ h4)))
  · exact q.elim
/-- xs + ys of lists -/
def dCatL : D → D → (List D → Prop) → Prop := fun x y Q => match x, y with | .list xs, .list ys => xs.length + ys.length ≤ 1000000 ∧ Q (xs ++ ys) | _, _ => False
theorem s2_catL : Sim2O K rCat dCatL := by
  intro I H x y dx dy Q2 Q e hx hy q k
  unfold dCatL at q
  split at q
  · obtain ⟨hl, q⟩ := q
    cases hx with
    | lst h1 h2 =>
      cases hy with
      | lst h3 h4 =>
        rename_i a vs b ws
        exact ⟨a, b, vs, ws, rfl, rfl, e _ _ h1, e _ _ h3, le_line (by rw [h2.length, h4.length]; exact hl), fun l h0 => k _ l _ q h0 (Rps.append h2 h4)⟩
  · exact q.elim
/-- xs * n of lists -/
def dRepL : D → D → (List D → Prop) → Prop := fun x y Q => match x, y with | .list xs, .int n => -1000000 ≤ n ∧ n ≤ 1000000 ∧ xs.length * n.toNat ≤ 1000000 ∧ Q (List.replicate n.toNat xs).flatten | _, _ => False
theorem s2_repL : Sim2O K rRep dRepL := by
  intro I H x y dx dy Q2 Q e hx hy q k
  unfold dRepL at q
  split at q
  · obtain ⟨n1, n2, hl, q⟩ := q
    cases hx with
    | lst h1 h2 =>
      cases hy
      rename_i a vs
      exact ⟨a, _, vs, rfl, rfl, e _ _ h1, by omega, by omega, le_line (by rw [h2.length]; exact hl), fun l h0 => k _ l _ q h0 (Rps.rep h2 _)⟩
  · exact q.elim
/-- t * n of tuples -/
def dRepT : R2D := fun x y Q => match x, y with | .tuple xs, .int n => xs ≠ [] ∧ 2 ≤ n ∧ n ≤ 1000 ∧ xs.length ≤ 1000 ∧ Q (.tuple (List.replicate n.toNat xs).flatten) | _, _ => False
theorem s2_repT : Sim2 K (rRepT K) dRepT := by
  intro I H x y dx dy Q2 Q e hx hy q k
  unfold dRepT at q
  split at q
  · obtain ⟨hn, n1, n2, hl, q⟩ := q
    cases hx with
    | tup h1 h2 =>
      cases hy
      rename_i a vs
      refine ⟨a, _, vs, rfl, rfl, Same.sqt e h1, fun z => hn ((Rps.nil_iff h2).mp z), n1, n2, by rw [h2.length]; exact hl, fun l h0 => ?_⟩
      exact k _ _ _ _ q (Gr.new e h0) (.tup (SqT.of upd_same) (Rps.rep (Rps.mono (Gr.new (m := none) e h0).ii _ _ h2) _))
  · exact q.elim
/-- == and != -/
def dEq : R2D := fun x y Q => SeqAt.shaped x = true ∧ SeqAt.shaped y = true ∧ Q (.bool (PyData.eqv x y))
def dNe : R2D := fun x y Q => SeqAt.shaped x = true ∧ SeqAt.shaped y = true ∧ Q (.bool (!PyData.eqv x y))
theorem s2_eq : Sim2 K (rEqD K) dEq := fun I H x y dx dy Q2 Q e hx hy q k => ⟨dx, dy, Rp.dp e dx x (SeqAt.canLay_of_shaped q.1) hx, Rp.dp e dy y (SeqAt.canLay_of_shaped q.2.1) hy, q.1, q.2.1, k _ _ I H q.2.2 (.refl e) (.bl _)⟩
theorem s2_ne : Sim2 K (rNeD K) dNe := fun I H x y dx dy Q2 Q e hx hy q k => ⟨dx, dy, Rp.dp e dx x (SeqAt.canLay_of_shaped q.1) hx, Rp.dp e dy y (SeqAt.canLay_of_shaped q.2.1) hy, q.1, q.2.1, k _ _ I H q.2.2 (.refl e) (.bl _)⟩
/-- is None -/
def isNone : D → Bool | .none => true | _ => false
theorem Rp.isNone {I : Hp} {v : V} {d : D} (h : Rp K I v d) : decide (v = V.non) = isNone d := by
  cases h with
  | non => exact decide_eq_true rfl
  | bl _ => exact decide_eq_false (fun q => nomatch q)
  | int _ => exact decide_eq_false (fun q => nomatch q)
  | str _ => exact decide_eq_false (fun q => nomatch q)
  | lst _ _ => exact decide_eq_false (fun q => nomatch q)
  | tup _ _ => exact decide_eq_false (fun q => nomatch q)
  | dic _ _ => exact decide_eq_false (fun q => nomatch q)
def dIsN : R2D := fun x y Q => match y with | .none => Q (.bool (isNone x)) | _ => False
def dNotN : R2D := fun x y Q => match y with | .none => Q (.bool (!isNone x)) | _ => False
theorem s2_isN : Sim2 K (fun x y H Q => y = .non ∧ Q (.bl (decide (x = .non))) H) dIsN := by
  intro I H x y dx dy Q2 Q e hx hy q k
  unfold dIsN at q
  split at q
  · cases hy
    refine ⟨rfl, ?_⟩
    rw [Rp.isNone hx]
    exact k _ _ I H q (.refl e) (.bl _)
  · exact q.elim
theorem s2_notN : Sim2 K (fun x y H Q => y = .non ∧ Q (.bl (!decide (x = .non))) H) dNotN := by
  intro I H x y dx dy Q2 Q e hx hy q k
  unfold dNotN at q
  split at q
  · cases hy
    refine ⟨rfl, ?_⟩
    rw [Rp.isNone hx]
    exact k _ _ I H q (.refl e) (.bl _)
  · exact q.elim
/-- is of bools -/
def dIsB : R2D := fun x y Q => match x, y with | .bool a, .bool b => Q (.bool (decide (a = b))) | _, _ => False
/-- x in xs, flat things -/
def flatD : D → Bool | .none => true | .bool _ => true | .int _ => true | .str _ => true | _ => false
theorem Rp.flat {I : Hp} {v : V} {d : D} (h : Rp K I v d) (f : flatD d = true) : flatV v = true := by
  cases h <;> first | rfl | exact nomatch f
theorem Rps.flat {I : Hp} : ∀ {vs : List V} {ds : List D}, Rps K I vs ds → ds.all flatD = true → vs.all flatV = true
  | _, _, .nil, _ => rfl
  | _, _, .cons r t, f => by
    rw [List.all_cons, Bool.and_eq_true] at f ⊢
    exact ⟨Rp.flat r f.1, Rps.flat t f.2⟩
def seqOf : D → Option (List D) | .list xs => some xs | .tuple xs => some xs | _ => none
theorem Rp.seq {I H : Hp} {v : V} {d : D} {ds : List D} (e : Same I H) (h : Rp K I v d) (q : seqOf d = some ds) : ∃ a vs, v = .ref a ∧ (SqL K H a vs ∨ SqT K H a vs) ∧ Rps K I vs ds := by
  cases h with
  | lst h1 h2 => cases q; exact ⟨_, _, rfl, .inl (SqL.of (e _ _ h1)), h2⟩
  | tup h1 h2 => cases q; exact ⟨_, _, rfl, .inr (Same.sqt e h1), h2⟩
  | _ => cases q
/-- x in xs -/
theorem eqV_of {I : Hp} {v w : V} {d e : D} (h : Rp K I v d) (h2 : Rp K I w e) (f : flatD d = true) (f2 : flatD e = true) : eqV v w = PyData.eqv d e := by
  cases h <;> cases h2 <;> first | rfl | exact nomatch f | exact nomatch f2
theorem any_of {I : Hp} {w : V} {e : D} (h2 : Rp K I w e) (f2 : flatD e = true) : ∀ {vs : List V} {ds : List D}, Rps K I vs ds → ds.all flatD = true → inV w vs = ds.any fun d => PyData.eqv d e
  | _, _, .nil, _ => rfl
  | v :: vs, d :: ds, .cons r t, f => by
    rw [List.all_cons, Bool.and_eq_true] at f
    have q := any_of h2 f2 t f.2
    unfold inV at q ⊢
    rw [List.any_cons, List.any_cons, q, eqV_of r h2 f.1 f2]
def dIn (neg : Bool) : R2D := fun x y Q => match seqOf y with | some ds => flatD x = true ∧ ds.all flatD = true ∧ Q (.bool (if neg then !(ds.any fun d => PyData.eqv d x) else ds.any fun d => PyData.eqv d x)) | none => False
theorem s2_in {neg : Bool} : Sim2 K (rIn K neg) (dIn neg) := by
  intro I H x y dx dy Q2 Q e hx hy q k
  unfold dIn at q
  split at q
  · rename_i ds e2
    obtain ⟨f1, f2, q⟩ := q
    obtain ⟨a, vs, rfl, h1, h2⟩ := Rp.seq e hy e2
    refine ⟨a, vs, rfl, h1, Rp.flat hx f1, Rps.flat h2 f2, ?_⟩
    rw [any_of hx f1 h2 f2]
    exact k _ _ I H q (.refl e) (.bl _)
  · exact q.elim
/-! ### subscripts, slices -/
def dIx : R2D := fun x y Q => match y with
  | .int i => (match seqOf x with | some ds => (match atI ds i with | some d => Q d | none => False) | none => False)
  | _ => False
theorem atI_rp {I : Hp} {vs : List V} {ds : List D} {i : Int} {d : D} (h : Rps K I vs ds) (e : atI ds i = some d) : ∃ v, atI vs i = some v ∧ Rp K I v d := by
  unfold atI at e ⊢
  rw [h.length]
  cases q : ixN ds.length i with
  | none => rw [q] at e; cases e
  | some j =>
    rw [q] at e
    exact h.got e
theorem s2_ix : Sim2 K (rIx K) dIx := by
  intro I H x y dx dy Q2 Q e hx hy q k
  unfold dIx at q
  split at q
  · rename_i i
    split at q
    · rename_i ds e2
      split at q
      · rename_i d e3
        obtain ⟨a, vs, rfl, h1, h2⟩ := Rp.seq e hx e2
        obtain ⟨v, h3, h4⟩ := atI_rp h2 e3
        cases hy
        rcases h1 with h1 | h1
        · exact .inl ⟨a, vs, i, v, rfl, rfl, h1, h3, k _ _ I H q (.refl e) h4⟩
        · exact .inr (.inl ⟨a, vs, i, v, rfl, rfl, h1, h3, k _ _ I H q (.refl e) h4⟩)
      · exact q.elim
    · exact q.elim
  · exact q.elim
def cutD (ds : List D) (lo hi : Option Int) : List D := (ds.drop (HT.sIx ds.length 0 lo)).take (HT.sIx ds.length ds.length hi - HT.sIx ds.length 0 lo)
theorem Rps.cut {I : Hp} {vs : List V} {ds : List D} (h : Rps K I vs ds) (lo hi : Option Int) : Rps K I (cutV vs lo hi) (cutD ds lo hi) := by
  unfold cutV cutD
  rw [h.length]
  exact (h.drop _).take _
abbrev T2O := Ev → (Option Int → Prop) → Prop
def SOp (K : Fg) (to : TO) (t : T2O) : Prop := ∀ (p : P0) (env : Ev) (σ : L2.St) (I H : Hp) (Q2 : Option Int → Prop) (Q : Option Int → Hp → Prop), RelL K p env σ I H → t env Q2 →
  (∀ o I' H', Q2 o → Stp p I H I' H' → Q o H') → to σ H Q
def dNoPart : T2O := fun _ Q => Q none
def dPart (a : T2E) : T2O := fun env Q => a env fun d => match d with | .int i => Q (some i) | _ => False
/-- t[lo:hi] of a tuple -/
def dSlT (a : T2E) (l u : T2O) : T2E := fun env Q => a env fun x => l env fun lo => u env fun hi => match x with | .tuple ds => Q (.tuple (cutD ds lo hi)) | _ => False
/-- xs[lo:hi] of a list -/
def dSlL (a : T2E) (l u : T2O) : T2A := fun env Q => a env fun x => l env fun lo => u env fun hi => match x with | .list ds => Q (cutD ds lo hi) | _ => False
/-! ### built-in calls -/
def dLen : RCD := fun ds Q => match ds with | [x] => (match seqOf x with | some xs => Q (.int xs.length) | none => False) | _ => False
theorem Rps.one {I : Hp} {vs : List V} {d : D} (h : Rps K I vs [d]) : ∃ v, vs = [v] ∧ Rp K I v d := by
  cases h with
  | cons h1 h2 => cases h2; exact ⟨_, rfl, h1⟩
theorem Rps.two {I : Hp} {vs : List V} {d e : D} (h : Rps K I vs [d, e]) : ∃ v w, vs = [v, w] ∧ Rp K I v d ∧ Rp K I w e := by
  cases h with
  | cons h1 h2 =>
    obtain ⟨w, rfl, h3⟩ := h2.one
    exact ⟨_, _, rfl, h1, h3⟩
theorem sc_len : SimC K (fun xs H Q => ∃ p ys, xs = [.ref p] ∧ (SqL K H p ys ∨ SqT K H p ys) ∧ Q (.int ys.length) H) dLen := by
  intro I H vs ds Q2 Q e h q k
  unfold dLen at q
  split at q
  · rename_i x
    split at q
    · rename_i xs e2
      obtain ⟨v, rfl, h1⟩ := h.one
      obtain ⟨a, ws, rfl, h2, h3⟩ := Rp.seq e h1 e2
      refine ⟨a, ws, rfl, h2, ?_⟩
      rw [h3.length]
      exact k _ _ I H q (.refl e) (.int _)
    · exact q.elim
  · exact q.elim
/-- tuple(xs) -/
def dTupOf : RCD := fun ds Q => match ds with | [x] => (match seqOf x with | some xs => Q (.tuple xs) | none => False) | _ => False
theorem sc_tuple : SimC K (fun xs H Q => ∃ p ys, xs = [.ref p] ∧ ((SqL K H p ys ∧ ∀ l, H l = none → Q (.ref l) (upd H l (.tup ys))) ∨ (SqT K H p ys ∧ Q (.ref p) H))) dTupOf := by
  intro I H vs ds Q2 Q e h q k
  unfold dTupOf at q
  split at q
  · rename_i x
    split at q
    · rename_i xs e2
      obtain ⟨v, rfl, h1⟩ := h.one
      cases h1 with
      | lst e3 e4 =>
        rename_i a ws ds
        cases e2
        refine ⟨a, ws, rfl, .inl ⟨SqL.of (e _ _ e3), fun l h0 => ?_⟩⟩
        have g := Gr.new (m := none) (o := .tup ws) e h0
        exact k _ _ _ _ q g (.tup (SqT.of upd_same) (Rps.mono g.ii _ _ e4))
      | tup e3 e4 =>
        rename_i a ws ds
        cases e2
        exact ⟨a, ws, rfl, .inr ⟨Same.sqt e e3, k _ _ I H q (.refl e) (.tup e3 e4)⟩⟩
      | _ => cases e2
    · exact q.elim
  · exact q.elim
/-- list(xs) -/
def dListOf : List D → (List D → Prop) → Prop := fun ds Q => match ds with | [x] => (match seqOf x with | some xs => Q xs | none => False) | _ => False
theorem sc_list : SimCO K (fun xs H Q => ∃ p ys, xs = [.ref p] ∧ (SqL K H p ys ∨ SqT K H p ys) ∧ ∀ l, H l = none → Q (.ref l) (upd H l (.lst ys))) dListOf := by
  intro I H vs ds Q2 Q e h q k
  unfold dListOf at q
  split at q
  · rename_i x
    split at q
    · rename_i xs e2
      obtain ⟨v, rfl, h1⟩ := h.one
      obtain ⟨a, ws, rfl, h2, h3⟩ := Rp.seq e h1 e2
      exact ⟨a, ws, rfl, h2, fun l h0 => k _ l _ q h0 h3⟩
    · exact q.elim
  · exact q.elim
def dInt1 (g : Int → D) : RCD := fun ds Q => match ds with | [.int i] => Q (g i) | _ => False
def dIntOf : RCD := fun ds Q => match ds with | [.int i] => Q (.int i) | [.bool b] => Q (.int (if b then 1 else 0)) | _ => False
theorem sc_int : SimC K (fun xs H Q => (∃ i, xs = [.int i] ∧ Q (.int i) H) ∨ ∃ k, xs = [.bl k] ∧ Q (.int (if k then 1 else 0)) H) dIntOf := by
  intro I H vs ds Q2 Q e h q k
  unfold dIntOf at q
  split at q
  · obtain ⟨v, rfl, h1⟩ := h.one
    cases h1
    exact .inl ⟨_, rfl, k _ _ I H q (.refl e) (.int _)⟩
  · obtain ⟨v, rfl, h1⟩ := h.one
    cases h1
    exact .inr ⟨_, rfl, k _ _ I H q (.refl e) (.int _)⟩
  · exact q.elim
def dInt2 (g : Int → Int → Int) : RCD := fun ds Q => match ds with | [.int i, .int j] => Q (.int (g i j)) | _ => False
theorem sc_max2 : SimC K (fun xs H Q => ∃ i j, xs = [.int i, .int j] ∧ Q (.int (if j > i then j else i)) H) (dInt2 fun i j => if j > i then j else i) := by
  intro I H vs ds Q2 Q e h q k
  unfold dInt2 at q
  split at q
  · obtain ⟨v, w, rfl, h1, h2⟩ := h.two
    cases h1; cases h2
    exact ⟨_, _, rfl, k _ _ I H q (.refl e) (.int _)⟩
  · exact q.elim
theorem sc_min2 : SimC K (fun xs H Q => ∃ i j, xs = [.int i, .int j] ∧ Q (.int (if j < i then j else i)) H) (dInt2 fun i j => if j < i then j else i) := by
  intro I H vs ds Q2 Q e h q k
  unfold dInt2 at q
  split at q
  · obtain ⟨v, w, rfl, h1, h2⟩ := h.two
    cases h1; cases h2
    exact ⟨_, _, rfl, k _ _ I H q (.refl e) (.int _)⟩
  · exact q.elim
/-- a text of an int: whatever it is, it is a text -/
def dStrOf : RCD := fun ds Q => match ds with | [.int i] => i.natAbs.log2 < 1920 ∧ Q (.str (toString i : Str)) | _ => False
def allBool : List D → Option (List Bool)
  | [] => some []
  | .bool b :: ds => (allBool ds).map (b :: ·)
  | _ :: _ => none
def allInt : List D → Option (List Int)
  | [] => some []
  | .int b :: ds => (allInt ds).map (b :: ·)
  | _ :: _ => none
theorem allBool_of : ∀ {ds : List D} {bs : List Bool}, allBool ds = some bs → ds = bs.map PyData.bool
  | [], _, h => by cases h; rfl
  | .bool b :: ds, bs, h => by
    unfold allBool at h
    cases e : allBool ds with
    | none => rw [e] at h; cases h
    | some cs =>
      rw [e] at h
      cases h
      rw [allBool_of e]; rfl
  | .none :: _, _, h => by cases h
  | .int _ :: _, _, h => by cases h
  | .str _ :: _, _, h => by cases h
  | .list _ :: _, _, h => by cases h
  | .tuple _ :: _, _, h => by cases h
  | .dict _ :: _, _, h => by cases h
theorem allInt_of : ∀ {ds : List D} {bs : List Int}, allInt ds = some bs → ds = bs.map PyData.int
  | [], _, h => by cases h; rfl
  | .int b :: ds, bs, h => by
    unfold allInt at h
    cases e : allInt ds with
    | none => rw [e] at h; cases h
    | some cs =>
      rw [e] at h
      cases h
      rw [allInt_of e]; rfl
  | .none :: _, _, h => by cases h
  | .bool _ :: _, _, h => by cases h
  | .str _ :: _, _, h => by cases h
  | .list _ :: _, _, h => by cases h
  | .tuple _ :: _, _, h => by cases h
  | .dict _ :: _, _, h => by cases h
def dBools (g : List Bool → Bool) : RCD := fun ds Q => match ds with | [.list xs] => (match allBool xs with | some bs => Q (.bool (g bs)) | none => False) | _ => False
theorem sc_all : SimC K (rAll K) (dBools fun bs => bs.all id) := by
  intro I H vs ds Q2 Q e h q k
  unfold dBools at q
  split at q
  · split at q
    · rename_i xs bs e2
      obtain ⟨v, rfl, h1⟩ := h.one
      cases h1 with
      | lst h3 h4 =>
        rename_i a ws
        have z := allBool_of e2
        subst z
        have z := h4.bools
        subst z
        exact ⟨a, bs, rfl, SqL.of (e _ _ h3), k _ _ I H q (.refl e) (.bl _)⟩
    · exact q.elim
  · exact q.elim
theorem sc_any : SimC K (rAny K) (dBools fun bs => bs.any id) := by
  intro I H vs ds Q2 Q e h q k
  unfold dBools at q
  split at q
  · split at q
    · rename_i xs bs e2
      obtain ⟨v, rfl, h1⟩ := h.one
      cases h1 with
      | lst h3 h4 =>
        rename_i a ws
        have z := allBool_of e2
        subst z
        have z := h4.bools
        subst z
        exact ⟨a, bs, rfl, SqL.of (e _ _ h3), k _ _ I H q (.refl e) (.bl _)⟩
    · exact q.elim
  · exact q.elim
def dSum : RCD := fun ds Q => match ds with | [.list xs] => (match allInt xs with | some bs => Q (.int bs.sum) | none => False) | _ => False
/-- sorted(xs) of ints -/
def dSorted : List D → (List D → Prop) → Prop := fun ds Q => match ds with
  | [.list xs] => (match allInt xs with | some ns => ns.length < 64 ∧ ∀ ns' : List Int, ns'.Perm ns → ns'.Pairwise (· ≤ ·) → Q (ns'.map PyData.int) | none => False) | _ => False
theorem sc_sorted : SimCO K (rSorted K) dSorted := by
  intro I H vs ds Q2 Q e h q k
  unfold dSorted at q
  split at q
  · split at q
    · rename_i xs bs e2
      obtain ⟨v, rfl, h1⟩ := h.one
      cases h1 with
      | lst h3 h4 =>
        rename_i a ws
        have z := allInt_of e2
        subst z
        have z := h4.ints
        subst z
        exact ⟨a, bs, rfl, SqL.of (e _ _ h3), q.1, fun ns' l hp hw h0 => k _ l _ (q.2 ns' hp hw) h0 (Rps.ofInts _)⟩
    · exact q.elim
  · exact q.elim
/-! ### isinstance -/
def tyD : D → String
  | .none => "NoneType" | .bool _ => "bool" | .int _ => "int" | .str _ => "str" | .list _ => "list" | .tuple _ => "tuple" | .dict _ => "dict"
theorem Rp.ty {I H : Hp} {v : V} {d : D} (e : Same I H) (h : Rp K I v d) : TyX K H v (.type (tyD d)) ∨ (tyD d = "dict" ∧ ∃ a w xs, v = .ref a ∧ H a = some (dctO w a xs)) := by
  cases h with
  | non => exact .inl (.base .non)
  | bl b => exact .inl (.base (.bl b))
  | int b => exact .inl (.base (.int b))
  | str b => exact .inl (.base (.str b))
  | lst h1 h2 => exact .inl (.base (.lst (e _ _ h1)))
  | tup h1 h2 =>
    rcases Same.sqt e h1 with (h | ⟨o, h⟩) | ⟨o, its, n, hk, hc, _⟩
    · exact .inl (.base (.tup h))
    · exact .inl (.fTuple h)
    · exact .inl (.kTuple hk hc)
  | dic h1 h2 => exact .inr ⟨rfl, _, _, _, rfl, e _ _ h1⟩
end
/-- isinstance, also of a dict of one's own -/
def rIsi2 (K : Fg) : List V → Hp → VK → Prop := fun xs H Q => rIsi K xs H Q ∨ ∃ (a : Addr) (w : World) (ys : List (List Key × Addr × Value)) (c : V) (u : Value) (b : Bool), xs = [.ref a, c] ∧ ClsV c u ∧ H a = some (dctO w a ys) ∧ PySem.W.kitOne K (.type "dict") u = some b ∧ Q (.bl b) H
theorem call_isi2 {X : Cx} : CallR X (.builtin "isinstance") (rIsi2 X.K) := by
  intro pins s σ H xs us Q I r h
  rcases h with h | ⟨a, w, ys, c, u, b, rfl, k, ea, e, q⟩
  · exact call_isi pins s σ H xs us Q I r h
  · obtain ⟨u1, u2, rfl, r1, r2⟩ := vals2 r
    have e2 := k.eq r2
    subst e2
    cases (show u1 = Value.ref a from r1)
    obtain ⟨⟨z1, z2, o, es, ep, h1, h2, _⟩, _, _⟩ := (show ObjOk X.prog X.w H s.heap a (dctO w a ys) from I.hok a _ ea)
    exact PySem.W.kia_one PySem.W.kitx_dict I.kIn ⟨o, h1, h2.1⟩ e (fun z => nomatch z) fun tk => ⟨.bl b, H, I.tok tk, rfl, q⟩
def isT (T : String) : D → Bool
  | .bool _ => T == "bool" || T == "int" | d => T == tyD d
def tyTab (K : Fg) (T : String) : Prop := PySem.W.kitOne K (.type "NoneType") (.type T) = some (T == "NoneType") ∧ PySem.W.kitOne K (.type "bool") (.type T) = some (T == "bool" || T == "int") ∧ PySem.W.kitOne K (.type "int") (.type T) = some (T == "int") ∧
  PySem.W.kitOne K (.type "str") (.type T) = some (T == "str") ∧ PySem.W.kitOne K (.type "list") (.type T) = some (T == "list") ∧ PySem.W.kitOne K (.type "tuple") (.type T) = some (T == "tuple") ∧ PySem.W.kitOne K (.type "dict") (.type T) = some (T == "dict")
theorem tyTab_is {K : Fg} {T : String} (t : tyTab K T) (d : D) : PySem.W.kitOne K (.type (tyD d)) (.type T) = some (isT T d) := by
  obtain ⟨h1, h2, h3, h4, h5, h6, h7⟩ := t
  cases d <;> assumption
def dIsi (T : String) (a : T2E) : T2E := fun env Q => a env fun d => Q (.bool (isT T d))
theorem se_isi {K : Fg} {T : String} {ta : TE} {a : T2E} (t : tyTab K T) (ha : SE K ta a) : SE K (tCB (rIsi2 K) (tCons ta (tCons (tC (.ty T)) tNil))) (dIsi T a) := by
  intro p env σ I H Q2 Q rl q k
  refine ha p env σ I H _ _ rl q fun d v I1 H1 q1 s1 h1 => ?_
  have tt := tyTab_is t d
  rcases Rp.ty s1.ih h1 with z | ⟨z, a, w, ys, rfl, z2⟩
  · exact .inl ⟨v, .ty T, _, _, isT T d, rfl, .ty T, z, tt, k _ _ _ _ q1 s1 (.bl _)⟩
  · rw [z] at tt
    exact .inr ⟨a, w, ys, .ty T, _, isT T d, rfl, .ty T, z2, tt, k _ _ _ _ q1 s1 (.bl _)⟩
end Z2
namespace Z2
open PySem L2
structure Ends2 where
  nx : Ev → Prop
  rt : D → Prop
  bk : Ev → Prop := fun _ => False
  ct : Ev → Prop := fun _ => False
  rd : World → List (List Key × D) → Prop := fun _ _ => False
  re : Ev → D → Prop := fun _ _ => False
  rv : Ev → Nat → Prop := fun _ _ => False
abbrev T2S := Ends2 → Ev → Prop
structure EndsR (K : Fg) (p : P0) (D2 : Ends2) (E : Ends) : Prop where
  nx : ∀ env σ I H, D2.nx env → RelL K p env σ I H → E.nx σ H
  rt : ∀ d v I H, D2.rt d → Gr p.m p.I0 p.H0 I H → (∀ s, p.m = some s → Strm I H s) → Rp K I v d → E.rt v H
  bk : ∀ env σ I H, D2.bk env → RelL K p env σ I H → E.bk σ H
  ct : ∀ env σ I H, D2.ct env → RelL K p env σ I H → E.ct σ H
  rd : ∀ w ks a xs I H, D2.rd w ks → Gr p.m p.I0 p.H0 I H → p.H0 a = none → I a = none → H a = some (dctO w a xs) → KD K I xs ks → E.rt (.ref a) H
  re : ∀ env σ I H d v, D2.re env d → RelL K p env σ I H → Rp K I v d → E.rt v H
  rv : ∀ env σ I H i v, D2.rv env i → RelL K p env σ I H → σ[i]? = some (some v) → E.rt v H
def SS (K : Fg) (ts : TS) (t : T2S) : Prop := ∀ (p : P0) (env : Ev) (σ : L2.St) (I H : Hp) (D2 : Ends2) (E : Ends), RelL K p env σ I H → t D2 env → EndsR K p D2 E → ts E σ H
theorem RelL.grow' {K : Fg} {p : P0} {env : Ev} {σ : L2.St} {I H I' H' : Hp} (r : RelL K p env σ I H) (g : Gr none I H I' H') : RelL K p env σ I' H' := r.stp (.of g)
theorem wipe_wipe (σ : L2.St) (vs : List Nat) : L2.wipe (L2.wipe σ vs) vs = L2.wipe σ vs := by
  refine List.ext_getElem? fun i => ?_
  by_cases h : i ∈ vs
  · have : ∀ (us : List Nat) (τ : L2.St), i ∈ us → (L2.wipe τ us)[i]? = if i < τ.length then some none else none := by
      intro us
      induction us with
      | nil => intro τ h; exact absurd h (by simp)
      | cons u us ih =>
        intro τ h
        unfold L2.wipe
        by_cases hu : u = i
        · subst hu
          by_cases hl : u < τ.length
          · rw [if_pos hl, List.getElem?_set_self (by rw [wipe_length]; exact hl)]
          · rw [if_neg hl, List.getElem?_eq_none (by rw [List.length_set, wipe_length]; omega)]
        · rw [List.getElem?_set_ne hu]
          exact ih τ (by
            rcases List.mem_cons.mp h with h | h
            · exact absurd h.symm hu
            · exact h)
    rw [this vs _ h, this vs _ h, wipe_length]
  · rw [wipe_out h]
/-! ### targets -/
abbrev T2G := D → Ev → (Ev → Prop) → Prop
abbrev T2Gs := List D → Ev → (Ev → Prop) → Prop
def SG (K : Fg) (vs : List Nat) (g : TG) (t : T2G) : Prop := ∀ (p : P0) (env : Ev) (σ : L2.St) (I H : Hp) (v : V) (d : D) (Q2 : Ev → Prop) (Q : L2.St → Hp → Prop), RelL K p env σ I H → Rp K I v d → t d env Q2 →
  (∀ env' σ' I' H', Q2 env' → RelL K p env' σ' I' H' → Stp p I H I' H' → L2.wipe σ' vs = L2.wipe σ vs → Q σ' H') → g v σ H Q
def SGs (K : Fg) (n : Nat) (vs : List Nat) (g : TGs) (t : T2Gs) : Prop := ∀ (p : P0) (env : Ev) (σ : L2.St) (I H : Hp) (xs : List V) (ds : List D) (Q2 : Ev → Prop) (Q : L2.St → Hp → Prop), RelL K p env σ I H → Rps K I xs ds → t ds env Q2 →
  (∀ env' σ' I' H', Q2 env' → RelL K p env' σ' I' H' → Stp p I H I' H' → L2.wipe σ' vs = L2.wipe σ vs → Q σ' H') → g xs σ H Q
def gN (i : Nat) : T2G := fun d env Q => Q (env.set i (some (.dat d)))
section
variable {K : Fg} {vs : List Nat}
theorem sg_name (i : Nat) (h : i ∈ vs := by decide) : SG K vs (gName i) (gN i) := fun p env σ I H v d Q2 Q r hv q k => k _ _ I H q (r.setDat hv i) (.refl r.same) (wipe_set h)
def gsNil : T2Gs := fun ds env Q => match ds with | [] => Q env | _ => False
def gsCons (t : T2G) (u : T2Gs) : T2Gs := fun ds env Q => match ds with | d :: es => t d env fun env' => u es env' Q | _ => False
theorem sgs_nil : SGs K 0 vs gNil gsNil := by
  intro p env σ I H xs ds Q2 Q r h q k
  unfold gsNil at q
  split at q
  · cases h; exact ⟨rfl, k _ _ I H q r (.refl r.same) rfl⟩
  · exact q.elim
theorem sgs_cons {n : Nat} {g : TG} {gs : TGs} {t : T2G} {u : T2Gs} (h1 : SG K vs g t) (h2 : SGs K n vs gs u) : SGs K (n + 1) vs (gCons g gs) (gsCons t u) := by
  intro p env σ I H xs ds Q2 Q r h q k
  unfold gsCons at q
  split at q
  · cases h with
    | cons a b =>
      rename_i d es v ws
      refine ⟨v, ws, rfl, h1 p env σ I H v d _ _ r a q fun env1 σ1 I1 H1 q1 r1 s1 w1 => ?_⟩
      exact h2 p env1 σ1 I1 H1 ws es _ _ r1 (Rps.mono s1.ii _ _ b) q1 fun env2 σ2 I2 H2 q2 r2 s2 w2 => k _ _ _ _ q2 r2 (s1.trans s2) (w2.trans w1)
  · exact q.elim
/-- a, b = t, a tuple -/
def gT (n : Nat) (t : T2Gs) : T2G := fun d env Q => match d with | .tuple ds => ds.length = n ∧ t ds env Q | .list ds => ds.length = n ∧ t ds env Q | _ => False
/-- a tuple or a list, unpacked -/
def gSq (K : Fg) (n : Nat) (t : TGs) : TG := fun v σ H Q => gTup K n t v σ H Q ∨ gUnl K n t v σ H Q
theorem pg_sq {X : Cx} {pos : Pos} {es : List Expr} {k : Nat} {t : TGs} {n : Nat} (hc : X.calm = true) (h : PGs X es t) (e1 : (assignEach es X.env).length = n := by rfl) (e2 : List.findIdx? (fun x => x.fst) (assignEach es X.env) = none := by rfl) : PG X (.Tuple es k pos) (gSq X.K n t) :=
  ⟨fun pins s σ H v u Q I r q => q.elim (fun q => (pg_tup hc h e1 e2).run pins s σ H v u Q I r q) (fun q => (pg_unl hc h e1 e2).run pins s σ H v u Q I r q)⟩
theorem sg_tup {n : Nat} {gs : TGs} {t : T2Gs} (h : SGs K n vs gs t) : SG K vs (gSq K n gs) (gT n t) := by
  intro p env σ I H v d Q2 Q r hv q k
  unfold gT at q
  split at q
  · cases hv with
    | tup h1 h2 =>
      exact .inl ⟨_, _, rfl, Same.sqt r.same h1, by rw [h2.length]; exact q.1, h p env σ I H _ _ _ _ r h2 q.2 k⟩
  · cases hv with
    | lst h1 h2 =>
      exact .inr ⟨_, _, rfl, SqL.of (r.same _ _ h1), by rw [h2.length]; exact q.1, h p env σ I H _ _ _ _ r h2 q.2 k⟩
  · exact q.elim
end
/-! ### what is walked -/
abbrev T2I := Ev → (List D → Prop) → Prop
structure ItR (K : Fg) (I : Hp) (J : It) (ds : List D) : Prop where
  go : ∀ i I' H', Same I I' → Same I' H' → i < ds.length → J.go i H'
  stop : ∀ i I' H', Same I I' → Same I' H' → i = ds.length → J.stop i H'
  yld : ∀ i x I' H' H'', Same I I' → Same I' H' → i < ds.length → J.yld i H' x H'' → ∃ I'' d, Gr none I' H' I'' H'' ∧ ds[i]? = some d ∧ Rp K I'' x d
def SI (K : Fg) (wi : TI) (t : T2I) : Prop := ∀ (p : P0) (env : Ev) (σ : L2.St) (I H : Hp) (Q2 : List D → Prop) (R : It → Hp → Prop), RelL K p env σ I H → t env Q2 →
  (∀ ds J I' H', Q2 ds → Stp p I H I' H' → ItR K I' J ds → R J H') → wi σ H R
section
variable {K : Fg}
theorem itr_list {I : Hp} {a : Addr} {vs : List V} {ds : List D} (h : I a = some (.lst vs)) (r : Rps K I vs ds) : ItR K I (Itl K a) ds where
  go := fun i I' H' e1 e2 hi => by
    obtain ⟨v, hv, _⟩ := r.got (List.getElem?_eq_getElem hi)
    exact ⟨vs, v, SqL.of (e2 _ _ (e1 _ _ h)), hv⟩
  stop := fun i I' H' e1 e2 hi => ⟨vs, SqL.of (e2 _ _ (e1 _ _ h)), by rw [r.length]; omega⟩
  yld := fun i x I' H' H'' e1 e2 hi y => by
    obtain ⟨rfl, y⟩ := y
    obtain ⟨d, hd, q⟩ := r.get (y vs (SqL.of (e2 _ _ (e1 _ _ h))))
    exact ⟨I', d, .refl e2, hd, Rp.mono e1 _ _ q⟩
theorem itr_tup {I : Hp} {a : Addr} {vs : List V} {ds : List D} (h : SqT K I a vs) (r : Rps K I vs ds) : ItR K I (Itt K a) ds where
  go := fun i I' H' e1 e2 hi => by
    obtain ⟨v, hv, _⟩ := r.got (List.getElem?_eq_getElem hi)
    exact ⟨vs, v, Same.sqt e2 (Same.sqt e1 h), hv⟩
  stop := fun i I' H' e1 e2 hi => ⟨vs, Same.sqt e2 (Same.sqt e1 h), by rw [r.length]; omega⟩
  yld := fun i x I' H' H'' e1 e2 hi y => by
    obtain ⟨rfl, y⟩ := y
    obtain ⟨d, hd, q⟩ := r.get (y vs (Same.sqt e2 (Same.sqt e1 h)))
    exact ⟨I', d, .refl e2, hd, Rp.mono e1 _ _ q⟩
def dRange (lo : Int) (n : Nat) : List D := (List.range n).map fun (i : Nat) => PyData.int (lo + i)
theorem itr_range {I : Hp} (lo : Int) (n : Nat) : ItR K I (Itr lo n) (dRange lo n) where
  go := fun i I' H' e1 e2 hi => by
    unfold dRange at hi
    rw [List.length_map, List.length_range] at hi
    exact hi
  stop := fun i I' H' e1 e2 hi => by
    unfold dRange at hi
    rw [List.length_map, List.length_range] at hi
    show _ ≤ _
    omega
  yld := fun i x I' H' H'' e1 e2 hi y => by
    obtain ⟨rfl, rfl⟩ := y
    refine ⟨I', .int (lo + i), .refl e2, ?_, .int _⟩
    unfold dRange at hi ⊢
    rw [List.length_map, List.length_range] at hi
    rw [List.getElem?_map, List.getElem?_range hi]
    rfl
def dEnum (ds : List D) : List D := (List.range ds.length).map fun i => PyData.tuple [.int (i : Nat), ds.getD i .none]
theorem itr_enum {I : Hp} {a : Addr} {vs : List V} {ds : List D} (h : I a = some (.lst vs)) (r : Rps K I vs ds) : ItR K I (Ite K a) (dEnum ds) where
  go := fun i I' H' e1 e2 hi => by
    unfold dEnum at hi
    rw [List.length_map, List.length_range] at hi
    obtain ⟨v, hv, _⟩ := r.got (List.getElem?_eq_getElem hi)
    exact ⟨vs, v, SqL.of (e2 _ _ (e1 _ _ h)), hv⟩
  stop := fun i I' H' e1 e2 hi => by
    unfold dEnum at hi
    rw [List.length_map, List.length_range] at hi
    exact ⟨vs, SqL.of (e2 _ _ (e1 _ _ h)), by rw [r.length]; omega⟩
  yld := fun i x I' H' H'' e1 e2 hi y => by
    obtain ⟨T, u, rfl, h0, rfl, y⟩ := y
    obtain ⟨d, hd, q⟩ := r.get (y vs (SqL.of (e2 _ _ (e1 _ _ h))))
    have g := Gr.new (m := none) (o := .tup [.int (i : Nat), u]) e2 h0
    refine ⟨_, .tuple [.int (i : Nat), d], g, ?_, .tup (SqT.of upd_same) (.cons (.int _) (.cons (Rp.mono (e1.trans g.ii) _ _ q) .nil))⟩
    unfold dEnum at hi ⊢
    rw [List.length_map, List.length_range] at hi
    rw [List.getElem?_map, List.getElem?_range hi]
    simp [List.getD_eq_getElem?_getD, hd]
def dZip : List D → List D → List D
  | x :: xs, y :: ys => .tuple [x, y] :: dZip xs ys
  | _, _ => []
def diL (a : T2E) : T2I := fun env Q => a env fun d => match d with | .list ds => Q ds | _ => False
def diT (a : T2E) : T2I := fun env Q => a env fun d => match d with | .tuple ds => Q ds | _ => False
def diR1 (t : T2A) : T2I := fun env Q => t env fun ds => match ds with | [.int j] => -1000000 ≤ j ∧ j ≤ 1000000 ∧ Q (dRange 0 j.toNat) | _ => False
def diR2 (t : T2A) : T2I := fun env Q => t env fun ds => match ds with | [.int i, .int j] => (-1000000 ≤ i ∧ i ≤ 1000000) ∧ (-1000000 ≤ j ∧ j ≤ 1000000) ∧ Q (dRange i (j - i).toNat) | _ => False
theorem si_range1 {n : Nat} {t : TA} {u : T2A} (h : SA K n t u) : SI K (iRng1 t) (diR1 u) := by
  intro p env σ I H Q2 R rl q k
  refine h p env σ I H _ _ rl q fun ds vs I1 H1 q1 hl s1 h1 => ?_
  split at q1
  · obtain ⟨v, rfl, h2⟩ := h1.one
    cases h2
    exact ⟨_, rfl, by omega, by omega, k _ _ _ _ q1.2.2 s1 (itr_range _ _)⟩
  · exact q1.elim
theorem si_range2 {n : Nat} {t : TA} {u : T2A} (h : SA K n t u) : SI K (iRng2 t) (diR2 u) := by
  intro p env σ I H Q2 R rl q k
  refine h p env σ I H _ _ rl q fun ds vs I1 H1 q1 hl s1 h1 => ?_
  split at q1
  · obtain ⟨v, w, rfl, h2, h3⟩ := h1.two
    cases h2
    cases h3
    obtain ⟨⟨b1, b2⟩, ⟨b3, b4⟩, q⟩ := q1
    exact ⟨_, _, rfl, ⟨by omega, by omega, by omega, by omega⟩, k _ _ _ _ q s1 (itr_range _ _)⟩
  · exact q1.elim
def diEnum (t : T2A) : T2I := fun env Q => t env fun ds => match ds with | [.list xs] => Q (dEnum xs) | _ => False
def diZip (t : T2A) : T2I := fun env Q => t env fun ds => match ds with | [.list xs, .list ys] => Q (dZip xs ys) | [.tuple xs, .tuple ys] => Q (dZip xs ys) | _ => False
end
/-! ### comprehensions -/
def lcD (g : T2G) (tt : T2T) (te : T2E) (env : Ev) : List D → (List D → Prop) → Prop
  | [], Q => Q []
  | d :: ds, Q => g d env fun env1 => tt env1 fun b => if b = true then te env1 fun y => lcD g tt te env ds fun ys => Q (y :: ys) else lcD g tt te env ds Q
def dLc (ti : T2I) (g : T2G) (tt : T2T) (te : T2E) (vs : List Nat) : T2A := fun env Q => ti env fun ds => ds.length ≤ 1000000 ∧ lcD g tt te (wipeE env vs) ds Q
section
variable {K : Fg}
theorem so_lc {wi : TI} {g : TG} {tt : TT} {te : TE} {ti : T2I} {g2 : T2G} {tt2 : T2T} {te2 : T2E} {vs : List Nat} (hi : SI K wi ti) (hg : SG K vs g g2) (ht : ST K tt tt2) (he : SE K te te2) : SO K (tLc wi g tt te vs) (dLc ti g2 tt2 te2 vs) := by
  intro p env σ I H Q2 Q rl q k
  refine hi p env σ I H _ _ rl q fun ds J I1 H1 ⟨hlen, q1⟩ s1 it => ?_
  intro D hD
  have rl1 := rl.stp s1
  have hD0 : p.H0 D = none := by
    cases e : p.H0 D with
    | none => rfl
    | some o => exact absurd hD (rl1.r.gr.th D (by rw [e]; exact fun z => nomatch z))
  have hDI : I1 D = none := Same.free s1.ih hD
  have hDH : H D = none := by
    cases e : H D with
    | none => rfl
    | some o => exact absurd hD (s1.gr.th D (by rw [e]; exact fun z => nomatch z))
  have hm : p.m ≠ some D := fun e => (rl1.r.st D e).1 hD0
  have hown : ∀ (j : Nat) (x : List PyData), env[j]? = some (some (Sl.own x)) → σ[j]? ≠ some (some (V.ref D)) := fun j x e z => by
    obtain ⟨v, hv, a, ws, rfl, _, _, e4, _⟩ := rl1.r.sl j _ e
    rw [hv] at z
    cases z
    rw [hD] at e4; cases e4
  refine ⟨fun i m H' => m = ds.length - i ∧ i ≤ ds.length ∧ ∃ I' acc ys, RelL K p env σ I' H' ∧ Stp p I1 H1 I' H' ∧ I' D = none ∧ H' D = some (.lst acc) ∧ Rps K I' acc ys ∧ acc.length ≤ i ∧ lcD g2 tt2 te2 (wipeE env vs) (ds.drop i) fun zs => Q2 (ys ++ zs),
    ⟨ds.length, by simp, Nat.zero_le _, I1, [], [], rl1.beside hD0 hDI (fun _ _ z => by rw [hD] at z; cases z) (fun _ z => by rw [hD] at z; cases z) (rl1.freshCell (.refl rl1.same) hD) hown, Stp.fresh s1.ih hD, hDI, upd_same, .nil, Nat.le_refl _, q1⟩, ?_⟩
  rintro i m H' ⟨rfl, hi', I', acc, ys, r', st', hDI', hDH', rp, hacc, q'⟩
  by_cases hlt : i < ds.length
  · refine .inr ⟨it.go i I' H' st'.ii st'.ih hlt, fun H'' => ∃ I'' acc ys, RelL K p env σ I'' H'' ∧ Stp p I1 H1 I'' H'' ∧ I'' D = none ∧ H'' D = some (.lst acc) ∧ Rps K I'' acc ys ∧ acc.length ≤ i + 1 ∧ lcD g2 tt2 te2 (wipeE env vs) (ds.drop (i + 1)) fun zs => Q2 (ys ++ zs),
      fun H'' z => ⟨ds.length - (i + 1), by omega, rfl, by omega, z⟩, fun x H2 y => ?_⟩
    obtain ⟨I2, d, g1, hd, rd⟩ := it.yld i x I' H' H2 st'.ii st'.ih hlt y
    have hdrop : ds.drop i = d :: ds.drop (i + 1) := by
      have hdd : ds[i] = d := Option.some.inj ((List.getElem?_eq_getElem hlt).symm.trans hd)
      rw [List.drop_eq_getElem_cons hlt, hdd]
    rw [hdrop] at q'
    have st2 := st'.trans (Stp.of (p := p) g1)
    have r2 := r'.grow' g1
    have q2 : g2 d (wipeE env vs) (fun env1 => tt2 env1 fun b => if b = true then te2 env1 fun y => lcD g2 tt2 te2 (wipeE env vs) (ds.drop (i + 1)) fun zs => Q2 (ys ++ (y :: zs)) else lcD g2 tt2 te2 (wipeE env vs) (ds.drop (i + 1)) fun zs => Q2 (ys ++ zs)) := q'
    have keepD : ∀ {I3 H3 I4 H4}, Stp p I3 H3 I4 H4 → I3 D = none → H3 D = some (.lst acc) → I4 D = none ∧ H4 D = some (.lst acc) := fun s a b =>
      ⟨s.gr.fr D a (by rw [b]; exact fun z => nomatch z), s.gr.hh D _ b hm⟩
    obtain ⟨d2, d3⟩ := keepD (Stp.of (p := p) g1) hDI' hDH'
    refine hg p (wipeE env vs) (L2.wipe σ vs) I2 H2 x d _ _ (r2.wipe vs) rd q2 fun env1 σ1 I3 H3 q3 r3 s3 w3 => ⟨by rw [w3]; exact wipe_wipe σ vs, ?_⟩
    obtain ⟨d4, d5⟩ := keepD s3 d2 d3
    refine ht p env1 σ1 I3 H3 _ _ r3 q3 fun b I4 H4 q4 s4 => ?_
    obtain ⟨d6, d7⟩ := keepD s4 d4 d5
    have s34 := s3.trans s4
    cases b with
    | false =>
      rw [if_neg Bool.false_ne_true] at q4 ⊢
      exact ⟨I4, acc, ys, r2.stp s34, st2.trans s34, d6, d7, Rps.mono (g1.ii.trans s34.ii) _ _ rp, by omega, q4⟩
    | true =>
      rw [if_pos rfl] at q4 ⊢
      refine he p env1 σ1 I4 H4 _ _ (r3.stp s4) q4 fun e v I5 H5 q5 s5 r5 => ?_
      obtain ⟨d8, d9⟩ := keepD s5 d6 d7
      have s35 := s34.trans s5
      have st5 := st2.trans s35
      have r6 := (r2.stp s35)
      refine ⟨acc, d9, Nat.lt_of_le_of_lt hacc (Nat.lt_of_lt_of_le hlt (le_line hlen)), I5, acc ++ [v], ys ++ [e], r6.beside hD0 d8 (fun _ _ z => by rw [d9] at z; exact nomatch z) (fun _ z => by rw [d9] at z; exact nomatch z) (rl1.freshCell st5 hD) hown, ⟨⟨st5.ii, fun b o z => by rw [upd_ne (ne_of_none z d8)]; exact st5.ih b o z, fun b o z n => ?_, st5.gr.fr, fun b z => ?_⟩, fun s e1 e2 => ?_⟩, d8, upd_same,
        Rps.append (Rps.mono (g1.ii.trans s35.ii) _ _ rp) (.cons r5 .nil), by rw [List.length_append, List.length_singleton]; omega, ?_⟩
      · have hb : b ≠ D := fun w => by rw [w, hD] at z; cases z
        rw [upd_ne hb]; exact st5.gr.hh b o z n
      · have hb : b ≠ D := fun w => z (by rw [w]; exact hD)
        rw [upd_ne hb]; exact st5.gr.th b z
      · obtain ⟨f0, l, c, n, ns, f1, f2, f3⟩ := st5.st s e1 e2
        have hs : s ≠ D := fun w => hm (by rw [e1, w])
        exact ⟨f0, l, c, n, ns, by rw [upd_ne hs]; exact f1, f2, f3⟩
      · have ee : ∀ zs : List PyData, (ys ++ [e]) ++ zs = ys ++ (e :: zs) := fun zs => by rw [List.append_assoc]; rfl
        simp only [ee]
        exact q5
  · have hi2 : i = ds.length := by omega
    subst hi2
    rw [List.drop_length] at q'
    have q' : Q2 (ys ++ []) := q'
    rw [List.append_nil] at q'
    exact .inl ⟨it.stop _ I' H' st'.ii st'.ih rfl, k ys D acc I' H' q' (s1.trans st') hDH hDI' hDH' rp⟩
end
end Z2
namespace Z2
open PySem PySem.Spec PyProof.Rows L2
def dSeq (t u : T2S) : T2S := fun E env => t { E with nx := u E } env
def dNext : T2S := fun E env => E.nx env
def dAsg (t : T2E) (g : T2G) : T2S := fun E env => t env fun d => g d env E.nx
def dAsgO (t : T2A) (i : Nat) : T2S := fun E env => t env fun ds => E.nx (env.set i (some (.own ds)))
def dDrop (t : T2E) : T2S := fun E env => t env fun _ => E.nx env
def dRet (t : T2E) : T2S := fun E env => t env E.rt
def dRetN : T2S := fun E _ => E.rt .none
def dIfS (c : T2T) (t u : T2S) : T2S := fun E env => c env fun b => if b = true then t E env else u E env
def dNever : T2S := fun _ _ => False
def dBreak : T2S := fun E env => E.bk env
def dCont : T2S := fun E env => E.ct env
def forD (g : T2G) (tb : T2S) (E : Ends2) : List D → Ev → Prop
  | [] => E.nx
  | d :: ds => fun env => g d env fun env1 => tb { E with nx := forD g tb E ds, ct := forD g tb E ds, bk := E.nx } env1
def dFor (ti : T2I) (g : T2G) (tb : T2S) : T2S := fun E env => ti env fun ds => forD g tb E ds env
def dFrz (i : Nat) (t : T2S) : T2S := fun E env => match env[i]? with | some (some (.own ds)) => t E (env.set i (some (.dat (.list ds)))) | some (some (.dat _)) => t E env | _ => False
def dApp (i : Nat) (t : T2E) : T2S := fun E env => match env[i]? with | some (some (.own ds)) => t env fun d => ds.length < 1000000 ∧ E.nx (env.set i (some (.own (ds ++ [d])))) | _ => False
def dExt (i : Nat) (t : T2E) : T2S := fun E env => match env[i]? with | some (some (.own ds)) => t env fun d => (match d with | .list es => ds.length + es.length ≤ 1000000 ∧ E.nx (env.set i (some (.own (ds ++ es)))) | _ => False) | _ => False
def dSetIx (i : Nat) (t u : T2E) : T2S := fun E env => match env[i]? with
  | some (some (.own ds)) => t env fun d => u env fun k => (match k with | .int j => (match ixN ds.length j with | some n => E.nx (env.set i (some (.own (ds.set n d)))) | none => False) | _ => False)
  | _ => False
section
variable {K : Fg} {ts us : TS} {t u : T2S} {te tf : TE} {t2 u2 : T2E}
theorem ss_seq (h1 : SS K ts t) (h2 : SS K us u) : SS K (tSeq ts us) (dSeq t u) := fun p env σ I H D2 E r q e =>
  h1 p env σ I H _ _ r q ⟨fun env' σ' I' H' q' r' => h2 p env' σ' I' H' _ _ r' q' e, e.rt, e.bk, e.ct, e.rd, e.re, e.rv⟩
theorem ss_next : SS K tNext dNext := fun p env σ I H D2 E r q e => e.nx _ _ _ _ q r
theorem ss_never : SS K tNever dNever := fun p env σ I H D2 E r q e => q.elim
theorem ss_asg {vs : List Nat} {g : TG} {g2 : T2G} (h : SE K te t2) (hg : SG K vs g g2) : SS K (tAsg te g) (dAsg t2 g2) := fun p env σ I H D2 E r q e =>
  h p env σ I H _ _ r q fun d v I' H' q' s rp => hg p env σ I' H' v d _ _ (r.stp s) rp q' fun env' σ' I2 H2 q2 r2 _ _ => e.nx _ _ _ _ q2 r2
theorem ss_set {i : Nat} (h : SE K te t2) : SS K (tAsg te (gName i)) (dAsg t2 (gN i)) := ss_asg (vs := [i]) h (sg_name i (List.mem_singleton.mpr rfl))
theorem ss_asgO {i : Nat} {a : T2A} (h : SO K te a) : SS K (tAsg te (gName i)) (dAsgO a i) := fun p env σ I H D2 E r q e =>
  h p env σ I H _ _ r q fun ds l vs I' H' q' s h0 h1 h2 h3 => by
    have r' := r.stp s
    refine e.nx _ _ _ _ q' (r'.setOwn ?_ h1 h2 h3 (fun j x e z => ?_) ?_ i)
    · cases e0 : p.H0 l with
      | none => rfl
      | some o => exact absurd h0 (r.r.gr.th l (by rw [e0]; exact fun z => nomatch z))
    · obtain ⟨v, hv, a, ws, rfl, _, _, e4, _⟩ := r.r.sl j _ e
      rw [hv] at z
      cases z
      rw [h0] at e4; cases e4
    · exact r.freshCell s h0
theorem ss_drop (h : SE K te t2) : SS K (tDrop te) (dDrop t2) := fun p env σ I H D2 E r q e =>
  h p env σ I H _ _ r q fun d v I' H' q' s rp => e.nx _ _ _ _ q' (r.stp s)
theorem ss_ret (h : SE K te t2) : SS K (tRet te) (dRet t2) := fun p env σ I H D2 E r q e =>
  h p env σ I H _ _ r q fun d v I' H' q' s rp => e.rt d v I' H' q' (r.r.gr.trans s.gr) (fun a ea => s.st a ea (r.r.st a ea).2) rp
theorem ss_if {c : TT} {c2 : T2T} (h : ST K c c2) (h1 : SS K ts t) (h2 : SS K us u) : SS K (tIfS c ts us) (dIfS c2 t u) := by
  intro p env σ I H D2 E r q e
  refine h p env σ I H _ _ r q fun b I' H' q' s => ?_
  cases b with
  | true =>
    rw [if_pos rfl] at q' ⊢
    exact h1 p env σ I' H' _ _ (r.stp s) q' e
  | false =>
    rw [if_neg Bool.false_ne_true] at q' ⊢
    exact h2 p env σ I' H' _ _ (r.stp s) q' e
theorem ss_frz (i : Nat) (h : SS K ts t) : SS K ts (dFrz i t) := by
  intro p env σ I H D2 E r q e
  unfold dFrz at q
  split at q
  · rename_i ds e2
    obtain ⟨I', _, r'⟩ := r.freeze e2
    exact h p _ σ I' H _ _ r' q e
  · exact h p _ σ I H _ _ r q e
  · exact q.elim
theorem ss_for {wi : TI} {g : TG} {ti : T2I} {g2 : T2G} {vs : List Nat} (hi : SI K wi ti) (hg : SG K vs g g2) (hb : SS K ts t) : SS K (tFor wi g ts) (dFor ti g2 t) := by
  intro p env σ I H D2 E r q e
  refine hi p env σ I H _ _ r q fun ds J I1 H1 q1 s1 it => ?_
  refine ⟨fun i m σ' H' => m = ds.length - i ∧ i ≤ ds.length ∧ ∃ env' I', RelL K p env' σ' I' H' ∧ Same I1 I' ∧ forD g2 t D2 (ds.drop i) env', ⟨ds.length, by simp, Nat.zero_le _, env, I1, r.stp s1, Same.refl _, q1⟩, ?_⟩
  rintro i m σ' H' ⟨rfl, hi', env', I', r', ii, q'⟩
  by_cases hlt : i < ds.length
  · refine .inr ⟨it.go i I' H' ii r'.same hlt, fun σ2 H2 => ∃ env2 I2, RelL K p env2 σ2 I2 H2 ∧ Same I1 I2 ∧ forD g2 t D2 (ds.drop (i + 1)) env2, fun σ2 H2 z => ⟨ds.length - (i + 1), by omega, rfl, by omega, z⟩, fun x H2 y => ?_⟩
    obtain ⟨I2, d, g1, hd, rd⟩ := it.yld i x I' H' H2 ii r'.same hlt y
    have hdrop : ds.drop i = d :: ds.drop (i + 1) := by
      have hdd : ds[i] = d := Option.some.inj ((List.getElem?_eq_getElem hlt).symm.trans hd)
      rw [List.drop_eq_getElem_cons hlt, hdd]
    rw [hdrop] at q'
    refine hg p env' σ' I2 H2 x d _ _ (r'.grow' g1) rd q' fun env3 σ3 I3 H3 q3 r3 s3 _ => ?_
    have i3 := (ii.trans g1.ii).trans s3.ii
    have back : ∀ {env σ I H}, RelL K { p with B := I1 } env σ I H → RelL K p env σ I H ∧ Same I1 I := fun {env σ I H} z => ⟨z.rebase ((r.stp s1).r.bs.trans z.r.bs), z.r.bs⟩
    exact hb { p with B := I1 } env3 σ3 I3 H3 _ _ (r3.rebase i3) q3 ⟨fun env4 σ4 I4 H4 q4 r4 => ⟨env4, I4, (back r4).1, (back r4).2, q4⟩, e.rt, fun env4 σ4 I4 H4 q4 r4 => e.nx _ _ _ _ q4 (back r4).1,
      fun env4 σ4 I4 H4 q4 r4 => ⟨env4, I4, (back r4).1, (back r4).2, q4⟩, e.rd, fun env4 σ4 I4 H4 d v q4 r4 rp => e.re _ _ _ _ _ _ q4 (back r4).1 rp, fun env4 σ4 I4 H4 i v q4 r4 hv => e.rv _ _ _ _ _ _ q4 (back r4).1 hv⟩
  · have hi2 : i = ds.length := by omega
    subst hi2
    rw [List.drop_length] at q'
    exact .inl ⟨it.stop _ I' H' ii r'.same rfl, e.nx _ _ _ _ q' r'⟩
/-! own lists that change -/
theorem ss_app (i : Nat) (h : SE K te t2) : SS K (tDrop (tBM K "list" rAppend (tVar i) (tCons te tNil))) (dApp i t2) := by
  intro p env σ I H D2 E r q e
  unfold dApp at q
  split at q
  · rename_i ds e2
    obtain ⟨v, hv, a, vs, rfl, _, _, e4, e5⟩ := r.r.sl i _ e2
    refine ⟨_, hv, .inl ⟨rfl, _, SqL.of e4⟩, h p env σ I H _ _ r q fun d v I1 H1 ⟨hl, q1⟩ s1 r1 => ?_⟩
    have r' := r.stp s1
    obtain ⟨v', hv', a', ws, rfl, _, _, f4, f5⟩ := r'.r.sl i _ e2
    rw [hv] at hv'; cases hv'
    refine ⟨a, ws, v, rfl, rfl, f4, lt_line (by rw [f5.length]; exact hl), ?_⟩
    exact e.nx _ _ _ _ q1 (r'.mutOwn e2 hv (Rps.append f5 (.cons r1 .nil)))
  · exact q.elim
theorem ss_ext (i : Nat) (h : SE K te t2) : SS K (tDrop (tBM K "list" rExtend (tVar i) (tCons te tNil))) (dExt i t2) := by
  intro p env σ I H D2 E r q e
  unfold dExt at q
  split at q
  · rename_i ds e2
    obtain ⟨v, hv, a, vs, rfl, _, _, e4, e5⟩ := r.r.sl i _ e2
    refine ⟨_, hv, .inl ⟨rfl, _, SqL.of e4⟩, h p env σ I H _ _ r q fun d v I1 H1 q1 s1 r1 => ?_⟩
    have r' := r.stp s1
    obtain ⟨v', hv', a', ws, rfl, _, _, f4, f5⟩ := r'.r.sl i _ e2
    rw [hv] at hv'; cases hv'
    split at q1
    · obtain ⟨hl, q1⟩ := q1
      cases r1 with
      | lst g1 g2 =>
        refine ⟨a, _, ws, _, rfl, rfl, f4, s1.ih _ _ g1, le_line (by rw [f5.length, g2.length]; exact hl), ?_⟩
        exact e.nx _ _ _ _ q1 (r'.mutOwn e2 hv (Rps.append f5 g2))
    · exact q1.elim
  · exact q.elim
theorem ss_setIx (i : Nat) (h : SE K te t2) (h2 : SE K tf u2) : SS K (tAsg te (gSub (tVar i) tf rSetL)) (dSetIx i t2 u2) := by
  intro p env σ I H D2 E r q e
  unfold dSetIx at q
  split at q
  · rename_i ds e2
    refine h p env σ I H _ _ r q fun d v I1 H1 q1 s1 r1 => ?_
    obtain ⟨w, hw, a, vs, rfl, _, _, e4, e5⟩ := r.r.sl i _ e2
    refine ⟨_, hw, h2 p env σ I1 H1 _ _ (r.stp s1) q1 fun k u I2 H2 q2 s2 rk => ?_⟩
    have r' := (r.stp s1).stp s2
    obtain ⟨v', hv', a', ws, rfl, _, _, f4, f5⟩ := r'.r.sl i _ e2
    rw [hw] at hv'; cases hv'
    split at q2
    · split at q2
      · rename_i j _ n e3
        cases rk
        refine ⟨a, ws, _, n, rfl, rfl, f4, by rw [f5.length]; exact e3, ?_⟩
        exact e.nx _ _ _ _ q2 (r'.mutOwn e2 hw (Rps.set (Rp.mono s2.ii _ _ r1) n f5))
      · exact q2.elim
    · exact q2.elim
  · exact q.elim
end
/-! ### calls, promises -/
/-- a def over data: n arguments, what it does -/
def spD (K : Fg) (n : Nat) (f : RCD) : Sp := fun vs H Q _ => ∃ (I : Hp) (ds : List D) (Q2 : D → Prop), vs.length = n ∧ Same I H ∧ Rps K I vs ds ∧ f ds Q2 ∧ ∀ d v I' H', Q2 d → Gr none I H I' H' → Rp K I' v d → Q v H'
/-- .. whose first argument is the draws' list -/
def spS (K : Fg) (n : Nat) (f : RCD) : Sp := fun vs H Q _ => ∃ (I : Hp) (a : Addr) (ws : List V) (ds : List D) (Q2 : D → Prop), vs = .ref a :: ws ∧ ws.length = n ∧ Same I H ∧ Strm I H a ∧ Rps K I ws ds ∧ f ds Q2 ∧
  ∀ d v I' H', Q2 d → Gr (some a) I H I' H' → Strm I' H' a → Rp K I' v d → Q v H'
def dCallS (i : Nat) (f : RCD) (t : T2A) : T2E := fun env Q => (match env[i]? with | some (some .strm) => True | _ => False) ∧ t env fun ds => f ds Q
section
variable {K : Fg} {n : Nat} {f : RCD} {E : XK} {ta : TA} {t : T2A}
theorem se_call (h : SA K n ta t) : SE K (tCall (spD K n f) [] E ta) (dCB f t) := by
  intro p env σ I H Q2 Q rl q k
  refine h p env σ I H _ _ rl q fun ds vs I1 H1 q1 hl s1 h1 => ?_
  rw [List.append_nil]
  exact ⟨I1, ds, Q2, hl, s1.ih, h1, q1, fun d v I' H' q' g r' => k d v I' H' q' (s1.trans (.of g)) r'⟩
theorem se_callS (i : Nat) (h : SA K n ta t) : SE K (tCall (spS K n f) [] E (tCons (tVar i) ta)) (dCallS i f t) := by
  intro p env σ I H Q2 Q rl q k
  obtain ⟨q0, q⟩ := q
  split at q0
  · rename_i e2
    obtain ⟨v, hv, a, rfl, ha⟩ := rl.r.sl i _ e2
    refine ⟨_, hv, h p env σ I H _ _ rl q fun ds vs I1 H1 q1 hl s1 h1 => ?_⟩
    show spS K n f ((V.ref a :: vs) ++ []) H1 Q E
    rw [List.append_nil]
    have r1 := rl.stp s1
    exact ⟨I1, a, vs, ds, Q2, rfl, hl, s1.ih, (r1.r.st a ha).2, h1, q1, fun d v I' H' q' g st r' => k d v I' H' q' (s1.trans ⟨by rw [ha]; exact g, fun s es _ => by rw [ha] at es; cases es; exact st⟩) r'⟩
  · exact q0.elim
end
def envD (N n : Nat) (ds : List D) : Ev := ds.map (fun d => some (.dat d)) ++ List.replicate (N - n) none
def bodyD (N n : Nat) (t : T2S) : RCD := fun ds Q => ds.length = n ∧ t { nx := fun _ => Q .none, rt := Q } (envD N n ds)
def bodyS (N n : Nat) (t : T2S) : RCD := fun ds Q => ds.length = n ∧ t { nx := fun _ => Q .none, rt := Q } (some .strm :: envD N n ds)
theorem env_get {N n : Nat} {ds : List D} {i : Nat} {x : Sl} (h : (envD N n ds)[i]? = some (some x)) : ∃ d, x = .dat d ∧ ds[i]? = some d := by
  unfold envD at h
  by_cases hi : i < ds.length
  · rw [List.getElem?_append_left (by rw [List.length_map]; exact hi), List.getElem?_map] at h
    cases e : ds[i]? with
    | none => rw [e] at h; cases h
    | some d => rw [e] at h; cases h; exact ⟨d, rfl, rfl⟩
  · rw [List.getElem?_append_right (by rw [List.length_map]; omega), List.getElem?_replicate] at h
    split at h <;> cases h
theorem start_get {N : List Str} {vs : List V} {i : Nat} {v : V} (h : vs[i]? = some v) : (L2.start N vs)[i]? = some (some v) := by
  unfold L2.start
  have hi := (List.getElem?_eq_some_iff.mp h).1
  rw [List.getElem?_append_left (by rw [List.length_map]; exact hi), List.getElem?_map, h]
  rfl
theorem body_ok {K : Fg} {N : List Str} {n : Nat} {ts : TS} {t : T2S} (h : SS K ts t) {vs : List V} {H : Hp} {Q : VK} {E : XK} (q : spD K n (bodyD N.length n t) vs H Q E) : ts { nx := fun _ H' => Q .non H', rt := Q } (L2.start N vs) H := by
  obtain ⟨I, ds, Q2, hl, e, r, ⟨hd, q⟩, k⟩ := q
  refine h ⟨none, I, H, I⟩ _ (L2.start N vs) I H _ _ ⟨⟨.refl e, fun i x z => ?_, fun i j x y a _ z _ _ => ?_, (fun s z => nomatch z), Same.refl _, fun i j w w' x y a _ z _ _ => (by obtain ⟨d, z, _⟩ := env_get z; cases z), fun i j x y u v c _ hm z1 z2 _ _ _ => by
      obtain ⟨d1, z1, _⟩ := env_get z1
      obtain ⟨d2, z2, _⟩ := env_get z2
      cases z1
      cases z2
      cases hm⟩, ?_⟩ q ⟨fun env σ I' H' q' r' => k _ _ _ _ q' r'.r.gr .non, fun d v I' H' q' g _ r' => k _ _ _ _ q' g r', fun _ _ _ _ z => z.elim, fun _ _ _ _ z => z.elim, fun _ _ _ _ _ _ z => z.elim, fun _ _ _ _ _ _ z => z.elim, fun _ _ _ _ _ _ z => z.elim⟩
  · obtain ⟨d, rfl, hd⟩ := env_get z
    obtain ⟨v, hv, rv⟩ := r.got hd
    exact ⟨v, start_get hv, rv⟩
  · obtain ⟨d, z, _⟩ := env_get z
    cases z
  · unfold envD L2.start
    rw [List.length_append, List.length_append, List.length_map, List.length_map, List.length_replicate, List.length_replicate, hl, hd]
theorem body_okS {K : Fg} {N : List Str} {n : Nat} {ts : TS} {t : T2S} (h : SS K ts t) {vs : List V} {H : Hp} {Q : VK} {E : XK} (q : spS K n (bodyS (N.length - 1) n t) vs H Q E) (hN : 1 ≤ N.length) : ts { nx := fun _ H' => Q .non H', rt := Q } (L2.start N vs) H := by
  obtain ⟨I, a, ws, ds, Q2, rfl, hl, e, st, r, ⟨hd, q⟩, k⟩ := q
  have hs : L2.start N (V.ref a :: ws) = some (V.ref a) :: (ws.map some ++ List.replicate (N.length - 1 - ws.length) none) := by
    unfold L2.start
    rw [List.map_cons, List.cons_append, List.length_cons, Nat.sub_add_eq, Nat.sub_right_comm]
  rw [hs]
  have hH : H a ≠ none := by
    obtain ⟨_, _, _, _, _, z, _⟩ := st
    rw [z]; exact fun w => nomatch w
  refine h ⟨some a, I, H, I⟩ _ _ I H _ _ ⟨⟨.refl e, fun i x z => ?_, fun i j x y b _ z _ _ => ?_, fun s z => by cases z; exact ⟨hH, st⟩, Same.refl _, fun i j w w' x y b _ z _ _ => (by
      cases i with
      | zero => rw [List.getElem?_cons_zero] at z; cases z
      | succ i => rw [List.getElem?_cons_succ] at z; obtain ⟨d, z, _⟩ := env_get z; cases z), fun i j x y u v c _ hm z1 z2 _ _ _ => by
      have k : ∀ (i : Nat) (x : Sl), (some Sl.strm :: envD (N.length - 1) n ds)[i]? = some (some x) → isMat x = false := fun i x z => by
        cases i with
        | zero => rw [List.getElem?_cons_zero] at z; cases z; rfl
        | succ i => rw [List.getElem?_cons_succ] at z; obtain ⟨d, z, _⟩ := env_get z; cases z; rfl
      rw [k i x z1, k j y z2] at hm
      cases hm⟩, ?_⟩ q
    ⟨fun env σ I' H' q' r' => k _ _ _ _ q' r'.r.gr (r'.r.st a rfl).2 .non, fun d v I' H' q' g s r' => k _ _ _ _ q' g (s a rfl) r', fun _ _ _ _ z => z.elim, fun _ _ _ _ z => z.elim, fun _ _ _ _ _ _ z => z.elim, fun _ _ _ _ _ _ z => z.elim, fun _ _ _ _ _ _ z => z.elim⟩
  · cases i with
    | zero =>
      rw [List.getElem?_cons_zero] at z ⊢
      cases z
      exact ⟨_, rfl, a, rfl, rfl⟩
    | succ i =>
      rw [List.getElem?_cons_succ] at z ⊢
      obtain ⟨d, rfl, hd⟩ := env_get z
      obtain ⟨v, hv, rv⟩ := r.got hd
      refine ⟨v, ?_, rv⟩
      have hi := (List.getElem?_eq_some_iff.mp hv).1
      rw [List.getElem?_append_left (by rw [List.length_map]; exact hi), List.getElem?_map, hv]
      rfl
  · cases i with
    | zero => rw [List.getElem?_cons_zero] at z; cases z
    | succ i =>
      rw [List.getElem?_cons_succ] at z
      obtain ⟨d, z, _⟩ := env_get z
      cases z
  · unfold envD
    rw [List.length_cons, List.length_cons, List.length_append, List.length_append, List.length_map, List.length_map, List.length_replicate, List.length_replicate, hl, hd]
section
variable {P : Program} {w : World} {K : Fg} {mg : Str → Option Value} {base : Heap}
theorem fn_ok {x qual : Str} {st : Stmt} {f : Addr} {fd : FuncData} {N ps : List Str} {k n : Nat} {t : T2S} (F : Fun K x qual st f fd) (S : FnScope N ps (defScope st)) (hn : ps.length = n)
    (hb : ∀ (cdv : Value) (A : Around) (outer : List Env) (s : Shared) (H : Hp) (Q : VK) (E : XK), Room k (A.deeper (envOfC qual (defScope st) s.heap.objs.size f cdv)) →
      ∃ ts, PSs (cxOf CX0 P w K mg base N qual (defScope st) f cdv A outer s H E).nox (defBody st) ts ∧ SS K ts t) : FnOk P w K mg base CX0 (k + 1) f fd ps (spD K n (bodyD N.length n t)) := by
  refine F.ok S (fun vs H Q E h => ?_) fun cdv A outer s H vs Q E hr h => ?_
  · obtain ⟨_, _, _, hl, _⟩ := h
    rw [hl, hn]
  · obtain ⟨ts, h1, h2⟩ := hb cdv A outer s H Q E hr
    exact ⟨ts, h1, body_ok h2 h⟩
theorem fn_okS {x qual : Str} {st : Stmt} {f : Addr} {fd : FuncData} {N ps : List Str} {k n : Nat} {t : T2S} (F : Fun K x qual st f fd) (S : FnScope N ps (defScope st)) (hn : ps.length = n + 1) (hN : 1 ≤ N.length)
    (hb : ∀ (cdv : Value) (A : Around) (outer : List Env) (s : Shared) (H : Hp) (Q : VK) (E : XK), Room k (A.deeper (envOfC qual (defScope st) s.heap.objs.size f cdv)) →
      ∃ ts, PSs (cxOf CX0 P w K mg base N qual (defScope st) f cdv A outer s H E).nox (defBody st) ts ∧ SS K ts t) : FnOk P w K mg base CX0 (k + 1) f fd ps (spS K n (bodyS (N.length - 1) n t)) := by
  refine F.ok S (fun vs H Q E h => ?_) fun cdv A outer s H vs Q E hr h => ?_
  · obtain ⟨_, _, ws, _, _, rfl, hl, _⟩ := h
    rw [List.length_cons, hl, hn]
  · obtain ⟨ts, h1, h2⟩ := hb cdv A outer s H Q E hr
    exact ⟨ts, h1, body_okS h2 h hN⟩
end
end Z2
namespace Z2
open PySem PySem.Spec PyProof.Rows L2
/-! ### operators of several kinds -/
section
variable {K : Fg}
theorem Sim2O.sim {r : R2} {r2 : D → D → (List D → Prop) → Prop} (h : Sim2O K r r2) : Sim2 K r (fun x y Q => r2 x y fun ds => Q (.list ds)) := fun I H x y dx dy Q2 Q e hx hy q k =>
  h I H x y dx dy _ Q e hx hy q fun es a ws q' h0 r' => k _ _ _ _ q' (Gr.new e h0) (.lst upd_same (Rps.mono (Gr.new (m := none) (o := .lst ws) e h0).ii _ _ r'))
def dAdd : R2D := fun x y Q => match x, y with
  | .int i, .int j => Q (.int (i + j)) | .tuple xs, .tuple ys => xs.length + ys.length ≤ 1000000 ∧ Q (.tuple (xs ++ ys)) | .list xs, .list ys => xs.length + ys.length ≤ 1000000 ∧ Q (.list (xs ++ ys)) | _, _ => False
abbrev rAddA (K : Fg) : R2 := fun x y H Q => (rI0 (fun i j => V.int (i + j)) x y H Q ∨ rCatA K x y H Q) ∨ rCat x y H Q
theorem op_addA {X : Cx} : OpR X (binaryOp .Add) (rAddA X.K) := OpR.or (OpR.or op_add op_catA) op_cat
theorem s2_add : Sim2 K (rAddA K) dAdd := by
  intro I H x y dx dy Q2 Q e hx hy q k
  unfold dAdd at q
  split at q
  · exact .inl (.inl (s2_int (g := fun i j => i + j) I H x y _ _ Q2 Q e hx hy q k))
  · exact .inl (.inr (s2_catT I H x y _ _ Q2 Q e hx hy q k))
  · exact .inr (s2_catL.sim I H x y _ _ Q2 Q e hx hy q k)
  · exact q.elim
def dMul : R2D := fun x y Q => match x, y with
  | .int i, .int j => CMul i j ∧ Q (.int (i * j)) | .list xs, .int n => -1000000 ≤ n ∧ n ≤ 1000000 ∧ xs.length * n.toNat ≤ 1000000 ∧ Q (.list (List.replicate n.toNat xs).flatten)
  | .tuple xs, .int n => xs ≠ [] ∧ 2 ≤ n ∧ n ≤ 1000 ∧ xs.length ≤ 1000 ∧ Q (.tuple (List.replicate n.toNat xs).flatten) | _, _ => False
abbrev rMulA (K : Fg) : R2 := fun x y H Q => (rI CMul (fun i j => V.int (i * j)) x y H Q ∨ rRepT K x y H Q) ∨ rRep x y H Q
theorem op_mulA {X : Cx} : OpR X (binaryOp .Mult) (rMulA X.K) := OpR.or (OpR.or op_mul op_repT) op_rep
theorem s2_mul : Sim2 K (rMulA K) dMul := by
  intro I H x y dx dy Q2 Q e hx hy q k
  unfold dMul at q
  split at q
  · exact .inl (.inl (s2_intC (C := CMul) (g := fun i j => i * j) I H x y _ _ Q2 Q e hx hy q k))
  · exact .inr (s2_repL.sim I H x y _ _ Q2 Q e hx hy q k)
  · exact .inl (.inr (s2_repT I H x y _ _ Q2 Q e hx hy q k))
  · exact q.elim
def dSub : R2D := d2I fun i j => .int (i - j)
def dDiv : R2D := d2IC CDiv fun i j => .int (i / j)
def dMod : R2D := d2IC (fun _ j => 0 < j) fun i j => .int (i % j)
def dPow : R2D := d2IC CPow fun i j => .int (i ^ j.toNat)
def dLt : R2D := d2I fun i j => .bool (decide (i < j))
def dLe : R2D := d2I fun i j => .bool (decide (i ≤ j))
def dGt : R2D := d2I fun i j => .bool (decide (j < i))
def dGe : R2D := d2I fun i j => .bool (decide (j ≤ i))
theorem s2_sub : Sim2 K (rI0 fun i j => .int (i - j)) dSub := s2_int (g := fun i j => i - j)
theorem s2_pow : Sim2 K (rI CPow fun i j => .int (i ^ j.toNat)) dPow := s2_intC (g := fun i j => i ^ j.toNat)
theorem s2_lt : Sim2 K (rI0 fun i j => .bl (decide (i < j))) dLt := s2_bool (g := fun i j => decide (i < j))
theorem s2_le : Sim2 K (rI0 fun i j => .bl (decide (i ≤ j))) dLe := s2_bool (g := fun i j => decide (i ≤ j))
theorem s2_gt : Sim2 K (rI0 fun i j => .bl (decide (j < i))) dGt := s2_bool (g := fun i j => decide (j < i))
def dNeg : R1D := fun x Q => match x with | .int i => Q (.int (-i)) | _ => False
theorem s1_neg : Sim1 K (rU fun i => .int (-i)) dNeg := by
  intro I H x dx Q2 Q e hx q k
  unfold dNeg at q
  split at q
  · cases hx; exact ⟨_, rfl, k _ _ I H q (.refl e) (.int _)⟩
  · exact q.elim
/-- a slice -/
def dSl (a : T2E) (l u : T2O) : T2E := fun env Q => a env fun x => l env fun lo => u env fun hi => match x with | .tuple ds => Q (.tuple (cutD ds lo hi)) | .list ds => Q (.list (cutD ds lo hi)) | _ => False
abbrev rSlAny (K : Fg) : V → Option Int → Option Int → Hp → VK → Prop := fun x lo hi H Q => rSlA K x lo hi H Q ∨ rSlL K x lo hi H Q
/-- truth -/
def dTru (a : T2E) : T2T := fun env Q => a env fun d => match d with
  | .bool b => Q b | .none => Q false | .int i => Q (i != 0) | .list ds => Q (!ds.isEmpty) | .tuple ds => Q (!ds.isEmpty) | .str x => x.length ≤ 1000000 ∧ Q ((x.length : Int) != 0) | _ => False
theorem Rps.isEmpty {I : Hp} {vs : List V} {ds : List D} (h : Rps K I vs ds) : vs.isEmpty = ds.isEmpty := by cases h <;> rfl
theorem st_truth {ta : TE} {a : T2E} (ha : SE K ta a) : ST K (fun σ H Q => ta σ H fun x H' => ∃ k, TruV K x H' k ∧ Q k H') (dTru a) := by
  intro p env σ I H Q2 Q rl q k
  refine ha p env σ I H _ _ rl q fun d v I1 H1 q1 s1 h1 => ?_
  cases h1 with
  | non => exact ⟨_, rfl, k _ _ _ q1 s1⟩
  | bl b => exact ⟨_, rfl, k _ _ _ q1 s1⟩
  | int b => exact ⟨_, rfl, k _ _ _ q1 s1⟩
  | str b => exact ⟨_, ⟨le_line q1.1, rfl⟩, k _ _ _ q1.2 s1⟩
  | lst e1 e2 => exact ⟨_, .inl ⟨_, SqL.of (s1.ih _ _ e1), rfl⟩, by rw [e2.isEmpty]; exact k _ _ _ q1 s1⟩
  | tup e1 e2 => exact ⟨_, .inr (.inl ⟨_, Same.sqt s1.ih e1, rfl⟩), by rw [e2.isEmpty]; exact k _ _ _ q1 s1⟩
  | dic _ _ => exact q1.elim
/-- a list or a tuple, walked -/
def iSeq (K : Fg) (tl : TE) : TI := fun σ H R => tl σ H fun x H1 => (∃ a xs, x = .ref a ∧ SqL K H1 a xs ∧ R (Itl K a) H1) ∨ ∃ a xs, x = .ref a ∧ SqT K H1 a xs ∧ R (Itt K a) H1
def diS (a : T2E) : T2I := fun env Q => a env fun d => match d with | .list ds => Q ds | .tuple ds => Q ds | _ => False
theorem si_seq {ta : TE} {a : T2E} (ha : SE K ta a) : SI K (iSeq K ta) (diS a) := by
  intro p env σ I H Q2 R rl q k
  refine ha p env σ I H _ _ rl q fun d v I1 H1 q1 s1 h1 => ?_
  cases d <;> first | exact q1.elim | skip
  · cases h1 with
    | lst h2 h3 => exact .inl ⟨_, _, rfl, SqL.of (s1.ih _ _ h2), k _ _ _ _ q1 s1 (itr_list h2 h3)⟩
  · cases h1 with
    | tup h2 h3 => exact .inr ⟨_, _, rfl, Same.sqt s1.ih h2, k _ _ _ _ q1 s1 (itr_tup h2 h3)⟩
end
theorem pi_seq {X : Cx} {tg l : Expr} {tl : TE} (hl : PE X l tl) : PI X tg l (iSeq X.K tl) := ⟨fun pins s σ H R I h =>
  thn (hl.run pins s σ H _ I h) fun v s1 ⟨x, H1, I1, r1, q1⟩ => by
    have fp : ∀ b ∈ [s1.heap.objs.size], FpOk X pins H1 b := fun b hb => by
      rw [List.mem_singleton.mp hb]; exact I1.fpOk (Nat.le_refl _) (I1.hok.fresh (Nat.le_refl _))
    rcases q1 with ⟨a, xs, rfl, hq, q⟩ | ⟨a, xs, rfl, hq, q⟩
    · cases r1
      obtain ⟨its, rv, pl, _⟩ := I1.list hq
      exact wpAny_pyIter_list pl.isList ⟨_, [s1.heap.objs.size], _, _, H1, rfl, I1.kept (t' := s1.toks) fun b o e => Heap.get?_push_of_some _ e, turn_list a _, ⟨_, Heap.get?_push_size _ rfl, rfl, rfl⟩, fp, q⟩
    · cases r1
      obtain ⟨its, rv, pl, _⟩ := I1.tuple hq
      exact wpAny_pyIter_tuple (show s1.heap.IsTuple a its.toArray from pl) ⟨_, [s1.heap.objs.size], _, _, H1, rfl, I1.kept (t' := s1.toks) fun b o e => Heap.get?_push_of_some _ e, turn_tuple a _, ⟨_, Heap.get?_push_size _ rfl, rfl, rfl⟩, fp, q⟩⟩
/-! ### the text's own names -/
theorem pe_gint {X : Cx} {x : Str} {n : Int} {pos : Pos} (h : ∃ t, X.mg x = some (.int n t)) (hg : Gl X x) (hd : (x == ("__debug__" : Str)) = false := by decide) : PE X (.Name x pos) (tC (.int n)) := by
  obtain ⟨t, h⟩ := h
  exact pe_glob hg h ⟨t, rfl⟩ hd
/-- a def of the text's top -/
def Df (K : Fg) (mg : Str → Option Value) (x : Str) (st : Stmt) : Prop := ∃ f fd, Fun K x x st f fd ∧ mg x = some (.ref f)
/-- a def that keeps its promise -/
structure Fx (P : Program) (w : World) (K : Fg) (mg : Str → Option Value) (base : Heap) (k : Nat) (x : Str) (ps : List Str) (sp : Sp) : Prop where
  ex : ∃ f fd, FnOk P w K mg base CX0 k f fd ps sp ∧ mg x = some (.ref f) ∧ PySem.W.keepIn K (.ref f) = true ∧ Binds K fd ps []
section
variable {P : Program} {w : World} {K : Fg} {mg : Str → Option Value} {base : Heap} {x : Str} {ps : List Str} {sp : Sp}
theorem pe_fx {X : Cx} {k : Nat} {p pos : Pos} {e : Expr} {es : List Expr} {t : TA} (G : Fx X.prog X.w X.K X.mg X.base k x ps sp) (hr : Room k X.A) (hg : Gl X x) (ha : PA X (e :: es) t) (hdb : (x == ("__debug__" : Str)) = false := by decide)
    (he : starEach (e :: es) X.env = (false, eval e X.env) :: starEach es X.env := by rfl) (hpl : (backTo pos (starEach es X.env)).any (·.1) = false := by rfl) : PE X (.Call (.Name x p) (e :: es) [] pos) (tCall sp [] E0 t) := by
  obtain ⟨f, fd, F, hm, hk, hb⟩ := G.ex
  exact pe_call F hr hg hm hk hb .nil pass0 ha hdb he hpl
/-- how a def of the top binds -/
def BindsBy (x : Str) (st : Stmt) (ps : List Str) : Prop := ∀ (kV doc pm : Value) (an : Option Addr) (cdv ct : Value) (us : List Value), us.length = ps.length → bindArgs (PySem.W.fnOf x x (defArgs st) (defBody st) (defScope st) .none kV doc pm an cdv ct) ⟨us, []⟩ = pure (ps.zip us)
theorem fx_of {st : Stmt} {N : List Str} {k n : Nat} {t : T2S} (d : Df K mg x st) (S : FnScope N ps (defScope st)) (bb : BindsBy x st ps) (hn : ps.length = n)
    (hb : ∀ (f : Addr) (cdv : Value) (A : Around) (outer : List Env) (s : Shared) (H : Hp) (Q : VK) (E : XK), Room k (A.deeper (envOfC x (defScope st) s.heap.objs.size f cdv)) →
      ∃ ts, PSs (cxOf CX0 P w K mg base N x (defScope st) f cdv A outer s H E).nox (defBody st) ts ∧ SS K ts t) : Fx P w K mg base (k + 1) x ps (spD K n (bodyD N.length n t)) := by
  obtain ⟨f, fd, F, hm⟩ := d
  exact ⟨f, fd, fn_ok F S hn (hb f), hm, F.kp, F.binds bb⟩
theorem fx_ofS {st : Stmt} {N : List Str} {k n : Nat} {t : T2S} (d : Df K mg x st) (S : FnScope N ps (defScope st)) (bb : BindsBy x st ps) (hn : ps.length = n + 1) (hN : 1 ≤ N.length)
    (hb : ∀ (f : Addr) (cdv : Value) (A : Around) (outer : List Env) (s : Shared) (H : Hp) (Q : VK) (E : XK), Room k (A.deeper (envOfC x (defScope st) s.heap.objs.size f cdv)) →
      ∃ ts, PSs (cxOf CX0 P w K mg base N x (defScope st) f cdv A outer s H E).nox (defBody st) ts ∧ SS K ts t) : Fx P w K mg base (k + 1) x ps (spS K n (bodyS (N.length - 1) n t)) := by
  obtain ⟨f, fd, F, hm⟩ := d
  exact ⟨f, fd, fn_okS F S hn hN (hb f), hm, F.kp, F.binds bb⟩
end
/-! ### classes as values -/
theorem ty_tuple {K : Fg} : tyTab K "tuple" := ⟨kit_ty (by decide +kernel), kit_ty (by decide +kernel), kit_ty (by decide +kernel), kit_ty (by decide +kernel), kit_ty (by decide +kernel), kit_ty (by decide +kernel), kit_ty (by decide +kernel)⟩
theorem ty_int {K : Fg} : tyTab K "int" := ⟨kit_ty (by decide +kernel), kit_ty (by decide +kernel), kit_ty (by decide +kernel), kit_ty (by decide +kernel), kit_ty (by decide +kernel), kit_ty (by decide +kernel), kit_ty (by decide +kernel)⟩
theorem ty_bool {K : Fg} : tyTab K "bool" := ⟨kit_ty (by decide +kernel), kit_ty (by decide +kernel), kit_ty (by decide +kernel), kit_ty (by decide +kernel), kit_ty (by decide +kernel), kit_ty (by decide +kernel), kit_ty (by decide +kernel)⟩
theorem ty_str {K : Fg} : tyTab K "str" := ⟨kit_ty (by decide +kernel), kit_ty (by decide +kernel), kit_ty (by decide +kernel), kit_ty (by decide +kernel), kit_ty (by decide +kernel), kit_ty (by decide +kernel), kit_ty (by decide +kernel)⟩
theorem bt_isi : bootBuiltins ("isinstance" : Str) = some (.builtin "isinstance") := by decide +kernel
theorem bt_all : bootBuiltins ("all" : Str) = some (.builtin "all") := by decide +kernel
theorem bt_any : bootBuiltins ("any" : Str) = some (.builtin "any") := by decide +kernel
theorem bt_abs : bootBuiltins ("abs" : Str) = some (.builtin "abs") := by decide +kernel
theorem bt_min : bootBuiltins ("min" : Str) = some (.builtin "min") := by decide +kernel
theorem bt_max : bootBuiltins ("max" : Str) = some (.builtin "max") := by decide +kernel
theorem bt_sorted : bootBuiltins ("sorted" : Str) = some (.builtin "sorted") := by decide +kernel
theorem bt_tuple : bootBuiltins ("tuple" : Str) = some (.type "tuple") := by decide +kernel
theorem bt_list : bootBuiltins ("list" : Str) = some (.type "list") := by decide +kernel
theorem bt_int : bootBuiltins ("int" : Str) = some (.type "int") := by decide +kernel
theorem bt_bool : bootBuiltins ("bool" : Str) = some (.type "bool") := by decide +kernel
theorem bt_str : bootBuiltins ("str" : Str) = some (.type "str") := by decide +kernel
/-! ### the draws -/
def spStream (K : Fg) : Sp := fun vs H Q _ => ∃ (a : Addr) (ns : List Int), vs = [.ref a] ∧ SqL K H a (ns.map V.int) ∧
  ∀ p l H', H' p = some (.lst [.ref l, .int 0, .int 0]) → H' l = some (.lst (ns.map V.int)) → p ≠ l → Q (.ref p) H'
def f_next : RCD := fun ds Q => ∃ n : Int, ds = [.int n] ∧ 0 < n ∧ n < 1073741824 ∧ ∀ d : Int, 0 ≤ d → d < n → Q (.int d)
def rInt : List V → Hp → VK → Prop := fun xs H Q => (∃ i, xs = [.int i] ∧ Q (.int i) H) ∨ ∃ k, xs = [.bl k] ∧ Q (.int (if k then 1 else 0)) H
def rAbs : List V → Hp → VK → Prop := fun xs H Q => ∃ i, xs = [.int i] ∧ Q (.int (if i < 0 then -i else i)) H
def rLenQ (K : Fg) : List V → Hp → VK → Prop := fun xs H Q => ∃ p ys, xs = [.ref p] ∧ (SqL K H p ys ∨ SqT K H p ys) ∧ Q (.int ys.length) H
abbrev iAdd (a b : TE) : TE := tOp (rI0 fun i j => .int (i + j)) a b
abbrev iMul (a b : TE) : TE := tOp (rI CMul fun i j => .int (i * j)) a b
abbrev iMod (a b : TE) : TE := tOp (rI (fun _ j => 0 < j) fun i j => .int (i % j)) a b
abbrev iDiv (a b : TE) : TE := tOp (rI CDiv fun i j => .int (i / j)) a b
abbrev iPow (a b : TE) : TE := tOp (rI CPow fun i j => .int (i ^ j.toNat)) a b
abbrev iLt (a b : TE) : TE := tOp (rI0 fun i j => .bl (decide (i < j))) a b
abbrev iAt (K : Fg) (a b : TE) : TE := tOp (rIxL K) a b
abbrev iInt (a : TE) : TE := tCB rInt (tCons a tNil)
/-- the cell is made anew -/
def t_refill (K : Fg) : TS :=
  tSeq (tAsg (iAt K (tVar 0) (tC (.int 2))) (gName 2)) (tSeq (tAsg (iAdd (tC (.int 7)) (tVar 2)) (gName 3))
    (tSeq (tIfS (tTest (iLt (tVar 2) (tCB (rLenQ K) (tCons (iAt K (tVar 0) (tC (.int 0))) tNil)))) (tAsg (tCB rAbs (tCons (iAt K (iAt K (tVar 0) (tC (.int 0))) (tVar 2)) tNil)) (gName 3)) tNext)
    (tSeq (tIfS (tTest (iLt (tVar 3) (iPow (tC (.int 10)) (tC (.int 18)))))
        (tSeq (tAsg (iMod (iInt (iAdd (iAdd (iMul (tVar 3) (tC (.int 48271))) (iMul (tVar 2) (tC (.int 69621)))) (tC (.int 11)))) (tC (.int 2147483647))) (gName 3))
          (tAsg (iAdd (iMul (iMod (iInt (iAdd (iMul (tVar 3) (tC (.int 16807))) (tC (.int 13)))) (tC (.int 2147483647))) (tC (.int 65537))) (tVar 3)) (gName 3))) tNext)
    (tSeq (tAsg (tVar 3) (gSub (tVar 0) (tC (.int 1)) rSetL)) (tAsg (iAdd (tVar 2) (tC (.int 1))) (gSub (tVar 0) (tC (.int 2)) rSetL))))))
def t_next (K : Fg) : TS :=
  tSeq (tIfS (tTest (tOp rEq (iAt K (tVar 0) (tC (.int 1))) (tC (.int 0)))) (t_refill K) tNext)
    (tSeq (tAsg (iMod (iInt (iAt K (tVar 0) (tC (.int 1)))) (tVar 1)) (gName 4)) (tSeq (tAsg (iDiv (iAt K (tVar 0) (tC (.int 1))) (tVar 1)) (gSub (tVar 0) (tC (.int 1)) rSetL)) (tRet (tVar 4))))
/-- the stream's list in any state -/
structure Drw (I H H' : Hp) (a l : Addr) (ns : List Int) : Prop where
  il : I l = some (.lst (ns.map V.int))
  ia : I a = none
  hh : ∀ b o, H b = some o → b ≠ a → H' b = some o
  th : ∀ b, H b ≠ none → H' b ≠ none
  ih : Same I H'
theorem Drw.put {I H H' : Hp} {a l : Addr} {ns : List Int} (d : Drw I H H' a l ns) (o : HO) : Drw I H (upd H' a o) a l ns :=
  ⟨d.il, d.ia, fun b u q n => by rw [upd_ne n]; exact d.hh b u q n, fun b q => by
    by_cases hb : b = a
    · rw [hb, upd_same]; exact fun z => nomatch z
    · rw [upd_ne hb]; exact d.th b q, fun b u q => by rw [upd_ne (ne_of_none q d.ia)]; exact d.ih b u q⟩
theorem next_ok {K : Fg} {s1 s2 s3 s4 s5 : Str} {vs : List V} {H : Hp} {Q : VK} {E : XK} (q : spS K 1 f_next vs H Q E) : t_next K { nx := fun _ H' => Q .non H', rt := Q } (L2.start [s1, s2, s3, s4, s5] vs) H := by
  obtain ⟨I, a, ws, ds, Q2, rfl, hl, e, ⟨ia, l, c, k, ns, ha, il, hk⟩, r, ⟨n, rfl, n0, n1, q⟩, post⟩ := q
  obtain ⟨v, rfl, rv⟩ := r.one
  cases rv
  have d0 : Drw I H H a l ns := ⟨il, ia, fun _ _ h _ => h, fun _ h => h, e⟩
  -- behind the first statement
  have tail : ∀ (c k : Int) (H' : Hp) (o2 o3 : Option V), Drw I H H' a l ns → H' a = some (.lst [.ref l, .int c, .int k]) → 0 ≤ k →
      tSeq (tAsg (iMod (iInt (iAt K (tVar 0) (tC (.int 1)))) (tVar 1)) (gName 4)) (tSeq (tAsg (iDiv (iAt K (tVar 0) (tC (.int 1))) (tVar 1)) (gSub (tVar 0) (tC (.int 1)) rSetL)) (tRet (tVar 4)))
        { nx := fun _ H' => Q .non H', rt := Q } [some (.ref a), some (.int n), o2, o3, none] H' := by
    intro c k H' o2 o3 d h hk
    refine ⟨_, rfl, a, _, 1, .int c, rfl, rfl, SqL.of h, rfl, .inl ⟨c, rfl, ?_⟩⟩
    refine ⟨_, rfl, c, n, rfl, rfl, n0, ?_⟩
    refine ⟨_, rfl, a, _, 1, .int c, rfl, rfl, SqL.of h, rfl, _, rfl, c, n, rfl, rfl, ⟨n0, n1⟩, ?_⟩
    refine ⟨_, rfl, a, _, 1, 1, rfl, rfl, h, rfl, ?_⟩
    refine ⟨_, rfl, ?_⟩
    have d2 := d.put (.lst ([V.ref l, .int c, .int k].set 1 (.int (c / n))))
    refine post _ _ I _ (q _ (Int.emod_nonneg _ (by omega)) (Int.emod_lt_of_pos _ n0)) ⟨Same.refl _, d2.ih, fun b o z m => d2.hh b o z (fun w => m (by rw [w])), fun b z _ => z, d2.th⟩ ⟨ia, l, c / n, k, ns, upd_same, il, hk⟩ (.int _)
  refine ⟨_, rfl, a, _, 1, .int c, rfl, rfl, SqL.of ha, rfl, rfl, _, rfl, ?_⟩
  refine ite2 (fun _ => ?_) (fun _ => tail c k H none none d0 ha hk)
  have hL : H l = some (.lst (ns.map V.int)) := e _ _ il
  refine ⟨_, rfl, a, _, 2, .int k, rfl, rfl, SqL.of ha, rfl, ?_⟩
  refine ⟨_, rfl, 7, k, rfl, rfl, ?_⟩
  refine ⟨_, rfl, _, rfl, a, _, 0, .ref l, rfl, rfl, SqL.of ha, rfl, l, _, rfl, .inl (SqL.of hL), k, _, rfl, rfl, _, rfl, ?_⟩
  have rest : ∀ cell : Int, tSeq (tIfS (tTest (iLt (tVar 3) (iPow (tC (.int 10)) (tC (.int 18)))))
        (tSeq (tAsg (iMod (iInt (iAdd (iAdd (iMul (tVar 3) (tC (.int 48271))) (iMul (tVar 2) (tC (.int 69621)))) (tC (.int 11)))) (tC (.int 2147483647))) (gName 3))
          (tAsg (iAdd (iMul (iMod (iInt (iAdd (iMul (tVar 3) (tC (.int 16807))) (tC (.int 13)))) (tC (.int 2147483647))) (tC (.int 65537))) (tVar 3)) (gName 3))) tNext)
      (tSeq (tAsg (tVar 3) (gSub (tVar 0) (tC (.int 1)) rSetL)) (tAsg (iAdd (tVar 2) (tC (.int 1))) (gSub (tVar 0) (tC (.int 2)) rSetL)))
      { nx := (tSeq (tAsg (iMod (iInt (iAt K (tVar 0) (tC (.int 1)))) (tVar 1)) (gName 4)) (tSeq (tAsg (iDiv (iAt K (tVar 0) (tC (.int 1))) (tVar 1)) (gSub (tVar 0) (tC (.int 1)) rSetL)) (tRet (tVar 4)))) { nx := fun _ H' => Q .non H', rt := Q }, rt := Q }
      [some (.ref a), some (.int n), some (.int k), some (.int cell), none] H := by
    intro cell
    have fin : ∀ cell : Int, tSeq (tAsg (tVar 3) (gSub (tVar 0) (tC (.int 1)) rSetL)) (tAsg (iAdd (tVar 2) (tC (.int 1))) (gSub (tVar 0) (tC (.int 2)) rSetL))
        { nx := (tSeq (tAsg (iMod (iInt (iAt K (tVar 0) (tC (.int 1)))) (tVar 1)) (gName 4)) (tSeq (tAsg (iDiv (iAt K (tVar 0) (tC (.int 1))) (tVar 1)) (gSub (tVar 0) (tC (.int 1)) rSetL)) (tRet (tVar 4)))) { nx := fun _ H' => Q .non H', rt := Q }, rt := Q }
        [some (.ref a), some (.int n), some (.int k), some (.int cell), none] H := by
      intro cell
      refine ⟨_, rfl, _, rfl, a, _, 1, 1, rfl, rfl, ha, rfl, ?_⟩
      refine ⟨_, rfl, k, 1, rfl, rfl, _, rfl, a, _, 2, 2, rfl, rfl, upd_same, rfl, ?_⟩
      exact tail cell (k + 1) _ _ _ ((d0.put _).put _) upd_same (by omega)
    refine ⟨_, rfl, 10, 18, rfl, rfl, ⟨by decide, by decide, by decide⟩, cell, _, rfl, rfl, _, rfl, ?_⟩
    refine ite2 (fun _ => ?_) (fun _ => fin cell)
    refine ⟨_, rfl, cell, 48271, rfl, rfl, .inr ⟨by decide, by decide⟩, _, rfl, k, 69621, rfl, rfl, .inr ⟨by decide, by decide⟩, _, _, rfl, rfl, _, 11, rfl, rfl, .inl ⟨_, rfl, _, 2147483647, rfl, rfl, (by show (0 : Int) < 2147483647; decide), ?_⟩⟩
    refine ⟨_, rfl, _, 16807, rfl, rfl, .inr ⟨by decide, by decide⟩, _, 13, rfl, rfl, .inl ⟨_, rfl, _, 2147483647, rfl, rfl, (by show (0 : Int) < 2147483647; decide), ?_⟩⟩
    exact ⟨_, 65537, rfl, rfl, .inr ⟨by decide, by decide⟩, _, rfl, _, _, rfl, rfl, fin _⟩
  refine ite2 (fun hlt => ?_) (fun _ => rest _)
  have hlt := of_decide_eq_true hlt
  have hb : k.toNat < ns.length := by rw [List.length_map] at hlt; omega
  have hat : atI (ns.map V.int) k = some (V.int ns[k.toNat]) := at_of (j := k.toNat) (by omega) (by rw [List.getElem?_map, List.getElem?_eq_getElem hb]; rfl)
  exact ⟨_, rfl, a, _, 0, .ref l, rfl, rfl, SqL.of ha, rfl, _, rfl, l, _, k, _, rfl, rfl, SqL.of hL, hat, _, rfl, rest _⟩
end Z2
namespace Z2
open PySem PySem.Spec PyProof.Rows L2
section
variable {P : Program} {w : World} {K : Fg} {mg : Str → Option Value} {base : Heap} {x : Str} {st : Stmt}
def rListOf (K : Fg) : List V → Hp → VK → Prop := fun xs H Q => ∃ p ys, xs = [.ref p] ∧ (SqL K H p ys ∨ SqT K H p ys) ∧ ∀ l, H l = none → Q (.ref l) (upd H l (.lst ys))
def t_stream (K : Fg) : TS := tRet (tLst (tCons (tCB (rListOf K) (tCons (tVar 0) tNil)) (tCons (tC (.int 0)) (tCons (tC (.int 0)) tNil))))
theorem fx_stream {s1 : Str} (d : Df K mg x st) (S : FnScope [s1] [s1] (defScope st)) (bb : BindsBy x st [s1])
    (hb : ∀ (f : Addr) (cdv : Value) (A : Around) (outer : List Env) (s : Shared) (H : Hp) (Q : VK) (E : XK), Room 0 (A.deeper (envOfC x (defScope st) s.heap.objs.size f cdv)) →
      PSs (cxOf CX0 P w K mg base [s1] x (defScope st) f cdv A outer s H E).nox (defBody st) (t_stream K)) : Fx P w K mg base 1 x [s1] (spStream K) := by
  obtain ⟨f, fd, F, hm⟩ := d
  refine ⟨f, fd, F.ok S (fun vs H Q E h => ?_) (fun cdv A outer s H vs Q E hr h => ⟨t_stream K, hb f cdv A outer s H Q E hr, ?_⟩), hm, F.kp, F.binds bb⟩
  · obtain ⟨a, ns, rfl, _⟩ := h
    rfl
  · obtain ⟨a, ns, rfl, hS, k⟩ := h
    refine ⟨_, rfl, a, _, rfl, .inl hS, fun l hl => ⟨by show 3 ≤ sizeLine; exact le_line (by decide), fun p hp => ?_⟩⟩
    have npl : p ≠ l := fun e => by rw [e, upd_same] at hp; cases hp
    exact k p l _ upd_same (by rw [upd_ne npl.symm]; exact upd_same) npl
theorem fx_next {s1 s2 s3 s4 s5 : Str} (d : Df K mg x st) (S : FnScope [s1, s2, s3, s4, s5] [s1, s2] (defScope st)) (bb : BindsBy x st [s1, s2])
    (hb : ∀ (f : Addr) (cdv : Value) (A : Around) (outer : List Env) (s : Shared) (H : Hp) (Q : VK) (E : XK), Room 0 (A.deeper (envOfC x (defScope st) s.heap.objs.size f cdv)) →
      PSs (cxOf CX0 P w K mg base [s1, s2, s3, s4, s5] x (defScope st) f cdv A outer s H E).nox (defBody st) (t_next K)) : Fx P w K mg base 1 x [s1, s2] (spS K 1 f_next) := by
  obtain ⟨f, fd, F, hm⟩ := d
  refine ⟨f, fd, F.ok S (fun vs H Q E h => ?_) (fun cdv A outer s H vs Q E hr h => ⟨t_next K, hb f cdv A outer s H Q E hr, next_ok h⟩), hm, F.kp, F.binds bb⟩
  obtain ⟨_, _, ws, _, _, rfl, hl, _⟩ := h
  rw [List.length_cons, hl]; rfl
/-! ### the law -/
def spLaw (K : Fg) : Sp := fun vs H Q _ => ∃ (a : Addr) (ns : List Int), vs = [.ref a] ∧ SqL K H a (ns.map V.int) ∧ ns.length ≤ 63 ∧ ∀ H', Q (.bl true) H'
theorem law_of {s1 : Str} {N : List Str} {k : Nat} {t : T2S} {f : Addr} {fd : FuncData} (F : Fun K "law" "law" st f fd) (S : FnScope N [s1] (defScope st)) (hN : 2 ≤ N.length)
    (pure : t { nx := fun _ => False, rt := fun d => d = .bool true } (none :: some .strm :: List.replicate (N.length - 2) none))
    (hb : ∀ (cdv : Value) (A : Around) (outer : List Env) (s : Shared) (H : Hp) (Q : VK) (E : XK), Room k (A.deeper (envOfC "law" (defScope st) s.heap.objs.size f cdv)) →
      ∃ ts, PSs (cxOf CX0 P w K mg base N "law" (defScope st) f cdv A outer s H E).nox (defBody st) (tSeq (tAsg (tCall (spStream K) [] E0 (tCons (tVar 0) tNil)) (gName 1)) ts) ∧ SS K ts t) : FnOk P w K mg base CX0 (k + 1) f fd [s1] (spLaw K) := by
  refine F.ok S (fun vs H Q E h => ?_) (fun cdv A outer s H vs Q E hr h => ?_)
  · obtain ⟨a, ns, rfl, _⟩ := h
    rfl
  · obtain ⟨ts, h1, h2⟩ := hb cdv A outer s H Q E hr
    refine ⟨_, h1, ?_⟩
    obtain ⟨a, ns, rfl, hS, _, k⟩ := h
    obtain ⟨m, hm⟩ : ∃ m, N.length = m + 2 := ⟨N.length - 2, by omega⟩
    have e0 : L2.start N [.ref a] = some (.ref a) :: none :: List.replicate m none := by
      unfold L2.start
      rw [hm]
      rfl
    rw [e0]
    refine ⟨_, rfl, a, ns, rfl, hS, fun p l H' hp hl npl => ?_⟩
    let I : Hp := fun b => if b = l then H' l else none
    have Il : I l = some (.lst (ns.map V.int)) := by show (if l = l then H' l else none) = _; rw [if_pos rfl]; exact hl
    have Ip : I p = none := if_neg npl
    have IH : Same I H' := fun b o q => by
      by_cases e : b = l
      · subst e
        rw [Il] at q
        rw [hl]; exact q
      · have z : I b = none := if_neg e
        rw [z] at q; cases q
    have em : N.length - 2 = m := by omega
    rw [em] at pure
    have hnone : ∀ {α : Type} (i : Nat) (x : α), (List.replicate m (none : Option α))[i]? ≠ some (some x) := fun {α} i x q => by
      rw [List.getElem?_replicate] at q
      split at q <;> cases q
    refine h2 ⟨some p, I, H', I⟩ _ _ I H' _ _ ⟨⟨.refl IH, fun i x q => ?_, fun i j x y b _ q _ _ => ?_, fun s es => ?_, .refl _, fun i j w w' x y b _ q _ _ => (by
      match i, q with
      | 0, q => cases q
      | 1, q => cases q
      | i + 2, q => exact absurd q (hnone i _)), fun i j x y u v c _ hm z1 z2 _ _ _ => by
      have k : ∀ (i : Nat) (x : Sl), (none :: some Sl.strm :: List.replicate m none)[i]? = some (some x) → isMat x = false := fun i x q => by
        match i, q with
        | 0, q => cases q
        | 1, q => cases q; rfl
        | i + 2, q => exact absurd q (hnone i _)
      rw [k i x z1, k j y z2] at hm
      cases hm⟩, ?_⟩ pure ⟨fun _ _ _ _ z => z.elim, fun d v I' H2 q _ _ r => ?_, fun _ _ _ _ z => z.elim, fun _ _ _ _ z => z.elim, fun _ _ _ _ _ _ z => z.elim, fun _ _ _ _ _ _ z => z.elim, fun _ _ _ _ _ _ z => z.elim⟩
    · match i, q with
      | 0, q => cases q
      | 1, q => cases q; exact ⟨.ref p, rfl, p, rfl, rfl⟩
      | i + 2, q => exact absurd q (hnone i x)
    · match i, q with
      | 0, q => cases q
      | 1, q => cases q
      | i + 2, q => exact absurd q (hnone i _)
    · cases es
      exact ⟨by show H' p ≠ none; rw [hp]; exact fun z => (by cases z), Ip, l, 0, 0, ns, hp, Il, Int.le_refl _⟩
    · show _ = (List.set (some (V.ref a) :: none :: List.replicate m none) 1 _).length
      rw [List.length_set]
      simp
    · have q : d = .bool true := q
      subst q
      cases r
      exact k H2
/-! ### the law's own equality -/
mutual
def sq : D → D → Bool
  | .none, d => (match d with | .none => true | _ => false)
  | .bool a, d => (match d with | .bool b => a == b | _ => false)
  | .int a, d => (match d with | .int b => a == b | _ => false)
  | .str a, d => (match d with | .str b => a == b | _ => false)
  | .list a, d => (match d with | .list b => sqs a b | _ => false)
  | .tuple a, d => (match d with | .tuple b => sqs a b | _ => false)
  | .dict _, _ => false
def sqs : List D → List D → Bool
  | [], ds => (match ds with | [] => true | _ => false)
  | x :: xs, ds => (match ds with | y :: ys => sq x y && sqs xs ys | [] => false)
end
def okD : Nat → D → Bool
  | 0, _ => false
  | n + 1, .list ds => decide (ds.length ≤ 1000000) && ds.all (okD n)
  | n + 1, .tuple ds => decide (ds.length ≤ 1000000) && ds.all (okD n)
  | _ + 1, .dict _ => false
  | _ + 1, _ => true
def f_equal (n : Nat) : RCD := fun ds Q => match ds with | [a, d] => okD n d = true ∧ PyData.canLay0 a = true ∧ PyData.canLay0 d = true ∧ Q (.bool (sq a d)) | _ => False
end
end Z2
namespace Z2
open PySem PySem.Spec PyProof.Rows L2
theorem seq_gen {t u : T2S} {E : Ends2} {env : Ev} (h : ∀ N, N = u E → t { E with nx := N } env) : dSeq t u E env := h _ rfl
/-! ### plain data: lemmas -/
def isI : D → Bool | .int _ => true | .bool _ => true | _ => false
def isB : D → Bool | .bool _ => true | _ => false
def isS : D → Bool | .str _ => true | _ => false
def isTu : D → Bool | .tuple _ => true | _ => false
def isLi : D → Bool | .list _ => true | _ => false
theorem isT_int (d : D) : isT "int" d = isI d := by cases d <;> first | rfl | decide
theorem isT_bool (d : D) : isT "bool" d = isB d := by cases d <;> first | rfl | decide
theorem isT_str (d : D) : isT "str" d = isS d := by cases d <;> first | rfl | decide
theorem isT_tuple (d : D) : isT "tuple" d = isTu d := by cases d <;> first | rfl | decide
inductive F2 {α β : Type} (P : α → β → Prop) : List α → List β → Prop
  | nil : F2 P [] []
  | cons {a : α} {b : β} {as : List α} {bs : List β} : P a b → F2 P as bs → F2 P (a :: as) (b :: bs)
theorem F2.length {α β : Type} {P : α → β → Prop} : ∀ {as : List α} {bs : List β}, F2 P as bs → as.length = bs.length
  | _, _, .nil => rfl
  | _, _, .cons _ t => by rw [List.length_cons, List.length_cons, F2.length t]
theorem F2.mapEq {α β : Type} {f : α → β} : ∀ {as : List α} {bs : List β}, F2 (fun a b => b = f a) as bs → bs = as.map f
  | _, _, .nil => rfl
  | _, _, .cons h t => by rw [List.map_cons, h, F2.mapEq t]
theorem F2.all {α β : Type} {P : α → β → Prop} {R : β → Prop} (h : ∀ a b, P a b → R b) : ∀ {as : List α} {bs : List β}, F2 P as bs → ∀ b ∈ bs, R b
  | _, _, .nil, b, hb => absurd hb (by simp)
  | _, _, .cons q t, b, hb => by
    rcases List.mem_cons.mp hb with rfl | hb
    · exact h _ _ q
    · exact F2.all h t b hb
/-- a comprehension, whatever its element draws -/
theorem lc_gen {g : T2G} {tt : T2T} {te : T2E} {env : Ev} (keep : D → Bool) (P : D → D → Prop) : ∀ {ds : List D} {Q : List D → Prop},
    (∀ d ∈ ds, ∀ (R : D → Prop) (N : Prop), (keep d = true → ∀ y, P d y → R y) → (keep d = false → N) → g d env fun env1 => tt env1 fun b => if b = true then te env1 R else N) →
    (∀ ys, F2 P (ds.filter keep) ys → Q ys) → lcD g tt te env ds Q
  | [], Q, h, q => q [] .nil
  | d :: ds, Q, h, q => by
    refine h d List.mem_cons_self _ _ (fun hk y hy => ?_) (fun hk => ?_)
    · refine lc_gen keep P (fun e he => h e (List.mem_cons_of_mem _ he)) fun ys hys => q (y :: ys) ?_
      rw [List.filter_cons_of_pos hk]
      exact .cons hy hys
    · refine lc_gen keep P (fun e he => h e (List.mem_cons_of_mem _ he)) fun ys hys => q ys ?_
      rw [List.filter_cons_of_neg (by rw [hk]; exact Bool.false_ne_true)]
      exact hys
theorem lc_all {g : T2G} {te : T2E} {env : Ev} {ds : List D} {Q : List D → Prop} (P : D → D → Prop) (h : ∀ d ∈ ds, ∀ R : D → Prop, (∀ y, P d y → R y) → g d env fun env1 => te env1 R) (q : ∀ ys, F2 P ds ys → Q ys) :
    lcD g (fun _ Q => Q true) te env ds Q :=
  lc_gen (fun _ => true) P (fun d hd R N h1 _ => h d hd R (h1 rfl)) fun ys hys => q ys (by rw [List.filter_eq_self.mpr (fun _ _ => rfl)] at hys; exact hys)
theorem lc_map {g : T2G} {te : T2E} {env : Ev} {ds : List D} {Q : List D → Prop} (f : D → D) (h : ∀ d ∈ ds, ∀ R : D → Prop, R (f d) → g d env fun env1 => te env1 R) (q : Q (ds.map f)) :
    lcD g (fun _ Q => Q true) te env ds Q :=
  lc_all (fun d y => y = f d) (fun d hd R hR => h d hd R (hR _ rfl)) fun ys hys => by rw [hys.mapEq]; exact q
theorem allBool_map {α : Type} (f : α → Bool) : ∀ xs : List α, allBool (xs.map fun x => PyData.bool (f x)) = some (xs.map f)
  | [] => rfl
  | x :: xs => by rw [List.map_cons, List.map_cons]; unfold allBool; rw [allBool_map f xs]; rfl
theorem allInt_map {α : Type} (f : α → Int) : ∀ xs : List α, allInt (xs.map fun x => PyData.int (f x)) = some (xs.map f)
  | [] => rfl
  | x :: xs => by rw [List.map_cons, List.map_cons]; unfold allInt; rw [allInt_map f xs]; rfl
theorem mem_dRange {lo : Int} {n : Nat} {d : D} (h : d ∈ dRange lo n) : ∃ i : Nat, i < n ∧ d = .int (lo + i) := by
  unfold dRange at h
  obtain ⟨i, hi, rfl⟩ := List.mem_map.mp h
  exact ⟨i, List.mem_range.mp hi, rfl⟩
theorem dRange_length (lo : Int) (n : Nat) : (dRange lo n).length = n := by unfold dRange; rw [List.length_map, List.length_range]
theorem atI_int {α : Type} {xs : List α} {i : Int} {x : α} (h0 : 0 ≤ i) (h : xs[i.toNat]? = some x) : atI xs i = some x := by
  have := atI_nat h
  rwa [Int.toNat_of_nonneg h0] at this
/-- a loop by its invariant -/
theorem for_inv {g : T2G} {tb : T2S} {E : Ends2} {ds : List D} (Inv : Nat → Ev → Prop)
    (hs : ∀ i d env, ds[i]? = some d → Inv i env → ∀ N : Ev → Prop, (∀ env', Inv (i + 1) env' → N env') → g d env fun env1 => tb { E with nx := N, ct := N, bk := E.nx } env1)
    (hd : ∀ env, Inv ds.length env → E.nx env) {env : Ev} (h0 : Inv 0 env) : forD g tb E ds env := by
  have key : ∀ (k : Nat) (env : Ev), k ≤ ds.length → Inv (ds.length - k) env → forD g tb E (ds.drop (ds.length - k)) env := by
    intro k
    induction k with
    | zero =>
      intro env _ h
      rw [Nat.sub_zero] at h ⊢
      rw [List.drop_length]
      exact hd env h
    | succ k ih =>
      intro env hk h
      have hlt : ds.length - (k + 1) < ds.length := by omega
      have e : ds.drop (ds.length - (k + 1)) = ds[ds.length - (k + 1)] :: ds.drop (ds.length - k) := by
        rw [List.drop_eq_getElem_cons hlt]
        congr 2
        omega
      rw [e]
      refine hs _ _ env (List.getElem?_eq_getElem hlt) h _ fun env' h' => ih env' (by omega) ?_
      have z : ds.length - (k + 1) + 1 = ds.length - k := by omega
      rw [z] at h'
      exact h'
  have := key ds.length env (Nat.le_refl _) (by rw [Nat.sub_self]; exact h0)
  rw [Nat.sub_self, List.drop_zero] at this
  exact this
theorem shaped_int (i : Int) : SeqAt.shaped (.int i) = true := by first | rfl | decide
theorem shaped_bool (i : Bool) : SeqAt.shaped (.bool i) = true := by cases i <;> first | rfl | decide
theorem shaped_str {i : Str} (h : PyData.canLay0 (.str i) = true) : SeqAt.shaped (.str i) = true := by
  unfold SeqAt.shaped
  rw [h]
  simp [PyData.depth]
theorem canLayAll_of : ∀ {ds : List D}, (∀ d ∈ ds, PyData.canLay0 d = true) → PyData.canLayAll0 ds = true
  | [], _ => by unfold PyData.canLayAll0; rfl
  | x :: xs, h => by
    unfold PyData.canLayAll0
    rw [Bool.and_eq_true]
    exact ⟨h x List.mem_cons_self, canLayAll_of fun d hd => h d (List.mem_cons_of_mem _ hd)⟩
mutual
theorem sq_refl : ∀ {d : D}, PyData.canLay0 d = true → sq d d = true
  | .none, _ => by simp [sq]
  | .bool _, _ => by simp [sq]
  | .int _, _ => by simp [sq]
  | .str _, _ => by simp [sq]
  | .list ds, h => by
    unfold PyData.canLay0 at h
    unfold sq
    exact sqs_refl h
  | .tuple ds, h => by
    unfold PyData.canLay0 at h
    unfold sq
    exact sqs_refl h
  | .dict _, h => by simp [PyData.canLay0] at h
theorem sqs_refl : ∀ {ds : List D}, PyData.canLayAll0 ds = true → sqs ds ds = true
  | [], _ => by simp [sqs]
  | x :: xs, h => by
    unfold PyData.canLayAll0 at h
    rw [Bool.and_eq_true] at h
    unfold sqs
    dsimp only
    rw [Bool.and_eq_true]
    exact ⟨sq_refl h.1, sqs_refl h.2⟩
end
end Z2
namespace Z2
open PySem PySem.Spec PyProof.Rows L2
/-! ### enumerate of a tuple -/
abbrev tItr (t : Addr) : Obj := { cls := .type "tuple_iterator", data := .fields #[.ref t, .int 0 0] }
abbrev enO (i : Addr) : Obj := { cls := .type "enumerate", data := .fields #[.none, .bool false, .ref i, rawInt 0, .none, .none] }
open Sem (wp) in
open AutoSeq1 (wpAny_loadPart') in
theorem newT (t : Addr) (its : Array Value) (k : Nat) (dd : Option Addr) (sl : Array (Option Value)) :
    Meets (Builtin.«enumerate.__new__» ⟨[.type "enumerate", .ref t], []⟩) (fun _ R s => s.heap.get? t = some { cls := .type "tuple", dict := dd, data := .seq its k, slots := sl } ∧
      R (.ok (.ret (.ref (s.heap.push (tItr t)).objs.size))) { s with heap := (s.heap.push (tItr t)).push (enO s.heap.objs.size) }) :=
  .of_wp fun prog w A R s hh => by
    obtain ⟨hp, gs, dr, tk, os⟩ := s
    obtain ⟨ht, hh⟩ := hh
    have subE := sub_enumerate
    have isT : Heap.IsTuple (Shared.heap ⟨hp, gs, dr, tk, os⟩) t its := ⟨_, ht, rfl, k, rfl⟩
    wp_walk using wpAny_loadPart' ht
    refine wpAny_stack_any fun st => wpAny_pure ?_
    split
    · rename_i c _ _ _ _ _
      cases (c == Value.type "enumerate") <;> (wp_walk using wpAny_loadPart' ht, wpAny_pyIter_tuple isT; exact ⟨_, rfl, hh⟩)
    · wp_walk using wpAny_loadPart' ht, wpAny_pyIter_tuple isT
      exact ⟨_, rfl, hh⟩
theorem callT {prog : Program} {w : World} {A : Around} {E : Value → Shared → Prop} {s : Shared} {t : Addr} {its : Array Value} {Q : Value → Shared → Prop} (ht : s.heap.IsTuple t its)
    (h : ∀ h', IsEnum h' (s.heap.objs.size + 1) s.heap.objs.size 0 .none → h'.IsTupleIter s.heap.objs.size t 0 → (∀ b o, s.heap.get? b = some o → h'.get? b = some o) → Q (.ref (s.heap.objs.size + 1)) { s with heap := h' }) :
    wpAny (model prog w) A (call (.type "enumerate") [.ref t]) Q E s := by
  obtain ⟨⟨cl, dd, dt, sl⟩, e1, e2, k, e3⟩ := ht
  cases (show cl = .type "tuple" from e2)
  cases (show dt = .seq its k from e3)
  have sz : (s.heap.push (tItr t)).objs.size = s.heap.objs.size + 1 := Heap.size_push ..
  refine callType_new F.called_enumerate (by decide) (F.typeCall_enumerate_1 _) (F.newCall_enumerate_1 _) (fun obj => F.args_object_init_2 obj _) F.entry_enumerate_new (newT t its k dd sl) ⟨e1, ?_⟩
  show _ ∧ _
  rw [sz]
  have en : IsEnum ((s.heap.push (tItr t)).push (enO s.heap.objs.size)) (s.heap.objs.size + 1) s.heap.objs.size 0 .none := by
    have z := Heap.get?_push_size (s.heap.push (tItr t)) (o := enO s.heap.objs.size) rfl
    rw [sz] at z
    exact z
  exact ⟨⟨_, en, rfl⟩, h _ en ⟨_, Heap.get?_push_of_some _ (Heap.get?_push_size _ rfl), rfl, rfl⟩ fun b o x => Heap.get?_push_of_some _ (Heap.get?_push_of_some _ x)⟩
/-- each item of the tuple at a in a new pair -/
def IteT (K : Fg) (a : Addr) : It :=
  ⟨fun i H => ∃ (xs : List V) (x : V), SqT K H a xs ∧ xs[i]? = some x, fun i H v H' => ∃ T x, v = .ref T ∧ H T = none ∧ H' = upd H T (.tup [.int (i : Nat), x]) ∧ ∀ xs, SqT K H a xs → xs[i]? = some x, fun i H => ∃ xs : List V, SqT K H a xs ∧ xs.length = i⟩
theorem turnT {P : Program} {w : World} {K : Fg} {elts : List Expr} {kk : Nat} {tpos : Pos} (a e it : Addr) :
    Turn P w K (.Tuple elts kk tpos) (IteT K a) [e, it] e (fun i h => (∃ old, IsEnum h e it ((i : Nat) : Int) old) ∧ h.IsTupleIter it a i ∧ e ≠ it) where
  mem := List.mem_cons_self
  obj := fun i h ⟨⟨old, he⟩, ⟨o, ho, hc, hd⟩, _⟩ b hb => by
    rcases (show b = e ∨ b = it by simpa using hb) with rfl | rfl
    · exact ⟨_, he, fun v q => nomatch q⟩
    · exact ⟨o, ho, fun v q => by rw [hd] at q; cases q⟩
  keep := fun i h h' ⟨⟨old, he⟩, hi, hne⟩ k => ⟨⟨old, k e (by simp) _ he⟩, hi.at fun o q => k it (by simp) o q, hne⟩
  item := by
    rintro X rfl rfl rfl hc i pins s σ H E I hf ⟨⟨old, he⟩, hit, hne⟩ ⟨xs, x, hq, hx⟩
    obtain ⟨its, rv, p, hz⟩ := I.tuple hq
    obtain ⟨u, hu, ru⟩ := rv.get hx
    have hel : e < s.heap.objs.size := Heap.lt_size he
    have hil : it < s.heap.objs.size := by obtain ⟨_, q, _⟩ := hit; exact Heap.lt_size q
    have neT : a ≠ it := fun z => by
      obtain ⟨o1, g1, c1, _⟩ := hit
      obtain ⟨o2, g2, c2, _⟩ := p
      rw [z, g1] at g2
      cases g2
      rw [c1] at c2
      exact absurd c2 (by decide)
    have neE : e ≠ a := fun z => by
      obtain ⟨o2, g2, c2, _⟩ := p
      rw [← z, he] at g2
      cases g2
      exact absurd (show (Value.type "enumerate") = .type "tuple" from c2) (by decide)
    have hi : i < its.toArray.size := by
      have q := (List.getElem?_eq_some_iff.mp hu).1
      simpa using q
    have Dr := PySem.Draws.tuple (prog := X.prog) (w := X.w) (A := X.A.in1) (I.ok.hd hc) it a neT its.toArray
    refine wpAny_pyNext_enum_itemD Dr he ⟨hit, p⟩ hi hne (by simp only [List.mem_cons, List.not_mem_nil, or_false, not_or]; exact ⟨hne, neE⟩) fun y h' tk hy ho st' hT hsz hk => ?_
    obtain rfl : y = u := by
      have z : its.toArray[i]? = some u := by simpa using hu
      rw [z] at hy
      exact (Option.some.inj hy).symm
    refine ⟨_, rfl, wpAny_letOwnedTupleGo_enum (s := { s with heap := h', toks := tk + 1 }) ho fun h'' he' sb => ?_⟩
    have hT2 : h''.get? s.heap.objs.size = some { cls := .type "tuple", data := .seq #[.int i tk, y] } := (sb.2 _ (Nat.ne_of_gt hel)).trans hT
    have new : ObjOk X.prog X.w (upd H s.heap.objs.size (.tup [.int (i : Nat), x])) h'' s.heap.objs.size (.tup [.int (i : Nat), x]) :=
      ⟨le_line (by show 2 ≤ 1000000; decide), [.int i tk, y], .cons ⟨_, rfl⟩ (.cons ru .nil), ⟨_, hT2, rfl, _, rfl⟩⟩
    have I1 : Inv X pins σ (upd H s.heap.objs.size (.tup [.int (i : Nat), x])) { s with heap := h'', toks := tk + 1 } :=
      I.turnedNew (ch := [e, it]) (fun b ob hb q => by
        have n1 : b ≠ e := fun z => hb (by simp [z])
        have n2 : b ≠ it := fun z => hb (by simp [z])
        exact (sb.2 b n1).trans (hk b ob n1 n2 q)) hf (Nat.le_refl _) new
    have e1 : ((i + 1 : Nat) : Int) = (i : Int) + 1 := by omega
    refine ⟨.ref s.heap.objs.size, _, I1, rfl, ⟨_, x, rfl, I.hok.fresh (Nat.le_refl _), rfl, fun ys hy => by rw [I.tuple_inj hy hq]; exact hx⟩, ⟨⟨y, by rw [e1]; exact he'⟩, st'.1.at fun o q => (sb.2 it (Ne.symm hne)).trans q, hne⟩, fun b hb => ?_⟩
    have hb' : b < s.heap.objs.size := by
      rcases (show b = e ∨ b = it by simpa using hb) with rfl | rfl
      · exact hel
      · exact hil
    rw [upd_ne (Nat.ne_of_lt hb')]
    exact (hf b hb).1
  done := by
    rintro X rfl rfl rfl hc i pins s σ H E I hf ⟨⟨old, he⟩, hit, hne⟩ ⟨xs, hq, hx⟩
    obtain ⟨its, rv, p, hz⟩ := I.tuple hq
    have neT : a ≠ it := fun z => by
      obtain ⟨o1, g1, c1, _⟩ := hit
      obtain ⟨o2, g2, c2, _⟩ := p
      rw [z, g1] at g2
      cases g2
      rw [c1] at c2
      exact absurd c2 (by decide)
    obtain ⟨f0, f1, f2, f3, f4, f5⟩ := hf it (by simp)
    have hl : i = its.toArray.size := by rw [List.size_toArray, ← rv.length]; exact hx.symm
    subst hl
    have Dr := PySem.Draws.tuple (prog := X.prog) (w := X.w) (A := X.A.in1) (I.ok.hd hc) it a neT its.toArray
    exact wpAny_pyNext_enum_endD Dr he ⟨hit, p⟩ fun h' eb => ⟨rfl, I.turned (t' := s.toks) (fun b o hb q => eb b o hb q) f0 f1 f3 f4 f5⟩
  self := fun A i s Q E ⟨⟨_, he⟩, _⟩ h => wpAny_pyIter_enum he h
def iEnumA (K : Fg) (ta : TA) : TI := fun σ H R => ta σ H fun vs H1 => ∃ a xs, vs = [.ref a] ∧ ((SqL K H1 a xs ∧ R (Ite K a) H1) ∨ (SqT K H1 a xs ∧ R (IteT K a) H1))
theorem pi_enumA {X : Cx} {e : Expr} {ta : TA} {p pos tpos : Pos} {elts : List Expr} {kk : Nat} (hg : Gl X "enumerate") (hm : X.mg "enumerate" = none) (ha : PA X [e] ta) (hs : starEach [e] X.env = [(false, eval e X.env)] := by rfl) :
    PI X (.Tuple elts kk tpos) (.Call (.Name "enumerate" p) [e] [] pos) (iEnumA X.K ta) := ⟨fun pins s σ H R I h => by
  refine Call_ (ld_blt I hg hm boot_enumerate (callWith_type1 (thn (ha.run pos pins s σ H _ I h) fun us s1 ⟨vs, H1, I1, r1, a, xs, ex, q⟩ => ?_) hs rfl))
  subst ex
  cases r1 with
  | cons r rr =>
    cases rr
    cases r
    have fp : ∀ b ∈ [s1.heap.objs.size + 1, s1.heap.objs.size], FpOk X pins H1 b := fun b hb => by
      have hle : s1.heap.objs.size ≤ b := by
        rcases (show b = s1.heap.objs.size + 1 ∨ b = s1.heap.objs.size by simpa using hb) with rfl | rfl
        · exact Nat.le_add_right _ _
        · exact Nat.le_refl _
      exact I1.fpOk hle (I1.hok.fresh hle)
    rcases q with ⟨hq, q⟩ | ⟨hq, q⟩
    · obtain ⟨its, rv, pl, _⟩ := I1.list hq
      exact call_enumerate_list pl.isList fun h' he hit _ hk => wpAny_pyIter_enum he ⟨_, [s1.heap.objs.size + 1, s1.heap.objs.size], _, _, H1, rfl, I1.kept (t' := s1.toks) hk, turn_enum a _ _, ⟨⟨.none, he⟩, hit, Nat.succ_ne_self _⟩, fp, q⟩
    · obtain ⟨its, rv, pl, _⟩ := I1.tuple hq
      exact callT pl fun h' he hit hk => wpAny_pyIter_enum he ⟨_, [s1.heap.objs.size + 1, s1.heap.objs.size], _, _, H1, rfl, I1.kept (t' := s1.toks) hk, turnT a _ _, ⟨⟨.none, he⟩, hit, Nat.succ_ne_self _⟩, fp, q⟩⟩
section
variable {K : Fg}
theorem itr_enumT {I : Hp} {a : Addr} {vs : List V} {ds : List D} (h : SqT K I a vs) (r : Rps K I vs ds) : ItR K I (IteT K a) (dEnum ds) where
  go := fun i I' H' e1 e2 hi => by
    unfold dEnum at hi
    rw [List.length_map, List.length_range] at hi
    obtain ⟨v, hv, _⟩ := r.got (List.getElem?_eq_getElem hi)
    exact ⟨vs, v, Same.sqt e2 (Same.sqt e1 h), hv⟩
  stop := fun i I' H' e1 e2 hi => by
    unfold dEnum at hi
    rw [List.length_map, List.length_range] at hi
    exact ⟨vs, Same.sqt e2 (Same.sqt e1 h), by rw [r.length]; exact hi.symm⟩
  yld := fun i x I' H' H'' e1 e2 hi y => by
    obtain ⟨T, u, rfl, h0, rfl, y⟩ := y
    obtain ⟨d, hd, q⟩ := r.get (y vs (Same.sqt e2 (Same.sqt e1 h)))
    have g := Gr.new (m := none) (o := .tup [.int (i : Nat), u]) e2 h0
    refine ⟨_, .tuple [.int (i : Nat), d], g, ?_, .tup (SqT.of upd_same) (.cons (.int _) (.cons (Rp.mono (e1.trans g.ii) _ _ q) .nil))⟩
    unfold dEnum at hi ⊢
    rw [List.length_map, List.length_range] at hi
    rw [List.getElem?_map, List.getElem?_range hi]
    simp [List.getD_eq_getElem?_getD, hd]
def diEnumA (t : T2A) : T2I := fun env Q => t env fun ds => match ds with | [.list xs] => Q (dEnum xs) | [.tuple xs] => Q (dEnum xs) | _ => False
theorem si_enumA {n : Nat} {t : TA} {u : T2A} (h : SA K n t u) : SI K (iEnumA K t) (diEnumA u) := by
  intro p env σ I H Q2 R rl q k
  refine h p env σ I H _ _ rl q fun ds vs I1 H1 q1 hl s1 h1 => ?_
  split at q1
  · obtain ⟨v, rfl, h2⟩ := h1.one
    cases h2 with
    | lst h3 h4 => exact ⟨_, _, rfl, .inl ⟨SqL.of (s1.ih _ _ h3), k _ _ _ _ q1 s1 (itr_enum h3 h4)⟩⟩
  · obtain ⟨v, rfl, h2⟩ := h1.one
    cases h2 with
    | tup h3 h4 => exact ⟨_, _, rfl, .inr ⟨Same.sqt s1.ih h3, k _ _ _ _ q1 s1 (itr_enumT h3 h4)⟩⟩
  · exact q1.elim
end
end Z2
namespace Z2
open PySem PySem.Spec PyProof.Rows L2
/-! ### xs[::-1] -/
section
variable {prog : Program} {w : World} {A : Around} {E : Value → Shared → Prop} {s : Shared}
end
/-- t[::-1], xs[::-1]: a new thing -/
def rRev (K : Fg) : V → Hp → VK → Prop := fun x H Q => ∃ a xs, x = .ref a ∧ ((SqT K H a xs ∧ ∀ p, H p = none → Q (.ref p) (upd H p (.tup xs.reverse))) ∨ (SqL K H a xs ∧ ∀ p, H p = none → Q (.ref p) (upd H p (.lst xs.reverse))))
def tRev (K : Fg) (te : TE) (ts : TO) : TE := fun σ H Q => te σ H fun x H1 => ts σ H1 fun l H2 => l = some (-1) ∧ rRev K x H2 Q
def dRev (a : T2E) (l : T2O) : T2E := fun env Q => a env fun x => l env fun st => st = some (-1) ∧ match x with | .tuple ds => Q (.tuple ds.reverse) | .list ds => Q (.list ds.reverse) | _ => False
/-! ### max, min of a list of ints, of two ints -/
def maxD : List Int → Int
  | [] => 0
  | x :: xs => xs.foldl max x
def minD : List Int → Int
  | [] => 0
  | x :: xs => xs.foldl min x
theorem foldl_max_ge : ∀ (xs : List Int) (a : Int), a ≤ xs.foldl max a ∧ ∀ y ∈ xs, y ≤ xs.foldl max a
  | [], a => ⟨Int.le_refl _, fun _ h => absurd h List.not_mem_nil⟩
  | x :: xs, a => by
    have ih := foldl_max_ge xs (max a x)
    rw [List.foldl_cons]
    refine ⟨by have := ih.1; omega, fun y hy => ?_⟩
    rcases List.mem_cons.mp hy with rfl | hy
    · have := ih.1; omega
    · exact ih.2 y hy
theorem foldl_max_mem : ∀ (xs : List Int) (a : Int), xs.foldl max a = a ∨ xs.foldl max a ∈ xs
  | [], a => .inl rfl
  | x :: xs, a => by
    rw [List.foldl_cons]
    rcases foldl_max_mem xs (max a x) with h | h
    · rw [h]
      by_cases c : a ≤ x
      · exact .inr (by rw [Int.max_eq_right c]; exact List.mem_cons_self)
      · exact .inl (by omega)
    · exact .inr (List.mem_cons_of_mem _ h)
theorem foldl_min_le : ∀ (xs : List Int) (a : Int), xs.foldl min a ≤ a ∧ ∀ y ∈ xs, xs.foldl min a ≤ y
  | [], a => ⟨Int.le_refl _, fun _ h => absurd h List.not_mem_nil⟩
  | x :: xs, a => by
    have ih := foldl_min_le xs (min a x)
    rw [List.foldl_cons]
    refine ⟨by have := ih.1; omega, fun y hy => ?_⟩
    rcases List.mem_cons.mp hy with rfl | hy
    · have := ih.1; omega
    · exact ih.2 y hy
theorem foldl_min_mem : ∀ (xs : List Int) (a : Int), xs.foldl min a = a ∨ xs.foldl min a ∈ xs
  | [], a => .inl rfl
  | x :: xs, a => by
    rw [List.foldl_cons]
    rcases foldl_min_mem xs (min a x) with h | h
    · rw [h]
      by_cases c : x ≤ a
      · exact .inr (by rw [Int.min_eq_right c]; exact List.mem_cons_self)
      · exact .inl (by omega)
    · exact .inr (List.mem_cons_of_mem _ h)
theorem maxD_mem {ns : List Int} (h : 0 < ns.length) : maxD ns ∈ ns := by
  cases ns with
  | nil => simp at h
  | cons x xs =>
    rcases foldl_max_mem xs x with e | e
    · show xs.foldl max x ∈ _; rw [e]; exact List.mem_cons_self
    · exact List.mem_cons_of_mem _ e
theorem maxD_ge {ns : List Int} : ∀ y ∈ ns, y ≤ maxD ns := fun y hy => by
  cases ns with
  | nil => exact absurd hy List.not_mem_nil
  | cons x xs =>
    rcases List.mem_cons.mp hy with rfl | hy
    · exact (foldl_max_ge xs _).1
    · exact (foldl_max_ge xs x).2 y hy
theorem minD_mem {ns : List Int} (h : 0 < ns.length) : minD ns ∈ ns := by
  cases ns with
  | nil => simp at h
  | cons x xs =>
    rcases foldl_min_mem xs x with e | e
    · show xs.foldl min x ∈ _; rw [e]; exact List.mem_cons_self
    · exact List.mem_cons_of_mem _ e
theorem minD_le {ns : List Int} : ∀ y ∈ ns, minD ns ≤ y := fun y hy => by
  cases ns with
  | nil => exact absurd hy List.not_mem_nil
  | cons x xs =>
    rcases List.mem_cons.mp hy with rfl | hy
    · exact (foldl_min_le xs _).1
    · exact (foldl_min_le xs x).2 y hy
def dMaxL : RCD := fun ds Q => match ds with | [.list xs] => (match allInt xs with | some bs => 0 < bs.length ∧ Q (.int (maxD bs)) | none => False) | _ => False
def dMinL : RCD := fun ds Q => match ds with | [.list xs] => (match allInt xs with | some bs => 0 < bs.length ∧ Q (.int (minD bs)) | none => False) | _ => False
end Z2
namespace Z2
open PySem PySem.Spec PyProof.Rows L2
/-! ### return tuple([left.pop(..) for ..]) -/
def popD (i : Nat) (g : T2G) (te : T2E) (vs : List Nat) : Ev → List D → (List D → Prop) → Prop
  | _, [], Q => Q []
  | env, d :: ds, Q => match env[i]? with
    | some (some (.own xs)) => g d (wipeE env vs) fun env1 => te env1 fun k => match k with
      | .int j => (match ixN xs.length j with | some m => (match xs[m]? with | some y => -(2 ^ 63) ≤ j ∧ j < 2 ^ 63 ∧ popD i g te vs (env.set i (some (.own (xs.eraseIdx m)))) ds fun ys => Q (y :: ys) | none => False) | none => False)
      | _ => False
    | _ => False
def dRetPop (i : Nat) (ti : T2I) (g : T2G) (te : T2E) (vs : List Nat) : T2S := fun E env => ti env fun ds => ds.length ≤ 1000000 ∧ popD i g te vs env ds fun ys => E.rt (.tuple ys)
abbrev rTupOf (K : Fg) : List V → Hp → VK → Prop := fun xs H Q => ∃ p ys, xs = [.ref p] ∧ ((SqL K H p ys ∧ ∀ l, H l = none → Q (.ref l) (upd H l (.tup ys))) ∨ (SqT K H p ys ∧ Q (.ref p) H))
theorem wipe_get {i : Nat} : ∀ {vs : List Nat} {σ : L2.St}, i ∉ vs → (L2.wipe σ vs)[i]? = σ[i]?
  | [], _, _ => rfl
  | v :: vs, σ, h => by
    unfold L2.wipe
    have h1 : v ≠ i := fun e => h (by rw [e]; exact List.mem_cons_self)
    rw [List.getElem?_set_ne h1]
    exact wipe_get fun z => h (List.mem_cons_of_mem _ z)
theorem Rps.erase {K : Fg} {I : Hp} : ∀ {vs : List V} {ds : List D} (n : Nat), Rps K I vs ds → Rps K I (vs.eraseIdx n) (ds.eraseIdx n)
  | _, _, _, .nil => .nil
  | _, _, 0, .cons _ t => t
  | _, _, n + 1, .cons h t => .cons h (Rps.erase n t)
theorem ss_retPop {K : Fg} {wi : TI} {g : TG} {tt : TT} {te : TE} {ti : T2I} {g2 : T2G} {te2 : T2E} {vs : List Nat} (i : Nat) (hiv : i ∉ vs) (hi : SI K wi ti) (hg : SG K vs g g2) (ht : ST K tt fun _ Q => Q true) (he : SE K te te2) :
    SS K (tRet (tCB (rTupOf K) (tCons (tLc wi g tt (tBM K "list" rPopAt (tVar i) (tCons te tNil)) vs) tNil))) (dRetPop i ti g2 te2 vs) := by
  intro p env σ I H D2 E rl q e
  refine hi p env σ I H _ _ rl q fun ds J I1 H1 ⟨hlen, q1⟩ s1 it => ?_
  intro D hD
  have rl1 := rl.stp s1
  have hD0 : p.H0 D = none := by
    cases e : p.H0 D with
    | none => rfl
    | some o => exact absurd hD (rl1.r.gr.th D (by rw [e]; exact fun z => nomatch z))
  have hDI : I1 D = none := Same.free s1.ih hD
  have hm : p.m ≠ some D := fun e => (rl1.r.st D e).1 hD0
  have hown : ∀ (j : Nat) (x : List PyData), env[j]? = some (some (Sl.own x)) → σ[j]? ≠ some (some (V.ref D)) := fun j x e z => by
    obtain ⟨v, hv, a, ws, rfl, _, _, e4, _⟩ := rl1.r.sl j _ e
    rw [hv] at z
    cases z
    rw [hD] at e4; cases e4
  refine ⟨fun n m H' => m = ds.length - n ∧ n ≤ ds.length ∧ ∃ I' acc ys env', RelL K p env' σ I' H' ∧ Same I1 I' ∧ I' D = none ∧ H' D = some (.lst acc) ∧ Rps K I' acc ys ∧ acc.length ≤ n ∧ ((∀ (j : Nat) (x : List PyData), env'[j]? = some (some (Sl.own x)) → σ[j]? ≠ some (some (V.ref D))) ∧ ∀ (j : Nat) (x : Sl) (v : V), env'[j]? = some (some x) → isMat x = true → σ[j]? = some (some v) → ¬ Cell x v H' D) ∧ popD i g2 te2 vs env' (ds.drop n) fun zs => D2.rt (.tuple (ys ++ zs)),
    ⟨ds.length, by simp, Nat.zero_le _, I1, [], [], env, rl1.beside hD0 hDI (fun _ _ z => by rw [hD] at z; cases z) (fun _ z => by rw [hD] at z; cases z) (rl1.freshCell (.refl rl1.same) hD) hown, Same.refl _, hDI, upd_same, .nil, Nat.le_refl _, ⟨hown, rl1.freshCellU hD⟩, q1⟩, ?_⟩
  rintro n m H' ⟨rfl, hn', I', acc, ys, env', r', sI, hDI', hDH', rp, hacc, ⟨ho, hoM⟩, q'⟩
  by_cases hlt : n < ds.length
  · refine .inr ⟨it.go n I' H' sI r'.same hlt, fun H'' => ∃ I'' acc ys env'', RelL K p env'' σ I'' H'' ∧ Same I1 I'' ∧ I'' D = none ∧ H'' D = some (.lst acc) ∧ Rps K I'' acc ys ∧ acc.length ≤ n + 1 ∧ ((∀ (j : Nat) (x : List PyData), env''[j]? = some (some (Sl.own x)) → σ[j]? ≠ some (some (V.ref D))) ∧ ∀ (j : Nat) (x : Sl) (v : V), env''[j]? = some (some x) → isMat x = true → σ[j]? = some (some v) → ¬ Cell x v H'' D) ∧ popD i g2 te2 vs env'' (ds.drop (n + 1)) fun zs => D2.rt (.tuple (ys ++ zs)),
      fun H'' z => ⟨ds.length - (n + 1), by omega, rfl, by omega, z⟩, fun x H2 y => ?_⟩
    obtain ⟨I2, d, g1, hd, rd⟩ := it.yld n x I' H' H2 sI r'.same hlt y
    have hdrop : ds.drop n = d :: ds.drop (n + 1) := by
      have hdd : ds[n] = d := Option.some.inj ((List.getElem?_eq_getElem hlt).symm.trans hd)
      rw [List.drop_eq_getElem_cons hlt, hdd]
    rw [hdrop] at q'
    unfold popD at q'
    split at q'
    · rename_i xs exs
      have r2 := r'.grow' g1
      have keepD : ∀ {I3 H3 I4 H4}, Stp p I3 H3 I4 H4 → I3 D = none → H3 D = some (.lst acc) → I4 D = none ∧ H4 D = some (.lst acc) := fun s a b =>
        ⟨s.gr.fr D a (by rw [b]; exact fun z => nomatch z), s.gr.hh D _ b hm⟩
      obtain ⟨d2, d3⟩ := keepD (Stp.of (p := p) g1) hDI' hDH'
      refine hg p (wipeE env' vs) (L2.wipe σ vs) I2 H2 x d _ _ (r2.wipe vs) rd q' fun env1 σ1 I3 H3 q3 r3 s3 w3 => ⟨by rw [w3]; exact wipe_wipe σ vs, ?_⟩
      obtain ⟨d4, d5⟩ := keepD s3 d2 d3
      refine ht p env1 σ1 I3 H3 (fun b => b = true) _ r3 rfl fun b I4 H4 q4 s4 => ?_
      subst q4
      rw [if_pos rfl]
      obtain ⟨d6, d7⟩ := keepD s4 d4 d5
      have s34 := s3.trans s4
      obtain ⟨v, hv, a, ws, rfl, _, _, e4, e5⟩ := (r2.stp s34).r.sl i _ exs
      have hv1 : σ1[i]? = some (some (.ref a)) := by
        have z := wipe_get (σ := σ1) hiv
        rw [← z, w3, wipe_get hiv, wipe_get hiv]
        exact hv
      refine ⟨_, hv1, .inl ⟨rfl, _, SqL.of e4⟩, he p env1 σ1 I4 H4 _ _ (r3.stp s4) q3 fun k kv I5 H5 q5 s5 r5 => ?_⟩
      split at q5
      · rename_i jj
        split at q5
        · rename_i m em
          split at q5
          · rename_i y' ey
            obtain ⟨j0, j1, q5⟩ := q5
            cases r5
            have s35 := s34.trans s5
            have r6 := r2.stp s35
            obtain ⟨v', hv', a', ws', e1', f2, f3, f4, f5⟩ := r6.r.sl i _ exs
            subst e1'
            rw [hv] at hv'
            cases hv'
            obtain ⟨d8, d9⟩ := keepD s5 d6 d7
            obtain ⟨yv, hyv, ryv⟩ := f5.got ey
            have hseq := (ixN_seq em).1
            rw [← f5.length] at hseq
            refine ⟨a, ws', jj, m, yv, rfl, rfl, f4, j0, j1, hseq, hyv, ?_⟩
            have r7 := r6.mutOwn exs hv (Rps.erase m f5)
            have hDa : D ≠ a := fun w => ho i xs exs (by rw [w]; exact hv)
            have stA : Stp p I' H' I5 H5 := (Stp.of (p := p) g1).trans s35
            have hmat7 : ∀ (j : Nat) (x : Sl) (v : V), (env'.set i (some (.own (xs.eraseIdx m))))[j]? = some (some x) → isMat x = true → σ[j]? = some (some v) → ¬ Cell x v (upd H5 a (.lst (ws'.eraseIdx m))) D := by
              intro j x v ex mx sv c
              rcases getSet ex with ⟨rfl, w, _⟩ | ⟨nj, ex⟩
              · cases w; cases mx
              · have c5 : Cell x v H5 D := cell_to (fun mt b eb => upd_ne fun w => by
                  subst w
                  refine r6.r.sm i j (.own xs) x (.ref b) v b nj (by rw [mx]; simp [isMat]) exs ex hv sv rfl ?_
                  cases x <;> first | (cases mt) | skip
                  exact .inl eb) c
                exact hoM j x v ex mx sv (r'.cellBack stA ex sv c5)
            refine ⟨acc, by rw [upd_ne hDa]; exact d9, Nat.lt_of_le_of_lt hacc (Nat.lt_of_lt_of_le hlt (le_line hlen)), I5, acc ++ [yv], ys ++ [y'], env'.set i (some (.own (xs.eraseIdx m))), ?_, sI.trans (g1.ii.trans s35.ii), d8, upd_same, ?_, ?_, ?_, ?_⟩
            · refine r7.beside hD0 d8 (fun _ _ z => by rw [upd_ne hDa, d9] at z; exact nomatch z) (fun _ z => by rw [upd_ne hDa, d9] at z; exact nomatch z) hmat7 fun j x ex z => ?_
              rcases getSet ex with ⟨rfl, _, _⟩ | ⟨_, ex⟩
              · exact ho _ _ exs z
              · exact ho _ _ ex z
            · exact Rps.append (Rps.mono (g1.ii.trans s35.ii) _ _ rp) (.cons ryv .nil)
            · rw [List.length_append, List.length_singleton]; omega
            · refine ⟨fun j x ex z => ?_, fun j x v ex mx sv c => hmat7 j x v ex mx sv (cell_to (fun m' b eb => upd_ne fun w => hmat7 j x v ex mx sv (by
                subst w
                cases x <;> first | (cases m') | skip
                exact .inl eb)) c)⟩
              rcases getSet ex with ⟨rfl, _, _⟩ | ⟨_, ex⟩
              · exact ho _ _ exs z
              · exact ho _ _ ex z
            · have ee : ∀ zs : List PyData, (ys ++ [y']) ++ zs = ys ++ (y' :: zs) := fun zs => by rw [List.append_assoc]; rfl
              simp only [ee]
              exact q5
          · exact q5.elim
        · exact q5.elim
      · exact q5.elim
    · exact q'.elim
  · have hn2 : n = ds.length := by omega
    subst hn2
    rw [List.drop_length] at q'
    have q' : D2.rt (.tuple (ys ++ [])) := q'
    rw [List.append_nil] at q'
    refine .inl ⟨it.stop _ I' H' sI r'.same rfl, D, acc, rfl, .inl ⟨SqL.of hDH', fun l h0 => ?_⟩⟩
    have gn := Gr.new (m := none) (o := .tup acc) r'.same h0
    exact e.rt _ _ _ _ q' (r'.r.gr.trans gn.weak) (fun s es => (r'.r.st s es).2.grow gn) (.tup (SqT.of upd_same) (Rps.mono gn.ii _ _ rp))
/-! ### list(range(n)), len of a list of one's own -/
def dLstRg (a : T2E) : T2A := fun env Q => a env fun d => match d with | .int j => 0 ≤ j ∧ j ≤ 1000000 ∧ Q (dRange 0 j.toNat) | _ => False
theorem rg_rps {K : Fg} {I : Hp} (n : Nat) : Rps K I (rgV 0 (n : Int)) (dRange 0 n) := by
  have e1 : rgV 0 (n : Int) = (((List.range n).map fun i => (0 : Int) + (i : Nat))).map V.int := by
    unfold rgV
    rw [Int.sub_zero, Int.toNat_natCast, List.map_map]
    rfl
  have e2 : dRange 0 n = (((List.range n).map fun i => (0 : Int) + (i : Nat))).map PyData.int := by
    unfold dRange
    rw [List.map_map]
    rfl
  rw [e1, e2]
  exact Rps.ofInts _
theorem so_listRg {K : Fg} {ta : TE} {a : T2E} (ha : SE K ta a) : SO K (tLstRg (tRg1 ta)) (dLstRg a) := by
  intro p env σ I H Q2 Q rl q k
  refine ha p env σ I H _ _ rl q fun d v I1 H1 q1 s1 h1 => ?_
  cases d <;> first | exact q1.elim | skip
  rename_i j
  obtain ⟨j0, j1, q1⟩ := q1
  cases h1
  refine ⟨j, rfl, RgOk.of_le (by decide) (by omega) (by decide) j0, fun l h0 => ?_⟩
  have hl0 : H l = none := by
    cases e : H l with
    | none => rfl
    | some o => exact absurd h0 (s1.gr.th l (by rw [e]; exact fun z => nomatch z))
  have ej : (j.toNat : Int) = j := Int.toNat_of_nonneg j0
  refine k _ l (rgV 0 j) I1 (upd H1 l (.lst (rgV 0 j))) q1 (s1.trans (Stp.fresh s1.ih h0)) hl0 (Same.free s1.ih h0) upd_same ?_
  have := rg_rps (K := K) (I := I1) j.toNat
  rw [ej] at this
  exact this
def dLenOwn (i : Nat) : T2E := fun env Q => match env[i]? with | some (some (.own ds)) => Q (.int (ds.length : Nat)) | _ => False
theorem se_lenOwn {K : Fg} (i : Nat) : SE K (tCB (fun xs H Q => ∃ p ys, xs = [.ref p] ∧ (SqL K H p ys ∨ SqT K H p ys) ∧ Q (.int ys.length) H) (tCons (tVar i) tNil)) (dLenOwn i) := by
  intro p env σ I H Q2 Q r q k
  unfold dLenOwn at q
  split at q
  · rename_i ds e2
    obtain ⟨v, hv, a, vs, rfl, _, _, e4, e5⟩ := r.r.sl i _ e2
    refine ⟨_, hv, a, vs, rfl, .inl (SqL.of e4), ?_⟩
    rw [e5.length]
    exact k _ _ I H q (.refl r.same) (.int _)
  · exact q.elim
end Z2
namespace Z2
open PySem PySem.Spec PyProof.Rows L2
/-! ### dicts of one's own: keys are tuples of ints and texts -/
section
variable {X : Cx} {pins : List (Addr × Obj)} {σ : L2.St} {H : Hp} {s : Shared} {a b : Addr} {xs : List (List Key × Addr × Value)} {k : List Key}
theorem key_sq (I : L2.Inv X pins σ H s) (e : SqT X.K H b (k.map kV)) : (tupleKind (mixKind X.prog X.w)).is s.heap k b := by
  obtain ⟨its, r, ht, hz⟩ := I.tuple e
  obtain ⟨o, h1, h2, n, h3⟩ := ht
  exact ⟨o, its.toArray, n, h1, h2, h3, by simpa using items_are r⟩
theorem dct_of (I : L2.Inv X pins σ H s) (e : H a = some (dctO X.w a xs)) (hk : ∀ x ∈ xs, SqT X.K H x.2.1 (x.1.map kV)) : (a == sysModules) = false ∧ xs.length ≤ sizeLine ∧ s.heap.DictOfH (tupleKind (mixKind X.prog X.w)) a xs := by
  obtain ⟨⟨z1, z2, o, es, ep, h1, h2, h3, h4, h5⟩, _, _⟩ := (show ObjOk X.prog X.w H s.heap a (dctO X.w a xs) from I.hok a _ e)
  exact ⟨z1, z2, o, es, ep, h1, h2, h3, h4 X.prog, fun x hx => key_sq I (hk x hx), h5⟩
theorem dct_ok {P : Program} {w : World} {h : Heap} (hd : (a == sysModules) = false) (hl : xs.length ≤ sizeLine) {o : Obj} {es : Array DictEntry} {ep : Nat} (h1 : h.get? a = some o) (h2 : o.ExactDict) (h3 : o.data = .dict es ep) (h4 : es.toList = xs.map (entryOfKey (tupleKind (mixKind P w)))) (h5 : (xs.map (·.1)).Nodup) :
    ObjOk P w H h a (dctO w a xs) := by
  refine ⟨⟨hd, hl, o, es, ep, h1, h2, h3, fun P' => h4, h5⟩, ⟨o, h1⟩, ?_⟩
  rintro g1 g2 ⟨z1, z2, o, es, ep, h1, h2, h3, h4, h5⟩ hh
  exact ⟨z1, z2, o, es, ep, hh _ h1, h2, h3, h4, h5⟩
end
def tDNew (w : World) : TE := fun _ H Q => ∀ p, H p = none → Q (.ref p) (upd H p (dctO w p []))
theorem pe_dnew {X : Cx} {pos : Pos} : PE X (.Dict [] [] pos) (tDNew X.w) := ⟨fun pins s σ H Q I h =>
  wpAny_Dict_empty ⟨.ref s.heap.objs.size, _, I.laid (a := s.heap.objs.size) (o := dctO X.w s.heap.objs.size []) (t' := s.toks) (fun _ _ q => Heap.get?_push_of_some _ q) (Nat.le_refl _)
    (dct_ok (beq_eq_false_iff_ne.mpr (Ne.symm (Nat.ne_of_lt I.big))) (Nat.zero_le _) (Heap.get?_push_size _ rfl) ⟨rfl, rfl, rfl⟩ (es := #[]) (ep := 0) rfl rfl List.nodup_nil), rfl, h _ (I.hok.fresh (Nat.le_refl _))⟩⟩
def tDG (K : Fg) (w : World) (td ty : TE) : TE := fun σ H Q => td σ H fun x H1 => ty σ H1 fun y H2 => ∃ a xs b k p v, x = .ref a ∧ y = .ref b ∧ H2 a = some (dctO w a xs) ∧ (∀ x ∈ xs, SqT K H2 x.2.1 (x.1.map kV)) ∧ SqT K H2 b (k.map kV) ∧ atKey xs k = some p ∧ RelV v p.2 ∧ Q v H2
theorem pe_dg {X : Cx} {o i : Expr} {pos : Pos} {td ty : TE} (hu : X.A.units + 1 < cLine) (ho : PE X o td) (hi : PE X i ty) (hs : NoSl i) : PE X (.Subscript o i pos) (tDG X.K X.w td ty) := by
  refine ⟨fun pins s σ H Q I h => ?_⟩
  refine subD_of PySem.F.slot_dict_getitem.lookup hs (thn (ho.run pins s σ H _ I h) fun u s1 ⟨x, H1, I1, rx, q1⟩ => thn (hi.run pins s1 σ H1 _ I1 q1) fun iv s2 ⟨y, H2, I2, ry, a, xs, b, k, p, v, ex, ey, e, hk, eb, hp, rv, q2⟩ => ?_)
  subst ex ey
  obtain rfl : u = Value.ref a := rx
  obtain rfl : iv = Value.ref b := ry
  obtain ⟨z1, z2, dd⟩ := dct_of I2 e hk
  refine ⟨dd.typeIs, ?_⟩
  exact wpAny_getItem_heap (tupleKind_room_in1 hu) (key_sq I2 eb) dd hp ⟨v, H2, I2.tok _, rv, q2⟩
def tDPut (K : Fg) (w : World) (td ty tv : TE) : TS := fun D σ H => tv σ H fun v H1 => td σ H1 fun x H2 => ty σ H2 fun y H3 => ∃ a xs b k, x = .ref a ∧ y = .ref b ∧ H3 a = some (dctO w a xs) ∧ (∀ x ∈ xs, SqT K H3 x.2.1 (x.1.map kV)) ∧ SqT K H3 b (k.map kV) ∧ xs.length < sizeLine ∧ ∀ u, RelV v u → D.nx σ (upd H3 a (dctO w a (storedH xs k b u)))
theorem storedH_len {α : Type} [DecidableEq α] (xs : List (α × Addr × Value)) (k : α) (b : Addr) (u : Value) : (storedH xs k b u).length ≤ xs.length + 1 := by
  unfold storedH
  split
  · rw [List.length_map]; omega
  · rw [List.length_append, List.length_singleton]; omega
theorem ps_dput2 {X : Cx} {o i value : Expr} {pos pos' : Pos} {td ty tv : TE} (hu : X.A.units + 1 < cLine) (ho : PE X o td) (hi : PE X i ty) (hv : PE X value tv) (hs : swapsWith value (some (.Subscript o i pos')) pos.line X.env = pure false) :
    PS X (.Assign [.Subscript o i pos'] value pos) (tDPut X.K X.w td ty tv) := by
  refine ⟨fun pins s σ H D I h => ?_⟩
  refine wpAny_Assign_Subscript (thn (hv.run pins s σ H _ I h) fun r s1 ⟨v, H1, I1, rv, q1⟩ => thn (ho.run pins s1 σ H1 _ I1 q1) fun u s2 ⟨x, H2, I2, rx, q2⟩ => thn (hi.run pins s2 σ H2 _ I2 q2) fun iv s3 ⟨y, H3, I3, ry, a, xs, b, k, ex, ey, e, hk, eb, hl, q3⟩ => ?_) hs
  subst ex ey
  obtain rfl : u = Value.ref a := rx
  obtain rfl : iv = Value.ref b := ry
  obtain ⟨z1, z2, dd⟩ := dct_of I3 e hk
  refine wpAny_setItem_heap (hsz := z2) (tupleKind_room_in1 hu) (key_sq I3 eb) dd fun h' dd' hs => ?_
  obtain ⟨q, es, ep, hq, h2, h3, h4, _, h5⟩ := dd'
  have hl2 : (storedH xs k b r).length ≤ sizeLine := by have := storedH_len xs k b r; omega
  exact ⟨σ, _, d_write I3 (by rw [e]; exact True.intro) hs ⟨q, hq⟩ (dct_ok z1 hl2 hq h2 h3 h4 h5), q3 r rv⟩
/-! over data -/
def keyD1 : D → Option Key | .int i => some (.inl i) | .str x => some (.inr x) | _ => none
def keyDs : List D → Option (List Key)
  | [] => some []
  | d :: ds => match keyD1 d, keyDs ds with | some k, some ks => some (k :: ks) | _, _ => none
def keyD : D → Option (List Key) | .tuple ds => keyDs ds | _ => none
def valD (ks : List (List Key × D)) (k : List Key) : Option D := (ks.find? fun x => decide (x.1 = k)).map (·.2)
def putD (ks : List (List Key × D)) (k : List Key) (d : D) : List (List Key × D) := if (valD ks k).isSome then ks.map fun x => if x.1 = k then (x.1, d) else x else ks ++ [(k, d)]
section
variable {K : Fg} {I : Hp}
theorem keyDs_rp : ∀ {ds : List D} {vs : List V} {k : List Key}, Rps K I vs ds → keyDs ds = some k → vs = k.map kV
  | [], _, k, h, e => by
    cases h
    cases e
    rfl
  | d :: ds, _, k, h, e => by
    cases h with
    | cons h1 h2 =>
      unfold keyDs at e
      split at e
      · rename_i k1 ks e1 e2
        cases e
        rw [List.map_cons, ← keyDs_rp h2 e2]
        cases d <;> first | (cases e1) | skip
        · cases h1; rfl
        · cases h1; rfl
      · cases e
theorem keyD_rp {d : D} {v : V} {k : List Key} (h : Rp K I v d) (e : keyD d = some k) : ∃ b, v = .ref b ∧ SqT K I b (k.map kV) := by
  unfold keyD at e
  split at e
  · cases h with
    | tup h1 h2 =>
      rw [keyDs_rp h2 e] at h1
      exact ⟨_, rfl, h1⟩
  · cases e
theorem KD.keys : ∀ {xs : List (List Key × Addr × Value)} {ks : List (List Key × D)}, KD K I xs ks → ∀ x ∈ xs, SqT K I x.2.1 (x.1.map kV)
  | _, _, .nil, x, hx => absurd hx List.not_mem_nil
  | _, _, .cons h1 h2 h3 t, x, hx => by
    rcases List.mem_cons.mp hx with rfl | hx
    · exact h1
    · exact KD.keys t x hx
theorem KD.length : ∀ {xs : List (List Key × Addr × Value)} {ks : List (List Key × D)}, KD K I xs ks → xs.length = ks.length
  | _, _, .nil => rfl
  | _, _, .cons _ _ _ t => by rw [List.length_cons, List.length_cons, KD.length t]
theorem KD.val : ∀ {xs : List (List Key × Addr × Value)} {ks : List (List Key × D)}, KD K I xs ks → ∀ k, (valD ks k = none ∧ atKey xs k = none) ∨ ∃ d p v, valD ks k = some d ∧ atKey xs k = some p ∧ RelV v p.2 ∧ Rp K I v d
  | _, _, .nil, k => .inl ⟨rfl, rfl⟩
  | _, _, .cons (k := k1) (b := b) (u := u) (v := v) (d := d) (xs := xs) (ks := ks) h1 h2 h3 t, k => by
    by_cases c : k1 = k
    · refine .inr ⟨d, (b, u), v, ?_, ?_, h2, h3⟩
      · unfold valD; rw [List.find?_cons, decide_eq_true c]; rfl
      · unfold atKey; rw [List.find?_cons, decide_eq_true c]; rfl
    · have e1 : valD ((k1, d) :: ks) k = valD ks k := by unfold valD; rw [List.find?_cons, decide_eq_false c]
      have e2 : atKey ((k1, b, u) :: xs) k = atKey xs k := by unfold atKey; rw [List.find?_cons, decide_eq_false c]
      rw [e1, e2]
      exact KD.val t k
theorem KD.repl {k : List Key} {u : Value} {v : V} {d : D} (h2 : RelV v u) (h3 : Rp K I v d) : ∀ {xs : List (List Key × Addr × Value)} {ks : List (List Key × D)}, KD K I xs ks → KD K I (xs.map (putAt k u)) (ks.map fun x => if x.1 = k then (x.1, d) else x)
  | _, _, .nil => .nil
  | _, _, .cons (k := k1) (b := b) (u := u1) (v := v1) (d := d1) (xs := xs) (ks := ks) g1 g2 g3 t => by
    rw [List.map_cons, List.map_cons]
    unfold putAt
    by_cases c : k1 = k
    · dsimp only
      rw [if_pos c, if_pos c]
      exact .cons g1 h2 h3 (KD.repl h2 h3 t)
    · dsimp only
      rw [if_neg c, if_neg c]
      exact .cons g1 g2 g3 (KD.repl h2 h3 t)
theorem KD.snoc {k : List Key} {b : Addr} {u : Value} {v : V} {d : D} (h1 : SqT K I b (k.map kV)) (h2 : RelV v u) (h3 : Rp K I v d) : ∀ {xs : List (List Key × Addr × Value)} {ks : List (List Key × D)}, KD K I xs ks → KD K I (xs ++ [(k, b, u)]) (ks ++ [(k, d)])
  | _, _, .nil => .cons h1 h2 h3 .nil
  | _, _, .cons g1 g2 g3 t => .cons g1 g2 g3 (KD.snoc h1 h2 h3 t)
theorem KD.put {k : List Key} {b : Addr} {u : Value} {v : V} {d : D} (h1 : SqT K I b (k.map kV)) (h2 : RelV v u) (h3 : Rp K I v d) {xs : List (List Key × Addr × Value)} {ks : List (List Key × D)} (h : KD K I xs ks) : KD K I (storedH xs k b u) (putD ks k d) := by
  unfold storedH putD
  rcases h.val k with ⟨e1, e2⟩ | ⟨d0, p, v0, e1, e2, _, _⟩
  · rw [e1, e2]
    exact KD.snoc h1 h2 h3 h
  · rw [e1, e2]
    exact KD.repl h2 h3 h
end
section
variable {K : Fg} {p : P0} {env : Ev} {σ : L2.St} {I H I' H' : Hp}
/-- a name is given a dict of its own -/
theorem RelL.setDct (r : RelL K p env σ I H) {w : World} {a : Addr} {xs : List (List Key × Addr × Value)} {ks : List (List Key × D)} (h0 : p.H0 a = none) (h1 : I a = none) (h2 : H a = some (dctO w a xs)) (h3 : KD K I xs ks)
    (hn : ∀ (j : Nat) (w' : World) (x : List (List Key × D)), env[j]? = some (some (.dct w' x)) → σ[j]? ≠ some (some (.ref a))) (i : Nat) : RelL K p (env.set i (some (.dct w ks))) (σ.set i (some (.ref a))) I H := by
  refine ⟨⟨r.r.gr, fun j x e => ?_, fun j k x y b n e1 e2 e3 e4 => ?_, r.r.st, r.r.bs, fun j k w1 w2 x y b n e1 e2 e3 e4 => ?_, r.r.sm.set _ _ _ (fun y z u c cc => by cases z; exact cc.elim)⟩, by rw [List.length_set, List.length_set]; exact r.len⟩
  · rcases getSet e with ⟨rfl, q, hl⟩ | ⟨n, q⟩
    · cases q
      exact ⟨_, List.getElem?_set_self (by rw [← r.len]; exact hl), a, xs, rfl, h0, h1, h2, h3⟩
    · obtain ⟨u, hu, q⟩ := r.r.sl j x q
      exact ⟨u, by rw [List.getElem?_set_ne n]; exact hu, q⟩
  · rcases getSet e1 with ⟨_, q, _⟩ | ⟨n1, q1⟩
    · cases q
    · rcases getSet e2 with ⟨_, q, _⟩ | ⟨n2, q2⟩
      · cases q
      · rw [List.getElem?_set_ne n1] at e3
        rw [List.getElem?_set_ne n2] at e4
        exact r.r.sep j k x y b n q1 q2 e3 e4
  · rcases getSet e1 with ⟨rfl, q, hl⟩ | ⟨n1, q1⟩
    · rw [List.getElem?_set_self (by rw [← r.len]; exact hl)] at e3
      cases e3
      rcases getSet e2 with ⟨z, _, _⟩ | ⟨n2, q2⟩
      · exact n z
      · rw [List.getElem?_set_ne n2] at e4
        exact hn k _ y q2 e4
    · rw [List.getElem?_set_ne n1] at e3
      rcases getSet e2 with ⟨rfl, q, hl⟩ | ⟨n2, q2⟩
      · rw [List.getElem?_set_self (by rw [← r.len]; exact hl)] at e4
        cases e4
        exact hn j _ x q1 e3
      · rw [List.getElem?_set_ne n2] at e4
        exact r.r.sd j k w1 w2 x y b n q1 q2 e3 e4
/-- the own dict at a is changed -/
theorem RelL.mutDct (r : RelL K p env σ I H) {i : Nat} {w : World} {ks ks' : List (List Key × D)} {a : Addr} {xs' : List (List Key × Addr × Value)} (e : env[i]? = some (some (.dct w ks))) (hv : σ[i]? = some (some (.ref a))) (h : KD K I xs' ks') :
    RelL K p (env.set i (some (.dct w ks'))) σ I (upd H a (dctO w a xs')) := by
  obtain ⟨v, hv2, a, vs, e1, e2, e3, e4, e5⟩ := r.r.sl i _ e
  rw [hv] at hv2; cases hv2; cases e1
  have nI : ∀ b o, I b = some o → b ≠ a := fun b o q => ne_of_none q e3
  have nm : p.m ≠ some a := fun q => (r.r.st _ q).1 e2
  refine ⟨⟨⟨r.r.gr.ii, fun b o q => by rw [upd_ne (nI b o q)]; exact r.r.gr.ih b o q, fun b o q n => ?_, r.r.gr.fr, fun b q => ?_⟩, fun j x q => ?_, fun j k x y b n q1 q2 q3 q4 => ?_, fun s q => ⟨(r.r.st s q).1, ?_⟩, r.r.bs, fun j k w1 w2 x y b n q1 q2 q3 q4 => ?_,
      (r.r.sm.setE i (some (.dct w ks')) (fun y z u c cc => by cases z; exact cc.elim)).keep fun j x u b q m su eu => upd_ne fun z => by
        rcases getSet q with ⟨rfl, w, _⟩ | ⟨_, q⟩
        · cases w; cases m
        · subst z
          obtain ⟨u', hu, sl⟩ := r.r.sl j x q
          rw [su] at hu
          cases hu
          cases x <;> first | (cases m) | skip
          obtain ⟨b', bs, f1, f2, f3, f4, _, _⟩ := sl
          rw [eu] at f1
          cases f1
          rw [e4] at f4
          exact nomatch f4⟩,
    by rw [List.length_set]; exact r.len⟩
  · rw [upd_ne (ne_of_none q e2)]; exact r.r.gr.hh b o q n
  · by_cases hb : b = a
    · rw [hb, upd_same]; exact fun q => nomatch q
    · rw [upd_ne hb]; exact r.r.gr.th b q
  · rcases getSet q with ⟨rfl, z, hl⟩ | ⟨n, z⟩
    · cases z
      exact ⟨_, hv, a, xs', rfl, e2, e3, upd_same, h⟩
    · obtain ⟨u, hu, z2⟩ := r.r.sl j x z
      refine ⟨u, hu, ?_⟩
      cases x with
      | dat d => exact z2
      | rng _ => exact z2
      | obf _ _ _ => exact z2
      | obj _ _ _ _ =>
        obtain ⟨f1, f2, f6⟩ := z2
        refine ⟨f1, f2, f6.stays (Same.refl _) fun c hc z1 z2 z3 => ⟨z2, upd_ne fun w => ?_⟩⟩
        obtain ⟨_, _, vs2, hv2⟩ := f6.live c hc
        rw [w, e4] at hv2
        exact nomatch hv2
      | own es =>
        obtain ⟨b, ws, f1, f2, f3, f4, f5⟩ := z2
        subst f1
        have nb : b ≠ a := fun w => by
          rw [w, e4] at f4
          exact nomatch f4
        exact ⟨b, ws, rfl, f2, f3, by rw [upd_ne nb]; exact f4, f5⟩
      | strm => exact z2
      | lnt x =>
        obtain ⟨b, f1, f2, f3, f4⟩ := z2
        have nb : b ≠ a := fun w => f2 (by rw [w]; exact e2)
        exact ⟨b, f1, f2, f3, f4.stays (Same.refl _) fun o q => by rw [upd_ne nb]; exact q⟩
      | dct w' ks2 =>
        obtain ⟨b, ws, f1, f2, f3, f4, f5⟩ := z2
        subst f1
        have nb : b ≠ a := fun w2 => r.r.sd i j w w' ks ks2 a n e z hv (by rw [← w2]; exact hu)
        exact ⟨b, ws, rfl, f2, f3, by rw [upd_ne nb]; exact f4, f5⟩
      | dki ks2 =>
        obtain ⟨b, ws, f1, f2, f3, f4, f5⟩ := z2
        subst f1
        have nb : b ≠ a := fun w2 => by
          rw [w2, e4] at f4
          exact nomatch f4
        exact ⟨b, ws, rfl, f2, f3, by rw [upd_ne nb]; exact f4, f5⟩
      | mat rows =>
        obtain ⟨b, bs, f1, f2, f3, f4, f5, f6⟩ := z2
        subst f1
        have nb : b ≠ a := fun w => by
          rw [w, e4] at f4
          exact nomatch f4
        refine ⟨b, bs, rfl, f2, f3, by rw [upd_ne nb]; exact f4, f5, f6.stays (Same.refl _) fun c hc z1 z2 z3 => ⟨z2, upd_ne fun w => ?_⟩⟩
        obtain ⟨_, _, vs2, hv2⟩ := f6.live c hc
        rw [w, e4] at hv2
        exact nomatch hv2
  · have own : ∀ (l : Nat) (x : List D), (env.set i (some (Sl.dct w ks')))[l]? = some (some (Sl.own x)) → env[l]? = some (some (Sl.own x)) := fun l x w => by
      rcases getSet w with ⟨rfl, z, _⟩ | ⟨_, w⟩
      · cases z
      · exact w
    exact r.r.sep j k x y b n (own j x q1) (own k y q2) q3 q4
  · obtain ⟨f0, l, c, k, ns, f1, f2, f3⟩ := (r.r.st s q).2
    have ns2 : s ≠ a := fun w => nm (by rw [q, w])
    exact ⟨f0, l, c, k, ns, by rw [upd_ne ns2]; exact f1, f2, f3⟩
  · have own : ∀ (l : Nat) (w1 : World) (x : List (List Key × D)), (env.set i (some (Sl.dct w ks')))[l]? = some (some (Sl.dct w1 x)) → ∃ w2 y, env[l]? = some (some (Sl.dct w2 y)) := fun l w1 x z => by
      rcases getSet z with ⟨rfl, _, _⟩ | ⟨_, z⟩
      · exact ⟨_, _, e⟩
      · exact ⟨_, _, z⟩
    obtain ⟨u1, x2, z1⟩ := own j w1 x q1
    obtain ⟨u2, y2, z2⟩ := own k w2 y q2
    exact r.r.sd j k u1 u2 x2 y2 b n z1 z2 q3 q4
end
theorem _root_.L2.Room.units1 {k : Nat} {A : Around} (r : L2.Room k A) : A.units + 1 < cLine := by
  have := r.un
  omega
def dNewD (w : World) (i : Nat) : T2S := fun E env => E.nx (env.set i (some (.dct w [])))
def dPutD (w : World) (i : Nat) (tk tv : T2E) : T2S := fun E env => tv env fun v => match env[i]? with
  | some (some (.dct w' ks)) => w' = w ∧ ks.length < 1000000 ∧ tk env fun kd => (match keyD kd with | some k => E.nx (env.set i (some (.dct w (putD ks k v)))) | none => False)
  | _ => False
def dGetD (w : World) (i : Nat) (tk : T2E) : T2E := fun env Q => match env[i]? with
  | some (some (.dct w' ks)) => w' = w ∧ tk env fun kd => (match keyD kd with | some k => (match valD ks k with | some d => Q d | none => False) | none => False)
  | _ => False
section
variable {K : Fg}
theorem ss_newD {w : World} (i : Nat) : SS K (tAsg (tDNew w) (gName i)) (dNewD w i) := by
  intro p env σ I H D2 E r q e
  intro l h0
  have hl0 : p.H0 l = none := by
    cases e0 : p.H0 l with
    | none => rfl
    | some o => exact absurd h0 (r.r.gr.th l (by rw [e0]; exact fun z => nomatch z))
  have r1 := r.grow' (Gr.fresh (m := none) (o := dctO w l []) r.same h0)
  refine e.nx _ _ _ _ q (r1.setDct hl0 (Same.free r.same h0) upd_same .nil (fun j w' x ex z => ?_) i)
  obtain ⟨v, hv, a, ws, rfl, _, _, e4, _⟩ := r.r.sl j _ ex
  rw [hv] at z
  cases z
  rw [h0] at e4; cases e4
theorem se_getD {w : World} {te : TE} {t2 : T2E} (i : Nat) (h : SE K te t2) : SE K (tDG K w (tVar i) te) (dGetD w i t2) := by
  intro p env σ I H Q2 Q r q k
  unfold dGetD at q
  split at q
  · rename_i w' ks e2
    obtain ⟨rfl, q⟩ := q
    obtain ⟨v, hv, a, xs, rfl, f2, f3, f4, f5⟩ := r.r.sl i _ e2
    refine ⟨_, hv, h p env σ I H _ _ r q fun kd kv I1 H1 q1 s1 r1 => ?_⟩
    split at q1
    · rename_i k' ek
      split at q1
      · rename_i d ed
        obtain ⟨v', hv', a', xs', e1', g2, g3, g4, g5⟩ := (r.stp s1).r.sl i _ e2
        subst e1'
        rw [hv] at hv'
        cases hv'
        obtain ⟨b, rfl, eb⟩ := keyD_rp r1 ek
        rcases g5.val k' with ⟨z, _⟩ | ⟨d', p', v', z1, z2, z3, z4⟩
        · rw [z] at ed; cases ed
        · rw [z1] at ed
          cases ed
          exact ⟨a, xs', b, k', p', v', rfl, rfl, g4, fun x hx => Same.sqt s1.ih (g5.keys x hx), Same.sqt s1.ih eb, z2, z3, k _ _ _ _ q1 s1 z4⟩
      · exact q1.elim
    · exact q1.elim
  · exact q.elim
theorem ss_putD {w : World} {tk tv : TE} {k2 v2 : T2E} (i : Nat) (hk : SE K tk k2) (hv : SE K tv v2) : SS K (tDPut K w (tVar i) tk tv) (dPutD w i k2 v2) := by
  intro p env σ I H D2 E r q e
  refine hv p env σ I H _ _ r q fun d v I1 H1 q1 s1 r1 => ?_
  split at q1
  · rename_i w' ks e2
    obtain ⟨rfl, hl, q1⟩ := q1
    have ra := r.stp s1
    obtain ⟨va, hva, a, xs, rfl, f2, f3, f4, f5⟩ := ra.r.sl i _ e2
    refine ⟨_, hva, hk p env σ I1 H1 _ _ ra q1 fun kd kv I2 H2 q2 s2 r2 => ?_⟩
    split at q2
    · rename_i k' ek
      have rb := ra.stp s2
      obtain ⟨v', hv', a', xs', e1', g2, g3, g4, g5⟩ := rb.r.sl i _ e2
      subst e1'
      rw [hva] at hv'
      cases hv'
      obtain ⟨b, rfl, eb⟩ := keyD_rp r2 ek
      refine ⟨a, xs', b, k', rfl, rfl, g4, fun x hx => Same.sqt s2.ih (g5.keys x hx), Same.sqt s2.ih eb, lt_line (by rw [g5.length]; exact hl), fun u ru => ?_⟩
      exact e.nx _ _ _ _ q2 (rb.mutDct e2 hva (KD.put eb ru (Rp.mono s2.ii _ _ r1) g5))
    · exact q2.elim
  · exact q1.elim
end
end Z2
namespace Z2
open PySem PySem.Spec PyProof.Rows L2
/-! ### is not of bools; a reversed list of one's own -/
def dNotBl : R2D := fun x y Q => match x, y with | .bool a, .bool b => Q (.bool (!decide (a = b))) | _, _ => False
def dRevO (a : T2E) (l : T2O) : T2A := fun env Q => a env fun x => l env fun st => st = some (-1) ∧ match x with | .list ds => Q ds.reverse | _ => False
end Z2
namespace Z2
open PySem PySem.Spec PyProof.Rows L2
/-! ### tables: lists of rows of one's own -/
section
variable {K : Fg} {H0 I H : Hp}
theorem MR.length {bs : List Addr} {rows : List (List D)} (m : MR K H0 I H bs rows) : bs.length = rows.length := by
  induction m with
  | nil => rfl
  | cons _ _ _ _ _ _ ih => rw [List.length_cons, List.length_cons, ih]
theorem MR.get {bs : List Addr} {rows : List (List D)} (m : MR K H0 I H bs rows) : ∀ (k : Nat) (ds : List D), rows[k]? = some ds → ∃ b vs, bs[k]? = some b ∧ H b = some (.lst vs) ∧ Rps K I vs ds := by
  induction m with
  | nil => intro k ds h; rw [List.getElem?_nil] at h; cases h
  | @cons b vs ds bs rows h1 h2 h3 h4 h5 t ih =>
    intro k es h
    cases k with
    | zero =>
      rw [List.getElem?_cons_zero] at h
      cases h
      exact ⟨b, vs, rfl, h3, h4⟩
    | succ k =>
      rw [List.getElem?_cons_succ] at h
      obtain ⟨c, ws, g1, g2, g3⟩ := ih k es h
      exact ⟨c, ws, by rw [List.getElem?_cons_succ]; exact g1, g2, g3⟩
theorem MR.set {bs : List Addr} {rows : List (List D)} (m : MR K H0 I H bs rows) : ∀ (k : Nat) (b : Addr) (vs' : List V) (ds' : List D), bs[k]? = some b → Rps K I vs' ds' → MR K H0 I (upd H b (.lst vs')) bs (rows.set k ds') := by
  induction m with
  | nil => intro k b vs' ds' h; rw [List.getElem?_nil] at h; cases h
  | @cons c vs ds bs rows h1 h2 h3 h4 h5 t ih =>
    intro k b vs' ds' h r
    cases k with
    | zero =>
      rw [List.getElem?_cons_zero] at h
      cases h
      rw [List.set_cons_zero]
      refine .cons h1 h2 upd_same r h5 (t.stays (Same.refl _) fun d hd z1 z2 z3 => ⟨z2, upd_ne fun w => ?_⟩)
      exact h5 (by rw [← w]; exact hd)
    | succ k =>
      rw [List.getElem?_cons_succ] at h
      rw [List.set_cons_succ]
      have hb : b ∈ bs := List.mem_of_getElem? h
      exact .cons h1 h2 (by rw [upd_ne fun w => h5 (by rw [w]; exact hb)]; exact h3) h4 h5 (ih k b vs' ds' h r)
theorem MR.snoc {bs : List Addr} {rows : List (List D)} {l : Addr} {vs : List V} {ds : List D} (m : MR K H0 I H bs rows) (g1 : H0 l = none) (g2 : I l = none) (g3 : H l = some (.lst vs)) (g4 : Rps K I vs ds) (g5 : l ∉ bs) : MR K H0 I H (bs ++ [l]) (rows ++ [ds]) := by
  induction m with
  | nil => exact .cons g1 g2 g3 g4 List.not_mem_nil .nil
  | @cons c vs' ds' bs rows h1 h2 h3 h4 h5 t ih =>
    refine .cons h1 h2 h3 h4 (fun z => ?_) (ih fun z => g5 (List.mem_cons_of_mem _ z))
    rcases List.mem_append.mp z with z | z
    · exact h5 z
    · rw [List.mem_singleton.mp z] at g5
      exact g5 List.mem_cons_self
end
section
variable {K : Fg} {p : P0} {env : Ev} {σ : L2.St} {I H I' H' : Hp}
end
/-- the row, the place that an index names -/
def atRow {α : Type} (rows : List α) (x : D) (f : Nat → α → Prop) : Prop := match x with | .int k => (match ixN rows.length k with | some k' => (match rows[k']? with | some row => f k' row | none => False) | none => False) | _ => False
/-- rows[a][b] -/
def dMIx (i : Nat) (t1 t2 : T2E) : T2E := fun env Q => match env[i]? with
  | some (some (.mat rows)) => t1 env fun x => atRow rows x fun _ row => t2 env fun y => atRow row y fun _ d => Q d
  | _ => False
/-- rows[a][b] = v -/
def dMSet (i : Nat) (t1 t2 tv : T2E) : T2S := fun E env => tv env fun v => match env[i]? with
  | some (some (.mat rows)) => t1 env fun x => atRow rows x fun k row => t2 env fun y => atRow row y fun j _ => E.nx (env.set i (some (.mat (rows.set k (row.set j v)))))
  | _ => False
section
variable {K : Fg} {ta tb tv : TE} {t1 t2 v2 : T2E}
end
section
variable {K : Fg} {p : P0} {env : Ev} {σ : L2.St} {I H I' H' : Hp}
end
def lcM (g : T2G) (te : T2A) (env : Ev) : List D → (List (List D) → Prop) → Prop
  | [], Q => Q []
  | d :: ds, Q => g d env fun env1 => te env1 fun row => lcM g te env ds fun rs => Q (row :: rs)
/-- rows = [[..] for ..]: a table of one's own -/
def dNewM (i : Nat) (ti : T2I) (g : T2G) (te : T2A) (vs : List Nat) : T2S := fun E env => ti env fun ds => ds.length ≤ 1000000 ∧ lcM g te (wipeE env vs) ds fun rows => E.nx (env.set i (some (.mat rows)))
theorem MR.low {K : Fg} {H0 H1 I H : Hp} {bs : List Addr} {rows : List (List D)} (m : MR K H0 I H bs rows) (h : ∀ c, H0 c = none → H1 c = none) : MR K H1 I H bs rows := by
  induction m with
  | nil => exact .nil
  | @cons b vs ds bs rows h1 h2 h3 h4 h5 t ih => exact .cons (h b h1) h2 h3 h4 h5 ih
section
variable {K : Fg} {p : P0} {env : Ev} {σ : L2.St} {I H I' H' : Hp}
end
def dFrzM (i : Nat) (t : T2S) : T2S := fun E env => match env[i]? with | some (some (.mat rows)) => t E (env.set i (some (.dat (.list (rows.map PyData.list))))) | some (some (.dat _)) => t E env | _ => False
/-! ### a, b = x, y -/
def dPar (i j : Nat) (t : T2A) : T2S := fun E env => t env fun ds => match ds with | [d, e] => E.nx ((env.set i (some (.dat d))).set j (some (.dat e))) | _ => False
end Z2
namespace Z2
open PySem PySem.Spec PyProof.Rows L2
section
variable {prog : Program} {w : World} {A : Around} {E : Value → Shared → Prop} {s : Shared}
theorem max_eq (l : Addr) (d : Value) : Builtin.max { pos := [.ref l], kw := [("default", d)] } = (do
   let it ← pyIter (.ref l)
   let b ← newList []
   again (Code.builtin "max.loop" { pos := [it, Value.none, b], kw := [("default", d)] })) := by
  rfl
theorem maxdf_loop {R : Result → Shared → Prop} {I S : Addr} {d : Value} {fp wr : List Addr} {n : Nat} {P : Nat → Value → Prop} {St : Nat → Heap → Prop} (W : Walks prog w A.in1 I fp wr n P St) (bt : Nat → Nat → Bool) (hc : CmpOf prog w A.in1 CmpOp.Gt P bt) (hS : ¬ S ∈ fp) :
    ∀ (k j : Nat) (s : Shared) (vb : Value) (c : Nat), n - (j + 1) = k → j + 1 ≤ n → St (j + 1) s.heap → P (argBest bt j) vb → s.heap.get? S = some { cls := .type "list", data := .seq #[vb, vb] c } →
      (∀ (v : Value) (h' : Heap) (tk : Nat), P (argBest bt (n - 1)) v → (∀ (b : Addr) (o : Obj), ¬ b ∈ wr → b ≠ S → s.heap.get? b = some o → h'.get? b = some o) → R (.ok (.ret v)) { s with heap := h', toks := tk }) →
      codeAny (model prog w) A (Code.builtin "max.loop" { pos := [.ref I, .none, .ref S], kw := [("default", d)] }) R s := by
  intro k
  induction k with
  | zero =>
    intro j s vb c hk hj st hp hs hq
    have hn : n = j + 1 := by omega
    refine codeAny_builtin F.entry_max_loop ?_
    show wpAny (model prog w) A.in1 _ _ _ _
    refine wpAny_bind (wpAny_seqItems hs rfl ?_)
    refine wpAny_bind (show wpAny _ _ (tryCatch _ _) _ _ _ from wpAny_tryCatch (W.done _ _ _ (by rw [hn]; exact st) fun h' tk keep => ?_))
    have hs' := keep S _ (fun q => hS (W.sub _ q)) hs
    refine wpAny_bind (wpAny_updateSeq hs' rfl (wpAny_bind (wpAny_letGo (wpAny_pure ?_))) (by show 2 ≤ _; rw [sizeLine_eq]; decide) (by show 0 ≤ _; omega))
    have e : n - 1 = j := by omega
    refine hq vb _ _ (by rw [e]; exact hp) fun b o hb hne ho => ?_
    exact (Heap.get?_update_ne _ _ _ _ hne).trans (keep b o hb ho)
  | succ k ih =>
    intro j s vb c hk hj st hp hs hq
    refine codeAny_builtin F.entry_max_loop ?_
    show wpAny (model prog w) A.in1 _ _ _ _
    refine wpAny_bind (wpAny_seqItems hs rfl ?_)
    refine wpAny_bind (show wpAny _ _ (tryCatch _ _) _ _ _ from wpAny_tryCatch (W.item (j + 1) _ _ _ (by omega) st fun v h' tk pv st' keep => ?_))
    have hs' := keep S _ (fun q => hS (W.sub _ q)) hs
    refine wpAny_bind (wpAny_pure ?_)
    refine wpAny_bind (show wpAny _ _ (tryCatch _ _) _ _ _ from wpAny_tryCatch (wpAny_holding ?_))
    refine wpAny_bind (hc (j + 1) (argBest bt j) v vb _ _ _ pv hp ?_)
    refine wpAny_bind (wpAny_holding (wpAny_truthy_bool ?_))
    refine wpAny_bind (wpAny_letGo (wpAny_pure ?_))
    by_cases hb : bt (j + 1) (argBest bt j) = true
    · rw [if_pos hb]
      refine wpAny_bind (wpAny_updateSeq hs' rfl (wpAny_bind (wpAny_letGo (wpAny_pure ⟨rfl, ?_⟩))) (by show 2 ≤ _; rw [sizeLine_eq]; decide) (by show 2 ≤ _; rw [sizeLine_eq]; decide))
      refine ih (j + 1) _ v c (by omega) (by omega) ?_ (by rw [argBest.eq_2, if_pos hb]; exact pv) ?_ fun v' h'' tk' hp' keep' => ?_
      · exact W.frame _ _ _ st' fun b hb o ho => (Heap.get?_update_ne _ _ _ _ (fun q => hS (by rw [← q]; exact hb))).trans ho
      · exact (Heap.get?_update_self (Obj.mapSeq fun _ => #[v, v]) hs' rfl)
      · exact hq v' h'' tk' hp' fun b o hb hne ho => keep' b o hb hne ((Heap.get?_update_ne _ _ _ _ hne).trans (keep b o hb ho))
    · rw [if_neg hb]
      refine wpAny_bind (wpAny_letGo (wpAny_pure ⟨rfl, ?_⟩))
      refine ih (j + 1) _ vb c (by omega) (by omega) st' (by rw [argBest.eq_2, if_neg hb]; exact hp) hs' fun v' h'' tk' hp' keep' => ?_
      exact hq v' h'' tk' hp' fun b o hb hne ho => keep' b o hb hne (keep b o hb ho)
end
abbrev rmaxDf (K : Fg) : List V → List V → Hp → VK → Prop := fun xs zs H Q => ∃ (p : Addr) (ns : List Int) (z : V), xs = [.ref p] ∧ zs = [z] ∧ SqL K H p (ns.map V.int) ∧ (ns = [] → Q z H) ∧ (ns ≠ [] → Q (.int (maxD ns)) H)
theorem crk_max {X : Cx} (hc : X.calm = true) : CallRK X (.builtin "max") [("default" : Str)] (rmaxDf X.K) := by
  rintro pins s σ H xs zs us ws Q I rx rz ⟨p, ns, z, rfl, rfl, hq, h0, h1⟩
  cases rx with
  | cons rx0 rx1 =>
    cases rx1
    cases rz with
    | cons rz0 rz1 =>
      cases rz1
      rename_i u d
      obtain rfl : u = .ref p := rx0
      obtain ⟨its, rv, pl, hz⟩ := I.list hq
      have hd := I.ok.hd hc
      refine wpAny_call (codeAny_call_builtin F.plain_max F.entry_max ?_)
      show wpAny (model X.prog X.w) _ (pure ()) _ _ _
      refine wpAny_pure ?_
      show wpAny (model X.prog X.w) _ (Builtin.max { pos := [.ref p], kw := [("default", d)] }) _ _ _
      rw [max_eq]
      have il : s.heap.IsList p its.toArray := by
        obtain ⟨o, n, g1, g2, g3, g4⟩ := pl
        exact ⟨o, g1, g2, n, g4⟩
      refine wpAny_bind (wpAny_pyIter_list il ?_)
      refine wpAny_bind (wpAny_newList ?_)
      refine wpAny_pure ⟨rfl, ?_⟩
      have hlen : its.length = ns.length := by have := rv.length; rw [List.length_map] at this; exact this.symm
      have hpl : p < s.heap.objs.size := by obtain ⟨o, g1, _⟩ := il; exact Heap.lt_size g1
      have W := Walks.list (prog := X.prog) (w := X.w) (A := X.A.in1) hd s.heap.objs.size p (Nat.ne_of_lt hpl) its.toArray
      have hval : ∀ (i : Nat) (v : Value), its.toArray[i]? = some v → ∃ t, v = Value.int (ns.getD i 0) t := fun i v hv => by
        have hi : i < ns.length := by
          rw [← hlen]
          have := (Array.getElem?_eq_some_iff.mp hv).1
          simpa using this
        obtain ⟨u, hu, ru⟩ := rv.get (i := i) (x := .int ns[i]) (by rw [List.getElem?_map, List.getElem?_eq_getElem hi]; rfl)
        have : its.toArray[i]? = some u := by simpa using hu
        rw [this] at hv
        cases hv
        obtain ⟨t, rfl⟩ := ru
        exact ⟨t, by rw [List.getD_eq_getElem?_getD, List.getElem?_eq_getElem hi]; rfl⟩
      have hc := CmpOf.ints_gt (prog := X.prog) (w := X.w) (A := X.A.in1) (P := fun i v => its.toArray[i]? = some v) (fun i => ns.getD i 0) hval
      have keep0 : ∀ (b : Addr) (o : Obj), s.heap.get? b = some o → ((s.heap.push { cls := .type "list_iterator", data := .fields #[.ref p, .int 0 0] }).push { cls := .type "list", data := .seq ([] : List Value).toArray }).get? b = some o := fun b o h => Heap.get?_push_of_some _ (Heap.get?_push_of_some _ h)
      have hIt : ((s.heap.push { cls := .type "list_iterator", data := .fields #[.ref p, .int 0 0] }).push { cls := .type "list", data := .seq ([] : List Value).toArray }).IsListIter s.heap.objs.size p 0 := ⟨_, Heap.get?_push_of_some _ (Heap.get?_push_size _ rfl), rfl, rfl⟩
      have hIl : ((s.heap.push { cls := .type "list_iterator", data := .fields #[.ref p, .int 0 0] }).push { cls := .type "list", data := .seq ([] : List Value).toArray }).IsList p its.toArray := by
        obtain ⟨o, g1, g2⟩ := il; exact ⟨o, keep0 _ _ g1, g2⟩
      have hSz : (s.heap.push { cls := .type "list_iterator", data := .fields #[.ref p, .int 0 0] }).objs.size = s.heap.objs.size + 1 := Heap.size_push _ _
      have hS : ((s.heap.push { cls := .type "list_iterator", data := .fields #[.ref p, .int 0 0] }).push { cls := .type "list", data := .seq ([] : List Value).toArray }).get? (s.heap.push { cls := .type "list_iterator", data := .fields #[.ref p, .int 0 0] }).objs.size = some { cls := .type "list", data := .seq #[] } := Heap.get?_push_size _ rfl
      have hSfp : ¬ (s.heap.push { cls := .type "list_iterator", data := .fields #[.ref p, .int 0 0] }).objs.size ∈ [s.heap.objs.size, p] := by
        rw [hSz]
        intro q
        rcases List.mem_cons.mp q with q | q
        · exact Nat.succ_ne_self _ q
        · rcases List.mem_cons.mp q with q | q
          · exact Nat.ne_of_gt (Nat.lt_succ_of_lt hpl) q
          · exact absurd q List.not_mem_nil
      have hout : ∀ (b : Addr) (o : Obj), s.heap.get? b = some o → ¬ b ∈ [s.heap.objs.size] ∧ b ≠ (s.heap.push { cls := .type "list_iterator", data := .fields #[.ref p, .int 0 0] }).objs.size := fun b o h => by
        have h3 : b < s.heap.objs.size := Heap.lt_size h
        rw [hSz]
        exact ⟨fun q => Nat.ne_of_lt h3 (List.mem_singleton.mp q), Nat.ne_of_lt (Nat.lt_succ_of_lt h3)⟩
      generalize (s.heap.push { cls := .type "list_iterator", data := .fields #[.ref p, .int 0 0] }).objs.size = S at *
      generalize ((s.heap.push { cls := .type "list_iterator", data := .fields #[.ref p, .int 0 0] }).push { cls := .type "list", data := .seq ([] : List Value).toArray }) = hp2 at *
      refine codeAny_builtin F.entry_max_loop ?_
      show wpAny (model X.prog X.w) X.A.in1 _ _ _ _
      refine wpAny_bind (wpAny_seqItems hS rfl ?_)
      cases hns : ns with
      | nil =>
        have hz0 : its.toArray.size = 0 := by rw [hns] at hlen; simpa using hlen
        refine wpAny_bind (show wpAny _ _ (tryCatch _ _) _ _ _ from wpAny_tryCatch (W.done _ _ _ (by rw [hz0]; exact ⟨hIt, hIl⟩) fun h' tk keep => ?_))
        refine wpAny_bind (wpAny_rule (wpAny_pure ?_))
        refine ⟨z, H, I.kept (t' := tk) fun b o h => keep b o (hout b o h).1 (keep0 b o h), rz0, h0 hns⟩
      | cons n0 ns' =>
        have hpos : 0 < its.toArray.size := by rw [List.size_toArray, hlen, hns]; simp
        refine wpAny_bind (show wpAny _ _ (tryCatch _ _) _ _ _ from wpAny_tryCatch (W.item 0 _ _ _ hpos ⟨hIt, hIl⟩ fun v h' tk pv st' keep => ?_))
        have hs' := keep S _ (fun q => hSfp (W.sub _ q)) hS
        refine wpAny_bind (wpAny_pure ?_)
        refine wpAny_bind (wpAny_updateSeq hs' rfl (wpAny_pure ⟨rfl, ?_⟩) (by show 0 ≤ _; omega) (by show 2 ≤ _; rw [sizeLine_eq]; decide))
        refine maxdf_loop W _ hc hSfp _ 0 _ v 1 rfl (by omega) (W.frame _ _ _ st' fun b hb o ho => (Heap.get?_update_ne _ _ _ _ (fun q => hSfp (by rw [← q]; exact hb))).trans ho) pv (Heap.get?_update_self (Obj.mapSeq fun _ => #[v, v]) hs' rfl) fun v' h'' tk' hp' keep' => ?_
        obtain ⟨t, rfl⟩ := hval _ _ hp'
        have hab := argBest_gt (fun i => ns.getD i 0) (its.toArray.size - 1)
        have hle : argBest (fun i j => decide (ns.getD i 0 > ns.getD j 0)) (its.toArray.size - 1) < ns.length := by
          have := hab.1
          rw [List.size_toArray, hlen] at this ⊢
          have : 0 < ns.length := by rw [hns]; simp
          omega
        have em : ns.getD (argBest (fun i j => decide (ns.getD i 0 > ns.getD j 0)) (its.toArray.size - 1)) 0 = maxD ns := by
          have g0 : 0 < ns.length := by rw [hns]; simp
          have mem : ns.getD (argBest (fun i j => decide (ns.getD i 0 > ns.getD j 0)) (its.toArray.size - 1)) 0 ∈ ns := by
            rw [List.getD_eq_getElem?_getD, List.getElem?_eq_getElem hle]; exact List.getElem_mem _
          obtain ⟨j, hj, ej⟩ := List.getElem_of_mem (maxD_mem g0)
          have h2 := hab.2 j (by rw [List.size_toArray, hlen]; omega)
          rw [show ns.getD j 0 = maxD ns by rw [List.getD_eq_getElem?_getD, List.getElem?_eq_getElem hj, ej]; rfl] at h2
          exact Int.le_antisymm (maxD_ge _ mem) h2
        rw [em]
        refine ⟨.int (maxD ns), H, I.kept (t' := tk') fun b o h => keep' b o (hout b o h).1 (hout b o h).2 ((Heap.get?_update_ne _ _ _ _ (hout b o h).2).trans (keep b o (hout b o h).1 (keep0 b o h))), ⟨t, rfl⟩, h1 (by rw [hns]; simp)⟩
section
variable {prog : Program} {w : World} {A : Around} {E : Value → Shared → Prop} {s : Shared}
theorem min_eq (l : Addr) (d : Value) : Builtin.min { pos := [.ref l], kw := [("default", d)] } = (do
   let it ← pyIter (.ref l)
   let b ← newList []
   again (Code.builtin "min.loop" { pos := [it, Value.none, b], kw := [("default", d)] })) := by
  rfl
theorem mindf_loop {R : Result → Shared → Prop} {I S : Addr} {d : Value} {fp wr : List Addr} {n : Nat} {P : Nat → Value → Prop} {St : Nat → Heap → Prop} (W : Walks prog w A.in1 I fp wr n P St) (bt : Nat → Nat → Bool) (hc : CmpOf prog w A.in1 CmpOp.Lt P bt) (hS : ¬ S ∈ fp) :
    ∀ (k j : Nat) (s : Shared) (vb : Value) (c : Nat), n - (j + 1) = k → j + 1 ≤ n → St (j + 1) s.heap → P (argBest bt j) vb → s.heap.get? S = some { cls := .type "list", data := .seq #[vb, vb] c } →
      (∀ (v : Value) (h' : Heap) (tk : Nat), P (argBest bt (n - 1)) v → (∀ (b : Addr) (o : Obj), ¬ b ∈ wr → b ≠ S → s.heap.get? b = some o → h'.get? b = some o) → R (.ok (.ret v)) { s with heap := h', toks := tk }) →
      codeAny (model prog w) A (Code.builtin "min.loop" { pos := [.ref I, .none, .ref S], kw := [("default", d)] }) R s := by
  intro k
  induction k with
  | zero =>
    intro j s vb c hk hj st hp hs hq
    have hn : n = j + 1 := by omega
    refine codeAny_builtin F.entry_min_loop ?_
    show wpAny (model prog w) A.in1 _ _ _ _
    refine wpAny_bind (wpAny_seqItems hs rfl ?_)
    refine wpAny_bind (show wpAny _ _ (tryCatch _ _) _ _ _ from wpAny_tryCatch (W.done _ _ _ (by rw [hn]; exact st) fun h' tk keep => ?_))
    have hs' := keep S _ (fun q => hS (W.sub _ q)) hs
    refine wpAny_bind (wpAny_updateSeq hs' rfl (wpAny_bind (wpAny_letGo (wpAny_pure ?_))) (by show 2 ≤ _; rw [sizeLine_eq]; decide) (by show 0 ≤ _; omega))
    have e : n - 1 = j := by omega
    refine hq vb _ _ (by rw [e]; exact hp) fun b o hb hne ho => ?_
    exact (Heap.get?_update_ne _ _ _ _ hne).trans (keep b o hb ho)
  | succ k ih =>
    intro j s vb c hk hj st hp hs hq
    refine codeAny_builtin F.entry_min_loop ?_
    show wpAny (model prog w) A.in1 _ _ _ _
    refine wpAny_bind (wpAny_seqItems hs rfl ?_)
    refine wpAny_bind (show wpAny _ _ (tryCatch _ _) _ _ _ from wpAny_tryCatch (W.item (j + 1) _ _ _ (by omega) st fun v h' tk pv st' keep => ?_))
    have hs' := keep S _ (fun q => hS (W.sub _ q)) hs
    refine wpAny_bind (wpAny_pure ?_)
    refine wpAny_bind (show wpAny _ _ (tryCatch _ _) _ _ _ from wpAny_tryCatch (wpAny_holding ?_))
    refine wpAny_bind (hc (j + 1) (argBest bt j) v vb _ _ _ pv hp ?_)
    refine wpAny_bind (wpAny_holding (wpAny_truthy_bool ?_))
    refine wpAny_bind (wpAny_letGo (wpAny_pure ?_))
    by_cases hb : bt (j + 1) (argBest bt j) = true
    · rw [if_pos hb]
      refine wpAny_bind (wpAny_updateSeq hs' rfl (wpAny_bind (wpAny_letGo (wpAny_pure ⟨rfl, ?_⟩))) (by show 2 ≤ _; rw [sizeLine_eq]; decide) (by show 2 ≤ _; rw [sizeLine_eq]; decide))
      refine ih (j + 1) _ v c (by omega) (by omega) ?_ (by rw [argBest.eq_2, if_pos hb]; exact pv) ?_ fun v' h'' tk' hp' keep' => ?_
      · exact W.frame _ _ _ st' fun b hb o ho => (Heap.get?_update_ne _ _ _ _ (fun q => hS (by rw [← q]; exact hb))).trans ho
      · exact (Heap.get?_update_self (Obj.mapSeq fun _ => #[v, v]) hs' rfl)
      · exact hq v' h'' tk' hp' fun b o hb hne ho => keep' b o hb hne ((Heap.get?_update_ne _ _ _ _ hne).trans (keep b o hb ho))
    · rw [if_neg hb]
      refine wpAny_bind (wpAny_letGo (wpAny_pure ⟨rfl, ?_⟩))
      refine ih (j + 1) _ vb c (by omega) (by omega) st' (by rw [argBest.eq_2, if_neg hb]; exact hp) hs' fun v' h'' tk' hp' keep' => ?_
      exact hq v' h'' tk' hp' fun b o hb hne ho => keep' b o hb hne (keep b o hb ho)
end
abbrev rminDf (K : Fg) : List V → List V → Hp → VK → Prop := fun xs zs H Q => ∃ (p : Addr) (ns : List Int) (z : V), xs = [.ref p] ∧ zs = [z] ∧ SqL K H p (ns.map V.int) ∧ (ns = [] → Q z H) ∧ (ns ≠ [] → Q (.int (minD ns)) H)
theorem crk_min {X : Cx} (hc : X.calm = true) : CallRK X (.builtin "min") [("default" : Str)] (rminDf X.K) := by
  rintro pins s σ H xs zs us ws Q I rx rz ⟨p, ns, z, rfl, rfl, hq, h0, h1⟩
  cases rx with
  | cons rx0 rx1 =>
    cases rx1
    cases rz with
    | cons rz0 rz1 =>
      cases rz1
      rename_i u d
      obtain rfl : u = .ref p := rx0
      obtain ⟨its, rv, pl, hz⟩ := I.list hq
      have hd := I.ok.hd hc
      refine wpAny_call (codeAny_call_builtin F.plain_min F.entry_min ?_)
      show wpAny (model X.prog X.w) _ (pure ()) _ _ _
      refine wpAny_pure ?_
      show wpAny (model X.prog X.w) _ (Builtin.min { pos := [.ref p], kw := [("default", d)] }) _ _ _
      rw [min_eq]
      have il : s.heap.IsList p its.toArray := by
        obtain ⟨o, n, g1, g2, g3, g4⟩ := pl
        exact ⟨o, g1, g2, n, g4⟩
      refine wpAny_bind (wpAny_pyIter_list il ?_)
      refine wpAny_bind (wpAny_newList ?_)
      refine wpAny_pure ⟨rfl, ?_⟩
      have hlen : its.length = ns.length := by have := rv.length; rw [List.length_map] at this; exact this.symm
      have hpl : p < s.heap.objs.size := by obtain ⟨o, g1, _⟩ := il; exact Heap.lt_size g1
      have W := Walks.list (prog := X.prog) (w := X.w) (A := X.A.in1) hd s.heap.objs.size p (Nat.ne_of_lt hpl) its.toArray
      have hval : ∀ (i : Nat) (v : Value), its.toArray[i]? = some v → ∃ t, v = Value.int (ns.getD i 0) t := fun i v hv => by
        have hi : i < ns.length := by
          rw [← hlen]
          have := (Array.getElem?_eq_some_iff.mp hv).1
          simpa using this
        obtain ⟨u, hu, ru⟩ := rv.get (i := i) (x := .int ns[i]) (by rw [List.getElem?_map, List.getElem?_eq_getElem hi]; rfl)
        have : its.toArray[i]? = some u := by simpa using hu
        rw [this] at hv
        cases hv
        obtain ⟨t, rfl⟩ := ru
        exact ⟨t, by rw [List.getD_eq_getElem?_getD, List.getElem?_eq_getElem hi]; rfl⟩
      have hc := CmpOf.ints_lt (prog := X.prog) (w := X.w) (A := X.A.in1) (P := fun i v => its.toArray[i]? = some v) (fun i => ns.getD i 0) hval
      have keep0 : ∀ (b : Addr) (o : Obj), s.heap.get? b = some o → ((s.heap.push { cls := .type "list_iterator", data := .fields #[.ref p, .int 0 0] }).push { cls := .type "list", data := .seq ([] : List Value).toArray }).get? b = some o := fun b o h => Heap.get?_push_of_some _ (Heap.get?_push_of_some _ h)
      have hIt : ((s.heap.push { cls := .type "list_iterator", data := .fields #[.ref p, .int 0 0] }).push { cls := .type "list", data := .seq ([] : List Value).toArray }).IsListIter s.heap.objs.size p 0 := ⟨_, Heap.get?_push_of_some _ (Heap.get?_push_size _ rfl), rfl, rfl⟩
      have hIl : ((s.heap.push { cls := .type "list_iterator", data := .fields #[.ref p, .int 0 0] }).push { cls := .type "list", data := .seq ([] : List Value).toArray }).IsList p its.toArray := by
        obtain ⟨o, g1, g2⟩ := il; exact ⟨o, keep0 _ _ g1, g2⟩
      have hSz : (s.heap.push { cls := .type "list_iterator", data := .fields #[.ref p, .int 0 0] }).objs.size = s.heap.objs.size + 1 := Heap.size_push _ _
      have hS : ((s.heap.push { cls := .type "list_iterator", data := .fields #[.ref p, .int 0 0] }).push { cls := .type "list", data := .seq ([] : List Value).toArray }).get? (s.heap.push { cls := .type "list_iterator", data := .fields #[.ref p, .int 0 0] }).objs.size = some { cls := .type "list", data := .seq #[] } := Heap.get?_push_size _ rfl
      have hSfp : ¬ (s.heap.push { cls := .type "list_iterator", data := .fields #[.ref p, .int 0 0] }).objs.size ∈ [s.heap.objs.size, p] := by
        rw [hSz]
        intro q
        rcases List.mem_cons.mp q with q | q
        · exact Nat.succ_ne_self _ q
        · rcases List.mem_cons.mp q with q | q
          · exact Nat.ne_of_gt (Nat.lt_succ_of_lt hpl) q
          · exact absurd q List.not_mem_nil
      have hout : ∀ (b : Addr) (o : Obj), s.heap.get? b = some o → ¬ b ∈ [s.heap.objs.size] ∧ b ≠ (s.heap.push { cls := .type "list_iterator", data := .fields #[.ref p, .int 0 0] }).objs.size := fun b o h => by
        have h3 : b < s.heap.objs.size := Heap.lt_size h
        rw [hSz]
        exact ⟨fun q => Nat.ne_of_lt h3 (List.mem_singleton.mp q), Nat.ne_of_lt (Nat.lt_succ_of_lt h3)⟩
      generalize (s.heap.push { cls := .type "list_iterator", data := .fields #[.ref p, .int 0 0] }).objs.size = S at *
      generalize ((s.heap.push { cls := .type "list_iterator", data := .fields #[.ref p, .int 0 0] }).push { cls := .type "list", data := .seq ([] : List Value).toArray }) = hp2 at *
      refine codeAny_builtin F.entry_min_loop ?_
      show wpAny (model X.prog X.w) X.A.in1 _ _ _ _
      refine wpAny_bind (wpAny_seqItems hS rfl ?_)
      cases hns : ns with
      | nil =>
        have hz0 : its.toArray.size = 0 := by rw [hns] at hlen; simpa using hlen
        refine wpAny_bind (show wpAny _ _ (tryCatch _ _) _ _ _ from wpAny_tryCatch (W.done _ _ _ (by rw [hz0]; exact ⟨hIt, hIl⟩) fun h' tk keep => ?_))
        refine wpAny_bind (wpAny_rule (wpAny_pure ?_))
        refine ⟨z, H, I.kept (t' := tk) fun b o h => keep b o (hout b o h).1 (keep0 b o h), rz0, h0 hns⟩
      | cons n0 ns' =>
        have hpos : 0 < its.toArray.size := by rw [List.size_toArray, hlen, hns]; simp
        refine wpAny_bind (show wpAny _ _ (tryCatch _ _) _ _ _ from wpAny_tryCatch (W.item 0 _ _ _ hpos ⟨hIt, hIl⟩ fun v h' tk pv st' keep => ?_))
        have hs' := keep S _ (fun q => hSfp (W.sub _ q)) hS
        refine wpAny_bind (wpAny_pure ?_)
        refine wpAny_bind (wpAny_updateSeq hs' rfl (wpAny_pure ⟨rfl, ?_⟩) (by show 0 ≤ _; omega) (by show 2 ≤ _; rw [sizeLine_eq]; decide))
        refine mindf_loop W _ hc hSfp _ 0 _ v 1 rfl (by omega) (W.frame _ _ _ st' fun b hb o ho => (Heap.get?_update_ne _ _ _ _ (fun q => hSfp (by rw [← q]; exact hb))).trans ho) pv (Heap.get?_update_self (Obj.mapSeq fun _ => #[v, v]) hs' rfl) fun v' h'' tk' hp' keep' => ?_
        obtain ⟨t, rfl⟩ := hval _ _ hp'
        have hab := argBest_lt (fun i => ns.getD i 0) (its.toArray.size - 1)
        have hle : argBest (fun i j => decide (ns.getD i 0 < ns.getD j 0)) (its.toArray.size - 1) < ns.length := by
          have := hab.1
          rw [List.size_toArray, hlen] at this ⊢
          have : 0 < ns.length := by rw [hns]; simp
          omega
        have em : ns.getD (argBest (fun i j => decide (ns.getD i 0 < ns.getD j 0)) (its.toArray.size - 1)) 0 = minD ns := by
          have g0 : 0 < ns.length := by rw [hns]; simp
          have mem : ns.getD (argBest (fun i j => decide (ns.getD i 0 < ns.getD j 0)) (its.toArray.size - 1)) 0 ∈ ns := by
            rw [List.getD_eq_getElem?_getD, List.getElem?_eq_getElem hle]; exact List.getElem_mem _
          obtain ⟨j, hj, ej⟩ := List.getElem_of_mem (minD_mem g0)
          have h2 := hab.2 j (by rw [List.size_toArray, hlen]; omega)
          rw [show ns.getD j 0 = minD ns by rw [List.getD_eq_getElem?_getD, List.getElem?_eq_getElem hj, ej]; rfl] at h2
          exact Int.le_antisymm h2 (minD_le _ mem)
        rw [em]
        refine ⟨.int (minD ns), H, I.kept (t' := tk') fun b o h => keep' b o (hout b o h).1 (hout b o h).2 ((Heap.get?_update_ne _ _ _ _ (hout b o h).2).trans (keep b o (hout b o h).1 (keep0 b o h))), ⟨t, rfl⟩, h1 (by rw [hns]; simp)⟩
/-! ### while -/
def whileD (c : T2T) (tb : T2S) (E : Ends2) : Nat → Ev → Prop
  | 0, _ => False
  | n + 1, env => c env fun b => if b = true then tb { E with nx := whileD c tb E n, ct := whileD c tb E n, bk := E.nx } env else E.nx env
def dWhile (c : T2T) (tb : T2S) : T2S := fun E env => ∃ n, whileD c tb E n env
/-! ### len(set(xs)) of different ints -/
def dLenSet (a : T2E) : T2E := fun env Q => a env fun d => match d with | .list xs => (match allInt xs with | some ns => ns.Nodup ∧ ns.length ≤ 4000 ∧ Q (.int (ns.length : Nat)) | none => False) | _ => False
/-! ### pop and remove of one's own list -/
def dPop (i : Nat) (t : T2E) : T2S := fun E env => match env[i]? with
  | some (some (.own ds)) => t env fun k => (match k with | .int j => (match ixN ds.length j with | some m => -(2 ^ 63) ≤ j ∧ j < 2 ^ 63 ∧ E.nx (env.set i (some (.own (ds.eraseIdx m)))) | none => False) | _ => False)
  | _ => False
def dPopA (i k : Nat) (t : T2E) : T2S := fun E env => match env[i]? with
  | some (some (.own ds)) => t env fun x => (match x with | .int j => (match ixN ds.length j with | some m => (match ds[m]? with | some y => -(2 ^ 63) ≤ j ∧ j < 2 ^ 63 ∧ E.nx ((env.set i (some (.own (ds.eraseIdx m)))).set k (some (.dat y))) | none => False) | none => False) | _ => False)
  | _ => False
/-- left.remove(x), of ints -/
def dRem (i : Nat) (t : T2E) : T2S := fun E env => match env[i]? with
  | some (some (.own ds)) => t env fun x => (match x with | .int k => (match allInt ds with | some ns => k ∈ ns ∧ E.nx (env.set i (some (.own ((ns.erase k).map PyData.int)))) | none => False) | _ => False)
  | _ => False
section
variable {K : Fg} {te : TE} {t2 : T2E}
end
/-! ### one's own list, read where it is -/
def ownD (i : Nat) (env : Ev) : Option (List D) := match env[i]? with | some (some (.own ds)) => some ds | some (some (.dat (.list ds))) => some ds | some (some (.dat (.tuple ds))) => some ds | _ => none
def dOLen (i : Nat) : T2E := fun env Q => match ownD i env with | some ds => Q (.int (ds.length : Nat)) | none => False
def dOTru (i : Nat) : T2T := fun env Q => match ownD i env with | some ds => Q (!ds.isEmpty) | none => False
def dOIx (i : Nat) (t : T2E) : T2E := fun env Q => match ownD i env with | some ds => t env fun x => (match x with | .int k => (match atI ds k with | some d => Q d | none => False) | _ => False) | none => False
section
variable {K : Fg} {ta : TE} {t2 : T2E}
theorem own_cell {p : P0} {env : Ev} {σ : L2.St} {I H : Hp} {i : Nat} {ds : List D} (r : RelL K p env σ I H) (e : ownD i env = some ds) :
    ∃ (a : Addr) (vs : List V), σ[i]? = some (some (.ref a)) ∧ Rps K I vs ds ∧ ((∀ I' H', Stp p I H I' H' → SqL K H' a vs) ∨ (∀ I' H', Stp p I H I' H' → SqT K H' a vs)) := by
  unfold ownD at e
  split at e
  · rename_i ds' e2
    cases e
    obtain ⟨v, hv, a, vs, rfl, f2, _, e4, e5⟩ := r.r.sl i _ e2
    exact ⟨a, vs, hv, e5, .inl fun I' H' s => SqL.of (s.gr.hh a _ e4 fun q => (r.r.st a q).1 f2)⟩
  · rename_i ds' e2
    cases e
    obtain ⟨v, hv, h⟩ := r.r.sl i _ e2
    have h : Rp K I v (.list ds) := h
    cases h with
    | lst h1 h2 => exact ⟨_, _, hv, h2, .inl fun I' H' s => SqL.of (s.ih _ _ (s.ii _ _ h1))⟩
  · rename_i ds' e2
    cases e
    obtain ⟨v, hv, h⟩ := r.r.sl i _ e2
    have h : Rp K I v (.tuple ds) := h
    cases h with
    | tup h1 h2 => exact ⟨_, _, hv, h2, .inr fun I' H' s => Same.sqt s.ih (Same.sqt s.ii h1)⟩
  · cases e
theorem se_oIx (i : Nat) (ha : SE K ta t2) : SE K (tOp (rIx K) (tVar i) ta) (dOIx i t2) := by
  intro p env σ I H Q2 Q r q k
  unfold dOIx at q
  split at q
  · rename_i ds e
    obtain ⟨a, vs, h1, h2, h3⟩ := own_cell r e
    refine ⟨_, h1, ha p env σ I H _ _ r q fun d v I1 H1 q1 s1 r1 => ?_⟩
    split at q1
    · rename_i j
      split at q1
      · rename_i d' ed
        cases r1
        obtain ⟨u, hu, ru⟩ := atI_rp (Rps.mono s1.ii _ _ h2) ed
        rcases h3 with g | g
        · exact .inl ⟨a, vs, j, u, rfl, rfl, g _ _ s1, hu, k _ _ I1 H1 q1 s1 ru⟩
        · exact .inr (.inl ⟨a, vs, j, u, rfl, rfl, g _ _ s1, hu, k _ _ I1 H1 q1 s1 ru⟩)
      · exact q1.elim
    · exact q1.elim
  · exact q.elim
structure ItRs (K : Fg) (p : P0) (I H : Hp) (J : It) (ds : List D) : Prop where
  go : ∀ i I' H', Stp p I H I' H' → i < ds.length → J.go i H'
  stop : ∀ i I' H', Stp p I H I' H' → i = ds.length → J.stop i H'
  yld : ∀ i x I' H' H'', Stp p I H I' H' → i < ds.length → J.yld i H' x H'' → ∃ I'' d, Gr none I' H' I'' H'' ∧ ds[i]? = some d ∧ Rp K I'' x d
def SIs (K : Fg) (wi : TI) (t : T2I) : Prop := ∀ (p : P0) (env : Ev) (σ : L2.St) (I H : Hp) (Q2 : List D → Prop) (R : It → Hp → Prop), RelL K p env σ I H → t env Q2 →
  (∀ ds J I' H', Q2 ds → Stp p I H I' H' → ItRs K p I' H' J ds → R J H') → wi σ H R
def diOwn (i : Nat) : T2I := fun env Q => match ownD i env with | some ds => Q ds | none => False
end
section
variable {P : Program} {w : World} {K : Fg} {mg : Str → Option Value} {base : Heap}
/-- a function that calls itself, so many deep -/
def frec (NL m : Nat) (tb : RCD → T2S) : Nat → RCD
  | 0 => fun _ _ => False
  | n + 1 => bodyD NL m (tb (frec NL m tb n))
end
section
variable {K : Fg}
def dCBK (r : List D → List D → (D → Prop) → Prop) (a k : T2A) : T2E := fun env Q => a env fun ds => k env fun es => r ds es Q
def SimCK (K : Fg) (r : List V → List V → Hp → VK → Prop) (r2 : List D → List D → (D → Prop) → Prop) : Prop := ∀ (I H : Hp) (vs ws : List V) (ds es : List D) (Q2 : D → Prop) (Q : VK), Same I H → Rps K I vs ds → Rps K I ws es → r2 ds es Q2 →
  (∀ d v I' H', Q2 d → Gr none I H I' H' → Rp K I' v d → Q v H') → r vs ws H Q
theorem se_cbk {r : List V → List V → Hp → VK → Prop} {r2 : List D → List D → (D → Prop) → Prop} {n m : Nat} {t tk : TA} {u uk : T2A} (h : SimCK K r r2) (ha : SA K n t u) (hk : SA K m tk uk) : SE K (tCKw r t tk) (dCBK r2 u uk) := by
  intro p env σ I H Q2 Q rl q k
  refine ha p env σ I H _ _ rl q fun ds vs I1 H1 q1 hl s1 h1 => ?_
  refine hk p env σ I1 H1 _ _ (rl.stp s1) q1 fun es ws I2 H2 q2 hl2 s2 h2 => ?_
  exact h I2 H2 vs ws ds es Q2 Q s2.ih (Rps.mono s2.ii ds vs h1) h2 q2 fun d' v' I' H' q' g r' => k d' v' I' H' q' ((s1.trans s2).trans (.of g)) r'
def dmaxDf : List D → List D → (D → Prop) → Prop := fun ds es Q => match ds, es with | [.list xs], [z] => (match allInt xs with | some ns => (ns = [] → Q z) ∧ (ns ≠ [] → Q (.int (maxD ns))) | none => False) | _, _ => False
theorem sck_max : SimCK K (rmaxDf K) dmaxDf := by
  intro I H vs ws ds es Q2 Q e h hw q k
  unfold dmaxDf at q
  split at q
  · split at q
    · rename_i xs z ns e2
      obtain ⟨v, rfl, h1⟩ := h.one
      obtain ⟨u, rfl, h2⟩ := hw.one
      cases h1 with
      | lst h3 h4 =>
        rename_i a ws
        have y := allInt_of e2
        subst y
        have y := h4.ints
        subst y
        exact ⟨a, ns, u, rfl, rfl, SqL.of (e _ _ h3), fun n => k _ _ I H (q.1 n) (.refl e) h2, fun n => k _ _ I H (q.2 n) (.refl e) (.int _)⟩
    · exact q.elim
  · exact q.elim
def dminDf : List D → List D → (D → Prop) → Prop := fun ds es Q => match ds, es with | [.list xs], [z] => (match allInt xs with | some ns => (ns = [] → Q z) ∧ (ns ≠ [] → Q (.int (minD ns))) | none => False) | _, _ => False
theorem sck_min : SimCK K (rminDf K) dminDf := by
  intro I H vs ws ds es Q2 Q e h hw q k
  unfold dminDf at q
  split at q
  · split at q
    · rename_i xs z ns e2
      obtain ⟨v, rfl, h1⟩ := h.one
      obtain ⟨u, rfl, h2⟩ := hw.one
      cases h1 with
      | lst h3 h4 =>
        rename_i a ws
        have y := allInt_of e2
        subst y
        have y := h4.ints
        subst y
        exact ⟨a, ns, u, rfl, rfl, SqL.of (e _ _ h3), fun n => k _ _ I H (q.1 n) (.refl e) h2, fun n => k _ _ I H (q.2 n) (.refl e) (.int _)⟩
    · exact q.elim
  · exact q.elim
end
end Z2
namespace Z2
open PySem PySem.Spec PyProof.Rows L2
/-! ### base lemmas of plain data -/
/-- a loop whose body is not looked into -/
theorem for_gen {ti : T2I} {g : T2G} {tb : T2S} {E : Ends2} {env : Ev} (h : ∀ B, B = tb → dFor ti g B E env) : dFor ti g tb E env := h _ rfl
theorem ite_t {c : Prop} [Decidable c] {a b : Prop} (h : c) (q : a) : ite c a b := by rw [if_pos h]; exact q
theorem ite_f {c : Prop} [Decidable c] {a b : Prop} (h : ¬ c) (q : b) : ite c a b := by rw [if_neg h]; exact q
def inI (v : D) (l g : Int) : Bool := match v with | .int i => decide (l ≤ i) && decide (i ≤ g) | _ => false
def whI : D → Bool | .int _ => true | _ => false
theorem inI_int {v : D} {l g : Int} (h : inI v l g = true) : ∃ i : Int, v = .int i ∧ l ≤ i ∧ i ≤ g := by
  unfold inI at h
  split at h
  · rw [Bool.and_eq_true] at h
    exact ⟨_, rfl, of_decide_eq_true h.1, of_decide_eq_true h.2⟩
  · cases h
theorem inI_good {i l g : Int} (h0 : l ≤ i) (h1 : i ≤ g) : inI (.int i) l g = true := by
  simp only [inI, decide_eq_true h0, decide_eq_true h1, Bool.and_true]
theorem eqv_intD (a b : Int) : PyData.eqv (.int a) (.int b) = decide (a = b) := by
  unfold PyData.eqv
  by_cases h : a = b
  · subst h; simp
  · rw [decide_eq_false h]; exact beq_eq_false_iff_ne.mpr h
theorem eqv_str (a b : Str) : PyData.eqv (.str a) (.str b) = decide (a = b) := by
  show (a == b) = decide (a = b)
  by_cases c : a = b
  · rw [decide_eq_true c, c]
    exact beq_self_eq_true b
  · rw [decide_eq_false c]
    exact beq_eq_false_iff_ne.mpr c
theorem eqv_boolD (a b : Bool) : PyData.eqv (.bool a) (.bool b) = decide (a = b) := by cases a <;> cases b <;> rfl
theorem getD_some {α : Type} {xs : List α} {k : Nat} {x y : α} (h : xs[k]? = some x) : xs.getD k y = x := by
  rw [List.getD_eq_getElem?_getD, h]
  rfl
/-- data without dicts, so many deep -/
structure okN (n : Nat) (d : D) : Prop where
  lay : PyData.canLay0 d = true
  dep : d.depth ≤ n
theorem okN.mono {n m : Nat} {d : D} (h : okN n d) (k : n ≤ m) : okN m d := ⟨h.lay, Nat.le_trans h.dep k⟩
theorem okN.int (n : Nat) (i : Int) : okN n (.int i) := ⟨rfl, Nat.zero_le _⟩
theorem okN.bool (n : Nat) (i : Bool) : okN n (.bool i) := ⟨rfl, Nat.zero_le _⟩
theorem okN.none (n : Nat) : okN n .none := ⟨rfl, Nat.zero_le _⟩
theorem okN.str {x : Str} (n : Nat) (h : PyData.canLay0 (.str x) = true) : okN n (.str x) := ⟨h, Nat.zero_le _⟩
theorem depthAll_le : ∀ {ds : List D} {n : Nat}, (∀ d ∈ ds, d.depth ≤ n) → PyData.depthAll ds ≤ n
  | [], _, _ => Nat.zero_le _
  | x :: xs, n, h => by
    unfold PyData.depthAll
    have h1 := h x List.mem_cons_self
    have h2 := depthAll_le (ds := xs) (n := n) fun d hd => h d (List.mem_cons_of_mem _ hd)
    first | exact Nat.max_le.mpr ⟨h1, h2⟩ | omega
theorem okN.tup {n : Nat} {ds : List D} (h : ∀ d ∈ ds, okN n d) : okN (n + 1) (.tuple ds) := by
  refine ⟨?_, ?_⟩
  · unfold PyData.canLay0
    exact canLayAll_of fun d hd => (h d hd).lay
  · unfold PyData.depth
    have := depthAll_le fun d hd => (h d hd).dep
    omega
theorem okN.list {n : Nat} {ds : List D} (h : ∀ d ∈ ds, okN n d) : okN (n + 1) (.list ds) := by
  refine ⟨?_, ?_⟩
  · unfold PyData.canLay0
    exact canLayAll_of fun d hd => (h d hd).lay
  · unfold PyData.depth
    have := depthAll_le fun d hd => (h d hd).dep
    omega
theorem okN.shaped {n : Nat} {d : D} (h : okN n d) (k : n ≤ 64 := by decide) : SeqAt.shaped d = true := by
  unfold SeqAt.shaped
  rw [h.lay, decide_eq_true (Nat.le_trans h.dep k)]
  rfl
mutual
theorem eqv_same : ∀ {d : D}, PyData.canLay0 d = true → PyData.eqv d d = true
  | .none, _ => rfl
  | .bool b, _ => by rw [eqv_boolD]; exact decide_eq_true rfl
  | .int b, _ => by rw [eqv_intD]; exact decide_eq_true rfl
  | .str b, _ => by rw [eqv_str]; exact decide_eq_true rfl
  | .list ds, h => by
    unfold PyData.canLay0 at h
    unfold PyData.eqv
    exact eqvAll_same h
  | .tuple ds, h => by
    unfold PyData.canLay0 at h
    unfold PyData.eqv
    exact eqvAll_same h
  | .dict _, h => by simp [PyData.canLay0] at h
theorem eqvAll_same : ∀ {ds : List D}, PyData.canLayAll0 ds = true → PyData.eqvAll ds ds = true
  | [], _ => rfl
  | x :: xs, h => by
    unfold PyData.canLayAll0 at h
    rw [Bool.and_eq_true] at h
    unfold PyData.eqvAll
    rw [eqv_same h.1, eqvAll_same h.2]
    rfl
end
theorem lt_of_get {α : Type} {xs : List α} {i : Nat} {x : α} (h : xs[i]? = some x) : i < xs.length := by
  apply Classical.byContradiction
  intro hn
  rw [List.getElem?_eq_none (by omega)] at h
  cases h
theorem dRange_get {n i : Nat} {d : D} (h : (dRange 0 n)[i]? = some d) : i < n ∧ d = .int (i : Nat) := by
  have hi : i < n := by have := lt_of_get h; rwa [dRange_length] at this
  unfold dRange at h
  rw [List.getElem?_map, List.getElem?_range hi, Option.map_some, Int.zero_add] at h
  exact ⟨hi, (Option.some.inj h).symm⟩
theorem dEnum_get {ds : List D} {i : Nat} {d : D} (h : (dEnum ds)[i]? = some d) : ∃ x, ds[i]? = some x ∧ d = .tuple [.int (i : Nat), x] := by
  unfold dEnum at h
  rw [List.getElem?_map] at h
  have hi : i < ds.length := by
    apply Classical.byContradiction
    intro hn
    rw [List.getElem?_eq_none (by rw [List.length_range]; omega)] at h
    cases h
  rw [List.getElem?_range hi] at h
  refine ⟨ds[i], List.getElem?_eq_getElem hi, ?_⟩
  have := (Option.some.inj h).symm
  rw [this]
  dsimp only
  rw [List.getD_eq_getElem?_getD, List.getElem?_eq_getElem hi]
  rfl
theorem dEnum_length (ds : List D) : (dEnum ds).length = ds.length := by unfold dEnum; rw [List.length_map, List.length_range]
theorem next_mk {n : Int} {Q : D → Prop} (h0 : 0 < n) (h1 : n < 1073741824) (q : ∀ d : Int, 0 ≤ d → d < n → Q (.int d)) : f_next [.int n] Q := ⟨n, rfl, h0, h1, q⟩
theorem atI_0 {α : Type} {x : α} {xs : List α} : atI (x :: xs) 0 = some x := atI_nat (j := 0) rfl
/-- a loop over a range, or over a list: what holds before each turn -/
theorem for_rng {g : T2G} {tb : T2S} {E : Ends2} {n : Nat} (Inv : Nat → Ev → Prop)
    (hs : ∀ i env, i < n → Inv i env → ∀ N : Ev → Prop, (∀ env', Inv (i + 1) env' → N env') → g (.int (i : Nat)) env fun env1 => tb { E with nx := N, ct := N, bk := E.nx } env1)
    (hd : ∀ env, Inv n env → E.nx env) {env : Ev} (h0 : Inv 0 env) : forD g tb E (dRange 0 n) env :=
  for_inv Inv (fun i d env h hi N hN => by obtain ⟨hlt, rfl⟩ := dRange_get h; exact hs i env hlt hi N hN) (fun env h => hd env (by rwa [dRange_length] at h)) h0
end Z2
namespace Z2
open PySem PySem.Spec PyProof.Rows L2
/-! `in` and `not in` of a list of data of any depth, also of an own list read in place -/
def dInD (neg : Bool) : R2D := fun x y Q => match y with | .list ds => SeqAt.shaped x = true ∧ SeqAt.shaped (.list ds) = true ∧ Q (.bool (if neg then !(ds.any fun d => PyData.eqv d x) else ds.any fun d => PyData.eqv d x)) | _ => False
section
variable {K : Fg} {ta : TE} {t2 : T2E}
/-- x in own list i -/
def dOInD (neg : Bool) (i : Nat) (t : T2E) : T2E := fun env Q => match env[i]? with
  | some (some (.own ds)) => t env fun x => SeqAt.shaped x = true ∧ SeqAt.shaped (.list ds) = true ∧ Q (.bool (if neg then !(ds.any fun d => PyData.eqv d x) else ds.any fun d => PyData.eqv d x))
  | some (some (.dat (.list ds))) => t env fun x => SeqAt.shaped x = true ∧ SeqAt.shaped (.list ds) = true ∧ Q (.bool (if neg then !(ds.any fun d => PyData.eqv d x) else ds.any fun d => PyData.eqv d x))
  | _ => False
end
end Z2
namespace Z2
open PySem PySem.Spec PyProof.Rows L2
/-! ### dicts as data: keys are tuples of ints, values are plain -/
theorem ent_any {P : Program} {w w' : World} (ns : List Int) (b : Addr) (u : Value) : entryOfKey (tupleKind (mixKind P w)) (kI ns, b, u) = entryOfKey (tupleKind (mixKind P w')) (kI ns, b, u) := by
  unfold entryOfKey
  have e : ((kI ns).map (mixKind P w).hash) = ((kI ns).map (mixKind P w').hash) := by
    unfold kI
    rw [List.map_map, List.map_map]
    rfl
  show DictEntry.mk (tupleKeyHash (mixKind P w) (kI ns)) _ _ = DictEntry.mk (tupleKeyHash (mixKind P w') (kI ns)) _ _
  unfold tupleKeyHash
  rw [e]
theorem kI_kV (ns : List Int) : (kI ns).map kV = ns.map V.int := by
  unfold kI
  rw [List.map_map]
  rfl
theorem kI_inj : ∀ {ns ms : List Int}, kI ns = kI ms → ns = ms
  | [], [], _ => rfl
  | [], _ :: _, h => nomatch h
  | _ :: _, [], h => nomatch h
  | n :: ns, m :: ms, h => by
    have h : (Sum.inl n :: kI ns : List Key) = Sum.inl m :: kI ms := h
    injection h with h1 h2
    injection h1 with h1
    rw [h1, kI_inj h2]
def IKeys (K : Fg) (H : Hp) (xs : List (List Key × Addr × Value)) : Prop := ∀ x ∈ xs, ∃ ns, x.1 = kI ns ∧ SqT K H x.2.1 (ns.map V.int)
theorem dct_any {X : Cx} {pins : List (Addr × Obj)} {σ : L2.St} {H : Hp} {s : Shared} {a : Addr} {w : World} {xs : List (List Key × Addr × Value)} (I : L2.Inv X pins σ H s) (e : H a = some (dctO w a xs)) (hk : IKeys X.K H xs) : (a == sysModules) = false ∧ xs.length ≤ sizeLine ∧ s.heap.DictOfH (tupleKind (mixKind X.prog X.w)) a xs := by
  obtain ⟨⟨z1, z2, o, es, ep, h1, h2, h3, h4, h5⟩, _, _⟩ := (show ObjOk X.prog X.w H s.heap a (dctO w a xs) from I.hok a _ e)
  refine ⟨z1, z2, o, es, ep, h1, h2, h3, (h4 X.prog).trans (List.map_congr_left fun x hx => ?_), fun x hx => ?_, h5⟩
  · obtain ⟨ns, e1, _⟩ := hk x hx
    obtain ⟨k, b, u⟩ := x
    cases e1
    exact ent_any ns b u
  · obtain ⟨ns, e1, e2⟩ := hk x hx
    rw [e1]
    exact key_sq I (by rw [kI_kV]; exact e2)
def rFG (K : Fg) : R2 := fun x y H Q => ∃ a w xs b ns p v, x = .ref a ∧ y = .ref b ∧ H a = some (dctO w a xs) ∧ IKeys K H xs ∧ SqT K H b (ns.map V.int) ∧ atKey xs (kI ns) = some p ∧ RelV v p.2 ∧ Q v H
def rFIn (K : Fg) (neg : Bool) : R2 := fun x y H Q => ∃ a w xs b ns, x = .ref b ∧ y = .ref a ∧ H a = some (dctO w a xs) ∧ IKeys K H xs ∧ SqT K H b (ns.map V.int) ∧ Q (.bl (if neg then !(atKey xs (kI ns)).isSome else (atKey xs (kI ns)).isSome)) H
theorem pe_fg {X : Cx} {o i : Expr} {pos : Pos} {td ty : TE} (hu : X.A.units + 1 < cLine) (ho : PE X o td) (hi : PE X i ty) (hs : NoSl i) : PE X (.Subscript o i pos) (tOp (rFG X.K) td ty) := by
  refine ⟨fun pins s σ H Q I h => ?_⟩
  refine subD_of PySem.F.slot_dict_getitem.lookup hs (thn (ho.run pins s σ H _ I h) fun u s1 ⟨x, H1, I1, rx, q1⟩ => thn (hi.run pins s1 σ H1 _ I1 q1) fun iv s2 ⟨y, H2, I2, ry, a, w, xs, b, ns, p, v, ex, ey, e, hk, eb, hp, rv, q2⟩ => ?_)
  subst ex ey
  obtain rfl : u = Value.ref a := rx
  obtain rfl : iv = Value.ref b := ry
  obtain ⟨z1, z2, dd⟩ := dct_any I2 e hk
  refine ⟨dd.typeIs, ?_⟩
  exact wpAny_getItem_heap (tupleKind_room_in1 hu) (key_sq I2 (by rw [kI_kV]; exact eb)) dd hp ⟨v, H2, I2.tok _, rv, q2⟩
theorem op_fIn {X : Cx} (hu : X.A.units + 1 < cLine) : OpR X (compareOp .In) (rFIn X.K false) := by
  intro pins s σ H x y v u Q I rx ry h
  obtain ⟨a, w, xs, b, ns, rfl, rfl, e, hk, eb, q⟩ := h
  obtain rfl : v = Value.ref b := rx
  obtain rfl : u = Value.ref a := ry
  obtain ⟨z1, z2, dd⟩ := dct_any I e hk
  exact wpAny_in_heap (tupleKind_room_in1 hu) (key_sq I (by rw [kI_kV]; exact eb)) z1 dd ⟨.bl _, H, I.tok _, rfl, q⟩
/-! over data -/
def keyIs : List D → Option (List Int)
  | [] => some []
  | .int i :: ds => (keyIs ds).map (i :: ·)
  | _ => none
def keyI : D → Option (List Int) | .tuple ds => keyIs ds | _ => none
def getF (kvs : List (D × D)) (k : List Int) : Option D := (kvs.find? fun p => decide (keyI p.1 = some k)).map (·.2)
def dGetF : R2D := fun x y Q => match x with | .dict kvs => (match keyI y with | some k => (match getF kvs k with | some d => Q d | none => False) | none => False) | _ => False
def dInF (neg : Bool) : R2D := fun x y Q => match y with | .dict kvs => (match keyI x with | some k => Q (.bool (if neg then !(getF kvs k).isSome else (getF kvs k).isSome)) | none => False) | _ => False
def dInO (neg : Bool) (i : Nat) (t : T2E) : T2E := fun env Q => match env[i]? with
  | some (some (.dct _ ks)) => t env fun x => (match keyI x with | some k => (∀ y ∈ ks, ∃ ms, y.1 = kI ms) ∧ Q (.bool (if neg then !(valD ks (kI k)).isSome else (valD ks (kI k)).isSome)) | none => False)
  | some (some (.dat (.dict kvs))) => t env fun x => (match keyI x with | some k => Q (.bool (if neg then !(getF kvs k).isSome else (getF kvs k).isSome)) | none => False)
  | _ => False
theorem keyIs_of : ∀ {ds : List D} {k : List Int}, keyIs ds = some k → ds = k.map PyData.int
  | [], k, e => by cases e; rfl
  | .int i :: ds, k, e => by
    unfold keyIs at e
    obtain ⟨k', e1, rfl⟩ := Option.map_eq_some_iff.mp e
    rw [keyIs_of e1]
    rfl
  | .none :: _, _, e => nomatch e
  | .bool _ :: _, _, e => nomatch e
  | .str _ :: _, _, e => nomatch e
  | .list _ :: _, _, e => nomatch e
  | .tuple _ :: _, _, e => nomatch e
  | .dict _ :: _, _, e => nomatch e
theorem keyIs_ints : ∀ ns : List Int, keyIs (ns.map PyData.int) = some ns
  | [] => rfl
  | n :: ns => by
    show (keyIs (ns.map PyData.int)).map (n :: ·) = _
    rw [keyIs_ints ns]
    rfl
theorem keyI_ints (ns : List Int) : keyI (.tuple (ns.map PyData.int)) = some ns := keyIs_ints ns
section
variable {K : Fg} {I : Hp}
theorem keyI_rp {d : D} {v : V} {k : List Int} (h : Rp K I v d) (e : keyI d = some k) : ∃ b, v = .ref b ∧ SqT K I b (k.map V.int) := by
  unfold keyI at e
  split at e
  · cases h with
    | tup h1 h2 =>
      rw [keyIs_of e] at h2
      rw [h2.ints] at h1
      exact ⟨_, rfl, h1⟩
  · cases e
theorem KF.keys : ∀ {xs : List (List Key × Addr × Value)} {kvs : List (D × D)}, KF K I xs kvs → IKeys K I xs
  | _, _, .nil, x, hx => absurd hx List.not_mem_nil
  | _, _, .cons h1 h2 h3 t, x, hx => by
    rcases List.mem_cons.mp hx with rfl | hx
    · exact ⟨_, rfl, h1⟩
    · exact KF.keys t x hx
theorem KF.val : ∀ {xs : List (List Key × Addr × Value)} {kvs : List (D × D)}, KF K I xs kvs → ∀ k, (getF kvs k = none ∧ atKey xs (kI k) = none) ∨ ∃ d p v, getF kvs k = some d ∧ atKey xs (kI k) = some p ∧ RelV v p.2 ∧ R0 v d
  | _, _, .nil, k => .inl ⟨rfl, rfl⟩
  | _, _, .cons (ns := ns) (b := b) (u := u) (v := v) (d := d) (xs := xs) (kvs := kvs) h1 h2 h3 t, k => by
    by_cases c : ns = k
    · subst c
      refine .inr ⟨d, (b, u), v, ?_, ?_, h2, h3⟩
      · unfold getF; rw [List.find?_cons, keyI_ints, decide_eq_true rfl]; rfl
      · unfold atKey; rw [List.find?_cons, decide_eq_true rfl]; rfl
    · have e1 : getF ((.tuple (ns.map PyData.int), d) :: kvs) k = getF kvs k := by unfold getF; rw [List.find?_cons, keyI_ints, decide_eq_false (fun z => c (Option.some.inj z))]
      have e2 : atKey ((kI ns, b, u) :: xs) (kI k) = atKey xs (kI k) := by unfold atKey; rw [List.find?_cons, decide_eq_false (fun z => c (kI_inj z))]
      rw [e1, e2]
      exact KF.val t k
theorem IKeys.mono {H H' : Hp} {xs : List (List Key × Addr × Value)} (e : Same H H') (h : IKeys K H xs) : IKeys K H' xs := fun x hx => by
  obtain ⟨ns, e1, e2⟩ := h x hx
  exact ⟨ns, e1, Same.sqt e e2⟩
theorem s2_getF : Sim2 K (rFG K) dGetF := by
  intro I H x y dx dy Q2 Q e hx hy q k
  unfold dGetF at q
  split at q
  · split at q
    · rename_i kk ek
      split at q
      · rename_i d ed
        obtain ⟨b, rfl, eb⟩ := keyI_rp hy ek
        cases hx with
        | dic h1 h2 =>
          rename_i a w xs
          rcases h2.val kk with ⟨z, _⟩ | ⟨d', p, v, z1, z2, z3, z4⟩
          · rw [z] at ed; cases ed
          · rw [z1] at ed
            cases ed
            exact ⟨a, w, xs, b, kk, p, v, rfl, rfl, e _ _ h1, h2.keys.mono e, Same.sqt e eb, z2, z3, k _ _ I H q (.refl e) z4.rp⟩
      · exact q.elim
    · exact q.elim
  · exact q.elim
end
section
variable {K : Fg} {ta : TE} {t2 : T2E}
theorem KD.ikeys {I : Hp} : ∀ {xs : List (List Key × Addr × Value)} {ks : List (List Key × D)}, KD K I xs ks → (∀ y ∈ ks, ∃ ms, y.1 = kI ms) → IKeys K I xs
  | _, _, .nil, _, x, hx => absurd hx List.not_mem_nil
  | _, _, .cons (k := k1) (d := d) h1 h2 h3 t, hk, x, hx => by
    rcases List.mem_cons.mp hx with rfl | hx
    · obtain ⟨ms, e⟩ := hk (k1, d) List.mem_cons_self
      have e : k1 = kI ms := e
      refine ⟨ms, e, ?_⟩
      rw [e, kI_kV] at h1
      exact h1
    · exact KD.ikeys t (fun y hy => hk y (List.mem_cons_of_mem _ hy)) x hx
theorem se_inO (neg : Bool) (i : Nat) (ha : SE K ta t2) : SE K (tOp (rFIn K neg) ta (tVar i)) (dInO neg i t2) := by
  intro p env σ I H Q2 Q r q k
  unfold dInO at q
  split at q
  · rename_i w ks e2
    obtain ⟨va, hva, a, xs, rfl, f2, f3, f4, f5⟩ := r.r.sl i _ e2
    refine ha p env σ I H _ _ r q fun d v I1 H1 q1 s1 r1 => ?_
    split at q1
    · rename_i kk ek
      obtain ⟨hk, q1⟩ := q1
      obtain ⟨v', hv', a', xs', e1', g2, g3, g4, g5⟩ := (r.stp s1).r.sl i _ e2
      subst e1'
      rw [hva] at hv'
      cases hv'
      obtain ⟨b, rfl, eb⟩ := keyI_rp r1 ek
      refine ⟨_, hva, a, w, xs', b, kk, rfl, rfl, g4, (g5.ikeys hk).mono s1.ih, Same.sqt s1.ih eb, ?_⟩
      rcases g5.val (kI kk) with ⟨z1, z2⟩ | ⟨d', p', v', z1, z2, _, _⟩
      · rw [z1] at q1
        rw [z2]
        exact k _ _ _ _ q1 s1 (.bl _)
      · rw [z1] at q1
        rw [z2]
        exact k _ _ _ _ q1 s1 (.bl _)
    · exact q1.elim
  · rename_i kvs e2
    obtain ⟨va, hva, h⟩ := r.r.sl i _ e2
    have h : Rp K I va (.dict kvs) := h
    cases h with
    | dic h1 h2 =>
      rename_i a w xs
      refine ha p env σ I H _ _ r q fun d v I1 H1 q1 s1 r1 => ?_
      split at q1
      · rename_i kk ek
        obtain ⟨b, rfl, eb⟩ := keyI_rp r1 ek
        refine ⟨_, hva, a, w, xs, b, kk, rfl, rfl, s1.ih _ _ (s1.ii _ _ h1), h2.keys.mono (s1.ii.trans s1.ih), Same.sqt s1.ih eb, ?_⟩
        rcases h2.val kk with ⟨z1, z2⟩ | ⟨d', p', v', z1, z2, _, _⟩
        · rw [z1] at q1
          rw [z2]
          exact k _ _ _ _ q1 s1 (.bl _)
        · rw [z1] at q1
          rw [z2]
          exact k _ _ _ _ q1 s1 (.bl _)
      · exact q1.elim
  · exact q.elim
end
/-! ### an own dict becomes data -/
def scal : D → Bool | .none => true | .bool _ => true | .int _ => true | _ => false
def ksOf (is : List (List Int × D)) : List (List Key × D) := is.map fun q => (kI q.1, q.2)
def dicD (is : List (List Int × D)) : D := .dict (is.map fun q => (.tuple (q.1.map PyData.int), q.2))
theorem KD.kf {K : Fg} {I : Hp} : ∀ {is : List (List Int × D)} {xs : List (List Key × Addr × Value)}, KD K I xs (ksOf is) → (∀ q ∈ is, scal q.2 = true) → KF K I xs (is.map fun q => (.tuple (q.1.map PyData.int), q.2))
  | [], _, h, _ => by cases h; exact .nil
  | (ns, d) :: is, _, h, hs => by
    cases h with
    | cons h1 h2 h3 t =>
      rw [kI_kV] at h1
      have hd := hs (ns, d) List.mem_cons_self
      refine .cons h1 h2 ?_ (KD.kf t fun q hq => hs q (List.mem_cons_of_mem _ hq))
      cases h3 with
      | non => exact .non
      | bl b => exact .bl b
      | int i => exact .int i
      | str x => exact nomatch hd
      | lst _ _ => exact nomatch hd
      | tup _ _ => exact nomatch hd
      | dic _ _ => exact nomatch hd
theorem RelL.freezeDct {K : Fg} {p : P0} {env : Ev} {σ : L2.St} {I H : Hp} (r : RelL K p env σ I H) {i : Nat} {w : World} {is : List (List Int × D)} (e : env[i]? = some (some (.dct w (ksOf is)))) (hs : ∀ q ∈ is, scal q.2 = true) : ∃ I', Same I I' ∧ RelL K p (env.set i (some (.dat (dicD is)))) σ I' H := by
  obtain ⟨v, hv, a, xs, rfl, e2, e3, e4, e5⟩ := r.r.sl i _ e
  have ii : Same I (upd I a (dctO w a xs)) := fun b o q => by rw [upd_ne (ne_of_none q e3)]; exact q
  have nm : p.m ≠ some a := fun q => (r.r.st _ q).1 e2
  refine ⟨upd I a (dctO w a xs), ii, ⟨⟨r.r.gr.ii.trans ii, fun b o q => ?_, r.r.gr.hh, fun b q n => ?_, r.r.gr.th⟩, fun j x q => ?_, fun j k x y b n q1 q2 q3 q4 => ?_, fun s q => ⟨(r.r.st s q).1, ?_⟩, r.r.bs.trans ii, r.r.sd.setE _ _ (fun _ _ z => nomatch z), r.r.sm.setE _ _ (fun y z u c cc => by cases z; exact cc.elim)⟩, by rw [List.length_set]; exact r.len⟩
  · by_cases hb : b = a
    · subst hb; rw [upd_same] at q; cases q; exact e4
    · rw [upd_ne hb] at q; exact r.r.gr.ih b o q
  · have hb : b ≠ a := fun w => n (by rw [w]; exact e2)
    rw [upd_ne hb]; exact r.r.gr.fr b q n
  · rcases getSet q with ⟨rfl, z, hl⟩ | ⟨n, z⟩
    · cases z
      exact ⟨_, hv, .dic upd_same (KF.mono ii (e5.kf hs))⟩
    · obtain ⟨u, hu, z2⟩ := r.r.sl j x z
      refine ⟨u, hu, ?_⟩
      cases x with
      | dat d => exact Rp.mono ii d u z2
      | rng _ => obtain ⟨a_, e1_, e2_⟩ := z2; exact ⟨a_, e1_, (ii) _ _ e2_⟩
      | obf _ _ _ => obtain ⟨f1, dx, vs, f2, f3, f4⟩ := z2; exact ⟨f1, dx, vs, ii _ _ f2, f3.mono ii, f4⟩
      | obj _ _ _ _ =>
        obtain ⟨f1, ⟨dx, vs2, f2, f3, f4⟩, f6⟩ := z2
        refine ⟨f1, ⟨dx, vs2, ii _ _ f2, f3.mono ii, f4⟩, f6.stays ii fun c hc z1 z2 z3 => ⟨?_, rfl⟩⟩
        rw [upd_ne fun w => by
          obtain ⟨_, _, vs3, hv3⟩ := f6.live c hc
          rw [w, e4] at hv3
          exact nomatch hv3]
        exact z2
      | own es =>
        obtain ⟨b, ws, f1, f2, f3, f4, f5⟩ := z2
        subst f1
        have nb : b ≠ a := fun w => by
          rw [w, e4] at f4
          exact nomatch f4
        exact ⟨b, ws, rfl, f2, by rw [upd_ne nb]; exact f3, f4, Rps.mono ii es ws f5⟩
      | strm => exact z2
      | lnt x =>
        obtain ⟨b, f1, f2, f3, f4⟩ := z2
        exact ⟨b, f1, f2, f3, f4.stays ii fun o q => q⟩
      | dct w' ks =>
        obtain ⟨b, ws, f1, f2, f3, f4, f5⟩ := z2
        subst f1
        have nb : b ≠ a := fun w2 => r.r.sd i j w w' _ ks a n e z hv (by rw [← w2]; exact hu)
        exact ⟨b, ws, rfl, f2, by rw [upd_ne nb]; exact f3, f4, KD.mono ii f5⟩
      | dki ks =>
        obtain ⟨b, ws, f1, f2, f3, f4, f5⟩ := z2
        subst f1
        have nb : b ≠ a := fun w2 => by
          rw [w2, e4] at f4
          exact nomatch f4
        exact ⟨b, ws, rfl, f2, by rw [upd_ne nb]; exact f3, f4, KDI.mono ii f5⟩
      | mat rows =>
        obtain ⟨b, bs, f1, f2, f3, f4, f5, f6⟩ := z2
        subst f1
        have nb : b ≠ a := fun w => by
          rw [w, e4] at f4
          exact nomatch f4
        refine ⟨b, bs, rfl, f2, by rw [upd_ne nb]; exact f3, f4, f5, f6.stays ii fun c hc z1 z2 z3 => ⟨?_, rfl⟩⟩
        have nc : c ≠ a := fun w => by
          obtain ⟨_, _, vs2, hv2⟩ := f6.live c hc
          rw [w, e4] at hv2
          exact nomatch hv2
        rw [upd_ne nc]
        exact z2
  · rcases getSet q1 with ⟨_, z, _⟩ | ⟨n1, z1⟩
    · cases z
    · rcases getSet q2 with ⟨_, z, _⟩ | ⟨n2, z2⟩
      · cases z
      · exact r.r.sep j k x y b n z1 z2 q3 q4
  · obtain ⟨f0, l, c, k, ns, f1, f2, f3⟩ := (r.r.st s q).2
    have ns2 : s ≠ a := fun w => nm (by rw [q, w])
    exact ⟨by rw [upd_ne ns2]; exact f0, l, c, k, ns, f1, ii _ _ f2, f3⟩
def dFrzD (i : Nat) (t : T2S) : T2S := fun E env => match env[i]? with
  | some (some (.dct _ ks)) => ∃ is, ks = ksOf is ∧ (∀ q ∈ is, scal q.2 = true) ∧ t E (env.set i (some (.dat (dicD is))))
  | some (some (.dat _)) => t E env | _ => False
theorem ss_frzD {K : Fg} {ts : TS} {t : T2S} (i : Nat) (h : SS K ts t) : SS K ts (dFrzD i t) := by
  intro p env σ I H D2 E r q e
  unfold dFrzD at q
  split at q
  · rename_i w ks e2
    obtain ⟨is, rfl, hs, q⟩ := q
    obtain ⟨I', ii, r'⟩ := r.freezeDct e2 hs
    exact h p _ σ I' H D2 E r' q e
  · exact h p env σ I H D2 E r q e
  · exact q.elim
end Z2
namespace Z2
open PySem PySem.Spec PyProof.Rows L2
/-! ### x += an int, and an append of what is popped -/
def dAugA (i : Nat) (t : T2E) : T2S := fun E env => match env[i]? with
  | some (some (.dat (.int a))) => t env fun d => (match d with | .int b => E.nx (env.set i (some (.dat (.int (a + b))))) | _ => False)
  | _ => False
/-- xs.append(ys.pop(t)), i for xs, j for ys -/
def dAppPop (i j : Nat) (t : T2E) : T2S := fun E env => match env[i]? with
  | some (some (.own _)) => (match env[j]? with
    | some (some (.own es)) => t env fun x => (match x with
      | .int k => (match ixN es.length k with
        | some m => (match es[m]? with
          | some y => -(2 ^ 63) ≤ k ∧ k < 2 ^ 63 ∧ (match (env.set j (some (.own (es.eraseIdx m))))[i]? with
            | some (some (.own ds)) => ds.length < 1000000 ∧ E.nx ((env.set j (some (.own (es.eraseIdx m)))).set i (some (.own (ds ++ [y]))))
            | _ => False)
          | none => False)
        | none => False)
      | _ => False)
    | _ => False)
  | _ => False
section
variable {K : Fg} {te : TE} {t2 : T2E}
end
end Z2
namespace Z2
open PySem PySem.Spec PyProof.Rows L2
/-! ### list(range(a, b)) -/
def dLstRg2 (a b : T2E) : T2A := fun env Q => a env fun d => b env fun e => match d, e with
  | .int i, .int j => -1000000 ≤ i ∧ i ≤ 1000000 ∧ -1000000 ≤ j ∧ j ≤ 1000000 ∧ Q (dRange i (j - i).toNat)
  | _, _ => False
end Z2
namespace Z2
open PySem PySem.Spec PyProof.Rows L2
/-! ### dicts of one's own whose keys are ints -/
def valI (ks : List (Int × D)) (k : Int) : Option D := (ks.find? fun x => decide (x.1 = k)).map (·.2)
def putI (ks : List (Int × D)) (k : Int) (d : D) : List (Int × D) := if (ks.any fun x => decide (x.1 = k)) = true then ks.map (fun x => if x.1 = k then (x.1, d) else x) else ks ++ [(k, d)]
def noK : Option Sl → Bool | some (.dki _) => false | _ => true
section
variable {K : Fg} {I : Hp}
theorem KDI.length : ∀ {xs : List (Key × V)} {ks : List (Int × D)}, KDI K I xs ks → xs.length = ks.length
  | _, _, .nil => rfl
  | _, _, .cons _ t => by rw [List.length_cons, List.length_cons, KDI.length t]
theorem KDI.val : ∀ {xs : List (Key × V)} {ks : List (Int × D)}, KDI K I xs ks → ∀ k : Int, (valI ks k = none ∧ valV xs (Sum.inl k) = none) ∨ ∃ d v, valI ks k = some d ∧ valV xs (Sum.inl k) = some v ∧ Rp K I v d
  | _, _, .nil, k => .inl ⟨rfl, rfl⟩
  | _, _, .cons (i := i) (v := v) (d := d) (xs := xs) (ks := ks) h t, k => by
    by_cases c : i = k
    · subst c
      refine .inr ⟨d, v, ?_, valV_pos rfl, h⟩
      unfold valI
      rw [List.find?_cons, decide_eq_true rfl]
      rfl
    · have e1 : valI ((i, d) :: ks) k = valI ks k := by unfold valI; rw [List.find?_cons, decide_eq_false c]
      have e2 : valV (((Sum.inl i : Key), v) :: xs) (Sum.inl k) = valV xs (Sum.inl k) := valV_neg fun z => c (Sum.inl.inj z)
      rw [e1, e2]
      exact KDI.val t k
theorem KDI.any : ∀ {xs : List (Key × V)} {ks : List (Int × D)}, KDI K I xs ks → ∀ k : Int, (xs.any fun kv => decide (kv.1 = (Sum.inl k : Key))) = ks.any fun x => decide (x.1 = k)
  | _, _, .nil, k => rfl
  | _, _, .cons (i := i) h t, k => by
    rw [List.any_cons, List.any_cons, KDI.any t k]
    congr 1
    rw [Bool.eq_iff_iff, decide_eq_true_iff, decide_eq_true_iff]
    exact ⟨fun z => Sum.inl.inj z, fun z => by rw [show i = k from z]⟩
theorem KDI.repl {k : Int} {v : V} {d : D} (h1 : Rp K I v d) : ∀ {xs : List (Key × V)} {ks : List (Int × D)}, KDI K I xs ks → KDI K I (xs.map fun kv => if kv.1 = (Sum.inl k : Key) then (kv.1, v) else kv) (ks.map fun x => if x.1 = k then (x.1, d) else x)
  | _, _, .nil => .nil
  | _, _, .cons (i := i) (v := v1) (d := d1) h t => by
    rw [List.map_cons, List.map_cons]
    by_cases c : i = k
    · subst c
      rw [if_pos rfl, if_pos rfl]
      exact .cons h1 (KDI.repl h1 t)
    · rw [if_neg (fun z => c (Sum.inl.inj z)), if_neg c]
      exact .cons h (KDI.repl h1 t)
theorem KDI.snoc {k : Int} {v : V} {d : D} (h1 : Rp K I v d) : ∀ {xs : List (Key × V)} {ks : List (Int × D)}, KDI K I xs ks → KDI K I (xs ++ [(Sum.inl k, v)]) (ks ++ [(k, d)])
  | _, _, .nil => .cons h1 .nil
  | _, _, .cons h t => .cons h (KDI.snoc h1 t)
theorem KDI.put {k : Int} {v : V} {d : D} (h1 : Rp K I v d) {xs : List (Key × V)} {ks : List (Int × D)} (h : KDI K I xs ks) : KDI K I (putK xs (Sum.inl k) v) (putI ks k d) := by
  unfold putK putI
  rw [h.any k]
  split
  · exact KDI.repl h1 h
  · exact KDI.snoc h1 h
end
section
variable {K : Fg} {p : P0} {env : Ev} {σ : L2.St} {I H I' H' : Hp}
theorem RelL.setDki (r : RelL K p env σ I H) {a : Addr} {xs : List (Key × V)} {ks : List (Int × D)} (h0 : p.H0 a = none) (h1 : I a = none) (h2 : H a = some (.dK xs)) (h3 : KDI K I xs ks) (i : Nat) : RelL K p (env.set i (some (.dki ks))) (σ.set i (some (.ref a))) I H := by
  refine ⟨⟨r.r.gr, fun j x e => ?_, fun j k x y b n e1 e2 e3 e4 => ?_, r.r.st, r.r.bs, r.r.sd.set i _ _ (fun w ks z => nomatch z), r.r.sm.set _ _ _ (fun y z u c cc => by cases z; exact cc.elim)⟩, by rw [List.length_set, List.length_set]; exact r.len⟩
  · rcases getSet e with ⟨rfl, q, hl⟩ | ⟨n, q⟩
    · cases q
      exact ⟨_, List.getElem?_set_self (by rw [← r.len]; exact hl), a, xs, rfl, h0, h1, h2, h3⟩
    · obtain ⟨u, hu, q⟩ := r.r.sl j x q
      exact ⟨u, by rw [List.getElem?_set_ne n]; exact hu, q⟩
  · rcases getSet e1 with ⟨_, q, _⟩ | ⟨n1, q1⟩
    · cases q
    · rcases getSet e2 with ⟨_, q, _⟩ | ⟨n2, q2⟩
      · cases q
      · rw [List.getElem?_set_ne n1] at e3
        rw [List.getElem?_set_ne n2] at e4
        exact r.r.sep j k x y b n q1 q2 e3 e4
/-- the own dict at a is changed -/
theorem RelL.mutDki (r : RelL K p env σ I H) {i : Nat} {ks ks' : List (Int × D)} {a : Addr} {xs' : List (Key × V)} (e : env[i]? = some (some (.dki ks))) (hv : σ[i]? = some (some (.ref a))) (h : KDI K I xs' ks') (one : ∀ j ks2, env[j]? = some (some (.dki ks2)) → j = i) :
    RelL K p (env.set i (some (.dki ks'))) σ I (upd H a (.dK xs')) := by
  obtain ⟨v, hv2, a, vs, e1, e2, e3, e4, e5⟩ := r.r.sl i _ e
  rw [hv] at hv2; cases hv2; cases e1
  have nI : ∀ b o, I b = some o → b ≠ a := fun b o q => ne_of_none q e3
  have nm : p.m ≠ some a := fun q => (r.r.st _ q).1 e2
  refine ⟨⟨⟨r.r.gr.ii, fun b o q => by rw [upd_ne (nI b o q)]; exact r.r.gr.ih b o q, fun b o q n => ?_, r.r.gr.fr, fun b q => ?_⟩, fun j x q => ?_, fun j k x y b n q1 q2 q3 q4 => ?_, fun s q => ⟨(r.r.st s q).1, ?_⟩, r.r.bs, r.r.sd.setE i _ (fun w ks z => nomatch z),
      (r.r.sm.setE i (some (.dki ks')) (fun y z u c cc => by cases z; exact cc.elim)).keep fun j x u b q m su eu => upd_ne fun z => by
        rcases getSet q with ⟨rfl, w, _⟩ | ⟨_, q⟩
        · cases w; cases m
        · subst z
          obtain ⟨u', hu, sl⟩ := r.r.sl j x q
          rw [su] at hu
          cases hu
          cases x <;> first | (cases m) | skip
          obtain ⟨b', bs, f1, f2, f3, f4, _, _⟩ := sl
          rw [eu] at f1
          cases f1
          rw [e4] at f4
          exact nomatch f4⟩,
    by rw [List.length_set]; exact r.len⟩
  · rw [upd_ne (ne_of_none q e2)]; exact r.r.gr.hh b o q n
  · by_cases hb : b = a
    · rw [hb, upd_same]; exact fun q => nomatch q
    · rw [upd_ne hb]; exact r.r.gr.th b q
  · rcases getSet q with ⟨rfl, z, hl⟩ | ⟨n, z⟩
    · cases z
      exact ⟨_, hv, a, xs', rfl, e2, e3, upd_same, h⟩
    · obtain ⟨u, hu, z2⟩ := r.r.sl j x z
      refine ⟨u, hu, ?_⟩
      cases x with
      | dat d => exact z2
      | rng _ => exact z2
      | obf _ _ _ => exact z2
      | obj _ _ _ _ =>
        obtain ⟨f1, f2, f6⟩ := z2
        refine ⟨f1, f2, f6.stays (Same.refl _) fun c hc z1 z2 z3 => ⟨z2, upd_ne fun w => ?_⟩⟩
        obtain ⟨_, _, vs2, hv2⟩ := f6.live c hc
        rw [w, e4] at hv2
        exact nomatch hv2
      | own es =>
        obtain ⟨b, ws, f1, f2, f3, f4, f5⟩ := z2
        subst f1
        have nb : b ≠ a := fun w => by
          rw [w, e4] at f4
          exact nomatch f4
        exact ⟨b, ws, rfl, f2, f3, by rw [upd_ne nb]; exact f4, f5⟩
      | strm => exact z2
      | lnt x =>
        obtain ⟨b, f1, f2, f3, f4⟩ := z2
        have nb : b ≠ a := fun w => f2 (by rw [w]; exact e2)
        exact ⟨b, f1, f2, f3, f4.stays (Same.refl _) fun o q => by rw [upd_ne nb]; exact q⟩
      | dct w' ks2 =>
        obtain ⟨b, ws, f1, f2, f3, f4, f5⟩ := z2
        subst f1
        have nb : b ≠ a := fun w => by
          rw [w, e4] at f4
          exact nomatch f4
        exact ⟨b, ws, rfl, f2, f3, by rw [upd_ne nb]; exact f4, f5⟩
      | dki ks2 => exact absurd (one j ks2 z) (Ne.symm n)
      | mat rows =>
        obtain ⟨b, bs, f1, f2, f3, f4, f5, f6⟩ := z2
        subst f1
        have nb : b ≠ a := fun w => by
          rw [w, e4] at f4
          exact nomatch f4
        refine ⟨b, bs, rfl, f2, f3, by rw [upd_ne nb]; exact f4, f5, f6.stays (Same.refl _) fun c hc z1 z2 z3 => ⟨z2, upd_ne fun w => ?_⟩⟩
        obtain ⟨_, _, vs2, hv2⟩ := f6.live c hc
        rw [w, e4] at hv2
        exact nomatch hv2
  · have own : ∀ (l : Nat) (x : List D), (env.set i (some (Sl.dki ks')))[l]? = some (some (Sl.own x)) → env[l]? = some (some (Sl.own x)) := fun l x w => by
      rcases getSet w with ⟨rfl, z, _⟩ | ⟨_, w⟩
      · cases z
      · exact w
    exact r.r.sep j k x y b n (own j x q1) (own k y q2) q3 q4
  · obtain ⟨f0, l, c, k, ns, f1, f2, f3⟩ := (r.r.st s q).2
    have ns2 : s ≠ a := fun w => nm (by rw [q, w])
    exact ⟨f0, l, c, k, ns, by rw [upd_ne ns2]; exact f1, f2, f3⟩
theorem one_noK {i : Nat} (h : (env.set i none).all noK = true) : ∀ j ks2, env[j]? = some (some (.dki ks2)) → j = i := fun j ks2 e => by
  apply Classical.byContradiction
  intro n
  have e2 : (env.set i none)[j]? = some (some (.dki ks2)) := by rw [List.getElem?_set_ne (Ne.symm n)]; exact e
  have := List.all_eq_true.mp h _ (List.mem_of_getElem? e2)
  exact nomatch this
end
def dNewK (i : Nat) : T2S := fun E env => E.nx (env.set i (some (.dki [])))
def dPutK (i : Nat) (tk tv : T2E) : T2S := fun E env => tv env fun v => match env[i]? with
  | some (some (.dki ks)) => ks.length < 1000000 ∧ (env.set i none).all noK = true ∧ tk env fun kd => (match kd with | .int k => E.nx (env.set i (some (.dki (putI ks k v)))) | _ => False)
  | _ => False
def dGetK (i : Nat) (tk : T2E) : T2E := fun env Q => match env[i]? with
  | some (some (.dki ks)) => tk env fun kd => (match kd with | .int k => (match valI ks k with | some d => Q d | none => False) | _ => False)
  | _ => False
def dInK (neg : Bool) (i : Nat) (tk : T2E) : T2E := fun env Q => match env[i]? with
  | some (some (.dki ks)) => tk env fun kd => (match kd with | .int k => Q (.bool (if neg then !(valI ks k).isSome else (valI ks k).isSome)) | _ => False)
  | _ => False
def rKIn (neg : Bool) : R2 := fun x y H Q => ∃ a o, y = .ref a ∧ DGet H a x o ∧ Q (.bl (if neg then !o.isSome else o.isSome)) H
theorem op_kNotIn {X : Cx} (hu : X.A.units + 1 < cLine) : OpR X (compareOp .NotIn) (rKIn true) := by
  intro pins s σ H x y v u Q I rx ry h
  obtain ⟨a, o, rfl, g, q⟩ := h
  obtain rfl : u = Value.ref a := ry
  exact d_notIn hu I g rx fun s' I' => ⟨.bl _, H, I', rfl, q⟩
section
variable {K : Fg}
theorem se_getK {te : TE} {t2 : T2E} (i : Nat) (h : SE K te t2) : SE K (tDGet (tVar i) te) (dGetK i t2) := by
  intro p env σ I H Q2 Q r q k
  unfold dGetK at q
  split at q
  · rename_i ks e2
    obtain ⟨v, hv, a, xs, rfl, f2, f3, f4, f5⟩ := r.r.sl i _ e2
    refine ⟨_, hv, h p env σ I H _ _ r q fun kd kv I1 H1 q1 s1 r1 => ?_⟩
    cases kd <;> first | exact q1.elim | skip
    rename_i j
    cases r1
    dsimp only at q1
    split at q1
    · rename_i d ed
      obtain ⟨v', hv', a', xs', e1', g2, g3, g4, g5⟩ := (r.stp s1).r.sl i _ e2
      subst e1'
      rw [hv] at hv'
      cases hv'
      rcases g5.val j with ⟨z, _⟩ | ⟨d', v', z1, z2, z3⟩
      · rw [z] at ed; cases ed
      · rw [z1] at ed
        cases ed
        have g := DGet.k (k := Sum.inl j) g4
        rw [z2] at g
        exact ⟨a, v', rfl, g, k _ _ _ _ q1 s1 z3⟩
    · exact q1.elim
  · exact q.elim
theorem se_inK {te : TE} {t2 : T2E} (neg : Bool) (i : Nat) (h : SE K te t2) : SE K (tOp (rKIn neg) te (tVar i)) (dInK neg i t2) := by
  intro p env σ I H Q2 Q r q k
  unfold dInK at q
  split at q
  · rename_i ks e2
    refine h p env σ I H _ _ r q fun kd kv I1 H1 q1 s1 r1 => ?_
    cases kd <;> first | exact q1.elim | skip
    rename_i j
    cases r1
    dsimp only at q1
    obtain ⟨v', hv', a', xs', e1', g2, g3, g4, g5⟩ := (r.stp s1).r.sl i _ e2
    subst e1'
    refine ⟨_, hv', a', _, rfl, DGet.k (k := Sum.inl j) g4, ?_⟩
    have e : (valV xs' (Sum.inl j : Key)).isSome = (valI ks j).isSome := by
      rcases g5.val j with ⟨z1, z2⟩ | ⟨d', v', z1, z2, z3⟩
      · rw [z1, z2]
        rfl
      · rw [z1, z2]
        rfl
    rw [e]
    exact k _ _ _ _ q1 s1 (.bl _)
  · exact q.elim
theorem ss_putK {tk tv : TE} {k2 v2 : T2E} (i : Nat) (hk : SE K tk k2) (hv : SE K tv v2) : SS K (sDPut (tVar i) tk tv) (dPutK i k2 v2) := by
  intro p env σ I H D2 E r q e
  refine hv p env σ I H _ _ r q fun d v I1 H1 q1 s1 r1 => ?_
  split at q1
  · rename_i ks e2
    obtain ⟨hl, hone, q1⟩ := q1
    have ra := r.stp s1
    obtain ⟨va, hva, a, xs, rfl, f2, f3, f4, f5⟩ := ra.r.sl i _ e2
    refine ⟨_, hva, hk p env σ I1 H1 _ _ ra q1 fun kd kv I2 H2 q2 s2 r2 => ?_⟩
    cases kd <;> first | exact q2.elim | skip
    rename_i j
    cases r2
    dsimp only at q2
    have rb := ra.stp s2
    obtain ⟨v', hv', a', xs', e1', g2, g3, g4, g5⟩ := rb.r.sl i _ e2
    subst e1'
    rw [hva] at hv'
    cases hv'
    refine ⟨a, _, rfl, DPut.k (k := Sum.inl j) g4 (lt_line (by rw [g5.length]; exact hl)), ?_⟩
    exact e.nx _ _ _ _ q2 (rb.mutDki e2 hva (KDI.put (Rp.mono s2.ii _ _ r1) g5) (one_noK hone))
  · exact q1.elim
end
end Z2
namespace Z2
open PySem PySem.Spec PyProof.Rows L2
/-! ### .get(key, other) and the truth of dicts whose keys are ints -/
def dGet2K (i : Nat) (tk td : T2E) : T2E := fun env Q => match env[i]? with
  | some (some (.dki ks)) => tk env fun kd => td env fun dv => (match kd with | .int k => Q ((valI ks k).getD dv) | _ => False)
  | _ => False
def dTruK (i : Nat) : T2T := fun env Q => match env[i]? with | some (some (.dki ks)) => Q (!ks.isEmpty) | _ => False
section
variable {K : Fg}
end
end Z2
namespace Z2
open PySem PySem.Spec PyProof.Rows L2
/-! ### exceptions of the text's classes, as data: the class's number, what its one field holds -/
def xname : Nat → Str
  | 0 => "BadValue" | 1 => "NotPossible" | 2 => "TooLarge" | _ => "BideError"
def xfld : Nat → Str
  | 0 => "name" | 1 => "why" | _ => "what"
abbrev T2X := Ev → Nat → D → Prop
abbrev RCX := List D → (D → Prop) → (Nat → D → Prop) → Prop
/-- in the air -/
def RX (K : Fg) (mg : Str → Option Value) (I H : Hp) (c : Nat) (d : D) (cls : Value) (dx : Option Addr) : Prop :=
  ∃ (C a : Addr) (v : V), mg (xname c) = some (.ref C) ∧ cls = .ref C ∧ dx = some a ∧ H a = some (.xd [(xfld c, v)]) ∧ Rp K I v d
/-- a def that may raise -/
def spDX (K : Fg) (mg : Str → Option Value) (n : Nat) (f : RCX) : Sp := fun vs H Q E => ∃ (I : Hp) (ds : List D) (Q2 : D → Prop) (X2 : Nat → D → Prop), vs.length = n ∧ Same I H ∧ Rps K I vs ds ∧ f ds Q2 X2 ∧
  (∀ d v I' H', Q2 d → Gr none I H I' H' → Rp K I' v d → Q v H') ∧ ∀ c e cls dx I' H', X2 c e → Gr none I H I' H' → RX K mg I' H' c e cls dx → E cls dx H'
def HX (K : Fg) (mg : Str → Option Value) (p : P0) (W : WX) (x : T2X) : Prop := ∀ env σ I H c e cls dx, RelL K p env σ I H → x env c e → RX K mg I H c e cls dx → W cls dx σ H
/-- readings under a condition on the state that steps keep -/
abbrev Cnd := P0 → L2.St → Hp → Hp → Prop
def SEG (K : Fg) (C : Cnd) (te : TE) (t : T2E) : Prop := ∀ (p : P0) (env : Ev) (σ : L2.St) (I H : Hp) (Q2 : D → Prop) (Q : VK), RelL K p env σ I H → C p σ I H → t env Q2 →
  (∀ d v I' H', Q2 d → Stp p I H I' H' → Rp K I' v d → Q v H') → te σ H Q
def SAG (K : Fg) (C : Cnd) (n : Nat) (ta : TA) (t : T2A) : Prop := ∀ (p : P0) (env : Ev) (σ : L2.St) (I H : Hp) (Q2 : List D → Prop) (Q : List V → Hp → Prop), RelL K p env σ I H → C p σ I H → t env Q2 →
  (∀ ds vs I' H', Q2 ds → vs.length = n → Stp p I H I' H' → Rps K I' vs ds → Q vs H') → ta σ H Q
def STG (K : Fg) (C : Cnd) (tt : TT) (t : T2T) : Prop := ∀ (p : P0) (env : Ev) (σ : L2.St) (I H : Hp) (Q2 : Bool → Prop) (Q : Bool → Hp → Prop), RelL K p env σ I H → C p σ I H → t env Q2 →
  (∀ b I' H', Q2 b → Stp p I H I' H' → Q b H') → tt σ H Q
def SSG (K : Fg) (C : Cnd) (ts : TS) (t : T2S) : Prop := ∀ (p : P0) (env : Ev) (σ : L2.St) (I H : Hp) (D2 : Ends2) (E : Ends), RelL K p env σ I H → C p σ I H → t D2 env → EndsR K p D2 E → ts E σ H
/-- steps keep it -/
def Kept (K : Fg) (C : Cnd) : Prop := ∀ p env σ I H I' H', RelL K p env σ I H → C p σ I H → Stp p I H I' H' → C p σ I' H'
section
variable {K : Fg} {C : Cnd} {te tf : TE} {t2 u2 : T2E} {ta : TA} {a2 : T2A} {ts us : TS} {t u : T2S} {n : Nat}
theorem seg_of (h : SE K te t2) : SEG K C te t2 := fun p env σ I H Q2 Q r _ q k => h p env σ I H Q2 Q r q k
theorem sag_of (h : SA K n ta a2) : SAG K C n ta a2 := fun p env σ I H Q2 Q r _ q k => h p env σ I H Q2 Q r q k
theorem stg_of {tt : TT} {c2 : T2T} (h : ST K tt c2) : STG K C tt c2 := fun p env σ I H Q2 Q r _ q k => h p env σ I H Q2 Q r q k
theorem ssg_of (h : SS K ts t) : SSG K C ts t := fun p env σ I H D2 E r _ q e => h p env σ I H D2 E r q e
theorem sag_nil : SAG K C 0 tNil dNil := sag_of sa_nil
theorem sag_cons (hk : Kept K C) (h : SEG K C te t2) (h2 : SAG K C n ta a2) : SAG K C (n + 1) (tCons te ta) (dCons t2 a2) := by
  intro p env σ I H Q2 Q rl hx q k
  refine h p env σ I H _ _ rl hx q fun d v I1 H1 q1 s1 r1 => ?_
  refine h2 p env σ I1 H1 _ _ (rl.stp s1) (hk _ _ _ _ _ _ _ rl hx s1) q1 fun ds vs I2 H2 q2 hl s2 r2 => ?_
  exact k _ _ _ _ q2 (by rw [List.length_cons, hl]) (s1.trans s2) (.cons (Rp.mono s2.ii _ _ r1) r2)
theorem seg_call {f : RCD} {E : XK} (h : SAG K C n ta a2) : SEG K C (tCall (spD K n f) [] E ta) (dCB f a2) := by
  intro p env σ I H Q2 Q rl hx q k
  refine h p env σ I H _ _ rl hx q fun ds vs I1 H1 q1 hl s1 h1 => ?_
  rw [List.append_nil]
  exact ⟨I1, ds, Q2, hl, s1.ih, h1, q1, fun d v I' H' q' g r' => k d v I' H' q' (s1.trans (.of g)) r'⟩
theorem ssg_seqC (hc : ∀ p σ I H σ' I' H', C p σ I H → C p σ' I' H') (h1 : SSG K C ts t) (h2 : SSG K C us u) : SSG K C (tSeq ts us) (dSeq t u) := fun p env σ I H D2 E r hx q e =>
  h1 p env σ I H _ _ r hx q ⟨fun env' σ' I' H' q' r' => h2 p env' σ' I' H' _ _ r' (hc _ _ _ _ _ _ _ hx) q' e, e.rt, e.bk, e.ct, e.rd, e.re, e.rv⟩
theorem ssg_if {c : TT} {c2 : T2T} (hk : Kept K C) (h : STG K C c c2) (h1 : SSG K C ts t) (h2 : SSG K C us u) : SSG K C (tIfS c ts us) (dIfS c2 t u) := by
  intro p env σ I H D2 E r hx q e
  refine h p env σ I H _ _ r hx q fun b I' H' q' s => ?_
  cases b with
  | true =>
    rw [if_pos rfl] at q' ⊢
    exact h1 p env σ I' H' _ _ (r.stp s) (hk _ _ _ _ _ _ _ r hx s) q' e
  | false =>
    rw [if_neg Bool.false_ne_true] at q' ⊢
    exact h2 p env σ I' H' _ _ (r.stp s) (hk _ _ _ _ _ _ _ r hx s) q' e
theorem ssg_drop (h : SEG K C te t2) : SSG K C (tDrop te) (dDrop t2) := fun p env σ I H D2 E r hx q e =>
  h p env σ I H _ _ r hx q fun d v I' H' q' s rp => e.nx _ _ _ _ q' (r.stp s)
theorem ssg_for {wi : TI} {g : TG} {ti : T2I} {g2 : T2G} {vs : List Nat} (hc : ∀ p σ I H σ' I' H' B, C p σ I H → Same p.B B → C { p with B := B } σ' I' H') (hi : SI K wi ti) (hg : SG K vs g g2) (hb : SSG K C ts t) : SSG K C (tFor wi g ts) (dFor ti g2 t) := by
  intro p env σ I H D2 E r hx q e
  refine hi p env σ I H _ _ r q fun ds J I1 H1 q1 s1 it => ?_
  refine ⟨fun i m σ' H' => m = ds.length - i ∧ i ≤ ds.length ∧ ∃ env' I', RelL K p env' σ' I' H' ∧ Same I1 I' ∧ forD g2 t D2 (ds.drop i) env', ⟨ds.length, by simp, Nat.zero_le _, env, I1, r.stp s1, Same.refl _, q1⟩, ?_⟩
  rintro i m σ' H' ⟨rfl, hi', env', I', r', ii, q'⟩
  by_cases hlt : i < ds.length
  · refine .inr ⟨it.go i I' H' ii r'.same hlt, fun σ2 H2 => ∃ env2 I2, RelL K p env2 σ2 I2 H2 ∧ Same I1 I2 ∧ forD g2 t D2 (ds.drop (i + 1)) env2, fun σ2 H2 z => ⟨ds.length - (i + 1), by omega, rfl, by omega, z⟩, fun x H2 y => ?_⟩
    obtain ⟨I2, d, g1, hd, rd⟩ := it.yld i x I' H' H2 ii r'.same hlt y
    have hdrop : ds.drop i = d :: ds.drop (i + 1) := by
      have hdd : ds[i] = d := Option.some.inj ((List.getElem?_eq_getElem hlt).symm.trans hd)
      rw [List.drop_eq_getElem_cons hlt, hdd]
    rw [hdrop] at q'
    refine hg p env' σ' I2 H2 x d _ _ (r'.grow' g1) rd q' fun env3 σ3 I3 H3 q3 r3 s3 _ => ?_
    have i3 := (ii.trans g1.ii).trans s3.ii
    have back : ∀ {env σ I H}, RelL K { p with B := I1 } env σ I H → RelL K p env σ I H ∧ Same I1 I := fun {env σ I H} z => ⟨z.rebase ((r.stp s1).r.bs.trans z.r.bs), z.r.bs⟩
    exact hb { p with B := I1 } env3 σ3 I3 H3 _ _ (r3.rebase i3) (hc _ _ _ _ _ _ _ _ hx (r.stp s1).r.bs) q3 ⟨fun env4 σ4 I4 H4 q4 r4 => ⟨env4, I4, (back r4).1, (back r4).2, q4⟩, e.rt, fun env4 σ4 I4 H4 q4 r4 => e.nx _ _ _ _ q4 (back r4).1,
      fun env4 σ4 I4 H4 q4 r4 => ⟨env4, I4, (back r4).1, (back r4).2, q4⟩, e.rd, fun env4 σ4 I4 H4 d v q4 r4 rp => e.re _ _ _ _ _ _ q4 (back r4).1 rp, fun env4 σ4 I4 H4 i v q4 r4 hv => e.rv _ _ _ _ _ _ q4 (back r4).1 hv⟩
  · have hi2 : i = ds.length := by omega
    subst hi2
    rw [List.drop_length] at q'
    exact .inl ⟨it.stop _ I' H' ii r'.same rfl, e.nx _ _ _ _ q' r'⟩
end
/-! ### a def that may raise: its body -/
abbrev CX1 (K : Fg) (mg : Str → Option Value) (W : WX) (x : T2X) : Cnd := fun p _ _ _ => HX K mg p W x
def dCBX (f : RCX) (x : T2X) (t : T2A) : T2E := fun env Q => t env fun ds => f ds Q (x env)
/-- raise C(..) -/
def dRaise (x : T2X) (c : Nat) (t : T2E) : T2S := fun _ env => t env fun d => x env c d
section
variable {K : Fg} {mg : Str → Option Value} {W : WX} {x : T2X} {te tf : TE} {t2 u2 : T2E} {ta : TA} {a2 : T2A} {n : Nat}
theorem cx1_kept : Kept K (CX1 K mg W x) := fun p env σ I H I' H' _ h _ => h
theorem cx1_hx {p : P0} {env : Ev} {σ σ' : L2.St} {I H I' H' : Hp} (h : CX1 K mg W x p σ' I' H') {c : Nat} {e : D} {cls : Value} {dx : Option Addr} (r : RelL K p env σ I H) (q : x env c e) (z : RX K mg I H c e cls dx) : W cls dx σ H :=
  h env σ I H c e cls dx r q z
theorem cx1_base : ∀ p σ I H σ' I' H' B, CX1 K mg W x p σ I H → Same p.B B → CX1 K mg W x { p with B := B } σ' I' H' := fun p σ I H σ' I' H' B h e env τ J G c d cls dx r q z =>
  h env τ J G c d cls dx (r.rebase (e.trans r.r.bs)) q z
theorem seg_callX {f : RCX} (h : SAG K (CX1 K mg W x) n ta a2) : SEG K (CX1 K mg W x) (tCallS (spDX K mg n f) (WE W) ta) (dCBX f x a2) := by
  intro p env σ I H Q2 Q rl hx q k
  refine h p env σ I H _ _ rl hx q fun ds vs I1 H1 q1 hl s1 h1 => ?_
  exact ⟨I1, ds, Q2, x env, hl, s1.ih, h1, q1, fun d v I' H' q' g r' => k d v I' H' q' (s1.trans (.of g)) r',
    fun c e cls dx I' H' q' g r' => cx1_hx hx (rl.stp (s1.trans (.of g))) q' r'⟩
end
/-! ### C's own __init__: one field -/
def spI (K : Fg) (f : Str) : Sp := fun vs H Q _ => ∃ (a C : Addr) (v : V), vs = [.ref a, v] ∧ OexC K C ∧ PySem.W.findIn K (.ref C) f = some none ∧ H a = some (exo a C none) ∧
  ∀ dx, H dx = none → dx ≠ a → Q .non (upd (upd H dx (exd dx [(f, v)])) a (exo a C (some dx)))
theorem upd_del {H : Hp} {a d : Addr} {o o' u u' : HO} (hn : H a = none) (hne : d ≠ a) : upd (del (upd (upd (upd H a o) d o') a u) a) d u' = upd H d u' := by
  funext b
  by_cases hd : b = d
  · subst hd; rw [upd_same, upd_same]
  · rw [upd_ne hd, upd_ne hd]
    by_cases ha : b = a
    · subst ha; rw [del_same, hn]
    · rw [del_ne ha, upd_ne ha, upd_ne hd, upd_ne ha]
/-- what the text says of the class number c -/
structure XC (P : Program) (w : World) (K : Fg) (mg : Str → Option Value) (base : Heap) (c : Nat) (C : Addr) : Prop where
  gC : mg (xname c) = some (.ref C)
  oc : OexC K C
  no : PySem.W.findIn K (.ref C) (xfld c) = some none
  xf : XfC K C
  ini : ∃ (fI : Addr) (fd : FuncData), PySem.W.findIn K (.ref C) "__init__" = some (some (.ref fI)) ∧ PySem.W.typeIn K (.ref fI) = some (.type "function") ∧ FnOk P w K mg base CX0 1 fI fd ["self", xfld c] (spI K (xfld c)) ∧ Binds K fd ["self", xfld c] []
theorem ini_ok {P : Program} {w : World} {K : Fg} {mg : Str → Option Value} {base : Heap} {qual : Str} {st : Stmt} {fI : Addr} {fd : FuncData} {f : Str} {p1 p2 p3 pos : Pos} (F : Fun K "__init__" qual st fI fd) (S : FnScope ["self", f] ["self", f] (defScope st))
    (hb : defBody st = [.Assign [.Attribute (.Name "self" p1) f p2] (.Name f p3) pos]) (hf : (f == ("__debug__" : Str)) = false)
    (hp : ∀ (cdv : Value) (A : Around) (outer : List Env) (s : Shared) (H : Hp) (Q : VK) (E : XK), PE (cxOf CX0 P w K mg base ["self", f] qual (defScope st) fI cdv A outer s H E).nox (.Name "self" p1) (tVar 0) ∧ PE (cxOf CX0 P w K mg base ["self", f] qual (defScope st) fI cdv A outer s H E).nox (.Name f p3) (tVar 1) ∧
      swapsWith (.Name f p3) (some (.Attribute (.Name "self" p1) f p2)) pos.line (cxOf CX0 P w K mg base ["self", f] qual (defScope st) fI cdv A outer s H E).nox.env = pure false) : FnOk P w K mg base CX0 1 fI fd ["self", f] (spI K f) := by
  refine F.ok S (fun vs H Q E h => ?_) fun cdv A outer s H vs Q E hr h => ⟨tSeq (tOst K f (tVar 0) (tVar 1)) tNext, ?_, ?_⟩
  · obtain ⟨_, _, _, rfl, _⟩ := h; rfl
  · rw [hb]
    obtain ⟨h1, h2, h3⟩ := hp cdv A outer s H Q E
    exact pss_cons (ps_ost h1 h2 h3) pss_nil
  · obtain ⟨a, C, v, rfl, T, hno, ea, k⟩ := h
    exact ⟨v, rfl, .ref a, rfl, a, C, rfl, T, hno, .inl ⟨ea, fun dx n ne => k dx n ne⟩⟩
/-- raise C(e) -/
def tRz (K : Fg) (W : WX) (C : Addr) (f : Str) (te : TE) : TS := fun _ σ H => tMkO C (spI K f) [] (tCons te tNil) σ H fun cls d H' => W cls d σ H'
theorem ssg_raise {P : Program} {w : World} {K : Fg} {mg : Str → Option Value} {base : Heap} {W : WX} {x : T2X} {te : TE} {t2 : T2E} {c : Nat} {C : Addr} (T : XC P w K mg base c C) (h : SE K te t2) : SSG K (CX1 K mg W x) (tRz K W C (xfld c) te) (dRaise x c t2) := by
  intro p env σ I H D2 E rl hx q e
  refine h p env σ I H _ _ rl q fun d v I1 H1 q1 s1 r1 => ⟨by show 1 ≤ 1000; decide, fun a ha => ⟨a, C, v, rfl, T.oc, T.no, upd_same, fun dx hd hne => ⟨rfl, dx, [(xfld c, v)], upd_same, ?_, ?_, ?_⟩⟩⟩
  · rw [upd_ne hne, upd_same]
  · rw [upd_ne hne] at hd; exact hd
  · rw [upd_ne hne] at hd
    rw [upd_del ha hne]
    have r' := rl.stp s1
    have i1 : I1 dx = none := Same.free s1.ih hd
    have g : Gr none I1 H1 I1 (upd H1 dx (.xd [(xfld c, v)])) := ⟨Same.refl _, fun b o z => by
        rw [upd_ne (ne_of_none z i1)]; exact s1.ih _ _ z, fun b o z _ => by rw [upd_ne (ne_of_none z hd)]; exact z, fun b z _ => z, fun b z => by
        by_cases hb : b = dx
        · subst hb; rw [upd_same]; exact fun w => nomatch w
        · rw [upd_ne hb]; exact z⟩
    exact cx1_hx hx (r'.stp (.of g)) q1 ⟨C, dx, v, T.gC, rfl, rfl, upd_same, r1⟩
theorem ps_raise1 {X : Cx} {W : WX} {c : Nat} {C : Addr} {e : Expr} {te : TE} {p pos pos2 : Pos} (T : XC X.prog X.w X.K X.mg X.base c C) (hc : X.calm = true) (tk : Takes X W) (hr : Room 2 X.A) (hg : Gl X (xname c)) (he : PE X.nox e te)
    (hdb : (xname c == ("__debug__" : Str)) = false := by decide) (hs : starEach [e] X.env = (false, eval e X.env) :: starEach [] X.env := by rfl) (hpl : (backTo pos (starEach [] X.env)).any (·.1) = false := by rfl) :
    PS X (.Raise (some (.Call (.Name (xname c) p) [e] [] pos)) none pos2) (tRz X.K W C (xfld c) te) := by
  obtain ⟨fI, fd, h1, h2, h3, h4⟩ := T.ini
  exact ps_raise hc tk (pmk_oex (he := hs) (hpl := hpl) T.oc h1 h2 h3 hr h4 .nil pass0 hg T.gC (pa_cons he.nox pa_nil (hs := hs)) hdb)
/-! ### defs that keep such a promise -/
def orX (f : RCD) (g : RCX) : RCX := fun ds Q X => f ds Q ∨ g ds Q X
/-- by the plain reading, or by the one with raises -/
structure FxX (P : Program) (w : World) (K : Fg) (mg : Str → Option Value) (base : Heap) (k : Nat) (x : Str) (ps : List Str) (n : Nat) (f : RCD) (g : RCX) : Prop where
  pl : Fx P w K mg base k x ps (spD K n f)
  ex : ∃ f fd, FnOk P w K mg base (L2.CX P w) k f fd ps (spDX K mg n g) ∧ mg x = some (.ref f) ∧ PySem.W.keepIn K (.ref f) = true ∧ Binds K fd ps []
def bodyX (N n : Nat) (t : T2X → T2S) : RCX := fun ds Q X => ds.length = n ∧ t (fun _ => X) { nx := fun _ => Q .none, rt := Q } (envD N n ds)
section
variable {P : Program} {w : World} {K : Fg} {mg : Str → Option Value} {base : Heap} {x : Str} {ps : List Str} {sp : Sp}
theorem pe_fxX {X : Cx} {k n : Nat} {W : WX} {f0 : RCD} {g0 : RCX} {p pos : Pos} {e : Expr} {es : List Expr} {t : TA} (G : FxX X.prog X.w K mg X.base k x ps n f0 g0) (hK : X.K = K) (hM : X.mg = mg) (hr : Room k X.A) (hg : Gl X x) (tk : Takes X W) (ha : PA X (e :: es) t)
    (hdb : (x == ("__debug__" : Str)) = false := by decide) (hse : starEach (e :: es) X.env = (false, eval e X.env) :: starEach es X.env := by rfl) (hbk : (backTo pos (starEach es X.env)).any (·.1) = false := by rfl) :
    PE X (.Call (.Name x p) (e :: es) [] pos) (tCallS (spDX K mg n (orX f0 g0)) (WE W) t) := by
  subst hK hM
  obtain ⟨fa, fd, F, hm, hk, hb⟩ := G.ex
  obtain ⟨fa0, fd0, F0, hm0, _, hb0⟩ := G.pl.ex
  rw [hm] at hm0
  cases hm0
  constructor
  intro pins s σ H Q I h
  apply wpAny_Call_Name_kw
  refine ld_glob I hg hm (PySem.W.callWith_K (h₀ := X.base) I.ok.mod.kin hk ?_ hse hbk) hdb
  refine thn (ha.run pos pins s σ H _ I h) fun us s1 z => ?_
  obtain ⟨vs, H1, I1, r, J, ds, Q2, X2, hl, e1, r1, q, k1, k2⟩ := z
  refine ⟨I1.kIn, ?_⟩
  rcases q with q | q
  · exact run_fn (E := E0) F0 hr hb0 .nil pass0 I1 r (by rw [List.append_nil]; exact ⟨J, ds, Q2, hl, e1, r1, q, k1⟩)
  · exact run_fnS F hr hb (passAt tk σ) I1 r ⟨J, ds, Q2, X2, hl, e1, r1, q, k1, k2⟩
theorem bodyX_ok {N : List Str} {n : Nat} {E : XK} {t : T2X → T2S} {ts : TS} (h : ∀ x, SSG K (CX1 K mg (fun cls d _ H => E cls d H) x) ts (t x)) {vs : List V} {H : Hp} {Q : VK} (q : spDX K mg n (bodyX N.length n t) vs H Q E) : ts { nx := fun _ H' => Q .non H', rt := Q } (L2.start N vs) H := by
  obtain ⟨I, ds, Q2, X2, hl, e, r, ⟨hd, q⟩, k, kx⟩ := q
  refine h (fun _ => X2) ⟨none, I, H, I⟩ _ (L2.start N vs) I H _ _ ⟨⟨.refl e, fun i x z => ?_, fun i j x y a _ z _ _ => ?_, (fun s z => nomatch z), Same.refl _, fun i j w w' x y a _ z _ _ => (by obtain ⟨d, z, _⟩ := env_get z; cases z), fun i j x y u v c _ hm z1 z2 _ _ _ => by
      obtain ⟨d1, z1, _⟩ := env_get z1
      obtain ⟨d2, z2, _⟩ := env_get z2
      cases z1
      cases z2
      cases hm⟩, ?_⟩ (fun env σ I' H' c e cls dx r' qx z => kx c e cls dx I' H' qx r'.r.gr z) q ⟨fun env σ I' H' q' r' => k _ _ _ _ q' r'.r.gr .non, fun d v I' H' q' g _ r' => k _ _ _ _ q' g r', fun _ _ _ _ z => z.elim, fun _ _ _ _ z => z.elim, fun _ _ _ _ _ _ z => z.elim, fun _ _ _ _ _ _ z => z.elim, fun _ _ _ _ _ _ z => z.elim⟩
  · obtain ⟨d, rfl, hd⟩ := env_get z
    obtain ⟨v, hv, rv⟩ := r.got hd
    exact ⟨v, start_get hv, rv⟩
  · obtain ⟨d, z, _⟩ := env_get z
    cases z
  · unfold envD L2.start
    rw [List.length_append, List.length_append, List.length_map, List.length_map, List.length_replicate, List.length_replicate, hl, hd]
theorem fx_ofX {st : Stmt} {N : List Str} {k n : Nat} {f : RCD} {t : T2X → T2S} (G : Fx P w K mg base (k + 1) x ps (spD K n f)) (d : Df K mg x st) (S : FnScope N ps (defScope st)) (bb : BindsBy x st ps) (hn : ps.length = n)
    (hb : ∀ (f : Addr) (cdv : Value) (A : Around) (outer : List Env) (s : Shared) (H : Hp) (E : XK), Room k (A.deeper (envOfC x (defScope st) s.heap.objs.size f cdv)) →
      ∃ ts, PSs (cxOf (L2.CX P w) P w K mg base N x (defScope st) f cdv A outer s H E) (defBody st) ts ∧ ∀ y, SSG K (CX1 K mg (fun cls d _ H => E cls d H) y) ts (t y)) : FxX P w K mg base (k + 1) x ps n f (bodyX N.length n t) := by
  obtain ⟨fa', fd', F, hm⟩ := d
  refine ⟨G, fa', fd', F.okX S (fun vs H Q E h => ?_) (fun cdv A outer s H vs Q E hr h => ?_), hm, F.kp, F.binds bb⟩
  · obtain ⟨_, _, _, _, hl, _⟩ := h
    rw [hl, hn]
  · obtain ⟨ts, h1, h2⟩ := hb fa' cdv A outer s H E hr
    exact ⟨ts, h1, bodyX_ok h2 h⟩
end
/-! ### try: .. except C as e: .. (several) -/
def endsU (i : Nat) (D : Ends) : Ends := { nx := fun σ H => D.nx (σ.set i none) H, rt := D.rt, bk := fun σ H => D.bk (σ.set i none) H, ct := fun σ H => D.ct (σ.set i none) H }
structure Hnd where
  cv : Value
  i : Nat
  ts : Addr → Value → Option Addr → TS
def wHs (K : Fg) (Wout : WX) (D : Ends) : List Hnd → WX
  | [] => Wout
  | h :: r => fun cls d σ H => ∃ b, PySem.W.exmOne K cls h.cv = some b ∧ (b = true → ∀ a, H a = none → h.ts a cls d (endsU h.i D) (σ.set h.i (some (.ref a))) H) ∧ (b = false → wHs K Wout D r cls d σ H)
inductive HsOk (X : Cx) : List ExceptHandler → List Hnd → Prop
  | nil : HsOk X [] []
  | cons {x n : Str} {h : Hnd} {b₀ : Stmt} {suite : List Stmt} {np pos' : Pos} {hds : List ExceptHandler} {l : List Hnd} (hc : Names X x h.cv) (hi : X.N[h.i]? = some n) (hl : X.env.kindOf n = some .local)
      (hsu : ∀ (a : Addr) (oe : Obj) (cls : Value) (d : Option Addr) (pn : List (Addr × Obj)), Zc cls d oe → (∃ vs, oe.data = .fields vs) → PSs (X.suite a ((a, oe) :: pn)) (b₀ :: suite) (h.ts a cls d)) (r : HsOk X hds l) :
      HsOk X (.ExceptHandler (some (.Name x np)) (some n) (b₀ :: suite) pos' :: hds) (h :: l)
section
variable {X : Cx} {pins : List (Addr × Obj)} {H : Hp} {σ : L2.St}
end
/-! ### .. as data -/
structure H2 where
  cb : List (Option Bool)
  i : Nat
  u : Nat → D → T2S
def endsU2 (i : Nat) (E : Ends2) : Ends2 := { nx := fun env => env[i]? = some none ∧ E.nx env, rt := E.rt, bk := fun env => env[i]? = some none ∧ E.bk env, ct := fun env => env[i]? = some none ∧ E.ct env, rd := E.rd, re := fun env d => env[i]? = some none ∧ E.re env d, rv := fun env j => (env[i]? = some none ∧ j ≠ i) ∧ E.rv env j }
def dHs (E : Ends2) (env : Ev) (c : Nat) (e : D) : List H2 → Prop
  | [] => False
  | h :: r => match h.cb[c]? with
    | some (some true) => env[h.i]? = some none ∧ h.u c e (endsU2 h.i E) env
    | some (some false) => dHs E env c e r
    | _ => False
def dTry (l : List H2) (tb : T2X → T2S) : T2S := fun E env => tb (fun env' c e => dHs E env' c e l) E env
/-- what holds in a suite -/
abbrev CH (K : Fg) (mg : Str → Option Value) (i : Nat) (a : Addr) (cls : Value) (dx : Option Addr) (c : Nat) (e : D) : Cnd := fun _ σ I H => σ[i]? = some (some (.ref a)) ∧ RX K mg I H c e cls dx
structure HR (K : Fg) (mg : Str → Option Value) (h : Hnd) (h2 : H2) : Prop where
  i : h.i = h2.i
  ex : ∀ c b C, h2.cb[c]? = some (some b) → mg (xname c) = some (.ref C) → PySem.W.exmOne K (.ref C) h.cv = some b
  su : ∀ a cls dx c e, SSG K (CH K mg h.i a cls dx c e) (h.ts a cls dx) (h2.u c e)
inductive HRs (K : Fg) (mg : Str → Option Value) : List Hnd → List H2 → Prop
  | nil : HRs K mg [] []
  | cons {h : Hnd} {h2 : H2} {l : List Hnd} {l2 : List H2} : HR K mg h h2 → HRs K mg l l2 → HRs K mg (h :: l) (h2 :: l2)
section
variable {K : Fg} {mg : Str → Option Value}
theorem RX.stp {p : P0} {env : Ev} {σ : L2.St} {I H I' H' : Hp} {c : Nat} {e : D} {cls : Value} {dx : Option Addr} (r : RelL K p env σ I H) (s : Stp p I H I' H') (h : RX K mg I H c e cls dx) : RX K mg I' H' c e cls dx := by
  obtain ⟨C, a, v, h1, h2, h3, h4, h5⟩ := h
  refine ⟨C, a, v, h1, h2, h3, s.gr.hh a _ h4 fun z => ?_, Rp.mono s.ii _ _ h5⟩
  obtain ⟨_, _, l, x, k, ns, g, _⟩ := r.r.st a z
  rw [h4] at g
  cases g
/-- e.f in a suite -/
def dXf (c c0 : Nat) (e : D) : T2E := fun _ Q => c = c0 ∧ Q e
end
theorem ps_nox {X : Cx} {st : Stmt} {t : TS} (h : PS X.nox st t) : PS X st t := by
  constructor
  intro pins s σ H D I hw
  refine wpAny_mono (h.run pins s σ H D (I.wish _) hw) (fun _ _ q => q.unwish) ?_
  intro _ _ z
  exact False.elim z
/-- what a clause's class says of the text's exceptions -/
def ExF (K : Fg) (mg : Str → Option Value) (Ch : Addr) (cb : List (Option Bool)) : Prop := ∀ c b C, cb[c]? = some (some b) → mg (xname c) = some (.ref C) → PySem.W.exmOne K (.ref C) (.ref Ch) = some b
/-- the first def of a class -/
def clsInit : Stmt → Stmt
  | .ClassDef _ _ _ b _ _ _ _ _ _ _ => b.getD 0 (.Pass ⟨0, 0, 0, 0⟩)
  | s => s
end Z2
namespace Z2
open PySem PySem.Spec PyProof.Rows L2
/-! ### isinstance of a caught one; its class number c is known -/
/-- isinstance(e, c), e at a with its own dict -/
def rIsX (K : Fg) (a : Addr) (cls : Value) (dx : Option Addr) : List V → Hp → VK → Prop := fun xs H Q => ∃ (c : V) (cv : Value) (b : Bool) (Dc dd : Addr) (fs : List (Str × V)), xs = [.ref a, c] ∧ cls = .ref Dc ∧ dx = some dd ∧ H dd = some (.xd fs) ∧ ExcC K Dc ∧
  (∀ u, RelV c u → u = cv) ∧ PySem.W.kitOne K (.ref Dc) cv = some b ∧ Q (.bl b) H
def dIsX (cb : List (Option Bool)) (c : Nat) : T2E := fun _ Q => ∃ b, cb[c]? = some (some b) ∧ Q (.bool b)
/-- what isinstance answers of the text's exceptions for the class cv -/
def KitF (K : Fg) (mg : Str → Option Value) (cv : Value) (cb : List (Option Bool)) : Prop := ∀ c b C, cb[c]? = some (some b) → mg (xname c) = some (.ref C) → PySem.W.kitOne K (.ref C) cv = some b ∧ ExcC K C
def SIG (K : Fg) (C : Cnd) (wi : TI) (t : T2I) : Prop := ∀ (p : P0) (env : Ev) (σ : L2.St) (I H : Hp) (Q2 : List D → Prop) (R : It → Hp → Prop), RelL K p env σ I H → C p σ I H → t env Q2 →
  (∀ ds J I' H', Q2 ds → Stp p I H I' H' → ItR K I' J ds → R J H') → wi σ H R
def SOG (K : Fg) (C : Cnd) (te : TE) (t : T2A) : Prop := ∀ (p : P0) (env : Ev) (σ : L2.St) (I H : Hp) (Q2 : List D → Prop) (Q : VK), RelL K p env σ I H → C p σ I H → t env Q2 →
  (∀ ds a vs I' H', Q2 ds → Stp p I H I' H' → H a = none → I' a = none → H' a = some (.lst vs) → Rps K I' vs ds → Q (.ref a) H') → te σ H Q
section
variable {K : Fg} {mg : Str → Option Value} {C : Cnd} {te tf : TE} {t2 u2 : T2E} {ts us : TS} {t u : T2S} {t1 t1' : TT} {c2 c2' : T2T}
end
abbrev tTruK (K : Fg) (te : TE) : TT := fun σ H Q => te σ H fun x H' => ∃ k, TruV K x H' k ∧ Q k H'
end Z2
namespace Z2
open PySem PySem.Spec PyProof.Rows L2
/-! ### d.get(key), d.get(key, other): keys are tuples of ints -/
def GotF (xs : List (List Key × Addr × Value)) (ns : List Int) (z v : V) : Prop := (atKey xs (kI ns) = none ∧ v = z) ∨ ∃ p, atKey xs (kI ns) = some p ∧ RelV v p.2
def tFGet1 (K : Fg) (td ty : TE) : TE := fun σ H Q => td σ H fun x H1 => ∃ (a : Addr) (w : World) (xs0 : List (List Key × Addr × Value)), x = .ref a ∧ H1 a = some (dctO w a xs0) ∧ IKeys K H1 xs0 ∧ ty σ H1 fun y H2 => ∃ (xs : List (List Key × Addr × Value)) (b : Addr) (ns : List Int) (v : V), y = .ref b ∧ H2 a = some (dctO w a xs) ∧ IKeys K H2 xs ∧ SqT K H2 b (ns.map V.int) ∧ GotF xs ns .non v ∧ Q v H2
def tFGet2 (K : Fg) (td ty tz : TE) : TE := fun σ H Q => td σ H fun x H1 => ∃ (a : Addr) (w : World) (xs0 : List (List Key × Addr × Value)), x = .ref a ∧ H1 a = some (dctO w a xs0) ∧ IKeys K H1 xs0 ∧ ty σ H1 fun y H2 => tz σ H2 fun z H3 => ∃ (xs : List (List Key × Addr × Value)) (b : Addr) (ns : List Int) (v : V), y = .ref b ∧ H3 a = some (dctO w a xs) ∧ IKeys K H3 xs ∧ SqT K H3 b (ns.map V.int) ∧ GotF xs ns z v ∧ Q v H3
theorem dct_ty {X : Cx} {pins : List (Addr × Obj)} {σ : L2.St} {H : Hp} {s : Shared} {a : Addr} {w : World} {xs : List (List Key × Addr × Value)} (I : L2.Inv X pins σ H s) (e : H a = some (dctO w a xs)) (hk : IKeys X.K H xs) :
    s.TypeIs (.ref a) "dict" ∧ ∀ b, Value.ref a = .ref b → ∃ ob, s.heap.get? b = some ob ∧ ob.dict = none := by
  obtain ⟨_, _, dd⟩ := dct_any I e hk
  refine ⟨dd.typeIs, fun b q => ?_⟩
  cases q
  obtain ⟨ob, _, _, h1, h2, _⟩ := dd
  exact ⟨ob, h1, h2.2.1⟩
section
variable {X : Cx} {o e f : Expr} {td ty tz : TE} {apos cpos : Pos}
theorem pe_fget2 (hu : X.A.units + 1 < cLine) (ho : PE X o td) (he : PE X e ty) (hf : PE X f tz) (m : M2 X o "get" apos e f cpos) : PE X (.Call (.Attribute o "get" apos) [e, f] [] cpos) (tFGet2 X.K td ty tz) := by
  constructor
  intro pins s σ H Q I h
  refine wpAny_Call_method m.base m.few m.line PySem.F.plainAttrs_dict PySem.F.slot_dict_get PySem.F.type_dict_get ?_
  refine thn (ho.run pins s σ H _ I h) fun u s1 q => ?_
  obtain ⟨x, H1, I1, rx, a, w, xs0, rfl, ea, hk0, q1⟩ := q
  obtain rfl : u = Value.ref a := rx
  obtain ⟨t1, t2⟩ := dct_ty I1 ea hk0
  refine ⟨t1, t2, ?_⟩
  rw [m.trees]
  refine Calls.callWith_builtin rfl (Calls.evalArgs_plain (Calls.spliced_cons ?_))
  refine thn (he.run pins s1 σ H1 _ I1 q1) fun iv s2 q => Calls.spliced_cons ?_
  obtain ⟨y, H2, I2, ry, q2⟩ := q
  refine thn (hf.run pins s2 σ H2 _ I2 q2) fun fv s3 q => Calls.spliced_nil ?_
  obtain ⟨z, H3, I3, rz, xs, b, ns, v, rfl, e2, hk, eb, g, q3⟩ := q
  obtain rfl : iv = Value.ref b := ry
  obtain ⟨z1, z2, dd⟩ := dct_any I3 e2 hk
  refine call_meetsIn PySem.F.slot_dict_get dd.typeIs PySem.F.entry_dict_get (PySem.F.args_dict_get_3 _ _ _) (meetsH_dict_get_default (tupleKind (mixKind X.prog X.w)) a b z1 fv) ?_
  refine ⟨tupleKind_room_in1 hu, kI ns, xs, key_sq I3 (by rw [kI_kV]; exact eb), dd, v, H3, I3.tok _, ?_, q3⟩
  rcases g with ⟨g1, rfl⟩ | ⟨p, g1, g2⟩
  · rw [g1]; exact rz
  · rw [g1]; exact g2
end
/-- of data -/
def dFGet1 (td ty : T2E) : T2E := fun env Q => td env fun x => match x with | .dict kvs => (ty env fun y => match keyI y with | some k => Q ((getF kvs k).getD .none) | none => False) | _ => False
/-- of a dict of one's own -/
def dOGet2 (i : Nat) (ty tz : T2E) : T2E := fun env Q => match env[i]? with
  | some (some (.dct _ ks)) => (∀ p ∈ ks, ∃ ms, p.1 = kI ms) ∧ ty env fun y => tz env fun z => match keyI y with | some k => Q ((valD ks (kI k)).getD z) | none => False
  | _ => False
section
variable {K : Fg} {td ty tz : TE} {d2 y2 z2 : T2E}
theorem se_oget2 (i : Nat) (hy : SE K ty y2) (hz : SE K tz z2) : SE K (tFGet2 K (tVar i) ty tz) (dOGet2 i y2 z2) := by
  intro p env σ I H Q2 Q r q k
  unfold dOGet2 at q
  split at q
  · rename_i w ks e2
    obtain ⟨hks, q⟩ := q
    obtain ⟨v, hv, a, xs, rfl, f2, f3, f4, f5⟩ := r.r.sl i _ e2
    refine ⟨_, hv, a, w, xs, rfl, f4, (f5.ikeys hks).mono r.same, hy p env σ I H _ _ r q fun y u I1 H1 q1 s1 r1 => hz p env σ I1 H1 _ _ (r.stp s1) q1 fun z u2 I3 H3 q3 s3 r3 => ?_⟩
    split at q3
    · rename_i kk ek
      obtain ⟨b, rfl, eb⟩ := keyI_rp r1 ek
      obtain ⟨v', hv', a', xs', e1', g2, g3, g4, g5⟩ := ((r.stp s1).stp s3).r.sl i _ e2
      subst e1'
      rw [hv] at hv'
      cases hv'
      have ik : IKeys K H3 xs' := (g5.ikeys hks).mono s3.ih
      rcases g5.val (kI kk) with ⟨z1, z2⟩ | ⟨d', p', v', z1, z2, z3, z4⟩
      · rw [z1] at q3
        exact ⟨xs', b, kk, u2, rfl, g4, ik, Same.sqt s3.ih (Same.sqt s3.ii eb), .inl ⟨z2, rfl⟩, k _ _ _ _ q3 (s1.trans s3) r3⟩
      · rw [z1] at q3
        exact ⟨xs', b, kk, v', rfl, g4, ik, Same.sqt s3.ih (Same.sqt s3.ii eb), .inr ⟨p', z2, z3⟩, k _ _ _ _ q3 (s1.trans s3) z4⟩
    · exact q3.elim
  · exact q.elim
end
end Z2
namespace Z2
open PySem PySem.Spec PyProof.Rows L2
/-! ### dict comprehensions with int keys -/
def dcD (g : T2G) (tt : T2T) (tk tv : T2E) (env : Ev) : List D → List (Int × D) → (List (Int × D) → Prop) → Prop
  | [], ks, Q => Q ks
  | d :: ds, ks, Q => g d env fun env1 => tt env1 fun b => if b = true then tk env1 fun kd => tv env1 fun y => (match kd with | .int kk => dcD g tt tk tv env ds (putI ks kk y) Q | _ => False) else dcD g tt tk tv env ds ks Q
def dDcI (i : Nat) (ti : T2I) (g : T2G) (tt : T2T) (tk tv : T2E) (vs : List Nat) : T2S := fun E env => ti env fun ds => ds.length ≤ 1000000 ∧ dcD g tt tk tv (wipeE env vs) ds [] fun ks => E.nx (env.set i (some (.dki ks)))
theorem putK_len (xs : List (Key × V)) (k : Key) (v : V) : (putK xs k v).length ≤ xs.length + 1 := by
  unfold putK
  split
  · rw [List.length_map]; omega
  · rw [List.length_append]; exact Nat.le_refl _
section
variable {K : Fg} {p : P0} {env : Ev} {σ : L2.St} {I H : Hp}
theorem RelL.besideK (r : RelL K p env σ I H) {a : Addr} {o : HO} (h0 : p.H0 a = none) (h1 : I a = none) (hx : ∀ w xs, H a ≠ some (dctO w a xs)) (hx2 : ∀ (j : Nat) (ks : List (Int × D)), env[j]? = some (some (.dki ks)) → σ[j]? ≠ some (some (.ref a))) (hmat : ∀ (j : Nat) (x : Sl) (v : V), env[j]? = some (some x) → isMat x = true → σ[j]? = some (some v) → ¬ Cell x v H a) (hn : ∀ (j : Nat) (x : List D), env[j]? = some (some (.own x)) → σ[j]? ≠ some (some (.ref a))) : RelL K p env σ I (upd H a o) := by
  have nm : p.m ≠ some a := fun q => (r.r.st _ q).1 h0
  refine ⟨⟨⟨r.r.gr.ii, fun b u q => by rw [upd_ne (ne_of_none q h1)]; exact r.r.gr.ih b u q, fun b u q n => by rw [upd_ne (ne_of_none q h0)]; exact r.r.gr.hh b u q n, r.r.gr.fr, fun b q => ?_⟩, fun j x q => ?_, r.r.sep, fun s q => ⟨(r.r.st s q).1, ?_⟩, r.r.bs, r.r.sd, r.r.sm.keep fun j x u b q m su eu => upd_ne fun z => by
      subst z
      refine hmat j x u q (top_mat m) su ?_
      cases x <;> first | (cases m) | skip
      exact .inl eu⟩, r.len⟩
  · by_cases hb : b = a
    · rw [hb, upd_same]; exact fun q => nomatch q
    · rw [upd_ne hb]; exact r.r.gr.th b q
  · obtain ⟨u, hu, z2⟩ := r.r.sl j x q
    refine ⟨u, hu, ?_⟩
    cases x with
    | dat d => exact z2
    | rng _ => exact z2
    | obf _ _ _ => exact z2
    | obj _ _ _ _ =>
      obtain ⟨f1, f2, f6⟩ := z2
      exact ⟨f1, f2, f6.stays (Same.refl _) fun c hc z1 z2 z3 => ⟨z2, upd_ne fun w => hmat j _ _ q rfl hu (by rw [← w]; exact hc)⟩⟩
    | own es =>
      obtain ⟨b, ws, f1, f2, f3, f4, f5⟩ := z2
      subst f1
      have nb : b ≠ a := fun w => hn j es q (by rw [← w]; exact hu)
      exact ⟨b, ws, rfl, f2, f3, by rw [upd_ne nb]; exact f4, f5⟩
    | strm => exact z2
    | lnt x =>
      obtain ⟨b, f1, f2, f3, f4⟩ := z2
      have nb : b ≠ a := fun w => f2 (by rw [w]; exact h0)
      exact ⟨b, f1, f2, f3, f4.stays (Same.refl _) fun o q => by rw [upd_ne nb]; exact q⟩
    | dct w ks =>
      obtain ⟨b, ws, f1, f2, f3, f4, f5⟩ := z2
      subst f1
      have nb : b ≠ a := fun z => by
        subst z
        exact hx _ _ f4
      exact ⟨b, ws, rfl, f2, f3, by rw [upd_ne nb]; exact f4, f5⟩
    | dki ks =>
      obtain ⟨b, ws, f1, f2, f3, f4, f5⟩ := z2
      subst f1
      have nb : b ≠ a := fun z => by
        subst z
        exact hx2 _ _ q hu
      exact ⟨b, ws, rfl, f2, f3, by rw [upd_ne nb]; exact f4, f5⟩
    | mat rows =>
      obtain ⟨b, bs, f1, f2, f3, f4, f5, f6⟩ := z2
      subst f1
      have nb : b ≠ a := fun w => hmat j _ _ q rfl hu (.inl (by rw [w]))
      refine ⟨b, bs, rfl, f2, f3, by rw [upd_ne nb]; exact f4, f5, f6.stays (Same.refl _) fun c hc z1 z2 z3 => ⟨z2, upd_ne fun w => ?_⟩⟩
      exact hmat j _ _ q rfl hu (.inr ⟨b, bs, rfl, f4, by rw [← w]; exact hc⟩)
  · obtain ⟨f0, l, c, k, ns, f1, f2, f3⟩ := (r.r.st s q).2
    have ns2 : s ≠ a := fun w => nm (by rw [q, w])
    exact ⟨f0, l, c, k, ns, by rw [upd_ne ns2]; exact f1, f2, f3⟩
end
section
variable {K : Fg}
theorem ss_dcI {wi : TI} {g : TG} {tt : TT} {tk tv : TE} {ti : T2I} {g2 : T2G} {tt2 : T2T} {tk2 tv2 : T2E} {vs : List Nat} (i0 : Nat) (hi : SI K wi ti) (hg : SG K vs g g2) (ht : ST K tt tt2) (hk : SE K tk tk2) (he : SE K tv tv2) : SS K (tAsg (tDc wi g tt tk tv vs) (gName i0)) (dDcI i0 ti g2 tt2 tk2 tv2 vs) := by
  intro p env σ I H D2 E rl q e0
  refine hi p env σ I H _ _ rl q fun ds J I1 H1 ⟨hlen, q1⟩ s1 it => ?_
  intro D hD
  have rl1 := rl.stp s1
  have hD0 : p.H0 D = none := by
    cases e : p.H0 D with
    | none => rfl
    | some o => exact absurd hD (rl1.r.gr.th D (by rw [e]; exact fun z => nomatch z))
  have hDI : I1 D = none := Same.free s1.ih hD
  have hDH : H D = none := by
    cases e : H D with
    | none => rfl
    | some o => exact absurd hD (s1.gr.th D (by rw [e]; exact fun z => nomatch z))
  have hm : p.m ≠ some D := fun e => (rl1.r.st D e).1 hD0
  have hown : ∀ (j : Nat) (x : List PyData), env[j]? = some (some (Sl.own x)) → σ[j]? ≠ some (some (V.ref D)) := fun j x e z => by
    obtain ⟨v, hv, a, ws, rfl, _, _, e4, _⟩ := rl1.r.sl j _ e
    rw [hv] at z
    cases z
    rw [hD] at e4; cases e4
  have howk : ∀ (j : Nat) (ks : List (Int × PyData)), env[j]? = some (some (.dki ks)) → σ[j]? ≠ some (some (V.ref D)) := fun j x e z => by
    obtain ⟨v, hv, a, ws, rfl, _, _, e4, _⟩ := rl1.r.sl j _ e
    rw [hv] at z
    cases z
    rw [hD] at e4; cases e4
  refine ⟨fun i m H' => m = ds.length - i ∧ i ≤ ds.length ∧ ∃ I' acc ys, RelL K p env σ I' H' ∧ Stp p I1 H1 I' H' ∧ I' D = none ∧ H' D = some (.dK acc) ∧ KDI K I' acc ys ∧ acc.length ≤ i ∧ dcD g2 tt2 tk2 tv2 (wipeE env vs) (ds.drop i) ys fun ks => D2.nx (env.set i0 (some (.dki ks))),
    ⟨ds.length, by simp, Nat.zero_le _, I1, [], [], rl1.beside hD0 hDI (fun _ _ z => by rw [hD] at z; cases z) (fun _ z => by rw [hD] at z; cases z) (rl1.freshCell (.refl rl1.same) hD) hown, Stp.fresh s1.ih hD, hDI, upd_same, .nil, Nat.le_refl _, q1⟩, ?_⟩
  rintro i m H' ⟨rfl, hi', I', acc, ys, r', st', hDI', hDH', rp, hacc, q'⟩
  by_cases hlt : i < ds.length
  · refine .inr ⟨it.go i I' H' st'.ii st'.ih hlt, fun H'' => ∃ I'' acc ys, RelL K p env σ I'' H'' ∧ Stp p I1 H1 I'' H'' ∧ I'' D = none ∧ H'' D = some (.dK acc) ∧ KDI K I'' acc ys ∧ acc.length ≤ i + 1 ∧ dcD g2 tt2 tk2 tv2 (wipeE env vs) (ds.drop (i + 1)) ys fun ks => D2.nx (env.set i0 (some (.dki ks))),
      fun H'' z => ⟨ds.length - (i + 1), by omega, rfl, by omega, z⟩, fun x H2 y => ?_⟩
    obtain ⟨I2, d, g1, hd, rd⟩ := it.yld i x I' H' H2 st'.ii st'.ih hlt y
    have hdrop : ds.drop i = d :: ds.drop (i + 1) := by
      have hdd : ds[i] = d := Option.some.inj ((List.getElem?_eq_getElem hlt).symm.trans hd)
      rw [List.drop_eq_getElem_cons hlt, hdd]
    rw [hdrop] at q'
    have st2 := st'.trans (Stp.of (p := p) g1)
    have r2 := r'.grow' g1
    have q2 : g2 d (wipeE env vs) (fun env1 => tt2 env1 fun b => if b = true then tk2 env1 fun kd => tv2 env1 fun y => (match kd with | .int kk => dcD g2 tt2 tk2 tv2 (wipeE env vs) (ds.drop (i + 1)) (putI ys kk y) fun ks => D2.nx (env.set i0 (some (.dki ks))) | _ => False) else dcD g2 tt2 tk2 tv2 (wipeE env vs) (ds.drop (i + 1)) ys fun ks => D2.nx (env.set i0 (some (.dki ks)))) := q'
    have keepD : ∀ {I3 H3 I4 H4}, Stp p I3 H3 I4 H4 → I3 D = none → H3 D = some (.dK acc) → I4 D = none ∧ H4 D = some (.dK acc) := fun s a b =>
      ⟨s.gr.fr D a (by rw [b]; exact fun z => nomatch z), s.gr.hh D _ b hm⟩
    obtain ⟨d2, d3⟩ := keepD (Stp.of (p := p) g1) hDI' hDH'
    refine hg p (wipeE env vs) (L2.wipe σ vs) I2 H2 x d _ _ (r2.wipe vs) rd q2 fun env1 σ1 I3 H3 q3 r3 s3 w3 => ⟨by rw [w3]; exact wipe_wipe σ vs, ?_⟩
    obtain ⟨d4, d5⟩ := keepD s3 d2 d3
    refine ht p env1 σ1 I3 H3 _ _ r3 q3 fun b I4 H4 q4 s4 => ?_
    obtain ⟨d6, d7⟩ := keepD s4 d4 d5
    have s34 := s3.trans s4
    cases b with
    | false =>
      rw [if_neg Bool.false_ne_true] at q4 ⊢
      exact ⟨I4, acc, ys, r2.stp s34, st2.trans s34, d6, d7, KDI.mono (g1.ii.trans s34.ii) rp, by omega, q4⟩
    | true =>
      rw [if_pos rfl] at q4 ⊢
      refine hk p env1 σ1 I4 H4 _ _ (r3.stp s4) q4 fun kd kv I5 H5 q5 s5 r5 => ?_
      obtain ⟨d8, d9⟩ := keepD s5 d6 d7
      refine he p env1 σ1 I5 H5 _ _ ((r3.stp s4).stp s5) q5 fun e v I6 H6 q6 s6 r6' => ?_
      obtain ⟨d10, d11⟩ := keepD s6 d8 d9
      cases kd <;> first | exact q6.elim | skip
      rename_i kk
      cases r5
      have s36 := (s34.trans s5).trans s6
      have st6 := st2.trans s36
      have r6 := (r2.stp s36)
      refine ⟨acc, .inl kk, rfl, d11, Nat.lt_of_le_of_lt hacc (Nat.lt_of_lt_of_le hlt (le_line hlen)), I6, putK acc (Sum.inl kk) v, putI ys kk e, r6.besideK hD0 d10 (fun _ _ z => by rw [d11] at z; exact nomatch z) howk (rl1.freshCell st6 hD) hown, ⟨⟨st6.ii, fun b o z => by rw [upd_ne (ne_of_none z d10)]; exact st6.ih b o z, fun b o z n => ?_, st6.gr.fr, fun b z => ?_⟩, fun s e1 e2 => ?_⟩, d10, upd_same,
        KDI.put r6' (KDI.mono (g1.ii.trans s36.ii) rp), ?_, q6⟩
      · have hb : b ≠ D := fun w => by rw [w, hD] at z; cases z
        rw [upd_ne hb]; exact st6.gr.hh b o z n
      · have hb : b ≠ D := fun w => z (by rw [w]; exact hD)
        rw [upd_ne hb]; exact st6.gr.th b z
      · obtain ⟨f0, l, c, n, ns, f1, f2, f3⟩ := st6.st s e1 e2
        have hs : s ≠ D := fun w => hm (by rw [e1, w])
        exact ⟨f0, l, c, n, ns, by rw [upd_ne hs]; exact f1, f2, f3⟩
      · have := putK_len acc (Sum.inl kk) v
        omega
  · have hi2 : i = ds.length := by omega
    subst hi2
    rw [List.drop_length] at q'
    exact .inl ⟨it.stop _ I' H' st'.ii st'.ih rfl, e0.nx _ _ _ _ q' (r'.setDki hD0 hDI' hDH' rp i0)⟩
end
/-! ### list(d.items()) of such a dict -/
def dItemsK (i : Nat) : T2E := fun env Q => match env[i]? with
  | some (some (.dki ks)) => Q (.list (ks.map fun q => PyData.tuple [.int q.1, q.2]))
  | _ => False
def gext (I H H' : Hp) : Hp := fun b => match H b with | none => H' b | some _ => I b
theorem gr_ext {I H H' : Hp} (s : Same I H) (h : ∀ b o, H b = some o → H' b = some o) : Gr none I H (gext I H H') H' := by
  refine ⟨fun b o e => ?_, fun b o e => ?_, fun b o e _ => h b o e, fun b e n => ?_, fun b n => ?_⟩
  · unfold gext
    rw [s b o e]
    exact e
  · unfold gext at e
    split at e
    · exact e
    · exact h b o (s b o e)
  · unfold gext
    split
    · rename_i z
      exact absurd z n
    · exact e
  · cases z : H b with
    | none => exact absurd z n
    | some o => rw [h b o z]; exact fun w => nomatch w
section
variable {K : Fg}
theorem items_rp {I H H' : Hp} (ii : Same I (gext I H H')) : ∀ {ts : List Addr} {xs : List (Key × V)} {ks : List (Int × PyData)}, Paired (fun (t : Addr) (q : Key × V) => H' t = some (.tup [kV q.1, q.2])) ts xs → (∀ t ∈ ts, H t = none) → KDI K I xs ks → Rps K (gext I H H') (ts.map V.ref) (ks.map fun q => PyData.tuple [.int q.1, q.2])
  | _, _, _, .nil, _, .nil => .nil
  | t :: ts, _, _, .cons h hs, hn, .cons r rs => by
    refine .cons (.tup (.inl (.inl ?_)) (.cons (.int _) (.cons (Rp.mono ii _ _ r) .nil))) (items_rp ii hs (fun u hu => hn u (List.mem_cons_of_mem _ hu)) rs)
    unfold gext
    rw [hn t List.mem_cons_self]
    exact h
theorem se_itemsK (i : Nat) : SE K (LiI.tListItems (tVar i)) (dItemsK i) := by
  intro p env σ I H Q2 Q r q k
  unfold dItemsK at q
  split at q
  · rename_i ks e2
    obtain ⟨v, hv, a, xs, rfl, f2, f3, f4, f5⟩ := r.r.sl i _ e2
    refine ⟨_, hv, a, xs, rfl, f4, fun H' l ts hh hl hts hlt hHl hpr => ?_⟩
    have g : Gr none I H (gext I H H') H' := gr_ext r.same hh
    refine k _ _ _ _ q (Stp.of g) (.lst ?_ (items_rp g.ii hpr hts f5))
    unfold gext
    rw [hl]
    exact hHl
  · exact q.elim
end
/-! ### `in` of one's own dict whose keys hold texts -/
def rWIn (K : Fg) (w : World) (neg : Bool) : R2 := fun x y H Q => ∃ a xs b k, x = .ref b ∧ y = .ref a ∧ H a = some (dctO w a xs) ∧ (∀ x ∈ xs, SqT K H x.2.1 (x.1.map kV)) ∧ SqT K H b (k.map kV) ∧ Q (.bl (if neg then !(atKey xs k).isSome else (atKey xs k).isSome)) H
def dInW (w : World) (neg : Bool) (i : Nat) (t : T2E) : T2E := fun env Q => match env[i]? with
  | some (some (.dct w' ks)) => w' = w ∧ t env fun x => (match keyD x with | some k => Q (.bool (if neg then !(valD ks k).isSome else (valD ks k).isSome)) | none => False)
  | _ => False
section
variable {K : Fg} {w : World} {te : TE} {t2 : T2E}
end
end Z2
namespace Z2
open PySem PySem.Spec PyProof.Rows L2
/-! ### an own list lent to a function of the text -/
mutual
def noLst : D → Bool | .list _ => false | .dict _ => false | .tuple ds => noLsts ds | _ => true
def noLsts : List D → Bool | [] => true | d :: ds => noLst d && noLsts ds
end
def thawOk (ds : List D) (d : D) : Prop := noLst d = true ∨ ∃ es, d = .list es ∧ noLsts es = true ∧ ds.all flatD = true ∧ es ≠ ds
def cutH (I : Hp) (a : Addr) : Hp := fun b => if b = a then none else I b
theorem cutH_ne {I : Hp} {a b : Addr} (h : b ≠ a) : cutH I a b = I b := by unfold cutH; rw [if_neg h]
section
variable {K : Fg}
theorem SqT.cut {I : Hp} {a b : Addr} {vs ws : List V} (ha : I a = some (.lst ws)) (h : SqT K I b vs) : SqT K (cutH I a) b vs := by
  rcases h with (h | ⟨o, h⟩) | h
  · have hb : b ≠ a := fun e => by rw [e, ha] at h; cases h
    exact .inl (.inl (by rw [cutH_ne hb]; exact h))
  · have hb : b ≠ a := fun e => by rw [e, ha] at h; cases h
    exact .inl (.inr ⟨o, by rw [cutH_ne hb]; exact h⟩)
  · exact .inr h
mutual
theorem Rp.cut {I : Hp} {a : Addr} {ws : List V} (ha : I a = some (.lst ws)) : ∀ (d : D) (v : V), noLst d = true → Rp K I v d → Rp K (cutH I a) v d
  | .none, _, _, h => by cases h; exact .non
  | .bool _, _, _, h => by cases h; exact .bl _
  | .int _, _, _, h => by cases h; exact .int _
  | .str _, _, _, h => by cases h; exact .str _
  | .list ds, _, c, h => by simp [noLst] at c
  | .tuple ds, _, c, h => by
    cases h with
    | tup h1 h2 => exact .tup (SqT.cut ha h1) (Rps.cut2 ha ds _ (by simpa [noLst] using c) h2)
  | .dict _, _, c, h => by simp [noLst] at c
theorem Rps.cut2 {I : Hp} {a : Addr} {ws : List V} (ha : I a = some (.lst ws)) : ∀ (ds : List D) (vs : List V), noLsts ds = true → Rps K I vs ds → Rps K (cutH I a) vs ds
  | [], _, _, h => by cases h; exact .nil
  | d :: ds, _, c, h => by
    have c : (noLst d && noLsts ds) = true := by simpa [noLsts] using c
    rw [Bool.and_eq_true] at c
    cases h with
    | cons h1 h2 => exact .cons (Rp.cut ha d _ c.1 h1) (Rps.cut2 ha ds _ c.2 h2)
end
/-- what is held while the list at name i is lent -/
def LJ (env : Ev) (σ : L2.St) (i : Nat) (I H J : Hp) : Prop := match env[i]? with
  | some (some (.own _)) => ∃ (a : Addr) (ws : List V), σ[i]? = some (some (.ref a)) ∧ H a = some (.lst ws) ∧ J = upd I a (.lst ws)
  | _ => J = I
section
variable {p : P0} {env : Ev} {σ : L2.St} {I H I' H' J : Hp} {i : Nat}
theorem LJ.same (r : RelL K p env σ I H) (h : LJ env σ i I H J) : Same I J ∧ Same J H := by
  unfold LJ at h
  split at h
  · rename_i ds e
    obtain ⟨a, ws, h1, h2, rfl⟩ := h
    obtain ⟨v, hv, b, us, rfl, e2, e3, e4, e5⟩ := r.r.sl i _ e
    rw [h1] at hv
    cases hv
    refine ⟨fun b o q => by rw [upd_ne (ne_of_none q e3)]; exact q, fun b o q => ?_⟩
    by_cases hb : b = a
    · subst hb; rw [upd_same] at q; cases q; exact h2
    · rw [upd_ne hb] at q; exact r.same b o q
  · subst h
    exact ⟨Same.refl _, r.same⟩
theorem LJ.ex (r : RelL K p env σ I H) (i : Nat) : ∃ J, LJ env σ i I H J := by
  unfold LJ
  split
  · rename_i ds e
    obtain ⟨v, hv, b, us, rfl, e2, e3, e4, e5⟩ := r.r.sl i _ e
    exact ⟨_, b, us, hv, e4, rfl⟩
  · exact ⟨_, rfl⟩
end
def SAL (K : Fg) (i n : Nat) (ta : TA) (t : T2A) : Prop := ∀ (p : P0) (env : Ev) (σ : L2.St) (I H : Hp) (Q2 : List D → Prop) (Q : List V → Hp → Prop), RelL K p env σ I H → t env Q2 →
  (∀ ds vs I' H' J, Q2 ds → vs.length = n → Stp p I H I' H' → LJ env σ i I' H' J → Rps K J vs ds → Q vs H') → ta σ H Q
/-- the lent list -/
def dLv (i : Nat) : T2E := fun env Q => match env[i]? with | some (some (.own ds)) => Q (.list ds) | some (some (.dat d)) => Q d | _ => False
variable {te : TE} {a : T2E}
/-- the call of a function of the text, with the list at name i lent -/
def dCBL (i : Nat) (f : RCD) (t : T2A) : T2E := fun env Q => match env[i]? with
  | some (some (.own ds)) => t env fun es => f es fun d => thawOk ds d ∧ Q d
  | _ => t env fun es => f es Q
/-- a list of one's own may be left for good here -/
def dFrzQ (i : Nat) (t : T2S) : T2S := fun E env => t E env ∨ match env[i]? with | some (some (.own ds)) => t E (env.set i (some (.dat (.list ds)))) | _ => False
/-! ### xs.index(y), y in it; flat -/
def dIdx1 (ds : List D) (x : D) (Q : D → Prop) : Prop := flatD x = true ∧ ds.all flatD = true ∧ ∃ (j : Nat) (z : D), ds[j]? = some z ∧ PyData.eqv z x = true ∧ (∀ (m : Nat) (z' : D), m < j → ds[m]? = some z' → PyData.eqv z' x = false) ∧ Q (.int (j : Nat))
def dOIdx (i : Nat) (t : T2E) : T2E := fun env Q => match env[i]? with
  | some (some (.own ds)) => t env fun x => dIdx1 ds x Q
  | some (some (.dat (.list ds))) => t env fun x => dIdx1 ds x Q
  | _ => False
/-! ### xs.insert(i, y) -/
def dIns (i : Nat) (t u : T2E) : T2S := fun E env => match env[i]? with
  | some (some (.own ds)) => t env fun k => u env fun d => (match k with | .int j => 0 ≤ j ∧ j < 1000000 ∧ ds.length < 1000000 ∧ E.nx (env.set i (some (.own (ds.take j.toNat ++ [d] ++ ds.drop j.toNat)))) | _ => False)
  | _ => False
def rIns : V → List V → Hp → VK → Prop := fun x vs H Q => ∃ (l : Addr) (xs : List V) (i : Int) (y : V), x = .ref l ∧ vs = [.int i, y] ∧ H l = some (.lst xs) ∧ xs.length < sizeLine ∧ 0 ≤ i ∧ i < 2 ^ 63 ∧
    Q .non (upd H l (.lst (xs.take i.toNat ++ [y] ++ xs.drop i.toNat)))
end
end Z2
namespace Z2
open PySem PySem.Spec PyProof.Rows L2
/-! ### sorted of tuples of ints and texts -/
abbrev KK := List (Int ⊕ List Nat)
def ltK (a b : KK) : Bool := lexLt itemOrd a b
def keyAt (h : Heap) (sh : Nat → Bool) (v : Value) : KK := (tupKey h sh v).getD []
/-- the items of a tuple as a key -/
def itV (sh : Nat → Bool) : Nat → List V → Option KK
  | _, [] => some []
  | i, .int n :: r => if sh i = true then none else (itV sh (i + 1) r).map (Sum.inl n :: ·)
  | i, .str x :: r => if sh i = true then (itV sh (i + 1) r).map (Sum.inr x.cps.toList :: ·) else none
  | _, _ :: _ => none
def KeyV (K : Fg) (H : Hp) (sh : Nat → Bool) (v : V) (k : KK) : Prop := ∃ t ws, v = .ref t ∧ SqT K H t ws ∧ itV sh 0 ws = some k ∧ ws ≠ []
section
variable {prog : Program} {w : World} {A : Around} {E : Value → Shared → Prop} {s : Shared}
end
section
variable {X : Cx}
def rSortT2 (K : Fg) : List V → Hp → VK → Prop := fun vs H Q => ∃ (a : Addr) (xs : List V) (sh : Nat → Bool) (kl : List KK), vs = [V.ref a] ∧ (SqL K H a xs ∨ SqT K H a xs) ∧ xs.length = kl.length ∧ (∀ p ∈ xs.zip kl, KeyV K H sh p.1 p.2) ∧
  ∀ (m : List (V × KK)) (p : Addr), m.Perm (xs.zip kl) → m.Pairwise (fun x y => ltK y.2 x.2 = false) → H p = none → Q (.ref p) (upd H p (.lst (m.map (·.1))))
/-! ### sorted by a function of the text -/
def keysT (sp : Sp) (C : List V → Hp → Prop) : List V → List V → Hp → Prop
  | [], ks, H => C ks H
  | x :: xs, ks, H => sp [x] H (fun k H' => keysT sp C xs (ks ++ [k]) H') E0
def rSortKF (K : Fg) (F : Addr) (sp : Sp) : List V → List V → Hp → VK → Prop := fun vs zs H Q => ∃ (a : Addr) (xs : List V), vs = [V.ref a] ∧ zs = [V.ref F] ∧ SqL K H a xs ∧
  keysT sp (fun ks H' => ∃ (sh : Nat → Bool) (kl : List KK), xs.length = kl.length ∧ (∀ p ∈ ks.zip kl, KeyV K H' sh p.1 p.2) ∧
    ∀ (m : List (V × KK)) (p : Addr), m.Perm (xs.zip kl) → m.Pairwise (fun x y => ltK y.2 x.2 = false) → H' p = none → Q (.ref p) (upd H' p (.lst (m.map (·.1))))) xs [] H
end
end Z2
namespace Z2
open PySem PySem.Spec PyProof.Rows L2
section
variable {X : Cx}
def rSort1 (K : Fg) (sp : Sp) : V → Hp → VK → Prop := fun x H Q => ∃ (a : Addr) (xs : List V), x = V.ref a ∧ SqL K H a xs ∧
  keysT sp (fun ks H' => ∃ (sh : Nat → Bool) (kl : List KK), xs.length = kl.length ∧ (∀ p ∈ ks.zip kl, KeyV K H' sh p.1 p.2) ∧
    ∀ (m : List (V × KK)) (p : Addr), m.Perm (xs.zip kl) → m.Pairwise (fun x y => ltK y.2 x.2 = false) → H' p = none → Q (.ref p) (upd H' p (.lst (m.map (·.1))))) xs [] H
def tSortK (K : Fg) (sp : Sp) (te : TE) : TE := fun σ H Q => te σ H fun x H1 => rSort1 K sp x H1 Q
end
/-! ### over data -/
def itD (sh : Nat → Bool) : Nat → List D → Option KK
  | _, [] => some []
  | i, .int n :: r => if sh i = true then none else (itD sh (i + 1) r).map (Sum.inl n :: ·)
  | i, .str x :: r => if sh i = true then (itD sh (i + 1) r).map (Sum.inr x.cps.toList :: ·) else none
  | _, _ :: _ => none
def kyD (sh : Nat → Bool) : D → Option KK | .tuple (d :: ds) => itD sh 0 (d :: ds) | _ => none
section
variable {K : Fg}
/-- an order by keys -/
def OrdK (kf : D → KK) (ds : List D) : Prop := ds.Pairwise fun x y => ltK (kf y) (kf x) = false
/-- sorted(xs) of tuples -/
def dSortT : List D → (List D → Prop) → Prop := fun ds Q => match ds with
  | [x] => (match seqOf x with | some xs => ∃ (sh : Nat → Bool) (kf : D → KK), (∀ d ∈ xs, kyD sh d = some (kf d)) ∧ ∀ xs', xs'.Perm xs → OrdK kf xs' → Q xs' | none => False)
  | _ => False
/-- sorted(xs, key=f) -/
def dSortKF (f : RCD) (a : T2E) : T2A := fun env Q => a env fun x => match x with
  | .list xs => ∃ (sh : Nat → Bool) (kd : D → D) (kf : D → KK), (∀ d ∈ xs, ∀ R : D → Prop, R (kd d) → f [d] R) ∧ (∀ d ∈ xs, kyD sh (kd d) = some (kf d)) ∧ ∀ xs', xs'.Perm xs → OrdK kf xs' → Q xs'
  | _ => False
end
end Z2
namespace Z2
open PySem PySem.Spec PyProof.Rows L2
/-! ### zip of a tuple and a list -/
def ItzM (K : Fg) (a b : Addr) : It :=
  ⟨fun i H => ∃ (xs ys : List V) (x y : V), SqT K H a xs ∧ SqL K H b ys ∧ xs[i]? = some x ∧ ys[i]? = some y,
   fun i H v H' => ∃ T x y, v = .ref T ∧ H T = none ∧ H' = upd H T (.tup [x, y]) ∧ (∀ xs, SqT K H a xs → xs[i]? = some x) ∧ ∀ ys, SqL K H b ys → ys[i]? = some y,
   fun i H => ∃ xs ys : List V, SqT K H a xs ∧ SqL K H b ys ∧ i ≤ xs.length ∧ i ≤ ys.length ∧ (i = xs.length ∨ i = ys.length)⟩
structure ZipSt (a b z TI TO i1 i2 : Addr) (i : Nat) (h : Heap) : Prop where
  zz : IsZip h z TI TO .none
  ti : IsTupOf2 h TI (.ref i1) (.ref i2)
  to : ∃ x y, IsTupOf2 h TO x y
  it1 : h.IsTupleIter i1 a i
  it2 : h.IsListIter i2 b i
def iZipM (K : Fg) (ta : TA) : TI := fun σ H R => ta σ H fun vs H1 => ∃ a b xs ys, vs = [.ref a, .ref b] ∧ SqT K H1 a xs ∧ SqL K H1 b ys ∧ R (ItzM K a b) H1
section
variable {K : Fg}
def diZipM (t : T2A) : T2I := fun env Q => t env fun ds => match ds with | [.tuple xs, .list ys] => Q (dZip xs ys) | _ => False
end
end Z2
namespace Z2
open PySem PySem.Spec PyProof.Rows L2
/-! ### xs[i], xs[j] = x, y -/
def dSwap (i : Nat) (t u w : T2E) : T2S := fun E env => t env fun d => match d with
  | .tuple [x, y] => (match env[i]? with
    | some (some (.own ds)) => u env fun k => (match k with
      | .int j => (match ixN ds.length j with
        | some n => w (env.set i (some (.own (ds.set n x)))) fun k2 => (match k2 with
          | .int j2 => (match ixN (ds.set n x).length j2 with
            | some n2 => E.nx ((env.set i (some (.own (ds.set n x)))).set i (some (.own ((ds.set n x).set n2 y))))
            | none => False)
          | _ => False)
        | none => False)
      | _ => False)
    | _ => False)
  | _ => False
end Z2
namespace Z2
open PySem PySem.Spec PyProof.Rows L2
/-! ### sorted of ints, however many -/
def dSortI : List D → (List D → Prop) → Prop := fun ds Q => match ds with
  | [.list xs] => (match allInt xs with | some ns => ∀ ns' : List Int, ns'.Perm ns → ns'.Pairwise (· ≤ ·) → Q (ns'.map PyData.int) | none => False) | _ => False
end Z2
namespace Z2
open PySem PySem.Spec PyProof.Rows L2
/-! ### a comprehension with two fors -/
/-- what a name owns behind a target it owned ahead of it, or it is data -/
def Sub2 (e env : Ev) : Prop := ∀ (j : Nat) (x : Sl), e[j]? = some (some x) → (∃ d, x = .dat d) ∨ env[j]? = some (some x)
theorem Sub2.refl (e : Ev) : Sub2 e e := fun _ _ h => .inr h
theorem Sub2.trans {a b c : Ev} (h : Sub2 a b) (k : Sub2 b c) : Sub2 a c := fun j x e => (h j x e).elim .inl (k j x)
def GP (g : T2G) : Prop := ∀ (d : D) (env : Ev) (Q : Ev → Prop), g d env Q → g d env fun e => Q e ∧ Sub2 e env
def GPs (g : T2Gs) : Prop := ∀ (ds : List D) (env : Ev) (Q : Ev → Prop), g ds env Q → g ds env fun e => Q e ∧ Sub2 e env
def GM (g : T2G) : Prop := ∀ (d : D) (env : Ev) (Q Q' : Ev → Prop), (∀ e, Q e → Q' e) → g d env Q → g d env Q'
def GMs (g : T2Gs) : Prop := ∀ (ds : List D) (env : Ev) (Q Q' : Ev → Prop), (∀ e, Q e → Q' e) → g ds env Q → g ds env Q'
/-- a target that sets names to data alone -/
structure GD (g : T2G) : Prop where
  p : GP g
  m : GM g
structure GDs (g : T2Gs) : Prop where
  p : GPs g
  m : GMs g
def lcD2 (g : T2G) (tt : T2T) (ti1 : T2I) (g1 : T2G) (tt1 : T2T) (te : T2E) (vs1 : List Nat) (env : Ev) : List D → (List D → Prop) → Prop
  | [], Q => Q []
  | d :: ds, Q => g d env fun env1 => tt env1 fun b => if b = true then ti1 env1 fun es => es.length ≤ 1000 ∧ lcD g1 tt1 te (wipeE env1 vs1) es fun ys => lcD2 g tt ti1 g1 tt1 te vs1 env ds fun zs => Q (ys ++ zs) else lcD2 g tt ti1 g1 tt1 te vs1 env ds Q
def dLc2 (ti : T2I) (g : T2G) (tt : T2T) (ti1 : T2I) (g1 : T2G) (tt1 : T2T) (te : T2E) (vs vs1 : List Nat) : T2A := fun env Q => ti env fun ds => ds.length ≤ 1000 ∧ lcD2 g tt ti1 g1 tt1 te vs1 (wipeE env vs) ds Q
section
variable {K : Fg}
end
end Z2
namespace Z2
open PySem PySem.Spec PyProof.Rows L2
/-- what is walked: a range that a name holds -/
def iRgV (ta : TE) : TI := fun σ H R => ta σ H fun x H1 => ∃ (a : Addr) (n : Int), x = .ref a ∧ H1 a = some (.rng 0 n) ∧ -(2 ^ 62) ≤ n ∧ n < 2 ^ 62 ∧ R (Itr 0 n.toNat) H1
section
variable {K : Fg}
/-- x = range(e) -/
def dRngS (i : Nat) (t : T2A) : T2S := fun E env => t env fun ds => match ds with | [.int j] => E.nx (env.set i (some (.rng j))) | _ => False
def diRgV (i : Nat) : T2I := fun env Q => match env[i]? with | some (some (.rng n)) => -1000000 ≤ n ∧ n ≤ 1000000 ∧ Q (dRange 0 n.toNat) | _ => False
/-- tuple(range(e)) -/
def dTupRg (a : T2E) : T2E := fun env Q => a env fun d => match d with | .int n => -1000000 ≤ n ∧ n ≤ 1000000 ∧ Q (.tuple (dRange 0 n.toNat)) | _ => False
end
end Z2
namespace Z2
open PySem PySem.Spec PyProof.Rows L2
/-! ### sorted of data of any depth -/
section
variable {X : Cx}
def rSortD (K : Fg) : List V → Hp → VK → Prop := fun vs H Q => ∃ (a : Addr) (ws : List V) (ds : List D), vs = [V.ref a] ∧ SqL K H a ws ∧ DpAll K H ws ds ∧ PySem.W.AllAlike ds ∧ PySem.W.Sortable ds ∧ (∀ d ∈ ds, d.depth ≤ 60) ∧ ws.length = ds.length ∧
  ∀ (m : List (V × D)) (p : Addr), m.Perm (ws.zip ds) → m.Pairwise (fun x y => ltK (PySem.W.keyToks y.2) (PySem.W.keyToks x.2) = false) → H p = none → Q (.ref p) (upd H p (.lst (m.map (·.1))))
end
def dSortD : List D → (List D → Prop) → Prop := fun ds Q => match ds with
  | [.list xs] => PyData.canLayAll0 xs = true ∧ PySem.W.AllAlike xs ∧ PySem.W.Sortable xs ∧ (∀ d ∈ xs, d.depth ≤ 60) ∧ ∀ xs' : List D, xs'.Perm xs → OrdK PySem.W.keyToks xs' → Q xs'
  | _ => False
/-! ### sorted of a tuple of ints -/
section
variable {X : Cx}
def rSortedIT (K : Fg) : List V → Hp → VK → Prop := fun vs H Q => ∃ (a : Addr) (ns : List Int), vs = [V.ref a] ∧ SqT K H a (ns.map V.int) ∧
  ∀ (ns' : List Int) (p : Addr), ns'.Perm ns → ns'.Pairwise (· ≤ ·) → H p = none → Q (.ref p) (upd H p (.lst (ns'.map V.int)))
end
def dSortIT : List D → (List D → Prop) → Prop := fun ds Q => match ds with
  | [.tuple xs] => (match allInt xs with | some ns => ∀ ns' : List Int, ns'.Perm ns → ns'.Pairwise (· ≤ ·) → Q (ns'.map PyData.int) | none => False) | _ => False
end Z2
namespace Z2
open PySem PySem.Spec PyProof.Rows L2
/-! ### enumerate(zip(t, u)) of two tuples: zip's tuple is not let go here -/
def ZF (h : Heap) (z TI TO : Addr) (f0 : Value) (f : Bool) : Prop := h.get? z = some { cls := .type "zip", dict := none, data := .fields #[f0, .bool f, .bool false, .ref TI, .ref TO], slots := #[] }
theorem ZF.obj {h : Heap} {z TI TO : Addr} {f0 : Value} {f : Bool} (x : ZF h z TI TO f0 f) : h.get? z = some { cls := .type "zip", dict := none, data := .fields #[f0, .bool f, .bool false, .ref TI, .ref TO], slots := #[] } := x
structure ZS (a b z TI TO i1 i2 : Addr) (i : Nat) (h : Heap) : Prop where
  zz : ∃ f0 f, ZF h z TI TO f0 f ∧ (f0 = .none ∨ ∃ T : Addr, f0 = rawInt T)
  ti : IsTupOf2 h TI (.ref i1) (.ref i2)
  to : ∃ x y, IsTupOf2 h TO x y
  c1 : h.IsTupleIter i1 a i
  c2 : h.IsTupleIter i2 b i
theorem ZS.keep {a b z TI TO i1 i2 : Addr} {i : Nat} {h h' : Heap} (x : ZS a b z TI TO i1 i2 i h) (k : ∀ c ∈ [z, TI, TO, i1, i2], ∀ o, h.get? c = some o → h'.get? c = some o) : ZS a b z TI TO i1 i2 i h' := by
  obtain ⟨⟨f0, f, x1, x2⟩, h2, ⟨u, v, h3⟩, h4, h5⟩ := x
  exact ⟨⟨f0, f, k z (by simp) _ x1, x2⟩, k TI (by simp) _ h2, ⟨u, v, k TO (by simp) _ h3⟩, h4.at fun o q => k i1 (by simp) o q, h5.at fun o q => k i2 (by simp) o q⟩
section
variable {prog : Program} {w : World} {A : Around} {E : Value → Shared → Prop} {s : Shared} {a b z TI TO i1 i2 : Addr} {i : Nat}
end
/-! the walk -/
def ItEZ (K : Fg) (a b : Addr) : It :=
  ⟨fun i H => ∃ (xs ys : List V) (x y : V), SqT K H a xs ∧ SqT K H b ys ∧ xs[i]? = some x ∧ ys[i]? = some y,
   fun i H v H' => ∃ T U x y, v = .ref U ∧ H T = none ∧ H U = none ∧ U ≠ T ∧ H' = upd (upd H T (.tup [x, y])) U (.tup [.int (i : Nat), .ref T]) ∧ (∀ xs, SqT K H a xs → xs[i]? = some x) ∧ ∀ ys, SqT K H b ys → ys[i]? = some y,
   fun i H => ∃ xs ys : List V, SqT K H a xs ∧ SqT K H b ys ∧ i = xs.length ∧ i = ys.length⟩
open Sem (wp) in
theorem newZ (z TI TO : Addr) :
    Meets (Builtin.«enumerate.__new__» ⟨[.type "enumerate", .ref z], []⟩) (fun _ R s => IsZip s.heap z TI TO .none ∧
      R (.ok (.ret (.ref s.heap.objs.size))) { s with heap := s.heap.push (enO z) }) :=
  .of_wp fun prog w A R s hh => by
    obtain ⟨hp, gs, dr, tk, os⟩ := s
    obtain ⟨hz, hh⟩ := hh
    have subE := sub_enumerate
    have itZ : ∀ {A : Around} {Q : Value → Shared → Prop} {E : Value → Shared → Prop}, Q (.ref z) ⟨hp, gs, dr, tk, os⟩ → wpAny (model prog w) A (pyIter (.ref z)) Q E ⟨hp, gs, dr, tk, os⟩ := fun h => wpAny_pyIter_zip hz h
    wp_walk using AutoSeq1.wpAny_loadPart' hz
    refine wpAny_stack_any fun st => wpAny_pure ?_
    split
    · rename_i c _ _ _ _ _
      cases (c == Value.type "enumerate") <;> (wp_walk using AutoSeq1.wpAny_loadPart' hz, itZ; exact ⟨_, rfl, hh⟩)
    · wp_walk using AutoSeq1.wpAny_loadPart' hz, itZ
      exact ⟨_, rfl, hh⟩
def iEnumZ (K : Fg) (ta : TA) : TI := fun σ H R => ta σ H fun vs H1 => ∃ a b xs ys, vs = [.ref a, .ref b] ∧ SqT K H1 a xs ∧ SqT K H1 b ys ∧ R (ItEZ K a b) H1
section
variable {K : Fg}
def diEnumZ (t : T2A) : T2I := fun env Q => t env fun ds => match ds with | [.tuple xs, .tuple ys] => xs.length = ys.length ∧ Q (dEnum (dZip xs ys)) | _ => False
end
end Z2
namespace Z2
open PySem PySem.Spec PyProof.Rows L2
/-! ### zip of a list and a tuple -/
def ItzML (K : Fg) (a b : Addr) : It :=
  ⟨fun i H => ∃ (xs ys : List V) (x y : V), SqL K H a xs ∧ SqT K H b ys ∧ xs[i]? = some x ∧ ys[i]? = some y,
   fun i H v H' => ∃ T x y, v = .ref T ∧ H T = none ∧ H' = upd H T (.tup [x, y]) ∧ (∀ xs, SqL K H a xs → xs[i]? = some x) ∧ ∀ ys, SqT K H b ys → ys[i]? = some y,
   fun i H => ∃ xs ys : List V, SqL K H a xs ∧ SqT K H b ys ∧ i ≤ xs.length ∧ i ≤ ys.length ∧ (i = xs.length ∨ i = ys.length)⟩
structure ZipStL (a b z TI TO i1 i2 : Addr) (i : Nat) (h : Heap) : Prop where
  zz : IsZip h z TI TO .none
  ti : IsTupOf2 h TI (.ref i1) (.ref i2)
  to : ∃ x y, IsTupOf2 h TO x y
  it1 : h.IsListIter i1 a i
  it2 : h.IsTupleIter i2 b i
def iZipML (K : Fg) (ta : TA) : TI := fun σ H R => ta σ H fun vs H1 => ∃ a b xs ys, vs = [.ref a, .ref b] ∧ SqL K H1 a xs ∧ SqT K H1 b ys ∧ R (ItzML K a b) H1
section
variable {K : Fg}
def diZipML (t : T2A) : T2I := fun env Q => t env fun ds => match ds with | [.list xs, .tuple ys] => Q (dZip xs ys) | _ => False
end
end Z2
namespace Z2
open PySem PySem.Spec PyProof.Rows L2
def metN (ns : List Int) : Nat := (PyProof.Rows.firstMet (fun i => ns.getD i 0) ns.length).length
def tLenSetD (K : Fg) (ta : TE) : TE := fun σ H Q => ta σ H fun x H1 => ∃ (l : Addr) (ns : List Int), x = .ref l ∧ SqL K H1 l (ns.map V.int) ∧ ns.length ≤ 4000 ∧ Q (.int (metN ns : Nat)) H1
def dLenSetD (a : T2E) : T2E := fun env Q => a env fun d => match d with | .list xs => (match allInt xs with | some ns => ns.length ≤ 4000 ∧ Q (.int (metN ns : Nat)) | none => False) | _ => False
end Z2
namespace Z2
open PySem PySem.Spec PyProof.Rows L2
section
variable {X : Cx}
def rBestT (up : Bool) (K : Fg) : List V → Hp → VK → Prop := fun vs H Q => ∃ (a : Addr) (ns : List Int), vs = [V.ref a] ∧ SqT K H a (ns.map V.int) ∧ 0 < ns.length ∧ ∀ m, m ∈ ns → (∀ y, y ∈ ns → if up then y ≤ m else m ≤ y) → Q (.int m) H
end
def dMaxT : RCD := fun ds Q => match ds with | [.tuple xs] => (match allInt xs with | some bs => 0 < bs.length ∧ Q (.int (maxD bs)) | none => False) | _ => False
def dMinT : RCD := fun ds Q => match ds with | [.tuple xs] => (match allInt xs with | some bs => 0 < bs.length ∧ Q (.int (minD bs)) | none => False) | _ => False
end Z2
namespace Z2
open PySem PySem.Spec PyProof.Rows L2
/-! ### x = [left.pop(..) for ..] -/
def popE (i : Nat) (g : T2G) (te : T2E) (vs : List Nat) : Ev → List D → (Ev → List D → Prop) → Prop
  | env, [], Q => Q env []
  | env, d :: ds, Q => match env[i]? with
    | some (some (.own xs)) => g d (wipeE env vs) fun env1 => te env1 fun k => match k with
      | .int j => (match ixN xs.length j with | some m => (match xs[m]? with | some y => -(2 ^ 63) ≤ j ∧ j < 2 ^ 63 ∧ popE i g te vs (env.set i (some (.own (xs.eraseIdx m)))) ds fun env2 ys => Q env2 (y :: ys) | none => False) | none => False)
      | _ => False
    | _ => False
def dAsgPop (i k : Nat) (ti : T2I) (g : T2G) (te : T2E) (vs : List Nat) : T2S := fun E env => ti env fun ds => ds.length ≤ 1000000 ∧ popE i g te vs env ds fun env2 ys => k < env2.length ∧ E.nx (env2.set k (some (.dat (.list ys))))
end Z2
namespace Z2
open PySem PySem.Spec PyProof.Rows L2
/-! ### sorted(set(xs)) of a list of nums, any number of them -/
section
variable {P : Program} {w : World} {A : Around} {E : Value → Shared → Prop} {s : Shared}
/-- a set as it is made -/
abbrev nilSet (w : World) : Obj := { cls := .type "set", dict := none, data := .set #[] 0 (.fresh 0 0 (!w.params.followText "set-order")) }
end
def tSortSet (K : Fg) (ta : TE) : TE := fun σ H Q => ta σ H fun x H1 => ∃ (l : Addr) (ns : List Int), x = .ref l ∧ SqL K H1 l (ns.map V.int) ∧ ns.length ≤ 4000 ∧
  ∀ (out : List Int) (B : Addr), out.Pairwise (· < ·) → (∀ k, k ∈ out ↔ k ∈ ns) → H1 B = none → Q (.ref B) (upd H1 B (.lst (out.map V.int)))
/-- the members, each once, ascending -/
def dSortSet (a : T2E) : T2A := fun env Q => a env fun d => match d with | .list xs => (match allInt xs with | some ns => ns.length ≤ 4000 ∧ ∀ out : List Int, out.Pairwise (· < ·) → (∀ k, k ∈ out ↔ k ∈ ns) → Q (out.map PyData.int) | none => False) | _ => False
end Z2
namespace Z2
open PySem PySem.Spec PyProof.Rows L2
/-! ### tests of what may raise -/
section
variable {K : Fg} {C : Cnd} {t1 t1' : TT} {c2 c2' : T2T}
end
end Z2
namespace Z2
open PySem PySem.Spec PyProof.Rows L2
/-! ### what a name holds, returned as it is; a def that hands out a list of its own -/
def dRetV (i : Nat) : T2S := fun E env => (∃ x, env[i]? = some (some x)) ∧ E.rv env i
def spSO (K : Fg) (n : Nat) (f : List D → (List D → Prop) → Prop) : Sp := fun vs H Q _ => ∃ (I : Hp) (a : Addr) (ws : List V) (ds : List D) (Q2 : List D → Prop), vs = .ref a :: ws ∧ ws.length = n ∧ Same I H ∧ Strm I H a ∧ Rps K I ws ds ∧ f ds Q2 ∧
  ∀ es b us I' H', Q2 es → Gr (some a) I H I' H' → Strm I' H' a → H b = none → I' b = none → H' b = some (.lst us) → Rps K I' us es → Q (.ref b) H'
def bodySO (N n : Nat) (t : T2S) : List D → (List D → Prop) → Prop := fun ds Q => ds.length = n ∧ t { nx := fun _ => False, rt := fun _ => False, rv := fun env i => ∃ es, env[i]? = some (some (.own es)) ∧ Q es } (some .strm :: envD N n ds)
def dAsgCO (s : Nat) (f : List D → (List D → Prop) → Prop) (t : T2A) (i : Nat) : T2S := fun E env => (match env[s]? with | some (some .strm) => True | _ => False) ∧ t env fun ds => f ds fun es => E.nx (env.set i (some (.own es)))
section
variable {K : Fg} {n : Nat} {ta : TA} {t : T2A} {E0 : XK} {f : List D → (List D → Prop) → Prop}
end
section
variable {P : Program} {w : World} {K : Fg} {mg : Str → Option Value} {base : Heap} {x : Str} {ps : List Str}
end
end Z2
namespace Z2
open PySem PySem.Spec PyProof.Rows L2
theorem lk_map {α β : Type} {f : Str} (g : α → β) : ∀ (l : List (Str × α)), (l.map fun y => (y.1, g y.2)).lookup f = (l.lookup f).map g
  | [] => rfl
  | (h, y) :: l => by
    rw [List.map_cons, List.lookup_cons, List.lookup_cons]
    show (match f == h with | true => some (g y) | false => (l.map fun y => (y.1, g y.2)).lookup f) = Option.map g (match f == h with | true => some y | false => l.lookup f)
    cases f == h with
    | true => rfl
    | false => exact lk_map g l
theorem lk_keys {α : Type} {f : Str} : ∀ {l : List (Str × α)}, l.lookup f = none ↔ ∀ y ∈ l, (f == y.1) = false
  | [] => Iff.intro (fun _ y hy => (nomatch hy)) fun _ => rfl
  | (g, x) :: l => by
    rw [List.lookup_cons]
    show (match f == g with | true => some x | false => l.lookup f) = none ↔ _
    cases e : f == g with
    | true => exact ⟨fun z => (nomatch z), fun h => by have := h _ List.mem_cons_self; rw [e] at this; cases this⟩
    | false => exact lk_keys.trans ⟨fun h y hy => (List.mem_cons.mp hy).elim (fun z => by rw [z]; exact e) (h y), fun h y hy => h y (List.mem_cons_of_mem _ hy)⟩
theorem lk_set {α : Type} {f g : Str} {x y : α} {l : List (Str × α)} {k : Nat} (hk : l[k]? = some (g, x)) (h : (l.set k (g, y)).lookup f = none) : l.lookup f = none := by
  rw [lk_keys] at h ⊢
  intro z hz
  obtain ⟨j, hj⟩ := List.mem_iff_getElem?.mp hz
  by_cases e : k = j
  · subst e
    rw [hk] at hj
    cases hj
    exact h (g, y) (List.mem_of_getElem? (List.getElem?_set_self (List.getElem?_eq_some_iff.mp hk).1))
  · exact h z (List.mem_of_getElem? (by rw [List.getElem?_set_ne e]; exact hj))
/-- what the text says of the class -/
structure OC (K : Fg) (C : Addr) (fl : List Str) : Prop where
  cls : Cls K C
  no : ∀ f ∈ fl, NoAttr K C f
def dFld (C : Addr) (i k : Nat) (f : Str) : T2E := fun env Q => match env[i]? with
  | some (some (.obf _ C' fs)) => (match fs[k]? with | some (g, d) => (C' = C ∧ g = f) ∧ Q d | none => False)
  | some (some (.obj _ C' fs _)) => (match fs[k]? with | some (g, d) => (C' = C ∧ g = f) ∧ Q d | none => False)
  | _ => False
/-- the lists, as data -/
def lsD (ls : List (Str × Addr × List D)) : List (Str × D) := ls.map fun x => (x.1, .list x.2.2)
section
variable {K : Fg} {C : Addr} {fl : List Str} {f : Str}
theorem se_fld (T : OC K C fl) (i k : Nat) (hf : f ∈ fl := by decide) : SE K (tFld K (tVar i) f) (dFld C i k f) := by
  intro p env σ I H Q2 Q r q kk
  unfold dFld at q
  split at q
  · rename_i a C' fs e
    obtain ⟨v, hv, rfl, dx, vs, h1, h2, h3⟩ := r.r.sl i _ e
    split at q
    · rename_i g d hl
      obtain ⟨⟨rfl, rfl⟩, q⟩ := q
      obtain ⟨u, g1, g2⟩ := h2 g d (List.mem_of_getElem? hl)
      exact ⟨_, hv, a, C', dx, vs, u, rfl, r.same _ _ h1, T.cls, T.no g hf, g1, kk d u I H q (.refl r.same) g2⟩
    · exact q.elim
  · rename_i a C' fs ls e
    obtain ⟨v, hv, rfl, ⟨dx, vs, h1, h2, h3⟩, _⟩ := r.r.sl i _ e
    split at q
    · rename_i g d hl
      obtain ⟨⟨rfl, rfl⟩, q⟩ := q
      obtain ⟨u, g1, g2⟩ := h2 g d (List.mem_of_getElem? hl)
      exact ⟨_, hv, a, C', dx, vs, u, rfl, r.same _ _ h1, T.cls, T.no g hf, g1, kk d u I H q (.refl r.same) g2⟩
    · exact q.elim
  · exact q.elim
end
/-! ### the lists of an instance, held still while an expression is read -/
def nS (env : Ev) : Ev := env.map fun x => match x with | some .strm => none | x => x
theorem nS_get {env : Ev} {j : Nat} {x : Sl} (h : (nS env)[j]? = some (some x)) : env[j]? = some (some x) ∧ x ≠ .strm := by
  unfold nS at h
  rw [List.getElem?_map] at h
  cases e : env[j]? with
  | none => rw [e] at h; cases h
  | some o =>
    rw [e] at h
    cases o with
    | none => cases h
    | some y => cases y <;> first | (cases h; exact ⟨rfl, fun z => nomatch z⟩) | cases h
def cutBs (H : Hp) (bs : List Addr) : Hp := fun c => if c ∈ bs then none else H c
theorem cutBs_in {H : Hp} {bs : List Addr} {c : Addr} (h : c ∈ bs) : cutBs H bs c = none := if_pos h
theorem cutBs_out {H : Hp} {bs : List Addr} {c : Addr} (h : c ∉ bs) : cutBs H bs c = H c := if_neg h
theorem cutBs_some {H : Hp} {bs : List Addr} {c : Addr} {o : HO} (h : cutBs H bs c = some o) : c ∉ bs ∧ H c = some o := by
  by_cases m : c ∈ bs
  · rw [cutBs_in m] at h; cases h
  · rw [cutBs_out m] at h; exact ⟨m, h⟩
section
variable {K : Fg}
theorem SqT.cuts {I : Hp} {bs : List Addr} {b : Addr} {vs : List V} (ha : ∀ c ∈ bs, ∃ ws, I c = some (.lst ws)) (h : SqT K I b vs) : SqT K (cutBs I bs) b vs := by
  have nb : ∀ o, I b = some o → (∀ ws, o ≠ .lst ws) → b ∉ bs := fun o e n m => by
    obtain ⟨ws, hw⟩ := ha b m
    rw [e] at hw
    cases hw
    exact n _ rfl
  rcases h with (h | ⟨o, h⟩) | h
  · exact .inl (.inl (by rw [cutBs_out (nb _ h fun _ z => nomatch z)]; exact h))
  · exact .inl (.inr ⟨o, by rw [cutBs_out (nb _ h fun _ z => nomatch z)]; exact h⟩)
  · exact .inr h
mutual
theorem Rp.cuts {I : Hp} {bs : List Addr} (ha : ∀ c ∈ bs, ∃ ws, I c = some (.lst ws)) : ∀ (d : D) (v : V), noLst d = true → Rp K I v d → Rp K (cutBs I bs) v d
  | .none, _, _, h => by cases h; exact .non
  | .bool _, _, _, h => by cases h; exact .bl _
  | .int _, _, _, h => by cases h; exact .int _
  | .str _, _, _, h => by cases h; exact .str _
  | .list ds, _, c, h => by simp [noLst] at c
  | .tuple ds, _, c, h => by
    cases h with
    | tup h1 h2 => exact .tup (SqT.cuts ha h1) (Rps.cuts ha ds _ (by simpa [noLst] using c) h2)
  | .dict _, _, c, h => by simp [noLst] at c
theorem Rps.cuts {I : Hp} {bs : List Addr} (ha : ∀ c ∈ bs, ∃ ws, I c = some (.lst ws)) : ∀ (ds : List D) (vs : List V), noLsts ds = true → Rps K I vs ds → Rps K (cutBs I bs) vs ds
  | [], _, _, h => by cases h; exact .nil
  | d :: ds, _, c, h => by
    have c : (noLst d && noLsts ds) = true := by simpa [noLsts] using c
    rw [Bool.and_eq_true] at c
    cases h with
    | cons h1 h2 => exact .cons (Rp.cuts ha d _ c.1 h1) (Rps.cuts ha ds _ c.2 h2)
end
theorem MR.each {H0 I H : Hp} : ∀ {ls : List (Str × Addr × List D)}, MR K H0 I H (ls.map (·.2.1)) (ls.map (·.2.2)) → ∀ x ∈ ls, H0 x.2.1 = none ∧ I x.2.1 = none ∧ ∃ vs, H x.2.1 = some (.lst vs) ∧ Rps K I vs x.2.2
  | [], _, x, hx => by cases hx
  | y :: ls, .cons h1 h2 h3 h4 h5 t, x, hx => by
    rcases List.mem_cons.mp hx with rfl | hx
    · exact ⟨h1, h2, _, h3, h4⟩
    · exact MR.each t x hx
/-- a walk of the state's worth: no draws, the instance's lists held still -/
structure Still (K : Fg) (p : P0) (env : Ev) (σ : L2.St) (I H : Hp) (i : Nat) (a C : Addr) (fs : List (Str × D)) (ls : List (Str × Addr × List D)) (p' : P0) (J : Hp) : Prop where
  rl : RelL K p' (nS (env.set i (some (.obf a C (fs ++ lsD ls))))) σ J H
  bsJ : ∀ c ∈ ls.map (·.2.1), p.H0 c = none ∧ I c = none ∧ ∃ vs, J c = some (.lst vs)
  out : ∀ c, c ∉ ls.map (·.2.1) → J c = I c
  m : p'.m = none
theorem still_ex {p : P0} {env : Ev} {σ : L2.St} {I H : Hp} {i : Nat} {a C : Addr} {fs : List (Str × D)} {ls : List (Str × Addr × List D)} (r : RelL K p env σ I H) (e : env[i]? = some (some (.obj a C fs ls))) : ∃ p' J, Still K p env σ I H i a C fs ls p' J := by
  obtain ⟨v, hv, rfl, ⟨dx, vs, h1, h2, h3⟩, m⟩ := r.r.sl i _ e
  let bs := ls.map (·.2.1)
  let J : Hp := fun c => if c ∈ bs then H c else I c
  have inn : ∀ c, c ∈ bs → J c = H c := fun c h => if_pos h
  have out : ∀ c, c ∉ bs → J c = I c := fun c h => if_neg h
  have live := m.live
  have ii : Same I J := fun c o q => by
    rw [out c fun w => by rw [(live c w).2.1] at q; cases q]
    exact q
  have ih : Same J H := fun c o q => by
    by_cases w : c ∈ bs
    · rw [inn c w] at q; exact q
    · rw [out c w] at q; exact r.same c o q
  let H0' : Hp := fun c => match p.H0 c with | none => none | some _ => H c
  have z0 : ∀ c, p.H0 c = none → H0' c = none := fun c h => by show (match p.H0 c with | none => none | some _ => H c) = none; rw [h]
  have z1 : ∀ c, p.H0 c ≠ none → H0' c = H c := fun c h => by
    show (match p.H0 c with | none => none | some _ => H c) = H c
    cases q : p.H0 c with
    | none => exact absurd q h
    | some _ => rfl
  have z2 : ∀ c o, H0' c = some o → p.H0 c ≠ none ∧ H c = some o := fun c o h => by
    by_cases q : p.H0 c = none
    · rw [z0 c q] at h; cases h
    · rw [z1 c q] at h; exact ⟨q, h⟩
  have oth : ∀ (j : Nat) (x : Sl) (v : V) (c : Addr), i ≠ j → env[j]? = some (some x) → σ[j]? = some (some v) → Cell x v H c → c ∉ bs := fun j x v c n f1 f2 cc w => r.r.sm i j (.obj a C fs ls) x (.ref a) v c n (by simp [isMat]) e f1 hv f2 w cc
  refine ⟨⟨none, J, H0', J⟩, J, ⟨⟨⟨Same.refl _, ih, fun c o q _ => (z2 c o q).2, fun c q n => q, fun c q => ?_⟩, fun j x q => ?_, fun j k x y b n q1 q2 q3 q4 => ?_, (fun s q => nomatch q), Same.refl _, fun j k w w' x y b n q1 q2 q3 => ?_, fun j k x y u u2 c n hm q1 q2 q3 q4 c1 => ?_⟩, ?_⟩, fun c hc => ?_, fun c hc => out c hc, rfl⟩
  · cases w : H0' c with
    | none => exact absurd w q
    | some o => rw [(z2 c o w).2]; exact fun z => nomatch z
  · obtain ⟨q, ns⟩ := nS_get q
    rcases getSet q with ⟨rfl, z, _⟩ | ⟨n, z⟩
    · cases z
      refine ⟨_, hv, rfl, dx, vs, ii _ _ h1, fun f d hd => ?_, (fun f b ds hx => nomatch hx), fun f hf _ => ?_⟩
      · rcases List.mem_append.mp hd with hd | hd
        · obtain ⟨u, g1, g2⟩ := h2 f _ hd
          exact ⟨u, g1, Rp.mono ii _ _ g2⟩
        · obtain ⟨⟨g, b, es⟩, hy, z⟩ := List.mem_map.mp hd
          cases z
          obtain ⟨_, _, ws, g1, g2⟩ := m.each _ hy
          exact ⟨.ref b, h3.1 _ b es hy, .lst ((inn b (List.mem_map.mpr ⟨_, hy, rfl⟩)).trans g1) (Rps.mono ii _ _ g2)⟩
      · unfold lsD at hf
        rw [List.lookup_append] at hf
        cases hl : fs.lookup f with
        | some d' => rw [hl] at hf; cases hf
        | none =>
          rw [hl, Option.none_or, lk_map (fun y : Addr × List D => PyData.list y.2)] at hf
          cases hk : ls.lookup f with
          | none => exact h3.2 f hl hk
          | some y => rw [hk] at hf; cases hf
    · obtain ⟨u, hu, w⟩ := r.r.sl j x z
      refine ⟨u, hu, ?_⟩
      cases x with
      | dat d => exact Rp.mono ii d u w
      | rng _ => obtain ⟨a1, g1, g2⟩ := w; exact ⟨a1, g1, ii _ _ g2⟩
      | strm => exact absurd rfl ns
      | obf _ _ _ => obtain ⟨f1, dx2, vs2, f2, f3, f4⟩ := w; exact ⟨f1, dx2, vs2, ii _ _ f2, f3.mono ii, f4⟩
      | obj _ _ _ _ =>
        obtain ⟨f1, ⟨dx2, vs2, f2, f3, f4⟩, f6⟩ := w
        refine ⟨f1, ⟨dx2, vs2, ii _ _ f2, f3.mono ii, f4⟩, ?_⟩
        have f7 := f6.stays (I' := J) (H' := H) ii fun c hc y1 y2 y3 => ⟨(out c (oth j _ _ c n z hu hc)).trans y2, rfl⟩
        exact f7.low z0
      | own es =>
        obtain ⟨b, ws, f1, f2, f3, f4, f5⟩ := w
        subst f1
        exact ⟨b, ws, rfl, z0 b f2, (out b (oth j _ _ b n z hu rfl)).trans f3, f4, Rps.mono ii es ws f5⟩
      | lnt x =>
        obtain ⟨b, f1, f2, f3, f4⟩ := w
        refine ⟨b, f1, ?_, fun q => (nomatch q), f4.stays ii fun o q => q⟩
        show H0' b ≠ none
        rw [z1 b f2]
        exact r.r.gr.th b f2
      | dct w2 ks =>
        obtain ⟨b, ws, f1, f2, f3, f4, f5⟩ := w
        subst f1
        refine ⟨b, ws, rfl, z0 b f2, (out b fun w2 => ?_).trans f3, f4, KD.mono ii f5⟩
        obtain ⟨_, _, vs2, hv2⟩ := live b w2
        rw [hv2] at f4
        exact nomatch f4
      | dki ks =>
        obtain ⟨b, ws, f1, f2, f3, f4, f5⟩ := w
        subst f1
        refine ⟨b, ws, rfl, z0 b f2, (out b fun w2 => ?_).trans f3, f4, KDI.mono ii f5⟩
        obtain ⟨_, _, vs2, hv2⟩ := live b w2
        rw [hv2] at f4
        exact nomatch f4
      | mat rows2 =>
        obtain ⟨b, cs, f1, f2, f3, f4, f5, f6⟩ := w
        subst f1
        have f7 := f6.stays (I' := J) (H' := H) ii fun c hc y1 y2 y3 => ⟨(out c (oth j _ _ c n z hu (.inr ⟨b, cs, rfl, f4, hc⟩))).trans y2, rfl⟩
        exact ⟨b, cs, rfl, z0 b f2, (out b (oth j _ _ b n z hu (.inl rfl))).trans f3, f4, f5, f7.low z0⟩
  · obtain ⟨q1, _⟩ := nS_get q1
    obtain ⟨q2, _⟩ := nS_get q2
    rcases getSet q1 with ⟨_, z, _⟩ | ⟨n1, y1⟩
    · cases z
    · rcases getSet q2 with ⟨_, z, _⟩ | ⟨n2, y2⟩
      · cases z
      · exact r.r.sep j k x y b n y1 y2 q3 q4
  · obtain ⟨q1, _⟩ := nS_get q1
    obtain ⟨q2, _⟩ := nS_get q2
    rcases getSet q1 with ⟨_, z, _⟩ | ⟨n1, y1⟩
    · cases z
    · rcases getSet q2 with ⟨_, z, _⟩ | ⟨n2, y2⟩
      · cases z
      · exact r.r.sd j k w w' x y b n y1 y2 q3
  · obtain ⟨q1, _⟩ := nS_get q1
    obtain ⟨q2, _⟩ := nS_get q2
    rcases getSet q1 with ⟨rfl, z, _⟩ | ⟨n1, y1⟩
    · cases z; exact c1.elim
    · rcases getSet q2 with ⟨rfl, z, _⟩ | ⟨n2, y2⟩
      · cases z; exact fun c2 => c2.elim
      · exact r.r.sm j k x y u u2 c n hm y1 y2 q3 q4 c1
  · unfold nS
    rw [List.length_map, List.length_set]
    exact r.len
  · obtain ⟨g1, g2, vs2, g3⟩ := live c hc
    exact ⟨g1, g2, vs2, (inn c hc).trans g3⟩
end
end Z2
namespace Z2
open PySem PySem.Spec PyProof.Rows L2
def dFz (i : Nat) (t : T2E) : T2E := fun env Q => match env[i]? with
  | some (some (.obj a C fs ls)) => t (nS (env.set i (some (.obf a C (fs ++ lsD ls))))) fun d => noLst d = true ∧ Q d
  | some (some (.obf _ _ _)) => t env Q
  | _ => False
def dFzT (i : Nat) (t : T2T) : T2T := fun env Q => match env[i]? with
  | some (some (.obj a C fs ls)) => t (nS (env.set i (some (.obf a C (fs ++ lsD ls))))) Q
  | some (some (.obf _ _ _)) => t env Q
  | _ => False
section
variable {K : Fg} {te : TE} {t : T2E}
theorem Still.back {p p' : P0} {env : Ev} {σ : L2.St} {I H I' H' J : Hp} {i : Nat} {a C : Addr} {fs : List (Str × D)} {ls : List (Str × Addr × List D)} (S : Still K p env σ I H i a C fs ls p' J) (s : Stp p' J H I' H') :
    Stp p I H (cutBs I' (ls.map (·.2.1))) H' ∧ ∀ c ∈ ls.map (·.2.1), ∃ ws, I' c = some (.lst ws) := by
  have g := s.gr
  rw [S.m] at g
  refine ⟨.of ⟨fun c o q => ?_, fun c o q => g.ih _ _ (cutBs_some q).2, g.hh, fun c q n => ?_, g.th⟩, fun c hc => ?_⟩
  · have hc : c ∉ ls.map (·.2.1) := fun w => by rw [(S.bsJ c w).2.1] at q; cases q
    rw [cutBs_out hc]
    exact g.ii _ _ ((S.out c hc).trans q)
  · by_cases hc : c ∈ ls.map (·.2.1)
    · exact cutBs_in hc
    · rw [cutBs_out hc]
      exact g.fr c ((S.out c hc).trans q) n
  · obtain ⟨_, _, ws, h⟩ := S.bsJ c hc
    exact ⟨ws, g.ii _ _ h⟩
theorem se_fz (i : Nat) (h : SE K te t) : SE K te (dFz i t) := by
  intro p env σ I H Q2 Q r q k
  unfold dFz at q
  split at q
  · rename_i a C fs ls e
    obtain ⟨p', J, S⟩ := still_ex r e
    refine h p' _ σ J H _ _ S.rl q fun d v I' H' ⟨nl, q'⟩ s rp => ?_
    obtain ⟨s2, hb⟩ := S.back s
    exact k d v _ H' q' s2 (Rp.cuts hb d v nl rp)
  · exact h p env σ I H _ _ r q k
  · exact q.elim
theorem st_fz {tt : TT} {t : T2T} (i : Nat) (h : ST K tt t) : ST K tt (dFzT i t) := by
  intro p env σ I H Q2 Q r q k
  unfold dFzT at q
  split at q
  · rename_i a C fs ls e
    obtain ⟨p', J, S⟩ := still_ex r e
    refine h p' _ σ J H _ _ S.rl q fun d I' H' q' s => ?_
    exact k d _ H' q' (S.back s).1
  · exact h p env σ I H _ _ r q k
  · exact q.elim
end
/-! ### methods that only read -/
abbrev RCF := List (Str × D) → List D → (D → Prop) → Prop
abbrev RCFX := List (Str × D) → List D → (D → Prop) → (Nat → D → Prop) → Prop
def InsF (K : Fg) (I : Hp) (a C : Addr) (fs : List (Str × D)) : Prop := ∃ (dx : Addr) (vs : List (Str × V)), I a = some (.ins C dx vs) ∧ FldD K I vs fs ∧ FldL vs fs []
def spF (K : Fg) (C : Addr) (n : Nat) (f : RCF) : Sp := fun vs H Q _ => ∃ (I : Hp) (a : Addr) (ws : List V) (fs : List (Str × D)) (ds : List D) (Q2 : D → Prop), vs = .ref a :: ws ∧ ws.length = n ∧ Same I H ∧ InsF K I a C fs ∧ Rps K I ws ds ∧ f fs ds Q2 ∧
  ∀ d v I' H', Q2 d → Gr none I H I' H' → Rp K I' v d → Q v H'
def spFX (K : Fg) (mg : Str → Option Value) (C : Addr) (n : Nat) (f : RCFX) : Sp := fun vs H Q E => ∃ (I : Hp) (a : Addr) (ws : List V) (fs : List (Str × D)) (ds : List D) (Q2 : D → Prop) (X2 : Nat → D → Prop), vs = .ref a :: ws ∧ ws.length = n ∧ Same I H ∧ InsF K I a C fs ∧ Rps K I ws ds ∧ f fs ds Q2 X2 ∧
  (∀ d v I' H', Q2 d → Gr none I H I' H' → Rp K I' v d → Q v H') ∧ ∀ c e cls dx I' H', X2 c e → Gr none I H I' H' → RX K mg I' H' c e cls dx → E cls dx H'
def bodyF (N n : Nat) (C : Addr) (t : T2S) : RCF := fun fs ds Q => ds.length = n ∧ ∀ a, t { nx := fun _ => Q .none, rt := Q } (some (.obf a C fs) :: envD N n ds)
def bodyFX (N n : Nat) (C : Addr) (t : T2X → T2S) : RCFX := fun fs ds Q X => ds.length = n ∧ ∀ a, t (fun _ => X) { nx := fun _ => Q .none, rt := Q } (some (.obf a C fs) :: envD N n ds)
def dCallF (C : Addr) (m : Str) (i : Nat) (f : RCF) (t : T2A) : T2E := fun env Q => match env[i]? with | some (some (.obf _ C' fs)) => (C' = C ∧ fs.lookup m = none) ∧ t env fun ds => f fs ds Q | _ => False
def dCallFX (C : Addr) (m : Str) (i : Nat) (f : RCFX) (x : T2X) (t : T2A) : T2E := fun env Q => match env[i]? with | some (some (.obf _ C' fs)) => (C' = C ∧ fs.lookup m = none) ∧ t env fun ds => f fs ds Q (x env) | _ => False
section
variable {K : Fg} {C : Addr} {m : Str} {n : Nat} {ta : TA} {t : T2A}
theorem InsF.mono {I I' : Hp} {a : Addr} {fs : List (Str × D)} (e : Same I I') (h : InsF K I a C fs) : InsF K I' a C fs := by
  obtain ⟨dx, vs, h1, h2, h3⟩ := h
  exact ⟨dx, vs, e _ _ h1, h2.mono e, h3⟩
theorem se_callF {f : RCF} {E : XK} (i : Nat) (h : SA K n ta t) : SE K (tMeth C m (spF K C n f) [] E (tVar i) ta) (dCallF C m i f t) := by
  intro p env σ I H Q2 Q rl q k
  unfold dCallF at q
  split at q
  · rename_i a C' fs e
    obtain ⟨⟨rfl, hm⟩, q⟩ := q
    obtain ⟨v, hv, rfl, dx, vs, h1, h2, h3⟩ := rl.r.sl i _ e
    refine ⟨_, hv, a, dx, vs, rfl, rl.same _ _ h1, h3.2 m hm rfl, h p env σ I H _ _ rl q fun ds ws I1 H1 q1 hl s1 r1 => ?_⟩
    show spF K C' n f (V.ref a :: (ws ++ [])) H1 Q E
    rw [List.append_nil]
    exact ⟨I1, a, ws, fs, ds, Q2, rfl, hl, s1.ih, InsF.mono s1.ii ⟨dx, vs, h1, h2, h3⟩, r1, q1, fun d v I' H' q' g r' => k d v I' H' q' (s1.trans (.of g)) r'⟩
  · exact q.elim
end
theorem MR.cutLow {K : Fg} {H0 I H : Hp} {bs : List Addr} {rows : List (List D)} (m : MR K H0 I H bs rows) : MR K (cutBs H bs) I H bs rows := by
  have : ∀ {cs : List Addr} {rows : List (List D)}, MR K H0 I H cs rows → (∀ c ∈ cs, c ∈ bs) → MR K (cutBs H bs) I H cs rows := fun {cs rows} m => by
    induction m with
    | nil => exact fun _ => .nil
    | @cons b vs ds cs rows h1 h2 h3 h4 h5 t ih => exact fun h => .cons (cutBs_in (h b List.mem_cons_self)) h2 h3 h4 h5 (ih fun c hc => h c (List.mem_cons_of_mem _ hc))
  exact this m fun _ h => h
/-! ### a body whose first name is an instance -/
section
variable {K : Fg} {n : Nat}
theorem start_rel {N : List Str} {p : P0} {x0 : Sl} {v0 : V} {ws : List V} {ds : List D} {I H : Hp} (gr : Gr p.m p.I0 p.H0 I H) (h0 : SlR K p I H x0 v0) (n1 : ∀ es, x0 ≠ .own es) (n2 : ∀ w ks, x0 ≠ .dct w ks) (st : ∀ s, p.m = some s → p.H0 s ≠ none ∧ Strm I H s) (bs : Same p.B I)
    (r : Rps K I ws ds) (hl : ws.length = n) (hd : ds.length = n) (hN : 1 ≤ N.length) : RelL K p (some x0 :: envD (N.length - 1) n ds) (L2.start N (v0 :: ws)) I H := by
  have hs : L2.start N (v0 :: ws) = some v0 :: (ws.map some ++ List.replicate (N.length - 1 - ws.length) none) := by
    unfold L2.start
    rw [List.map_cons, List.cons_append, List.length_cons, Nat.sub_add_eq, Nat.sub_right_comm]
  rw [hs]
  have kd : ∀ (i : Nat) (x : Sl), (some x0 :: envD (N.length - 1) n ds)[i]? = some (some x) → (i = 0 ∧ x = x0) ∨ ∃ (j : Nat) (d : D), i = j + 1 ∧ x = .dat d ∧ ds[j]? = some d := fun i x z => by
    cases i with
    | zero => rw [List.getElem?_cons_zero] at z; cases z; exact .inl ⟨rfl, rfl⟩
    | succ i => rw [List.getElem?_cons_succ] at z; obtain ⟨d, z, hz⟩ := env_get z; exact .inr ⟨i, d, rfl, z, hz⟩
  refine ⟨⟨gr, fun i x z => ?_, fun i j x y b _ z _ _ => ?_, st, bs, fun i j w w' x y b _ z _ _ => ?_, fun i j x y u v c hij hm z1 z2 _ _ c1 => ?_⟩, ?_⟩
  · rcases kd i x z with ⟨rfl, rfl⟩ | ⟨j, d, rfl, rfl, hd⟩
    · exact ⟨_, rfl, h0⟩
    · obtain ⟨v, hv, rv⟩ := r.got hd
      refine ⟨v, ?_, rv⟩
      have hi := (List.getElem?_eq_some_iff.mp hv).1
      rw [List.getElem?_cons_succ, List.getElem?_append_left (by rw [List.length_map]; exact hi), List.getElem?_map, hv]
      rfl
  · rcases kd _ _ z with ⟨_, w⟩ | ⟨_, _, _, w, _⟩
    · exact absurd w.symm (n1 _)
    · cases w
  · rcases kd _ _ z with ⟨_, w⟩ | ⟨_, _, _, w, _⟩
    · exact absurd w.symm (n2 _ _)
    · cases w
  · rcases kd i x z1 with ⟨rfl, rfl⟩ | ⟨i', d, rfl, rfl, _⟩
    · rcases kd j y z2 with ⟨rfl, rfl⟩ | ⟨j', d, rfl, rfl, _⟩
      · exact absurd rfl hij
      · exact fun z => z.elim
    · exact c1.elim
  · unfold envD
    rw [List.length_cons, List.length_cons, List.length_append, List.length_append, List.length_map, List.length_map, List.length_replicate, List.length_replicate, hl, hd]
theorem body_okF {N : List Str} {C : Addr} {ts : TS} {t : T2S} (h : SS K ts t) {vs : List V} {H : Hp} {Q : VK} {E : XK} (hN : 1 ≤ N.length) (q : spF K C n (bodyF (N.length - 1) n C t) vs H Q E) : ts { nx := fun _ H' => Q .non H', rt := Q } (L2.start N vs) H := by
  obtain ⟨I, a, ws, fs, ds, Q2, rfl, hl, e, ia, r, ⟨hd, q⟩, k⟩ := q
  exact h ⟨none, I, H, I⟩ _ _ I H _ _ (start_rel (x0 := .obf a C fs) (.refl e) ⟨rfl, ia⟩ (fun _ z => nomatch z) (fun _ _ z => nomatch z) (fun s z => nomatch z) (Same.refl _) r hl hd hN) (q a)
    ⟨fun env σ I' H' q' r' => k _ _ _ _ q' r'.r.gr .non, fun d v I' H' q' g _ r' => k _ _ _ _ q' g r', fun _ _ _ _ z => z.elim, fun _ _ _ _ z => z.elim, fun _ _ _ _ _ _ z => z.elim, fun _ _ _ _ _ _ z => z.elim, fun _ _ _ _ _ _ z => z.elim⟩
end
/-! ### methods of the text's class -/
def Dm (K : Fg) (C : Addr) (m qual : Str) (st : Stmt) : Prop := ∃ f fd, Fun K m qual st f fd ∧ Meth K C m f
def BindsM (m qual : Str) (st : Stmt) (ps : List Str) : Prop := ∀ (kV doc pm : Value) (an : Option Addr) (cdv ct : Value) (us : List Value), us.length = ps.length → bindArgs (PySem.W.fnOf m qual (defArgs st) (defBody st) (defScope st) .none kV doc pm an cdv ct) ⟨us, []⟩ = pure (ps.zip us)
structure FxM (P : Program) (w : World) (K : Fg) (mg : Str → Option Value) (base : Heap) (k : Nat) (C : Addr) (m : Str) (ps : List Str) (sp : Sp) : Prop where
  ex : ∃ f fd, FnOk P w K mg base CX0 k f fd ps sp ∧ Meth K C m f ∧ Binds K fd ps []
/-- with raises -/
structure FxMX (P : Program) (w : World) (K : Fg) (mg : Str → Option Value) (base : Heap) (k : Nat) (C : Addr) (m : Str) (ps : List Str) (sp : Sp) : Prop where
  ex : ∃ f fd, FnOk P w K mg base (L2.CX P w) k f fd ps sp ∧ Meth K C m f ∧ Binds K fd ps []
section
variable {P : Program} {w : World} {K : Fg} {mg : Str → Option Value} {base : Heap} {C : Addr} {m qual : Str} {ps : List Str} {sp : Sp} {k : Nat}
theorem fx_ofF {st : Stmt} {N : List Str} {n : Nat} {t : T2S} (d : Dm K C m qual st) (S : FnScope N ps (defScope st)) (bb : BindsM m qual st ps) (hn : ps.length = n + 1) (hN : 1 ≤ N.length)
    (hb : ∀ (f : Addr) (cdv : Value) (A : Around) (outer : List Env) (s : Shared) (H : Hp) (Q : VK) (E : XK), Room k (A.deeper (envOfC qual (defScope st) s.heap.objs.size f cdv)) →
      ∃ ts, PSs (cxOf CX0 P w K mg base N qual (defScope st) f cdv A outer s H E).nox (defBody st) ts ∧ SS K ts t) : FxM P w K mg base (k + 1) C m ps (spF K C n (bodyF (N.length - 1) n C t)) := by
  obtain ⟨f, fd, F, hm⟩ := d
  refine ⟨f, fd, F.ok S (fun vs H Q E h => ?_) fun cdv A outer s H vs Q E hr h => ?_, hm, F.binds bb⟩
  · obtain ⟨_, _, ws, _, _, _, rfl, hl, _⟩ := h
    rw [List.length_cons, hl, hn]
  · obtain ⟨ts, h1, h2⟩ := hb f cdv A outer s H Q E hr
    exact ⟨ts, h1, body_okF h2 hN h⟩
theorem pe_m {X : Cx} {e o : Expr} {es : List Expr} {ta : TE} {t : TA} {apos pos : Pos} {pl : Sem Bool} (G : FxM X.prog X.w X.K X.mg X.base k C m ps sp) (c : Cls X.K C) (hr : Room k X.A) (ho : PE X o ta) (ha : PA X (e :: es) t)
    (hst : starEach (e :: es) X.env = (false, eval e X.env) :: starEach es X.env := by rfl) (hpl : (backTo pos (starEach es X.env)).any (·.1) = false := by rfl)
    (ht : eval (.Call (.Attribute o m apos) (e :: es) [] pos) X.env = (do
      let ov ← eval o X.env
      standAt apos.atName
      let (g, fst) ← holding [ov] (getMethod ov m pl)
      callWith pos g fst (backTo pos (starEach (e :: es) X.env)) (backToKw pos (keywordEach [] X.env))) := by rfl) : PE X (.Call (.Attribute o m apos) (e :: es) [] pos) (tMeth C m sp [] E0 ta t) := by
  obtain ⟨f, fd, F, hm, hb⟩ := G.ex
  exact pe_meth ho c hm F hr hb .nil pass0 ha hst hpl ht
theorem pe_m0 {X : Cx} {o : Expr} {ta : TE} {apos pos : Pos} {pl : Sem Bool} (G : FxM X.prog X.w X.K X.mg X.base k C m ps sp) (c : Cls X.K C) (hr : Room k X.A) (ho : PE X o ta)
    (ht : eval (.Call (.Attribute o m apos) [] [] pos) X.env = (do
      let ov ← eval o X.env
      standAt apos.atName
      let (g, fst) ← holding [ov] (getMethod ov m pl)
      callWith pos g fst (backTo pos (starEach [] X.env)) (backToKw pos (keywordEach [] X.env))) := by rfl) : PE X (.Call (.Attribute o m apos) [] [] pos) (tMeth C m sp [] E0 ta tNil) := by
  obtain ⟨f, fd, F, hm, hb⟩ := G.ex
  exact pe_meth0 ho c hm F hr hb .nil pass0 ht
/-- .. that may raise -/
def tMethX (C : Addr) (m : Str) (sp : Sp) (E : L2.St → XK) (ta : TE) (t : TA) : TE := fun σ H Q => ta σ H fun x H1 => ∃ a dx fs, x = .ref a ∧ H1 a = some (.ins C dx fs) ∧ fs.lookup m = none ∧ t σ H1 fun vs H2 => sp (x :: vs) H2 Q (E σ)
theorem pe_mX {X : Cx} {W : WX} {e o : Expr} {es : List Expr} {ta : TE} {t : TA} {apos pos : Pos} {pl : Sem Bool} (G : FxMX X.prog X.w K mg X.base k C m ps sp) (hK : X.K = K) (hM : X.mg = mg) (c : Cls K C) (hr : Room k X.A) (tk : Takes X W) (ho : PE X o ta) (ha : PA X (e :: es) t)
    (hst : starEach (e :: es) X.env = (false, eval e X.env) :: starEach es X.env := by rfl) (hpl : (backTo pos (starEach es X.env)).any (·.1) = false := by rfl)
    (ht : eval (.Call (.Attribute o m apos) (e :: es) [] pos) X.env = (do
      let ov ← eval o X.env
      standAt apos.atName
      let (g, fst) ← holding [ov] (getMethod ov m pl)
      callWith pos g fst (backTo pos (starEach (e :: es) X.env)) (backToKw pos (keywordEach [] X.env))) := by rfl) : PE X (.Call (.Attribute o m apos) (e :: es) [] pos) (tMethX C m sp (WE W) ta t) := by
  subst hK hM
  obtain ⟨f, fd, F, hm, hb⟩ := G.ex
  refine ⟨fun pins s σ H Q I h => ?_⟩
  refine PySem.W.methodCall_KW (pl := pl) (thn (ho.run pins s σ H _ I h) fun u s1 z => ?_) ht
  obtain ⟨x, H1, I1, rx, a, dx, fs, ex, ea, l, q⟩ := z
  subst ex
  obtain rfl : u = Value.ref a := rx
  refine getmeth_ok I1 ea c hm l (PySem.W.callWith_K (first := [.ref a]) (h₀ := X.base) I.ok.mod.kin hm.kp (thn (ha.run pos pins s1 σ H1 _ I1 q) fun us s2 z => ?_) hst hpl)
  obtain ⟨vs, H2, I2, r, q2⟩ := z
  exact ⟨I2.kIn, run_fnS (us := .ref a :: us) (vs := .ref a :: vs) F hr hb (passAt tk σ) I2 (.cons rfl r) q2⟩
end
section
variable {K : Fg} {mg : Str → Option Value} {W : WX} {x : T2X} {C : Addr} {m : Str} {n : Nat} {ta : TA} {t : T2A}
end
end Z2
namespace Z2
open PySem PySem.Spec PyProof.Rows L2
/-! ### defs that change an instance's lists: its methods, or defs that are handed it first -/
abbrev Obl := List (Str × Addr × List D)
abbrev RCM := List (Str × D) → Obl → List D → (Obl → D → Prop) → Prop
abbrev RCMX := List (Str × D) → Obl → List D → (Obl → D → Prop) → (Obl → Nat → D → Prop) → Prop
def bsO (ls : Obl) : List Addr := ls.map (·.2.1)
def InsO (K : Fg) (I : Hp) (a C : Addr) (fs : List (Str × D)) (ls : Obl) : Prop := ∃ (dx : Addr) (vs : List (Str × V)), I a = some (.ins C dx vs) ∧ FldD K I vs fs ∧ FldL vs fs ls
def ObO (K : Fg) (H0 I H : Hp) (a C : Addr) (fs : List (Str × D)) (ls : Obl) : Prop := InsO K I a C fs ls ∧ MR K H0 I H (ls.map (·.2.1)) (ls.map (·.2.2))
def spM (K : Fg) (C : Addr) (n : Nat) (f : RCM) : Sp := fun vs H Q _ => ∃ (I : Hp) (a : Addr) (ws : List V) (fs : List (Str × D)) (ls : Obl) (ds : List D) (Q2 : Obl → D → Prop), vs = .ref a :: ws ∧ ws.length = n ∧ Same I H ∧ ObO K (fun _ => none) I H a C fs ls ∧ Rps K I ws ds ∧ f fs ls ds Q2 ∧
  ∀ ls' d v I' H', Q2 ls' d → Gr none I (cutBs H (bsO ls)) I' H' → ObO K (cutBs H (bsO ls)) I' H' a C fs ls' → Rp K I' v d → Q v H'
def spMX (K : Fg) (mg : Str → Option Value) (C : Addr) (n : Nat) (f : RCMX) : Sp := fun vs H Q E => ∃ (I : Hp) (a : Addr) (ws : List V) (fs : List (Str × D)) (ls : Obl) (ds : List D) (Q2 : Obl → D → Prop) (X2 : Obl → Nat → D → Prop), vs = .ref a :: ws ∧ ws.length = n ∧ Same I H ∧ ObO K (fun _ => none) I H a C fs ls ∧ Rps K I ws ds ∧ f fs ls ds Q2 X2 ∧
  (∀ ls' d v I' H', Q2 ls' d → Gr none I (cutBs H (bsO ls)) I' H' → ObO K (cutBs H (bsO ls)) I' H' a C fs ls' → Rp K I' v d → Q v H') ∧
  ∀ ls' c e cls dx I' H', X2 ls' c e → Gr none I (cutBs H (bsO ls)) I' H' → ObO K (cutBs H (bsO ls)) I' H' a C fs ls' → RX K mg I' H' c e cls dx → E cls dx H'
def isO (a C : Addr) (fs : List (Str × D)) (env : Ev) (Q : Obl → Prop) : Prop := ∃ ls, env[0]? = some (some (.obj a C fs ls)) ∧ Q ls
def bodyM (N n : Nat) (C : Addr) (t : T2S) : RCM := fun fs ls ds Q => ds.length = n ∧ ∀ a, t { nx := fun env => isO a C fs env fun ls' => Q ls' .none, rt := fun _ => False, re := fun env d => isO a C fs env fun ls' => Q ls' d } (some (.obj a C fs ls) :: envD N n ds)
def bodyMX (N n : Nat) (C : Addr) (t : T2X → T2S) : RCMX := fun fs ls ds Q X => ds.length = n ∧ ∀ a, t (fun env c e => isO a C fs env fun ls' => X ls' c e) { nx := fun env => isO a C fs env fun ls' => Q ls' .none, rt := fun _ => False, re := fun env d => isO a C fs env fun ls' => Q ls' d } (some (.obj a C fs ls) :: envD N n ds)
def dRetE (t : T2E) : T2S := fun E env => t env fun d => E.re env d
def dRetEN : T2S := fun E env => E.re env .none
section
variable {K : Fg} {p : P0} {env : Ev} {σ : L2.St} {I H I' H' : Hp} {te : TE} {t : T2E}
theorem ss_retE (h : SE K te t) : SS K (tRet te) (dRetE t) := fun p env σ I H D2 E r q e =>
  h p env σ I H _ _ r q fun d v I' H' q' s rp => e.re env σ I' H' d v q' (r.stp s) rp
/-- an instance's lists have been changed by another def -/
theorem RelL.mutObj (r : RelL K p env σ I H) {i : Nat} {a C : Addr} {fs : List (Str × D)} {ls ls' : Obl} (e : env[i]? = some (some (.obj a C fs ls))) (g : Gr none I (cutBs H (bsO ls)) I' H') (o : ObO K (cutBs H (bsO ls)) I' H' a C fs ls') :
    RelL K p (env.set i (some (.obj a C fs ls'))) σ I' H' := by
  obtain ⟨v, hv, rfl, h1, m⟩ := r.r.sl i _ e
  obtain ⟨o1, o2⟩ := o
  have live := m.live
  have nb : ∀ c, p.H0 c ≠ none → c ∉ bsO ls := fun c h w => h (live c w).1
  have sm : ∀ c o, c ∉ bsO ls → H c = some o → H' c = some o := fun c o n q => g.hh c o (by rw [cutBs_out n]; exact q) (fun z => nomatch z)
  have im : ∀ c, c ∉ bsO ls → I c = none → H c ≠ none → I' c = none := fun c n q q2 => g.fr c q (by rw [cutBs_out n]; exact q2)
  have low : ∀ c, cutBs H (bsO ls) c = none → p.H0 c = none := fun c q => by
    by_cases w : c ∈ bsO ls
    · exact (live c w).1
    · rw [cutBs_out w] at q
      cases z : p.H0 c with
      | none => rfl
      | some u => exact absurd q (r.r.gr.th c (by rw [z]; exact fun z => nomatch z))
  have oth : ∀ (j : Nat) (x : Sl) (v : V) (c : Addr), i ≠ j → env[j]? = some (some x) → σ[j]? = some (some v) → Cell x v H c → c ∉ bsO ls := fun j x v c n f1 f2 cc w => r.r.sm i j (.obj a C fs ls) x (.ref a) v c n (by simp [isMat]) e f1 hv f2 w cc
  have top : ∀ (j : Nat) (x : Sl) (u : V) (b : Addr), i ≠ j → env[j]? = some (some x) → isTop x = true → σ[j]? = some (some u) → u = .ref b → H' b = H b := fun j x u b n f1 mt f2 ub => by
    obtain ⟨u2, hu2, sl⟩ := r.r.sl j x f1
    rw [f2] at hu2
    cases hu2
    cases x <;> first | (cases mt) | skip
    obtain ⟨b2, bs, e1, e2, e3, e4, _, _⟩ := sl
    rw [ub] at e1
    cases e1
    rw [sm b _ (oth j _ _ b n f1 f2 (.inl ub)) e4, e4]
  refine ⟨⟨⟨r.r.gr.ii.trans g.ii, g.ih, fun c o q n => sm c o (nb c (by rw [q]; exact fun z => nomatch z)) (r.r.gr.hh c o q n), fun c q n => im c (nb c n) (r.r.gr.fr c q n) (r.r.gr.th c n), fun c q => ?_⟩, fun j x q => ?_, fun j k x y b n q1 q2 q3 q4 => ?_, fun s q => ⟨(r.r.st s q).1, ?_⟩, r.r.bs.trans g.ii, r.r.sd.setE _ _ (fun _ _ z => nomatch z), fun j k x y u u2 c n hm q1 q2 q3 q4 c1 c2 => ?_⟩, by rw [List.length_set]; exact r.len⟩
  · cases z : H c with
    | none => exact absurd z (r.r.gr.th c q)
    | some u => rw [sm c u (nb c q) z]; exact fun z => nomatch z
  · rcases getSet q with ⟨rfl, z, hl⟩ | ⟨n, z⟩
    · cases z
      obtain ⟨dx, vs, g1, g2, g3⟩ := o1
      exact ⟨_, hv, rfl, ⟨dx, vs, g1, g2, g3⟩, o2.low low⟩
    · obtain ⟨u, hu, w⟩ := r.r.sl j x z
      refine ⟨u, hu, ?_⟩
      cases x with
      | dat d => exact Rp.mono g.ii d u w
      | rng _ => obtain ⟨a1, g1, g2⟩ := w; exact ⟨a1, g1, g.ii _ _ g2⟩
      | strm => exact w
      | obf _ _ _ => obtain ⟨f1, dx2, vs2, f2, f3, f4⟩ := w; exact ⟨f1, dx2, vs2, g.ii _ _ f2, f3.mono g.ii, f4⟩
      | obj _ _ _ _ =>
        obtain ⟨f1, ⟨dx2, vs2, f2, f3, f4⟩, f6⟩ := w
        refine ⟨f1, ⟨dx2, vs2, g.ii _ _ f2, f3.mono g.ii, f4⟩, f6.stays g.ii fun c hc y1 y2 y3 => ?_⟩
        have nc := oth j _ _ c n z hu hc
        cases hz : H c with
        | none => exact absurd hz y3
        | some o => exact ⟨im c nc y2 y3, sm c o nc hz⟩
      | own es =>
        obtain ⟨b, ws, f1, f2, f3, f4, f5⟩ := w
        subst f1
        have nc := oth j _ _ b n z hu rfl
        exact ⟨b, ws, rfl, f2, im b nc f3 (by rw [f4]; exact fun z => nomatch z), sm b _ nc f4, Rps.mono g.ii es ws f5⟩
      | lnt x =>
        obtain ⟨b, f1, f2, f3, f4⟩ := w
        exact ⟨b, f1, f2, f3, f4.stays g.ii fun o q => sm b o (nb b f2) q⟩
      | dct w2 ks =>
        obtain ⟨b, ws, f1, f2, f3, f4, f5⟩ := w
        subst f1
        have nc : b ∉ bsO ls := fun w2 => by
          obtain ⟨_, _, vs2, hv2⟩ := live b w2
          rw [hv2] at f4
          exact nomatch f4
        exact ⟨b, ws, rfl, f2, im b nc f3 (by rw [f4]; exact fun z => nomatch z), sm b _ nc f4, KD.mono g.ii f5⟩
      | dki ks =>
        obtain ⟨b, ws, f1, f2, f3, f4, f5⟩ := w
        subst f1
        have nc : b ∉ bsO ls := fun w2 => by
          obtain ⟨_, _, vs2, hv2⟩ := live b w2
          rw [hv2] at f4
          exact nomatch f4
        exact ⟨b, ws, rfl, f2, im b nc f3 (by rw [f4]; exact fun z => nomatch z), sm b _ nc f4, KDI.mono g.ii f5⟩
      | mat rows2 =>
        obtain ⟨b, cs, f1, f2, f3, f4, f5, f6⟩ := w
        subst f1
        have nc := oth j _ _ b n z hu (.inl rfl)
        refine ⟨b, cs, rfl, f2, im b nc f3 (by rw [f4]; exact fun z => nomatch z), sm b _ nc f4, f5, f6.stays g.ii fun c hc y1 y2 y3 => ?_⟩
        have nc := oth j _ _ c n z hu (.inr ⟨b, cs, rfl, f4, hc⟩)
        cases hz : H c with
        | none => exact absurd hz y3
        | some o => exact ⟨im c nc y2 y3, sm c o nc hz⟩
  · rcases getSet q1 with ⟨_, z, _⟩ | ⟨n1, y1⟩
    · cases z
    · rcases getSet q2 with ⟨_, z, _⟩ | ⟨n2, y2⟩
      · cases z
      · exact r.r.sep j k x y b n y1 y2 q3 q4
  · obtain ⟨f0, l, c, k, ns, f1, f2, f3⟩ := (r.r.st s q).2
    have ns2 := nb s (r.r.st s q).1
    exact ⟨im s ns2 f0 (by rw [f1]; exact fun z => nomatch z), l, c, k, ns, sm s _ ns2 f1, g.ii _ _ f2, f3⟩
  · have new : ∀ c, c ∈ ls'.map (·.2.1) → ∀ (j : Nat) (y : Sl) (u : V), i ≠ j → env[j]? = some (some y) → σ[j]? = some (some u) → ¬ Cell y u H' c := fun c hc j y u n f1 f2 cc => by
      obtain ⟨u2, hu2, sl⟩ := r.r.sl j y f1
      rw [f2] at hu2
      cases hu2
      have c0 : Cell y u H c := cell_to (fun mt b ub => top j y u b n f1 mt f2 ub) cc
      obtain ⟨_, _, vs2, hv2⟩ := cell_live sl c0
      have := (o2.live c hc).1
      rw [cutBs_out (oth j y u c n f1 f2 c0), hv2] at this
      cases this
    rcases getSet q1 with ⟨rfl, z, _⟩ | ⟨n1, y1⟩
    · cases z
      rcases getSet q2 with ⟨rfl, _, _⟩ | ⟨n2, y2⟩
      · exact n rfl
      · exact new c c1 k y u2 n2 y2 q4 c2
    · rcases getSet q2 with ⟨rfl, z, _⟩ | ⟨n2, y2⟩
      · cases z
        exact new c c2 j x u n1 y1 q3 c1
      · exact r.r.sm j k x y u u2 c n hm y1 y2 q3 q4 (cell_to (fun mt b ub => top j x u b n1 y1 mt q3 ub) c1) (cell_to (fun mt b ub => top k y u2 b n2 y2 mt q4 ub) c2)
theorem cut_gr {bs : List Addr} (e : Same I H) (hI : ∀ c ∈ bs, I c = none) : Gr none I (cutBs H bs) I H :=
  ⟨Same.refl _, e, fun c o q _ => (cutBs_some q).2, fun c q n => q, fun c q w => by
    cases z : cutBs H bs c with
    | none => exact q z
    | some o => rw [(cutBs_some z).2] at w; cases w⟩
end
section
variable {K : Fg} {n : Nat}
theorem body_okM {N : List Str} {C : Addr} {ts : TS} {t : T2S} (h : SS K ts t) {vs : List V} {H : Hp} {Q : VK} {E : XK} (hN : 1 ≤ N.length) (q : spM K C n (bodyM (N.length - 1) n C t) vs H Q E) : ts { nx := fun _ H' => Q .non H', rt := Q } (L2.start N vs) H := by
  obtain ⟨I, a, ws, fs, ls, ds, Q2, rfl, hl, e, ⟨ia, m⟩, r, ⟨hd, q⟩, k⟩ := q
  have hI : ∀ c ∈ bsO ls, I c = none := fun c hc => (m.live c hc).2.1
  have m2 : MR K (cutBs H (bsO ls)) I H (ls.map (·.2.1)) (ls.map (·.2.2)) := m.cutLow
  have fin : ∀ {env σ I' H'} {Q3 : Obl → Prop}, RelL K ⟨none, I, cutBs H (bsO ls), I⟩ env σ I' H' → isO a C fs env Q3 → ∃ ls', Q3 ls' ∧ ObO K (cutBs H (bsO ls)) I' H' a C fs ls' := fun {env σ I' H' Q3} r' ⟨ls', h1, h2⟩ => by
    obtain ⟨v, hv, rfl, g1, g2⟩ := r'.r.sl 0 _ h1
    exact ⟨ls', h2, g1, g2⟩
  refine h ⟨none, I, cutBs H (bsO ls), I⟩ _ _ I H _ _ (start_rel (x0 := .obj a C fs ls) (cut_gr e hI) ⟨rfl, ia, m2⟩ (fun _ z => nomatch z) (fun _ _ z => nomatch z) (fun s z => nomatch z) (Same.refl _) r hl hd hN) (q a)
    ⟨fun env σ I' H' q' r' => ?_, fun _ _ _ _ z => z.elim, fun _ _ _ _ z => z.elim, fun _ _ _ _ z => z.elim, fun _ _ _ _ _ _ z => z.elim, fun env σ I' H' d v q' r' rp => ?_, fun _ _ _ _ _ _ z => z.elim⟩
  · obtain ⟨ls', h2, ho⟩ := fin r' q'
    exact k ls' .none .non I' H' h2 r'.r.gr ho .non
  · obtain ⟨ls', h2, ho⟩ := fin r' q'
    exact k ls' d v I' H' h2 r'.r.gr ho rp
theorem body_okMX {mg : Str → Option Value} {N : List Str} {C : Addr} {ts : TS} {t : T2X → T2S} {E : XK} (h : ∀ x, SSG K (CX1 K mg (fun cls d _ H => E cls d H) x) ts (t x)) {vs : List V} {H : Hp} {Q : VK} (hN : 1 ≤ N.length) (q : spMX K mg C n (bodyMX (N.length - 1) n C t) vs H Q E) : ts { nx := fun _ H' => Q .non H', rt := Q } (L2.start N vs) H := by
  obtain ⟨I, a, ws, fs, ls, ds, Q2, X2, rfl, hl, e, ⟨ia, m⟩, r, ⟨hd, q⟩, k, kx⟩ := q
  have hI : ∀ c ∈ bsO ls, I c = none := fun c hc => (m.live c hc).2.1
  have m2 : MR K (cutBs H (bsO ls)) I H (ls.map (·.2.1)) (ls.map (·.2.2)) := m.cutLow
  have fin : ∀ {p' : P0} {env σ I' H'} {Q3 : Obl → Prop}, p' = ⟨none, I, cutBs H (bsO ls), p'.B⟩ → RelL K p' env σ I' H' → isO a C fs env Q3 → ∃ ls', Q3 ls' ∧ ObO K (cutBs H (bsO ls)) I' H' a C fs ls' := fun {p' env σ I' H' Q3} pe r' ⟨ls', h1, h2⟩ => by
    rw [pe] at r'
    obtain ⟨v, hv, rfl, g1, g2⟩ := r'.r.sl 0 _ h1
    exact ⟨ls', h2, g1, g2⟩
  refine h _ ⟨none, I, cutBs H (bsO ls), I⟩ _ _ I H _ _ (start_rel (x0 := .obj a C fs ls) (cut_gr e hI) ⟨rfl, ia, m2⟩ (fun _ z => nomatch z) (fun _ _ z => nomatch z) (fun s z => nomatch z) (Same.refl _) r hl hd hN) (fun env σ I' H' c e cls dx r' qx z => ?_) (q a)
    ⟨fun env σ I' H' q' r' => ?_, fun _ _ _ _ z => z.elim, fun _ _ _ _ z => z.elim, fun _ _ _ _ z => z.elim, fun _ _ _ _ _ _ z => z.elim, fun env σ I' H' d v q' r' rp => ?_, fun _ _ _ _ _ _ z => z.elim⟩
  · obtain ⟨ls', h2, ho⟩ := fin rfl r' qx
    exact kx ls' c e cls dx I' H' h2 r'.r.gr ho z
  · obtain ⟨ls', h2, ho⟩ := fin rfl r' q'
    exact k ls' .none .non I' H' h2 r'.r.gr ho .non
  · obtain ⟨ls', h2, ho⟩ := fin rfl r' q'
    exact k ls' d v I' H' h2 r'.r.gr ho rp
end
section
variable {P : Program} {w : World} {K : Fg} {mg : Str → Option Value} {base : Heap} {C : Addr} {m qual x : Str} {ps : List Str} {sp : Sp} {k : Nat}
theorem fx_ofM {st : Stmt} {N : List Str} {n : Nat} {t : T2S} (d : Dm K C m qual st) (S : FnScope N ps (defScope st)) (bb : BindsM m qual st ps) (hn : ps.length = n + 1) (hN : 1 ≤ N.length)
    (hb : ∀ (f : Addr) (cdv : Value) (A : Around) (outer : List Env) (s : Shared) (H : Hp) (Q : VK) (E : XK), Room k (A.deeper (envOfC qual (defScope st) s.heap.objs.size f cdv)) →
      ∃ ts, PSs (cxOf CX0 P w K mg base N qual (defScope st) f cdv A outer s H E).nox (defBody st) ts ∧ SS K ts t) : FxM P w K mg base (k + 1) C m ps (spM K C n (bodyM (N.length - 1) n C t)) := by
  obtain ⟨f, fd, F, hm⟩ := d
  refine ⟨f, fd, F.ok S (fun vs H Q E h => ?_) fun cdv A outer s H vs Q E hr h => ?_, hm, F.binds bb⟩
  · obtain ⟨_, _, ws, _, _, _, _, rfl, hl, _⟩ := h
    rw [List.length_cons, hl, hn]
  · obtain ⟨ts, h1, h2⟩ := hb f cdv A outer s H Q E hr
    exact ⟨ts, h1, body_okM h2 hN h⟩
theorem fx_ofMX {st : Stmt} {N : List Str} {n : Nat} {t : T2X → T2S} (d : Dm K C m qual st) (S : FnScope N ps (defScope st)) (bb : BindsM m qual st ps) (hn : ps.length = n + 1) (hN : 1 ≤ N.length)
    (hb : ∀ (f : Addr) (cdv : Value) (A : Around) (outer : List Env) (s : Shared) (H : Hp) (E : XK), Room k (A.deeper (envOfC qual (defScope st) s.heap.objs.size f cdv)) →
      ∃ ts, PSs (cxOf (L2.CX P w) P w K mg base N qual (defScope st) f cdv A outer s H E) (defBody st) ts ∧ ∀ y, SSG K (CX1 K mg (fun cls d _ H => E cls d H) y) ts (t y)) : FxMX P w K mg base (k + 1) C m ps (spMX K mg C n (bodyMX (N.length - 1) n C t)) := by
  obtain ⟨f, fd, F, hm⟩ := d
  refine ⟨f, fd, F.okX S (fun vs H Q E h => ?_) (fun cdv A outer s H vs Q E hr h => ?_), hm, F.binds bb⟩
  · obtain ⟨_, _, ws, _, _, _, _, _, rfl, hl, _⟩ := h
    rw [List.length_cons, hl, hn]
  · obtain ⟨ts, h1, h2⟩ := hb f cdv A outer s H E hr
    exact ⟨ts, h1, body_okMX h2 hN h⟩
end
end Z2
namespace Z2
open PySem PySem.Spec PyProof.Rows L2
/-! ### expressions that change an instance's lists: readings that hand the names on -/
abbrev T2M := Ev → (Ev → D → Prop) → Prop
abbrev T2MA := Ev → (Ev → List D → Prop) → Prop
abbrev T2MT := Ev → (Ev → Bool → Prop) → Prop
def SEM (K : Fg) (te : TE) (t : T2M) : Prop := ∀ (p : P0) (env : Ev) (σ : L2.St) (I H : Hp) (Q2 : Ev → D → Prop) (Q : VK), RelL K p env σ I H → t env Q2 →
  (∀ env' d v I' H', Q2 env' d → RelL K p env' σ I' H' → Same I I' → Rp K I' v d → Q v H') → te σ H Q
def SAM (K : Fg) (n : Nat) (ta : TA) (t : T2MA) : Prop := ∀ (p : P0) (env : Ev) (σ : L2.St) (I H : Hp) (Q2 : Ev → List D → Prop) (Q : List V → Hp → Prop), RelL K p env σ I H → t env Q2 →
  (∀ env' ds vs I' H', Q2 env' ds → vs.length = n → RelL K p env' σ I' H' → Same I I' → Rps K I' vs ds → Q vs H') → ta σ H Q
def STM (K : Fg) (tt : TT) (t : T2MT) : Prop := ∀ (p : P0) (env : Ev) (σ : L2.St) (I H : Hp) (Q2 : Ev → Bool → Prop) (Q : Bool → Hp → Prop), RelL K p env σ I H → t env Q2 →
  (∀ env' b I' H', Q2 env' b → RelL K p env' σ I' H' → Same I I' → Q b H') → tt σ H Q
def mE (t : T2E) : T2M := fun env Q => t env (Q env)
def mT (t : T2T) : T2MT := fun env Q => t env (Q env)
def mNil : T2MA := fun env Q => Q env []
def mCons (a : T2M) (t : T2MA) : T2MA := fun env Q => a env fun e1 x => t e1 fun e2 xs => Q e2 (x :: xs)
def mCB (f : RCD) (t : T2MA) : T2M := fun env Q => t env fun e ds => f ds (Q e)
def mOp (r : R2D) (a b : T2M) : T2M := fun env Q => a env fun e1 x => b e1 fun e2 y => r x y (Q e2)
def mTup (t : T2MA) : T2M := fun env Q => t env fun e ds => Q e (.tuple ds)
def mLst (t : T2MA) : T2M := fun env Q => t env fun e ds => Q e (.list ds)
def mB (a : T2M) : T2MT := fun env Q => a env fun e d => match d with | .bool b => Q e b | _ => False
def mNot (t : T2MT) : T2MT := fun env Q => t env fun e c => Q e (!c)
def mAnd (t u : T2MT) : T2MT := fun env Q => t env fun e c => if c = true then u e Q else Q e false
def mOr (t u : T2MT) : T2MT := fun env Q => t env fun e c => if c = true then Q e true else u e Q
def mAndV (a b : T2M) : T2M := fun env Q => a env fun e d => match d with | .bool c => if c = true then b e Q else Q e (.bool false) | _ => False
def mOrV (a b : T2M) : T2M := fun env Q => a env fun e d => match d with | .bool c => if c = true then Q e (.bool true) else b e Q | _ => False
def mIfS (c : T2MT) (t u : T2S) : T2S := fun E env => c env fun e b => if b = true then t E e else u E e
def mAsg (t : T2M) (g : T2G) : T2S := fun E env => t env fun e d => g d e E.nx
def mDrop (t : T2M) : T2S := fun E env => t env fun e _ => E.nx e
def mRet (t : T2M) : T2S := fun E env => t env fun _ d => E.rt d
def mRetE (t : T2M) : T2S := fun E env => t env fun e d => E.re e d
section
variable {K : Fg} {te tf : TE} {a b : T2M} {n : Nat}
variable {t1 t2 : TT} {c1 c2 : T2MT}
variable {ts us : TS} {t u : T2S}
theorem ssm_drop (h : SEM K te a) : SS K (tDrop te) (mDrop a) := fun p env σ I H D2 E r q e =>
  h p env σ I H _ _ r q fun e1 d v I' H' q' r' _ rp => e.nx _ _ _ _ q' r'
end
/-! ### the calls themselves -/
def mMeth (C : Addr) (m : Str) (i : Nat) (f : RCM) (t : T2A) : T2M := fun env Q => match env[i]? with
  | some (some (.obj a C' fs ls)) => (C' = C ∧ fs.lookup m = none ∧ ls.lookup m = none) ∧ t env fun ds => f fs ls ds fun ls' d => Q (env.set i (some (.obj a C' fs ls'))) d
  | _ => False
def mCallO (C : Addr) (i : Nat) (f : RCM) (t : T2A) : T2M := fun env Q => match env[i]? with
  | some (some (.obj a C' fs ls)) => C' = C ∧ t env fun ds => f fs ls ds fun ls' d => Q (env.set i (some (.obj a C' fs ls'))) d
  | _ => False
def mMethX (C : Addr) (m : Str) (i : Nat) (f : RCMX) (x : T2X) (t : T2A) : T2M := fun env Q => match env[i]? with
  | some (some (.obj a C' fs ls)) => (C' = C ∧ fs.lookup m = none ∧ ls.lookup m = none) ∧ t env fun ds => f fs ls ds (fun ls' d => Q (env.set i (some (.obj a C' fs ls'))) d) fun ls' c e => x (env.set i (some (.obj a C' fs ls'))) c e
  | _ => False
def SEMG (K : Fg) (C : Cnd) (te : TE) (t : T2M) : Prop := ∀ (p : P0) (env : Ev) (σ : L2.St) (I H : Hp) (Q2 : Ev → D → Prop) (Q : VK), RelL K p env σ I H → C p σ I H → t env Q2 →
  (∀ env' d v I' H', Q2 env' d → RelL K p env' σ I' H' → Same I I' → Rp K I' v d → Q v H') → te σ H Q
section
variable {K : Fg} {C : Addr} {m : Str} {n : Nat} {ta : TA} {t : T2A} {E : XK} {f : RCM}
theorem ObO.weak {H0 I H : Hp} {a : Addr} {fs : List (Str × D)} {ls : Obl} (h : ObO K H0 I H a C fs ls) : ObO K (fun _ => none) I H a C fs ls := ⟨h.1, h.2.low fun _ _ => rfl⟩
theorem obj_at {p : P0} {env : Ev} {σ : L2.St} {I H : Hp} {i : Nat} {a : Addr} {fs : List (Str × D)} {ls : Obl} (r : RelL K p env σ I H) (e : env[i]? = some (some (.obj a C fs ls))) : σ[i]? = some (some (.ref a)) ∧ ObO K (fun _ => none) I H a C fs ls ∧ ∃ dx vs, H a = some (.ins C dx vs) ∧ FldL vs fs ls := by
  obtain ⟨v, hv, rfl, ⟨dx, vs, h1, h2, h3⟩, h4⟩ := r.r.sl i _ e
  exact ⟨hv, ObO.weak ⟨⟨dx, vs, h1, h2, h3⟩, h4⟩, dx, vs, r.same _ _ h1, h3⟩
theorem sem_meth (i : Nat) (h : SA K n ta t) : SEM K (tMeth C m (spM K C n f) [] E (tVar i) ta) (mMeth C m i f t) := by
  intro p env σ I H Q2 Q rl q k
  unfold mMeth at q
  split at q
  · rename_i a C' fs ls e
    obtain ⟨⟨rfl, m1, m2⟩, q⟩ := q
    obtain ⟨hv, _, dx, vs, h1, h3⟩ := obj_at rl e
    refine ⟨_, hv, a, dx, vs, rfl, h1, h3.2 m m1 m2, h p env σ I H _ _ rl q fun ds ws I1 H1 q1 hl s1 r1 => ?_⟩
    show spM K C' n f (V.ref a :: (ws ++ [])) H1 Q E
    rw [List.append_nil]
    have rl1 := rl.stp s1
    exact ⟨I1, a, ws, fs, ls, ds, _, rfl, hl, s1.ih, (obj_at rl1 e).2.1, r1, q1, fun ls' d v I' H' q' g o rp => k _ d v I' H' q' (rl1.mutObj e g o) (s1.ii.trans g.ii) rp⟩
  · exact q.elim
variable {mg : Str → Option Value} {W : WX} {x : T2X} {te : TE} {a : T2M}
theorem semg_methX {f : RCMX} (i : Nat) (h : SAG K (CX1 K mg W x) n ta t) : SEMG K (CX1 K mg W x) (tMethX C m (spMX K mg C n f) (WE W) (tVar i) ta) (mMethX C m i f x t) := by
  intro p env σ I H Q2 Q rl hx q k
  unfold mMethX at q
  split at q
  · rename_i a C' fs ls e
    obtain ⟨⟨rfl, m1, m2⟩, q⟩ := q
    obtain ⟨hv, _, dx, vs, h1, h3⟩ := obj_at rl e
    refine ⟨_, hv, a, dx, vs, rfl, h1, h3.2 m m1 m2, h p env σ I H _ _ rl hx q fun ds ws I1 H1 q1 hl s1 r1 => ?_⟩
    have rl1 := rl.stp s1
    exact ⟨I1, a, ws, fs, ls, ds, _, _, rfl, hl, s1.ih, (obj_at rl1 e).2.1, r1, q1, fun ls' d v I' H' q' g o rp => k _ d v I' H' q' (rl1.mutObj e g o) (s1.ii.trans g.ii) rp,
      fun ls' c ee cls dx I' H' q' g o rx => cx1_hx hx (rl1.mutObj e g o) q' rx⟩
  · exact q.elim
variable {CC : Cnd}
theorem ssgm_drop (h : SEMG K CC te a) : SSG K CC (tDrop te) (mDrop a) := fun p env σ I H D2 E r hx q e =>
  h p env σ I H _ _ r hx q fun e1 d v I' H' q' r' _ rp => e.nx _ _ _ _ q' r'
end
/-! ### an instance's own list: append, pop -/
def dAppF (C : Addr) (i k : Nat) (f : Str) (t : T2E) : T2S := fun E env => match env[i]? with
  | some (some (.obj a C' fs ls)) => (match ls[k]? with | some (g, b, ds) => (C' = C ∧ g = f) ∧ t env fun d => ds.length < 1000000 ∧ E.nx (env.set i (some (.obj a C' fs (ls.set k (g, b, ds ++ [d]))))) | none => False)
  | _ => False
/-- the last one taken off, put to use by F -/
def dPopF (C : Addr) (i k : Nat) (f : Str) (F : Ends2 → Ev → D → Prop) : T2S := fun E env => match env[i]? with
  | some (some (.obj a C' fs ls)) => (match ls[k]? with | some (g, b, ds) => (C' = C ∧ g = f) ∧ ∃ es d, ds = es ++ [d] ∧ F E (env.set i (some (.obj a C' fs (ls.set k (g, b, es))))) d | none => False)
  | _ => False
section
variable {K : Fg} {C : Addr} {fl : List Str} {f : Str} {te : TE} {t : T2E}
theorem set_same {α : Type} {l : List α} {k : Nat} {v : α} (h : l[k]? = some v) : l.set k v = l := by
  refine List.ext_getElem? fun j => ?_
  by_cases e : k = j
  · subst e
    rw [List.getElem?_set_self (List.getElem?_eq_some_iff.mp h).1, h]
  · rw [List.getElem?_set_ne e]
theorem RelL.mutF {p : P0} {env : Ev} {σ : L2.St} {I H : Hp} (r : RelL K p env σ I H) {i k : Nat} {a b : Addr} {g : Str} {fs : List (Str × D)} {ls : Obl} {ds es : List D} {ws : List V} (e : env[i]? = some (some (.obj a C fs ls))) (hk : ls[k]? = some (g, b, ds)) (h : Rps K I ws es) :
    RelL K p (env.set i (some (.obj a C fs (ls.set k (g, b, es))))) σ I (upd H b (.lst ws)) := by
  obtain ⟨v, hv, rfl, ⟨dx, vs, h1, h2, h3⟩, m⟩ := r.r.sl i _ e
  have hb : b ∈ bsO ls := List.mem_map.mpr ⟨_, List.mem_of_getElem? hk, rfl⟩
  obtain ⟨b1, b2, _⟩ := m.live b hb
  have hIb : ∀ c o, I c = some o → c ≠ b := fun c o q => ne_of_none q b2
  have em1 : (ls.set k (g, b, es)).map (·.2.1) = ls.map (·.2.1) := by
    rw [List.map_set]
    refine set_same ?_
    rw [List.getElem?_map, hk]
    rfl
  have em2 : (ls.set k (g, b, es)).map (·.2.2) = (ls.map (·.2.2)).set k es := by rw [List.map_set]
  have ek : ∀ f', (ls.set k (g, b, es)).lookup f' = none → ls.lookup f' = none := fun f' => lk_set hk
  refine r.mutObj e ⟨Same.refl _, fun c o q => by rw [upd_ne (hIb c o q)]; exact r.same c o q, fun c o q _ => ?_, fun c q _ => q, fun c q => ?_⟩ ⟨⟨dx, vs, h1, h2, fun f' b' ds' hm => ?_, fun f' q1 q2 => h3.2 f' q1 (ek f' q2)⟩, ?_⟩
  · obtain ⟨n, q⟩ := cutBs_some q
    rw [upd_ne fun z => n (by rw [z]; exact hb)]
    exact q
  · by_cases z : c = b
    · rw [z, upd_same]; exact fun w => nomatch w
    · rw [upd_ne z]
      intro w
      by_cases n : c ∈ bsO ls
      · exact q (cutBs_in n)
      · rw [cutBs_out n] at q; exact q w
  · rcases List.mem_or_eq_of_mem_set hm with hm | hm
    · exact h3.1 f' b' ds' hm
    · cases hm
      exact h3.1 g b ds (List.mem_of_getElem? hk)
  · rw [em1, em2]
    have m2 := m.set k b ws es (by rw [List.getElem?_map, hk]; rfl) h
    refine (MR.cutLow m2).low fun c q => ?_
    by_cases n : c ∈ bsO ls
    · exact cutBs_in n
    · rw [cutBs_out n]
      have q : cutBs (upd H b (.lst ws)) (bsO ls) c = none := q
      rw [cutBs_out n, upd_ne fun z => n (by rw [z]; exact hb)] at q
      exact q
theorem ss_appF (T : OC K C fl) (i k : Nat) (h : SE K te t) (hf : f ∈ fl := by decide) : SS K (tDrop (tBM K "list" rAppend (tFld K (tVar i) f) (tCons te tNil))) (dAppF C i k f t) := by
  intro p env σ I H D2 E r q e
  unfold dAppF at q
  split at q
  · rename_i a C' fs ls e2
    split at q
    · rename_i g b ds hk
      obtain ⟨⟨rfl, rfl⟩, q⟩ := q
      obtain ⟨v, hv, rfl, ⟨dx, vs, h1, h2, h3⟩, m⟩ := r.r.sl i _ e2
      have hb : b ∈ ls.map (·.2.1) := List.mem_map.mpr ⟨_, List.mem_of_getElem? hk, rfl⟩
      obtain ⟨_, _, us, hH⟩ := m.live b hb
      refine ⟨_, hv, a, C', dx, vs, .ref b, rfl, r.same _ _ h1, T.cls, T.no g hf, h3.1 g b ds (List.mem_of_getElem? hk), .inl ⟨rfl, _, SqL.of hH⟩, h p env σ I H _ _ r q fun d v I1 H1 ⟨hl, q1⟩ s1 r1 => ?_⟩
      have r' := r.stp s1
      obtain ⟨_, _, _, _, m'⟩ := r'.r.sl i _ e2
      obtain ⟨_, _, ws, hw, rw'⟩ := m'.each _ (List.mem_of_getElem? hk)
      refine ⟨b, ws, v, rfl, rfl, hw, lt_line (by rw [rw'.length]; exact hl), ?_⟩
      exact e.nx _ _ _ _ q1 (r'.mutF e2 hk (Rps.append rw' (.cons r1 .nil)))
    · exact q.elim
  · exact q.elim
end
end Z2
namespace Z2
open PySem PySem.Spec PyProof.Rows L2
/-! ### __init__: the instance grows field by field -/
abbrev Fls := List (Str × D)
def Ini (K : Fg) (C x dx : Addr) (fs : Fls) (ls : Obl) (CC : Cnd) : Cnd := fun p σ I H => CC p σ I H ∧ σ[0]? = some (some (.ref x)) ∧ p.H0 x = none ∧ I x = none ∧ ∃ vs, H x = some (.ins C dx vs) ∧ vs.length ≤ fs.length + ls.length ∧ FldD K I vs fs ∧ FldL vs fs ls ∧ MR K p.H0 I H (ls.map (·.2.1)) (ls.map (·.2.2))
abbrev T2N := (Fls → Obl → Prop) → Fls → Obl → Ev → Prop
def SSN (K : Fg) (C : Addr) (CC : Cnd) (ts : TS) (t : T2N) : Prop := ∀ (p : P0) (env : Ev) (σ : L2.St) (I H : Hp) (fs : Fls) (ls : Obl) (x dx : Addr) (Q2 : Fls → Obl → Prop) (E : Ends), RelL K p env σ I H → Ini K C x dx fs ls CC p σ I H → t Q2 fs ls env →
  (∀ fs' ls' I' H', Q2 fs' ls' → RelL K p env σ I' H' → Ini K C x dx fs' ls' CC p σ I' H' → E.nx σ H') → ts E σ H
def nSeq (t u : T2N) : T2N := fun Q fs ls env => t (fun fs' ls' => u Q fs' ls' env) fs ls env
def nNext : T2N := fun Q fs ls _ => Q fs ls
def nDrop (t : T2E) : T2N := fun Q fs ls env => t env fun _ => Q fs ls
/-- self.f, while it grows -/
def nRd (k : Nat) (f : Str) (fs : Fls) : T2E := fun _ Q => match fs[k]? with | some (g, d) => g = f ∧ Q d | none => False
def nFld (f : Str) (t : Fls → T2E) : T2N := fun Q fs ls env => (fs.lookup f = none ∧ ls.lookup f = none ∧ fs.length + ls.length < 100) ∧ t fs env fun d => Q (fs ++ [(f, d)]) ls
def nLst (f : Str) (t : T2A) : T2N := fun Q fs ls env => (fs.lookup f = none ∧ ls.lookup f = none ∧ fs.length + ls.length < 100) ∧ t env fun ds => ∀ b, Q fs (ls ++ [(f, b, ds)])
section
variable {K : Fg} {C x dx : Addr} {CC : Cnd} {fs : Fls} {ls : Obl} {fl : List Str} {f : Str}
theorem ini_stp {p : P0} {env : Ev} {σ : L2.St} {I H I' H' : Hp} (hc : CC p σ I' H') (r : RelL K p env σ I H) (h : Ini K C x dx fs ls CC p σ I H) (s : Stp p I H I' H') : Ini K C x dx fs ls CC p σ I' H' := by
  obtain ⟨_, h0, h1, h2, vs, h3, h4, h5, h6, h7⟩ := h
  have ne : ∀ b, p.H0 b = none → p.m ≠ some b := fun b z q => (r.r.st b q).1 z
  refine ⟨hc, h0, h1, s.gr.fr x h2 (by rw [h3]; exact fun z => nomatch z), vs, s.gr.hh x _ h3 (ne x h1), h4, h5.mono s.ii, h6, h7.stays s.ii fun b hb z1 z2 z3 => ⟨s.gr.fr b z2 z3, ?_⟩⟩
  cases hz : H b with
  | none => exact absurd hz z3
  | some o => exact s.gr.hh b o hz (ne b z1)
theorem ini_kept (hk : Kept K CC) : Kept K (Ini K C x dx fs ls CC) := fun p env σ I H I' H' r h s => ini_stp (hk p env σ I H I' H' r h.1 s) r h s
theorem ssn_seq {ts us : TS} {t u : T2N} (h1 : SSN K C CC ts t) (h2 : SSN K C CC us u) : SSN K C CC (tSeq ts us) (nSeq t u) := fun p env σ I H fs ls x dx Q2 E r h q k =>
  h1 p env σ I H fs ls x dx _ _ r h q fun fs' ls' I' H' q' r' h' => h2 p env σ I' H' fs' ls' x dx Q2 E r' h' q' k
theorem ssn_drop {te : TE} {t : T2E} (hk : Kept K CC) (h : SEG K CC te t) : SSN K C CC (tDrop te) (nDrop t) := fun p env σ I H fs ls x dx Q2 E r hi q k =>
  h p env σ I H _ _ r hi.1 q fun d v I' H' q' s rp => k fs ls I' H' q' (r.stp s) (ini_stp (hk _ _ _ _ _ _ _ r hi.1 s) r hi s)
theorem seg_rd (T : OC K C fl) (k : Nat) (hf : f ∈ fl := by decide) : SEG K (Ini K C x dx fs ls CC) (tFld K (tVar 0) f) (nRd k f fs) := by
  intro p env σ I H Q2 Q r hi q kk
  obtain ⟨_, h0, h1, h2, vs, h3, h4, h5, h6, h7⟩ := hi
  unfold nRd at q
  split at q
  · rename_i g d hl
    obtain ⟨rfl, q⟩ := q
    obtain ⟨u, g1, g2⟩ := h5 g d (List.mem_of_getElem? hl)
    exact ⟨_, h0, x, C, dx, vs, u, rfl, h3, T.cls, T.no g hf, g1, kk d u I H q (.refl r.same) g2⟩
  · exact q.elim
/-- the instance's cell is written -/
theorem ini_put {p : P0} {env : Ev} {σ : L2.St} {I H : Hp} (hc : ∀ p σ I H σ' I' H', CC p σ I H → CC p σ' I' H') (r : RelL K p env σ I H) (hi : Ini K C x dx fs ls CC p σ I H) {vs : List (Str × V)} (hx : H x = some (.ins C dx vs)) (y : V) : RelL K p env σ I (upd H x (.ins C dx (putF f y vs))) := by
  obtain ⟨_, h0, h1, h2, _⟩ := hi
  refine r.beside h1 h2 (fun w xs z => by rw [hx] at z; exact nomatch z) (fun xs z => by rw [hx] at z; exact nomatch z) (fun j z v e1 e2 e3 c => ?_) fun j z e1 e2 => ?_
  · obtain ⟨v2, hv2, sl⟩ := r.r.sl j z e1
    rw [e3] at hv2
    cases hv2
    obtain ⟨_, _, us, hu⟩ := cell_live sl c
    rw [hx] at hu
    exact nomatch hu
  · obtain ⟨v2, hv2, a, us, rfl, _, _, hu, _⟩ := r.r.sl j _ e1
    rw [e2] at hv2
    cases hv2
    rw [hx] at hu
    exact nomatch hu
theorem ssn_fld {te : TE} {t : Fls → T2E} (T : OC K C fl) (hc : ∀ p σ I H σ' I' H', CC p σ I H → CC p σ' I' H') (hk : Kept K CC) (h : ∀ x dx fs ls, SEG K (Ini K C x dx fs ls CC) te (t fs)) (hf : f ∈ fl := by decide) : SSN K C CC (sFld K (tVar 0) te f) (nFld f t) := by
  intro p env σ I H fs ls x dx Q2 E r hi ⟨⟨n1, n2, n3⟩, q⟩ k
  refine h x dx fs ls p env σ I H _ _ r hi q fun d v I1 H1 q1 s1 rp => ?_
  have r1 := r.stp s1
  have hi1 := ini_kept hk p env σ I H I1 H1 r hi s1
  obtain ⟨c0, h0, h1, h2, vs, h3, h4, h5, h6, h7⟩ := id hi1
  refine ⟨_, h0, x, C, dx, vs, rfl, h3, T.cls, T.no f hf, by omega, ?_⟩
  refine k _ _ I1 _ q1 (ini_put hc r1 hi1 h3 v) ⟨hc _ _ _ _ _ _ _ c0, h0, h1, h2, _, upd_same, ?_, fun g e hm => ?_, ⟨fun g b ds hm => ?_, fun g y1 y2 => ?_⟩, h7.stays (Same.refl _) fun b hb z1 z2 z3 => ⟨z2, upd_ne fun w => ?_⟩⟩
  · have := length_putF f v vs
    rw [List.length_append, List.length_singleton]
    omega
  · rw [lookup_putF]
    rcases List.mem_append.mp hm with hm | hm
    · have ng : g ≠ f := fun z => by
        have := lk_keys.mp n1 _ hm
        rw [z] at this
        rw [beq_self_eq_true] at this
        cases this
      rw [if_neg ng]
      exact h5 g e hm
    · have z := List.mem_singleton.mp hm
      cases z
      rw [if_pos rfl]
      exact ⟨v, rfl, rp⟩
  · rw [lookup_putF]
    have ng : g ≠ f := fun z => by
      have := lk_keys.mp n2 _ hm
      rw [z] at this
      rw [beq_self_eq_true] at this
      cases this
    rw [if_neg ng]
    exact h6.1 g b ds hm
  · rw [List.lookup_append] at y1
    rw [lookup_putF]
    cases z : fs.lookup g with
    | some d' => rw [z] at y1; cases y1
    | none =>
      rw [z, Option.none_or] at y1
      have ng : g ≠ f := fun w => by
        rw [w] at y1
        have := lk_keys.mp y1 _ (List.mem_singleton.mpr rfl)
        rw [beq_self_eq_true] at this
        cases this
      rw [if_neg ng]
      exact h6.2 g z y2
  · obtain ⟨_, _, us, hu⟩ := h7.live b hb
    rw [w, h3] at hu
    exact nomatch hu
theorem MR.snocO {H0 I H : Hp} {b : Addr} {us : List V} {ds : List D} {bs : List Addr} {rows : List (List D)} (m : MR K H0 I H bs rows) (h0 : H0 b = none) (h1 : I b = none) (h2 : H b = some (.lst us)) (h3 : Rps K I us ds) (h4 : b ∉ bs) : MR K H0 I H (bs ++ [b]) (rows ++ [ds]) := by
  induction m with
  | nil => exact .cons h0 h1 h2 h3 List.not_mem_nil .nil
  | @cons c vs es bs rows g1 g2 g3 g4 g5 t ih =>
    refine .cons g1 g2 g3 g4 (fun w => ?_) (ih fun w => h4 (List.mem_cons_of_mem _ w))
    rcases List.mem_append.mp w with w | w
    · exact g5 w
    · rw [List.mem_singleton.mp w] at h4
      exact h4 List.mem_cons_self
theorem ssn_lst {te : TE} {t : T2A} (T : OC K C fl) (hc : ∀ p σ I H σ' I' H', CC p σ I H → CC p σ' I' H') (hk : Kept K CC) (h : SO K te t) (hf : f ∈ fl := by decide) : SSN K C CC (sFld K (tVar 0) te f) (nLst f t) := by
  intro p env σ I H fs ls x dx Q2 E r hi ⟨⟨n1, n2, n3⟩, q⟩ k
  refine h p env σ I H _ _ r q fun ds b us I1 H1 q1 s1 b0 b1 b2 rp => ?_
  have r1 := r.stp s1
  have hi1 := ini_kept hk p env σ I H I1 H1 r hi s1
  obtain ⟨_, _, _, _, vs0, hx0, _, _, _, m0⟩ := id hi
  obtain ⟨c0, h0, h1, h2, vs, h3, h4, h5, h6, h7⟩ := id hi1
  have pb : p.H0 b = none := by
    cases z : p.H0 b with
    | none => rfl
    | some o => exact absurd b0 (r.r.gr.th b (by rw [z]; exact fun w => nomatch w))
  have nbx : b ≠ x := fun w => by rw [w, hx0] at b0; cases b0
  have nbs : b ∉ ls.map (·.2.1) := fun w => by
    obtain ⟨_, _, us, hu⟩ := m0.live b w
    rw [b0] at hu
    cases hu
  refine ⟨_, h0, x, C, dx, vs, rfl, h3, T.cls, T.no f hf, by omega, ?_⟩
  refine k _ _ I1 _ (q1 b) (ini_put hc r1 hi1 h3 (.ref b)) ⟨hc _ _ _ _ _ _ _ c0, h0, h1, h2, _, upd_same, ?_, fun g e hm => ?_, ⟨fun g b' ds' hm => ?_, fun g y1 y2 => ?_⟩, ?_⟩
  · have := length_putF f (.ref b) vs
    rw [List.length_append, List.length_singleton]
    omega
  · rw [lookup_putF]
    have ng : g ≠ f := fun z => by
      have := lk_keys.mp n1 _ hm
      rw [z] at this
      rw [beq_self_eq_true] at this
      cases this
    rw [if_neg ng]
    exact h5 g e hm
  · rw [lookup_putF]
    rcases List.mem_append.mp hm with hm | hm
    · have ng : g ≠ f := fun z => by
        have := lk_keys.mp n2 _ hm
        rw [z] at this
        rw [beq_self_eq_true] at this
        cases this
      rw [if_neg ng]
      exact h6.1 g b' ds' hm
    · have z := List.mem_singleton.mp hm
      cases z
      rw [if_pos rfl]
  · rw [List.lookup_append] at y2
    rw [lookup_putF]
    cases z : ls.lookup g with
    | some d' => rw [z] at y2; cases y2
    | none =>
      rw [z, Option.none_or] at y2
      have ng : g ≠ f := fun w => by
        rw [w] at y2
        have := lk_keys.mp y2 _ (List.mem_singleton.mpr rfl)
        rw [beq_self_eq_true] at this
        cases this
      rw [if_neg ng]
      exact h6.2 g y1 z
  · rw [List.map_append, List.map_append]
    have h8 : MR K p.H0 I1 (upd H1 x (.ins C dx (putF f (.ref b) vs))) (ls.map (·.2.1)) (ls.map (·.2.2)) := h7.stays (Same.refl _) fun c hb z1 z2 z3 => ⟨z2, upd_ne fun w => by
      obtain ⟨_, _, us, hu⟩ := h7.live c hb
      rw [w, h3] at hu
      exact nomatch hu⟩
    exact h8.snocO pb b1 (by rw [upd_ne nbx]; exact b2) rp nbs
end
end Z2
namespace Z2
open PySem PySem.Spec PyProof.Rows L2
/-! ### __init__'s promise; C(..) -/
abbrev RCN := List D → (Fls → Obl → Prop) → Prop
abbrev RCNX := List D → (Fls → Obl → Prop) → (Nat → D → Prop) → Prop
def spN (K : Fg) (C : Addr) (n : Nat) (f : RCN) : Sp := fun vs H Q _ => ∃ (I : Hp) (x dx : Addr) (ws : List V) (ds : List D) (Q2 : Fls → Obl → Prop), vs = .ref x :: ws ∧ ws.length = n ∧ Same I H ∧ I x = none ∧ H x = some (.ins C dx []) ∧ Rps K I ws ds ∧ f ds Q2 ∧
  ∀ fs ls vs' I' H', Q2 fs ls → Gr none I (cutBs H [x]) I' H' → I' x = none → H' x = some (.ins C dx vs') → FldD K I' vs' fs → FldL vs' fs ls → MR K (cutBs H [x]) I' H' (ls.map (·.2.1)) (ls.map (·.2.2)) → Q .non H'
def spNX (K : Fg) (mg : Str → Option Value) (C : Addr) (n : Nat) (f : RCNX) : Sp := fun vs H Q E => ∃ (I : Hp) (x dx : Addr) (ws : List V) (ds : List D) (Q2 : Fls → Obl → Prop) (X2 : Nat → D → Prop), vs = .ref x :: ws ∧ ws.length = n ∧ Same I H ∧ I x = none ∧ H x = some (.ins C dx []) ∧ Rps K I ws ds ∧ f ds Q2 X2 ∧
  (∀ fs ls vs' I' H', Q2 fs ls → Gr none I (cutBs H [x]) I' H' → I' x = none → H' x = some (.ins C dx vs') → FldD K I' vs' fs → FldL vs' fs ls → MR K (cutBs H [x]) I' H' (ls.map (·.2.1)) (ls.map (·.2.2)) → Q .non H') ∧
  ∀ c e cls d I' H', X2 c e → Gr none I (cutBs H [x]) I' H' → RX K mg I' H' c e cls d → E cls d H'
def bodyN (N n : Nat) (t : T2N) : RCN := fun ds Q => ds.length = n ∧ t Q [] [] (none :: envD N n ds)
def bodyNX (N n : Nat) (t : T2X → T2N) : RCNX := fun ds Q X => ds.length = n ∧ t (fun _ => X) Q [] [] (none :: envD N n ds)
section
variable {K : Fg} {n : Nat}
theorem start_rel0 {N : List Str} {p : P0} {v0 : V} {ws : List V} {ds : List D} {I H : Hp} (gr : Gr p.m p.I0 p.H0 I H) (st : ∀ s, p.m = some s → p.H0 s ≠ none ∧ Strm I H s) (bs : Same p.B I)
    (r : Rps K I ws ds) (hl : ws.length = n) (hd : ds.length = n) (hN : 1 ≤ N.length) : RelL K p (none :: envD (N.length - 1) n ds) (L2.start N (v0 :: ws)) I H ∧ (L2.start N (v0 :: ws))[0]? = some (some v0) := by
  have hs : L2.start N (v0 :: ws) = some v0 :: (ws.map some ++ List.replicate (N.length - 1 - ws.length) none) := by
    unfold L2.start
    rw [List.map_cons, List.cons_append, List.length_cons, Nat.sub_add_eq, Nat.sub_right_comm]
  rw [hs]
  have kd : ∀ (i : Nat) (x : Sl), ((none : Option Sl) :: envD (N.length - 1) n ds)[i]? = some (some x) → ∃ (j : Nat) (d : D), i = j + 1 ∧ x = .dat d ∧ ds[j]? = some d := fun i x z => by
    cases i with
    | zero => rw [List.getElem?_cons_zero] at z; cases z
    | succ i => rw [List.getElem?_cons_succ] at z; obtain ⟨d, z, hz⟩ := env_get z; exact ⟨i, d, rfl, z, hz⟩
  refine ⟨⟨⟨gr, fun i x z => ?_, fun i j x y b _ z _ _ => ?_, st, bs, fun i j w w' x y b _ z _ _ => ?_, fun i j x y u v c hij hm z1 z2 _ _ c1 => ?_⟩, ?_⟩, rfl⟩
  · obtain ⟨j, d, rfl, rfl, hd⟩ := kd i x z
    obtain ⟨v, hv, rv⟩ := r.got hd
    refine ⟨v, ?_, rv⟩
    have hi := (List.getElem?_eq_some_iff.mp hv).1
    rw [List.getElem?_cons_succ, List.getElem?_append_left (by rw [List.length_map]; exact hi), List.getElem?_map, hv]
    rfl
  · obtain ⟨_, _, _, w, _⟩ := kd _ _ z
    cases w
  · obtain ⟨_, _, _, w, _⟩ := kd _ _ z
    cases w
  · obtain ⟨_, _, _, rfl, _⟩ := kd i x z1
    exact c1.elim
  · unfold envD
    rw [List.length_cons, List.length_cons, List.length_append, List.length_append, List.length_map, List.length_map, List.length_replicate, List.length_replicate, hl, hd]
theorem ini_start {N : List Str} {C x dx : Addr} {ws : List V} {ds : List D} {I H : Hp} {CC : Cnd} (e : Same I H) (hI : I x = none) (hx : H x = some (.ins C dx [])) (r : Rps K I ws ds) (hl : ws.length = n) (hd : ds.length = n) (hN : 1 ≤ N.length) (cc : CC ⟨none, I, cutBs H [x], I⟩ (L2.start N (.ref x :: ws)) I H) :
    RelL K ⟨none, I, cutBs H [x], I⟩ (none :: envD (N.length - 1) n ds) (L2.start N (.ref x :: ws)) I H ∧ Ini K C x dx [] [] CC ⟨none, I, cutBs H [x], I⟩ (L2.start N (.ref x :: ws)) I H := by
  obtain ⟨h1, h2⟩ := start_rel0 (p := ⟨none, I, cutBs H [x], I⟩) (v0 := .ref x) (N := N) (cut_gr (bs := [x]) e fun c hc => by rw [List.mem_singleton.mp hc]; exact hI) (fun s z => nomatch z) (Same.refl _) r hl hd hN
  exact ⟨h1, cc, h2, cutBs_in List.mem_cons_self, hI, [], hx, Nat.zero_le _, (fun f d hm => nomatch hm), ⟨(fun f b ds hm => nomatch hm), fun f _ _ => rfl⟩, .nil⟩
theorem body_okN {N : List Str} {C : Addr} {ts : TS} {t : T2N} (h : SSN K C (fun _ _ _ _ => True) ts t) {vs : List V} {H : Hp} {Q : VK} {E : XK} (hN : 1 ≤ N.length) (q : spN K C n (bodyN (N.length - 1) n t) vs H Q E) : ts { nx := fun _ H' => Q .non H', rt := Q } (L2.start N vs) H := by
  obtain ⟨I, x, dx, ws, ds, Q2, rfl, hl, e, hI, hx, r, ⟨hd, q⟩, k⟩ := q
  obtain ⟨r0, i0⟩ := ini_start (N := N) e hI hx r hl hd hN (CC := fun _ _ _ _ => True) trivial
  exact h _ _ _ I H [] [] x dx Q2 _ r0 i0 q fun fs ls I' H' q' r' hi => by
    obtain ⟨_, _, _, g2, vs', g3, _, g5, g6, g7⟩ := hi
    exact k fs ls vs' I' H' q' r'.r.gr g2 g3 g5 g6 g7
end
/-- __init__ of the text's class -/
structure FxN (P : Program) (w : World) (K : Fg) (mg : Str → Option Value) (base : Heap) (k : Nat) (cn : Str) (C : Addr) (ps : List Str) (sp : Sp) : Prop where
  ex : ∃ f fd, FnOk P w K mg base CX0 k f fd ps sp ∧ Mk K C f ∧ Binds K fd ps []
  gl : mg cn = some (.ref C)
structure FxNX (P : Program) (w : World) (K : Fg) (mg : Str → Option Value) (base : Heap) (k : Nat) (cn : Str) (C : Addr) (ps : List Str) (sp : Sp) : Prop where
  ex : ∃ f fd, FnOk P w K mg base (L2.CX P w) k f fd ps sp ∧ Mk K C f ∧ Binds K fd ps []
  gl : mg cn = some (.ref C)
def Dn (K : Fg) (C : Addr) (qual : Str) (st : Stmt) : Prop := ∃ f fd, Fun K "__init__" qual st f fd ∧ Mk K C f
section
variable {P : Program} {w : World} {K : Fg} {mg : Str → Option Value} {base : Heap} {C : Addr} {cn qual : Str} {ps : List Str} {sp : Sp} {k : Nat}
theorem fx_ofN {st : Stmt} {N : List Str} {n : Nat} {t : T2N} (d : Dn K C qual st) (gl : mg cn = some (.ref C)) (S : FnScope N ps (defScope st)) (bb : BindsM "__init__" qual st ps) (hn : ps.length = n + 1) (hN : 1 ≤ N.length)
    (hb : ∀ (f : Addr) (cdv : Value) (A : Around) (outer : List Env) (s : Shared) (H : Hp) (Q : VK) (E : XK), Room k (A.deeper (envOfC qual (defScope st) s.heap.objs.size f cdv)) →
      ∃ ts, PSs (cxOf CX0 P w K mg base N qual (defScope st) f cdv A outer s H E).nox (defBody st) ts ∧ SSN K C (fun _ _ _ _ => True) ts t) : FxN P w K mg base (k + 1) cn C ps (spN K C n (bodyN (N.length - 1) n t)) := by
  obtain ⟨f, fd, F, hm⟩ := d
  refine ⟨⟨f, fd, F.ok S (fun vs H Q E h => ?_) fun cdv A outer s H vs Q E hr h => ?_, hm, F.binds bb⟩, gl⟩
  · obtain ⟨_, _, _, ws, _, _, rfl, hl, _⟩ := h
    rw [List.length_cons, hl, hn]
  · obtain ⟨ts, h1, h2⟩ := hb f cdv A outer s H Q E hr
    exact ⟨ts, h1, body_okN h2 hN h⟩
theorem pe_mk {X : Cx} {e : Expr} {es : List Expr} {t : TA} {p pos : Pos} (G : FxN X.prog X.w X.K X.mg X.base k cn C ps sp) (hr : Room (k + 1) X.A) (hg : Gl X cn) (ha : PA X (e :: es) t) (hdb : (cn == ("__debug__" : Str)) = false := by decide)
    (he : starEach (e :: es) X.env = (false, eval e X.env) :: starEach es X.env := by rfl) (hpl : (backTo pos (starEach es X.env)).any (·.1) = false := by rfl) : PE X (.Call (.Name cn p) (e :: es) [] pos) (tMake C sp [] E0 t) := by
  obtain ⟨⟨f, fd, F, M, hb⟩, gl⟩ := G
  exact pe_make M F hr hg gl hb .nil pass0 ha hdb he hpl
/-- .. that may raise -/
def tMakeX (C : Addr) (sp : Sp) (E : L2.St → XK) (t : TA) : TE := fun σ H Q => t σ H fun vs H1 => ∀ x dx, H1 x = none → H1 dx = none → dx ≠ x →
  sp (.ref x :: vs) (upd (upd H1 dx (.own x)) x (.ins C dx [])) (fun v H2 => v = .non ∧ Q (.ref x) H2) (E σ)
end
end Z2
namespace Z2
open PySem PySem.Spec PyProof.Rows L2
/-! ### a name is given an instance -/
section
variable {K : Fg} {p : P0} {env : Ev} {σ : L2.St} {I H I' H' : Hp}
theorem RelL.setObj (r : RelL K p env σ I H) {a C : Addr} {fs : Fls} {ls : Obl} (h : ObO K p.H0 I H a C fs ls) (hc : ∀ (j : Nat) (x : Sl) (v : V) (c : Addr), env[j]? = some (some x) → σ[j]? = some (some v) → c ∈ ls.map (·.2.1) → ¬ Cell x v H c) (i : Nat) :
    RelL K p (env.set i (some (.obj a C fs ls))) (σ.set i (some (.ref a))) I H := by
  refine ⟨⟨r.r.gr, fun j x e => ?_, fun j k x y b n e1 e2 e3 e4 => ?_, r.r.st, r.r.bs, r.r.sd.set _ _ _ (fun _ _ z => nomatch z), fun j k y z u1 u2 c n hm e1 e2 e3 e4 c1 c2 => ?_⟩, by rw [List.length_set, List.length_set]; exact r.len⟩
  · rcases getSet e with ⟨rfl, q, hl⟩ | ⟨n, q⟩
    · cases q
      exact ⟨_, List.getElem?_set_self (by rw [← r.len]; exact hl), rfl, h.1, h.2⟩
    · obtain ⟨u, hu, q⟩ := r.r.sl j x q
      exact ⟨u, by rw [List.getElem?_set_ne n]; exact hu, q⟩
  · rcases getSet e1 with ⟨_, q, _⟩ | ⟨n1, q1⟩
    · cases q
    · rcases getSet e2 with ⟨_, q, _⟩ | ⟨n2, q2⟩
      · cases q
      · rw [List.getElem?_set_ne n1] at e3
        rw [List.getElem?_set_ne n2] at e4
        exact r.r.sep j k x y b n q1 q2 e3 e4
  · rcases getSet e1 with ⟨rfl, q, hl⟩ | ⟨n1, q1⟩
    · cases q
      rcases getSet e2 with ⟨z, _, _⟩ | ⟨n2, q2⟩
      · exact n z
      · rw [List.getElem?_set_ne n2] at e4
        exact hc k z u2 c q2 e4 c1 c2
    · rw [List.getElem?_set_ne n1] at e3
      rcases getSet e2 with ⟨rfl, q, hl⟩ | ⟨n2, q2⟩
      · cases q
        exact hc j y u1 c q1 e3 c2 c1
      · rw [List.getElem?_set_ne n2] at e4
        exact r.r.sm j k y z u1 u2 c n hm q1 q2 e3 e4 c1 c2
/-- an instance that was not there before -/
theorem RelL.newObj (r : RelL K p env σ I H) {a C : Addr} {fs : Fls} {ls : Obl} (s : Stp p I H I' H') (ho : InsO K I' a C fs ls) (m : MR K H I' H' (ls.map (·.2.1)) (ls.map (·.2.2))) (i : Nat) :
    RelL K p (env.set i (some (.obj a C fs ls))) (σ.set i (some (.ref a))) I' H' := by
  have r' := r.stp s
  refine r'.setObj ⟨ho, m.low fun c q => ?_⟩ (fun j x v c e1 e2 hc cc => ?_) i
  · cases z : p.H0 c with
    | none => rfl
    | some o => exact absurd q (r.r.gr.th c (by rw [z]; exact fun w => nomatch w))
  · have h0 := (m.live c hc).1
    obtain ⟨u, hu, sl⟩ := r.r.sl j x e1
    rw [e2] at hu
    cases hu
    have c0 := r.cellBack s e1 e2 cc
    obtain ⟨_, _, vs, hv⟩ := cell_live sl c0
    rw [h0] at hv
    cases hv
/-- what C(..) leaves -/
theorem made_stp {C x dx : Addr} {fs : Fls} {ls : Obl} {vs' : List (Str × V)} (e : Same I H) (hx : H x = none) (hd : H dx = none) (hne : dx ≠ x) (g : Gr none I (cutBs (upd (upd H dx (.own x)) x (.ins C dx [])) [x]) I' H') (g1 : I' x = none) (g2 : H' x = some (.ins C dx vs')) (g3 : FldD K I' vs' fs) (g4 : FldL vs' fs ls)
    (m : MR K (cutBs (upd (upd H dx (.own x)) x (.ins C dx [])) [x]) I' H' (ls.map (·.2.1)) (ls.map (·.2.2))) : Gr none I H (upd I' x (.ins C dx vs')) H' ∧ InsO K (upd I' x (.ins C dx vs')) x C fs ls ∧ MR K H (upd I' x (.ins C dx vs')) H' (ls.map (·.2.1)) (ls.map (·.2.2)) := by
  have old : ∀ c o, H c = some o → cutBs (upd (upd H dx (.own x)) x (.ins C dx [])) [x] c = some o := fun c o q => by
    have h1 : c ≠ x := fun z => by rw [z, hx] at q; cases q
    have h2 : c ≠ dx := fun z => by rw [z, hd] at q; cases q
    rw [cutBs_out fun w => h1 (List.mem_singleton.mp w), upd_ne h1, upd_ne h2]
    exact q
  have ii : Same I' (upd I' x (.ins C dx vs')) := fun c o q => by rw [upd_ne (ne_of_none q g1)]; exact q
  refine ⟨⟨g.ii.trans ii, fun c o q => ?_, fun c o q n => g.hh c o (old c o q) n, fun c q n => ?_, fun c q => ?_⟩, ⟨dx, vs', upd_same, g3.mono ii, g4⟩, ?_⟩
  · by_cases z : c = x
    · rw [z, upd_same] at q
      cases q
      rw [z]; exact g2
    · rw [upd_ne z] at q; exact g.ih c o q
  · have h1 : c ≠ x := fun z => n (by rw [z]; exact hx)
    rw [upd_ne h1]
    refine g.fr c q ?_
    cases w : H c with
    | none => exact absurd w n
    | some o => rw [old c o w]; exact fun z => nomatch z
  · refine g.th c ?_
    cases w : H c with
    | none => exact absurd w q
    | some o => rw [old c o w]; exact fun z => nomatch z
  · have m1 : MR K H I' H' (ls.map (·.2.1)) (ls.map (·.2.2)) := m.low fun c q => by
      cases w : H c with
      | none => rfl
      | some o => rw [old c o w] at q; cases q
    refine m1.stays ii fun b hb z1 z2 z3 => ⟨?_, rfl⟩
    have h1 : b ≠ x := fun z => by
      obtain ⟨_, _, us, hu⟩ := m1.live b hb
      rw [z, g2] at hu
      exact nomatch hu
    rw [upd_ne h1]
    exact z2
end
def dAsgN (C : Addr) (f : RCN) (t : T2A) (i : Nat) : T2S := fun E env => t env fun ds => f ds fun fs ls => ∀ a, E.nx (env.set i (some (.obj a C fs ls)))
/-- return C(..), by way of the name j -/
def dRetN2 (C : Addr) (f : RCN) (t : T2A) (j : Nat) : T2S := fun E env => j < env.length ∧ t env fun ds => f ds fun fs ls => ∀ a, E.rv (env.set j (some (.obj a C fs ls))) j
def dRetNX (C : Addr) (f : RCNX) (x : T2X) (t : T2A) (j : Nat) : T2S := fun E env => j < env.length ∧ t env fun ds => f ds (fun fs ls => ∀ a, E.rv (env.set j (some (.obj a C fs ls))) j) (x env)
def dDropNX (C : Addr) (f : RCNX) (x : T2X) (t : T2A) : T2S := fun E env => True ∧ t env fun ds => f ds (fun _ _ => ∀ _ : Addr, E.nx env) (x env)
def dAsgNX (C : Addr) (f : RCNX) (x : T2X) (t : T2A) (i : Nat) : T2S := fun E env => True ∧ t env fun ds => f ds (fun fs ls => ∀ a, E.nx (env.set i (some (.obj a C fs ls)))) (x env)
section
variable {K : Fg} {C : Addr} {n : Nat} {ta : TA} {t : T2A} {E0 : XK}
theorem ss_asgN {f : RCN} (i : Nat) (h : SA K n ta t) : SS K (tAsg (tMake C (spN K C n f) [] E0 ta) (gName i)) (dAsgN C f t i) := by
  intro p env σ I H D2 E r q e
  refine h p env σ I H _ _ r q fun ds ws I1 H1 q1 hl s1 r1 => fun x dx hx hd hne => ?_
  rw [List.append_nil]
  have rl := r.stp s1
  refine ⟨I1, x, dx, ws, ds, _, rfl, hl, fun c o z => ?_, Same.free s1.ih hx, upd_same, r1, q1, fun fs ls vs' I' H' q' g g1 g2 g3 g4 m => ⟨rfl, ?_⟩⟩
  · have hc : ∀ w, H1 w = none → c ≠ w := fun w hw y => by rw [y, Same.free s1.ih hw] at z; cases z
    rw [upd_ne (hc x hx), upd_ne (hc dx hd)]
    exact s1.ih _ _ z
  · obtain ⟨k1, k2, k3⟩ := made_stp s1.ih hx hd hne g g1 g2 g3 g4 m
    exact e.nx _ _ _ _ (q' x) (rl.newObj (.of k1) k2 k3 i)
variable {mg : Str → Option Value} {W : WX} {x : T2X}
end
/-! ### defs that return an instance, or data -/
abbrev RCR := List D → (Fls → Obl → Prop) → (D → Prop) → Prop
def spR (K : Fg) (C : Addr) (n : Nat) (f : RCR) : Sp := fun vs H Q _ => ∃ (I : Hp) (ds : List D) (Qo : Fls → Obl → Prop) (Qd : D → Prop), vs.length = n ∧ Same I H ∧ Rps K I vs ds ∧ f ds Qo Qd ∧ (∀ d v I' H', Qd d → Gr none I H I' H' → Rp K I' v d → Q v H') ∧
  ∀ a fs ls I' H', Qo fs ls → Gr none I H I' H' → InsO K I' a C fs ls → MR K H I' H' (ls.map (·.2.1)) (ls.map (·.2.2)) → Q (.ref a) H'
def bodyR (N n : Nat) (C : Addr) (t : T2S) : RCR := fun ds Qo Qd => ds.length = n ∧ t { nx := fun _ => Qd .none, rt := Qd, rv := fun env i => ∃ a fs ls, env[i]? = some (some (.obj a C fs ls)) ∧ Qo fs ls } (envD N n ds)
def dAsgR (C : Addr) (f : RCR) (t : T2A) (i : Nat) : T2S := fun E env => t env fun ds => f ds (fun fs ls => ∀ a, E.nx (env.set i (some (.obj a C fs ls)))) fun d => E.nx (env.set i (some (.dat d)))
section
variable {K : Fg} {C : Addr} {n : Nat} {ta : TA} {t : T2A} {E0 : XK}
end
section
variable {P : Program} {w : World} {K : Fg} {mg : Str → Option Value} {base : Heap} {C : Addr} {x : Str} {ps : List Str}
end
end Z2
namespace Z2
open PySem PySem.Spec PyProof.Rows L2
/-- a def of a class -/
def clsItem : Stmt → Nat → Stmt
  | .ClassDef _ _ _ b _ _ _ _ _ _ _, k => b.getD k (.Pass ⟨0, 0, 0, 0⟩)
  | s, _ => s
/-! ### what a growing __init__ calls with its own fields -/
section
variable {K : Fg} {C x dx : Addr} {CC : Cnd} {fs : Fls} {ls : Obl}
theorem kept_true {K : Fg} : Kept K (fun _ _ _ _ => True) := fun _ _ _ _ _ _ _ _ _ _ => trivial
theorem seg_weak {C1 C2 : Cnd} {te : TE} {t : T2E} (hw : ∀ p σ I H, C1 p σ I H → C2 p σ I H) (h : SEG K C2 te t) : SEG K C1 te t := fun p env σ I H Q2 Q r hc q k => h p env σ I H Q2 Q r (hw _ _ _ _ hc) q k
theorem seg_ini {te : TE} {t : T2E} (h : SEG K CC te t) : SEG K (Ini K C x dx fs ls CC) te t := seg_weak (fun _ _ _ _ h => h.1) h
theorem sag_of1 {C1 : Cnd} {te : TE} {t : T2E} (h : SEG K C1 te t) (hk : Kept K C1) : SAG K C1 1 (tCons te tNil) (dCons t dNil) := sag_cons hk h sag_nil
end
end Z2
namespace Z2
open PySem PySem.Spec PyProof.Rows L2
theorem nS_nil : nS [] = [] := rfl
theorem nS_none (l : Ev) : nS (none :: l) = none :: nS l := rfl
theorem nS_strm (l : Ev) : nS (some .strm :: l) = none :: nS l := rfl
theorem nS_dat (l : Ev) (d : D) : nS (some (.dat d) :: l) = some (.dat d) :: nS l := rfl
theorem nS_own (l : Ev) (d : List D) : nS (some (.own d) :: l) = some (.own d) :: nS l := rfl
theorem nS_obf (l : Ev) (a C : Addr) (fs : List (Str × D)) : nS (some (.obf a C fs) :: l) = some (.obf a C fs) :: nS l := rfl
theorem nS_obj (l : Ev) (a C : Addr) (fs : List (Str × D)) (ls : List (Str × Addr × List D)) : nS (some (.obj a C fs ls) :: l) = some (.obj a C fs ls) :: nS l := rfl
theorem lsD_nil : lsD [] = [] := rfl
theorem lsD_cons (f : Str) (b : Addr) (ds : List D) (l : List (Str × Addr × List D)) : lsD ((f, b, ds) :: l) = (f, .list ds) :: lsD l := rfl
section
variable {X : Cx}
end
end Z2
namespace Z2
open PySem PySem.Spec PyProof.Rows L2
/-! ### own lists that change inside an expression -/
/-- left.pop(t) -/
def mPopO (j : Nat) (t : T2E) : T2M := fun env Q => match env[j]? with
  | some (some (.own es)) => t env fun x => (match x with
      | .int k => (match ixN es.length k with
        | some m => (match es[m]? with
          | some y => (-(2 ^ 63) ≤ k ∧ k < 2 ^ 63) ∧ Q (env.set j (some (.own (es.eraseIdx m)))) y
          | none => False)
        | none => False)
      | _ => False)
  | _ => False
/-- left.pop() -/
def mPopL (j : Nat) : T2M := fun env Q => match env[j]? with
  | some (some (.own ds)) => ∃ es y, ds = es ++ [y] ∧ Q (env.set j (some (.own es))) y
  | _ => False
/-- xs.append(a) -/
def mAppO (i : Nat) (a : T2M) : T2S := fun E env => match env[i]? with
  | some (some (.own _)) => a env fun env' d => (match env'[i]? with
    | some (some (.own ds)) => ds.length < 1000000 ∧ E.nx (env'.set i (some (.own (ds ++ [d]))))
    | _ => False)
  | _ => False
/-- a if c else b -/
def mIfE (c : T2MT) (a b : T2M) : T2M := fun env Q => c env fun e b' => if b' = true then a e Q else b e Q
section
variable {K : Fg} {te : TE} {t2 : T2E} {a b : T2M} {ta tb : TE}
end
end Z2
namespace Z2
open PySem PySem.Spec PyProof.Rows L2
def rOnce (K : Fg) : R2 := fun x y H Q => ∃ l xs, x = .ref l ∧ y = .int 1 ∧ SqT K H l xs ∧ Q (.ref l) H
/-- a product whose left side may be a tuple taken once -/
def dMulO : R2D := fun x y Q => match x, y with
  | .tuple xs, .int n => (n = 1 ∧ Q (.tuple xs)) ∨ dMul (.tuple xs) (.int n) Q
  | x, y => dMul x y Q
abbrev rMulO (K : Fg) : R2 := fun x y H Q => rOnce K x y H Q ∨ rMulA K x y H Q
end Z2
namespace Z2
open PySem PySem.Spec PyProof.Rows L2
/-! ### an own list held still while an expression without draws is read -/
section
variable {K : Fg} {p : P0} {env : Ev} {σ : L2.St} {I H I' H' : Hp}
def dLn (i : Nat) (t : T2E) : T2E := fun env Q => match env[i]? with
  | some (some (.own ds)) => t (nS (env.set i (some (.dat (.list ds))))) fun d => noLst d = true ∧ Q d
  | some (some (.dat _)) => t env Q
  | _ => False
end
end Z2
namespace Z2
open PySem PySem.Spec PyProof.Rows L2
/-! ### a read-only method that may raise, of an instance of one's own -/
def dCallOX (C : Addr) (m : Str) (i : Nat) (f : RCFX) (x : T2X) (t : T2A) : T2E := fun env Q => match env[i]? with
  | some (some (.obj _ C' fs ls)) => (C' = C ∧ (fs ++ lsD ls).lookup m = none) ∧ t env fun ds => ds.all noLst = true ∧ f (fs ++ lsD ls) ds (fun d => noLst d = true ∧ Q d) (fun c e => noLst e = true ∧ x env c e)
  | _ => False
section
variable {K : Fg} {mg : Str → Option Value} {W : WX} {x : T2X} {C : Addr} {m : Str} {n : Nat} {ta : TA} {t : T2A}
theorem nS_obf_get {env : Ev} {i : Nat} {a C : Addr} {fs : List (Str × D)} (hl : i < env.length) : (nS (env.set i (some (.obf a C fs))))[i]? = some (some (.obf a C fs)) := by
  unfold nS
  rw [List.getElem?_map, List.getElem?_set_self hl]
  rfl
end
/-! ### an own list of parts that change an instance -/
def mAsgO (t : T2MA) (i : Nat) : T2S := fun E env => t env fun e ds => E.nx (e.set i (some (.own ds)))
end Z2
namespace Z2
open PySem PySem.Spec PyProof.Rows L2
/-! ### `except C:` without a name: one clause, whose suite reads nothing of the exception -/
def dTryO (cb : List (Option Bool)) (u : T2S) (tb : T2X → T2S) : T2S := fun E env => tb (fun env' c _ => match cb[c]? with | some (some true) => u E env' | _ => False) E env
section
variable {K : Fg} {mg : Str → Option Value}
theorem ss_tryO {Ch : Addr} {cb : List (Option Bool)} {ts : TS} {u : T2S} {tb : WX → TS} {tb2 : T2X → T2S} (hex : ExF K mg Ch cb) (hb : ∀ W x, SSG K (CX1 K mg W x) (tb W) (tb2 x)) (hs : SS K ts u) :
    SS K (fun D σ H => tb (wOnly K (.ref Ch) (fun _ _ _ => ts) (fun _ _ _ _ => False) D) D σ H) (dTryO cb u tb2) := by
  intro p env σ I H D2 E r q e
  refine hb _ _ p env σ I H D2 E r ?_ q e
  intro env' σ' I' H' c d cls dx r' qx z
  split at qx
  · rename_i hcb
    obtain ⟨C, a, v, h1, rfl, h3, h4, h5⟩ := id z
    exact ⟨true, hex c true C hcb h1, fun _ a' na => hs p env' σ' I' H' D2 E r' qx e, fun w => nomatch w⟩
  · exact qx.elim
end
end Z2
namespace Z2
open PySem PySem.Spec PyProof.Rows L2
/-! ### tuples that are known to have no dict: held as .frz, which the library's SqT takes like any other -/
def PlT (H : Hp) (a : Addr) (xs : List V) : Prop := ∃ o : Obj, H a = some (.frz o (.tup xs)) ∧ o.cls = .type "tuple" ∧ o.dict = none
theorem PlT.sqt {K : Fg} {H : Hp} {a : Addr} {xs : List V} (h : PlT H a xs) : SqT K H a xs := let ⟨o, ho, _⟩ := h; .inl (.inr ⟨o, ho⟩)
theorem PlT.mono {H H' : Hp} {a : Addr} {xs : List V} (e : Same H H') (h : PlT H a xs) : PlT H' a xs := let ⟨o, ho, r⟩ := h; ⟨o, e _ _ ho, r⟩
section
variable {X : Cx}
/-- tuple(a list): such a tuple -/
theorem call_tupleF : CallR X (.type "tuple") (fun xs H Q => ∃ p ys, xs = [.ref p] ∧ SqL X.K H p ys ∧ ∀ l, ∀ o : Obj, o.cls = .type "tuple" → o.dict = none → H l = none → Q (.ref l) (upd H l (.frz o (.tup ys)))) := by
  intro pins s σ H xs us Q I r q
  obtain ⟨p, ys, rfl, hs, q⟩ := q
  obtain ⟨u, rfl, rx⟩ := vals1 r
  cases rx
  obtain ⟨its, rv, pl, hz⟩ := I.list hs
  refine call_tuple_list pl.isList (fun h' hk => ?_) (by rw [List.size_toArray, ← rv.length]; exact hz)
  have I1 : Inv X pins σ H { s with heap := h' } := I.kept (t' := s.toks) hk
  have I2 : Inv X pins σ (upd H h'.objs.size (.frz { cls := .type "tuple", data := .seq its.toArray } (.tup ys))) { s with heap := h'.push { cls := .type "tuple", data := .seq its.toArray } } :=
    I1.laid (t' := s.toks) (fun b o e => Heap.get?_push_of_some _ e) (Nat.le_refl _) (show ObjOk X.prog X.w _ _ _ (.frz _ (.tup ys)) from ⟨Heap.get?_push_size _ rfl, hz, its, rv, IsTup.new _ _⟩)
  exact ⟨.ref h'.objs.size, _, I2, rfl, q _ _ rfl rfl (I1.hok.fresh (Nat.le_refl _))⟩
theorem pairs_of2 {pins : List (Addr × Obj)} {σ : L2.St} {H : Hp} {s : Shared} (I : Inv X pins σ H s) : ∀ {ps : List Addr} {kvs : List (Key × V)}, Paired (fun p kv => SqT X.K H p [kV kv.1, kv.2]) ps kvs →
    ∃ (prs : List (Key × Value)) (pv : List (Value × Value)), KV kvs prs ∧ prs.length = ps.length ∧ pv.length = ps.length ∧ ∀ (j : Nat) (k v : Value), pv[j]? = some (k, v) → (∃ b, ps[j]? = some b ∧ IsTup s.heap b #[k, v]) ∧ ∃ key, prs[j]? = some (key, v) ∧ L2.keyIs key k = true
  | _, _, .nil => ⟨[], [], .nil, rfl, rfl, fun j k v e => by simp at e⟩
  | _, _, .cons (a := p) (b := kv) h t => by
    obtain ⟨prs, pv, r, hl, hl2, hp⟩ := pairs_of2 I t
    obtain ⟨its, rv, ht, _⟩ := I.tuple h
    obtain ⟨u, y, ei, ru, ry⟩ := vals2 rv
    subst ei
    refine ⟨(kv.1, y) :: prs, (u, y) :: pv, .cons ⟨rfl, ry⟩ r, by rw [List.length_cons, List.length_cons, hl], by rw [List.length_cons, List.length_cons, hl2], fun j k v e => ?_⟩
    cases j with
    | zero =>
      cases e
      exact ⟨⟨p, rfl, ht⟩, kv.1, rfl, kV_is (P := X.prog) (w := X.w) ru⟩
    | succ j =>
      obtain ⟨⟨b, e1, e2⟩, key, e3, e4⟩ := hp j k v (by simpa using e)
      exact ⟨⟨b, by simpa using e1, e2⟩, key, by simpa using e3, e4⟩
/-- dict(such a tuple of pairs) -/
theorem call_dictPT (hcalm : X.calm = true) : CallR X (.type "dict") (fun xs H Q => ∃ (a : Addr) (ps : List Addr) (kvs : List (Key × V)), xs = [.ref a] ∧ PlT H a (ps.map V.ref) ∧ Paired (fun p kv => SqT X.K H p [kV kv.1, kv.2]) ps kvs ∧
    ∀ p, H p = none → Q (.ref p) (upd H p (.dK (mergeK [] kvs)))) := by
  intro pins s σ H xs us Q I r q
  obtain ⟨a, ps, kvs, rfl, hq, hp, q⟩ := q
  obtain ⟨u, rfl, rx⟩ := vals1 r
  cases rx
  obtain ⟨o, ho, hc, hd⟩ := hq
  have ok := I.hok a _ ho
  obtain ⟨hg, hz, its, rv, o2, ho2, hc2, n, hdat⟩ := ok
  rw [hg] at ho2
  cases ho2
  have ei := refs_at rv
  subst ei
  rw [List.length_map] at hz
  obtain ⟨prs, pv, rel, hl, hl2, hpr⟩ := pairs_of2 I hp
  refine _root_.PySem.call_dict_pairs (knd := mixKind X.prog X.w) (kvs := prs) (PairArg.tuple a (ps.map Value.ref).toArray (fun j => ps.getD j 0) pv) (I.ok.hd hcalm) ⟨⟨o, n, hg, hc, hd, hdat⟩, by simp [hl2], fun j k v e => ?_⟩ ⟨by rw [hl, hl2], fun j k v e => ?_⟩ (by rw [hl2]; exact hz) fun h' tk hd' k => ?_
  · obtain ⟨⟨b, e1, e2⟩, _⟩ := hpr j k v e
    show _ ∧ PairAt s.heap (ps.getD j 0) k v
    have eg : ps.getD j 0 = b := by rw [List.getD_eq_getElem?_getD, e1]; rfl
    refine ⟨by simp [e1], ?_⟩
    rw [eg]
    exact .inl e2
  · exact (hpr j k v e).2
  · have hm : (s.heap.objs.size == sysModules) = false := beq_eq_false_iff_ne.mpr (Nat.ne_of_gt I.big)
    have hlen : (mergeK [] kvs).length ≤ sizeLine := by
      refine Nat.le_trans (length_mergeK kvs []) ?_
      rw [List.length_nil, Nat.zero_add, rel.length, hl]
      exact hz
    exact ⟨.ref s.heap.objs.size, upd H s.heap.objs.size (.dK (mergeK [] kvs)), I.laid (t' := tk) (fun b o e => k b o (fun w => nomatch w) e) (Nat.le_refl _) (show ObjOk X.prog X.w _ _ _ (.dK (mergeK [] kvs)) from ⟨hlen, hm, merged [] prs, KV.merge rel .nil, hd'⟩), rfl, q _ (I.hok.fresh (Nat.le_refl _))⟩
end
end Z2
namespace Z2
open PySem PySem.Spec PyProof.Rows L2
/-! ### a method that hands out tuple(self.f): its result is known to have no dict -/
def rTupF (K : Fg) : List V → Hp → VK → Prop := fun xs H Q => ∃ p ys, xs = [.ref p] ∧ SqL K H p ys ∧ ∀ l, ∀ o : Obj, o.cls = .type "tuple" → o.dict = none → H l = none → Q (.ref l) (upd H l (.frz o (.tup ys)))
def spTP (K : Fg) (C : Addr) (f : Str) : Sp := fun vs H Q _ => ∃ (I : Hp) (a : Addr) (fs : List (Str × D)) (ds : List D), vs = [.ref a] ∧ Same I H ∧ InsF K I a C fs ∧ (f, PyData.list ds) ∈ fs ∧
  ∀ p us I' H', Gr none I H I' H' → PlT I' p us → Rps K I' us ds → Q (.ref p) H'
section
variable {K : Fg} {C : Addr} {fl : List Str} {f : Str}
theorem ts_tp {N : List Str} (T : OC K C fl) (hf : f ∈ fl) {vs : List V} {H : Hp} {Q : VK} {E : XK} (hN : 1 ≤ N.length) (q : spTP K C f vs H Q E) :
    (tRet (tCB (rTupF K) (tCons (tFld K (tVar 0) f) tNil))) { nx := fun _ H' => Q .non H', rt := Q } (L2.start N vs) H := by
  obtain ⟨I, a, fs, ds, rfl, e, ⟨dx, ws, h1, h2, h3⟩, hm, k⟩ := q
  obtain ⟨u, hu, ru⟩ := h2 f _ hm
  cases ru with
  | @lst b us _ hb hr =>
  have h0 : (L2.start N [V.ref a])[0]? = some (some (.ref a)) := rfl
  refine ⟨_, h0, a, C, dx, ws, _, rfl, e _ _ h1, T.cls, T.no f hf, hu, ?_⟩
  refine ⟨b, us, rfl, .inl (.inl (e _ _ hb)), fun l o o1 o2 hl => ?_⟩
  have g : Gr none I H (upd I l (.frz o (.tup us))) (upd H l (.frz o (.tup us))) := Gr.new e hl
  exact k l us _ _ g ⟨o, upd_same, o1, o2⟩ (Rps.mono g.ii _ _ hr)
end
/-! ### x = dict(e.m()) of pairs of ints handed out so -/
def rDictPT (K : Fg) : List V → Hp → VK → Prop := fun xs H Q => ∃ (a : Addr) (ps : List Addr) (kvs : List (Key × V)), xs = [.ref a] ∧ PlT H a (ps.map V.ref) ∧ Paired (fun p kv => SqT K H p [kV kv.1, kv.2]) ps kvs ∧ ∀ p, H p = none → Q (.ref p) (upd H p (.dK (mergeK [] kvs)))
def dDictT (C : Addr) (m f : Str) (i j : Nat) : T2S := fun E env => match env[i]? with
  | some (some (.obj _ C' fs ls)) => (C' = C ∧ (fs ++ lsD ls).lookup m = none) ∧ ∃ kvs : List (Int × Int), (f, PyData.list (kvs.map fun y => PyData.tuple [.int y.1, .int y.2])) ∈ fs ++ lsD ls ∧ E.nx (env.set j (some (.dki (kvs.foldl (fun ks y => putI ks y.1 (.int y.2)) []))))
  | _ => False
section
variable {K : Fg} {C : Addr} {m f : Str}
theorem pairs_ref {I : Hp} : ∀ {kvs : List (Int × Int)} {us : List V}, Rps K I us (kvs.map fun y => PyData.tuple [.int y.1, .int y.2]) → ∃ ps : List Addr, us = ps.map V.ref ∧ Paired (fun p kv => SqT K I p [kV kv.1, kv.2]) ps (kvs.map fun y => ((Sum.inl y.1 : Key), V.int y.2))
  | [], us, h => by
    cases h
    exact ⟨[], rfl, .nil⟩
  | y :: kvs, us, h => by
    rw [List.map_cons] at h
    cases h with
    | cons h t =>
    obtain ⟨ps, rfl, hp⟩ := pairs_ref t
    cases h with
    | tup hq hr =>
    cases hr with
    | cons h1 t1 =>
    cases t1 with
    | cons h2 t2 =>
    cases t2
    cases h1
    cases h2
    exact ⟨_ :: ps, rfl, .cons hq hp⟩
theorem paired_sqt {I I' : Hp} (e : Same I I') : ∀ {ps : List Addr} {kvs : List (Key × V)}, Paired (fun p kv => SqT K I p [kV kv.1, kv.2]) ps kvs → Paired (fun p kv => SqT K I' p [kV kv.1, kv.2]) ps kvs
  | _, _, .nil => .nil
  | _, _, .cons h t => .cons (Same.sqt e h) (paired_sqt e t)
theorem kdi_fold {I : Hp} : ∀ (kvs : List (Int × Int)) {xs : List (Key × V)} {ks : List (Int × D)}, KDI K I xs ks → KDI K I (mergeK xs (kvs.map fun y => ((Sum.inl y.1 : Key), V.int y.2))) (kvs.foldl (fun ks y => putI ks y.1 (.int y.2)) ks)
  | [], _, _, h => h
  | y :: kvs, _, _, h => kdi_fold kvs (KDI.put (.int _) h)
theorem ss_dictT {E0 : XK} (i j : Nat) : SS K (tAsg (tCB (rDictPT K) (tCons (tMeth C m (spTP K C f) [] E0 (tVar i) tNil) tNil)) (gName j)) (dDictT C m f i j) := by
  intro p env σ I H D2 E r q e0
  unfold dDictT at q
  split at q
  · rename_i a C' fs ls e
    obtain ⟨⟨rfl, hm⟩, kvs, hf, q⟩ := q
    obtain ⟨p', J, S⟩ := still_ex r e
    have hi : i < env.length := (List.getElem?_eq_some_iff.mp e).1
    obtain ⟨v, hv, rfl, dx, vs, h1, h2, h3⟩ := S.rl.r.sl i _ (nS_obf_get hi)
    refine ⟨_, hv, a, dx, vs, rfl, S.rl.same _ _ h1, h3.2 m hm rfl, ?_⟩
    refine ⟨J, a, fs ++ lsD ls, _, rfl, S.rl.same, ⟨dx, vs, h1, h2, h3⟩, hf, fun pp us I' H' g hp hr => ?_⟩
    have s : Stp p' J H I' H' := .of g
    obtain ⟨s2, hb⟩ := S.back s
    obtain ⟨ps, rfl, hP⟩ := pairs_ref hr
    have rl1 := r.stp s2
    have sI : Same I' H' := s.ih
    refine ⟨pp, ps, _, rfl, hp.mono sI, paired_sqt sI hP, fun D hD => ?_⟩
    have hD0 : p.H0 D = none := by
      cases e : p.H0 D with
      | none => rfl
      | some o => exact absurd hD (rl1.r.gr.th D (by rw [e]; exact fun z => nomatch z))
    have hDI : cutBs I' (ls.map (·.2.1)) D = none := Same.free s2.ih hD
    have hown : ∀ (j : Nat) (x : List PyData), env[j]? = some (some (Sl.own x)) → σ[j]? ≠ some (some (V.ref D)) := fun j x e z => by
      obtain ⟨v, hv, a, ws, rfl, _, _, e4, _⟩ := rl1.r.sl j _ e
      rw [hv] at z
      cases z
      rw [hD] at e4; cases e4
    have rl2 := rl1.beside (o := .dK (mergeK [] (kvs.map fun y => ((Sum.inl y.1 : Key), V.int y.2)))) hD0 hDI (fun _ _ z => by rw [hD] at z; cases z) (fun _ z => by rw [hD] at z; cases z) (rl1.freshCell (.refl rl1.same) hD) hown
    exact e0.nx _ _ _ _ q (rl2.setDki hD0 hDI upd_same (kdi_fold kvs .nil) j)
  · exact q.elim
end
section
variable {X : Cx}
theorem cr_tupF : CallR X (.type "tuple") (rTupF X.K) := call_tupleF
theorem cr_dictPT (hcalm : X.calm = true) : CallR X (.type "dict") (rDictPT X.K) := call_dictPT hcalm
end
section
variable {P : Program} {w : World} {K : Fg} {mg : Str → Option Value} {base : Heap} {C : Addr} {m qual : Str} {ps : List Str} {k : Nat} {fl : List Str} {g : Str}
theorem fx_ofTP {st : Stmt} {N : List Str} (T : OC K C fl) (hf : g ∈ fl) (d : Dm K C m qual st) (S : FnScope N ps (defScope st)) (bb : BindsM m qual st ps) (hn : ps.length = 1) (hN : 1 ≤ N.length)
    (hb : ∀ (f : Addr) (cdv : Value) (A : Around) (outer : List Env) (s : Shared) (H : Hp) (Q : VK) (E : XK), Room k (A.deeper (envOfC qual (defScope st) s.heap.objs.size f cdv)) →
      PSs (cxOf CX0 P w K mg base N qual (defScope st) f cdv A outer s H E).nox (defBody st) (tRet (tCB (rTupF K) (tCons (tFld K (tVar 0) g) tNil)))) : FxM P w K mg base (k + 1) C m ps (spTP K C g) := by
  obtain ⟨f, fd, F, hm⟩ := d
  refine ⟨f, fd, F.ok S (fun vs H Q E h => ?_) fun cdv A outer s H vs Q E hr h => ?_, hm, F.binds bb⟩
  · obtain ⟨_, _, _, _, rfl, _⟩ := h
    rw [hn]
    rfl
  · exact ⟨_, hb f cdv A outer s H Q E hr, ts_tp T hf hN h⟩
end
end Z2
namespace Law
open PySem PySem.Spec PyProof.Rows L2 Z2
def top (i : Nat) : Stmt := PySem.Challenge.pw_allbide_k66_whole_every_row_of_times_can.main.body.getD i (.Pass ⟨0, 0, 0, 0⟩)
def mt (k : Nat) : Stmt := clsItem (top 36) k
abbrev N_L_stream : List Str := ["script"]
theorem sc_L_stream : FnScope N_L_stream ["script"] (defScope (top 38)) := ⟨rfl, rfl, rfl, by decide +kernel, rfl, by decide +kernel, by decide +kernel⟩
theorem bb_L_stream : BindsBy "_law_stream" (top 38) ["script"] := fun _ _ _ _ _ _ us hl => match us, hl with | [_], _ => rfl
abbrev N_L_next : List Str := ["stream", "many", "k", "cell", "digit"]
theorem sc_L_next : FnScope N_L_next ["stream", "many"] (defScope (top 39)) := ⟨rfl, rfl, rfl, by decide +kernel, rfl, by decide +kernel, by decide +kernel⟩
theorem bb_L_next : BindsBy "_law_next" (top 39) ["stream", "many"] := fun _ _ _ _ _ _ us hl => match us, hl with | [_, _], _ => rfl
abbrev N_L_pick : List Str := ["stream", "rows"]
theorem sc_L_pick : FnScope N_L_pick ["stream", "rows"] (defScope (top 40)) := ⟨rfl, rfl, rfl, by decide +kernel, rfl, by decide +kernel, by decide +kernel⟩
theorem bb_L_pick : BindsBy "_law_pick" (top 40) ["stream", "rows"] := fun _ _ _ _ _ _ us hl => match us, hl with | [_, _], _ => rfl
def t_L_pick : T2S :=
  (dRet (dOp dIx (dVar 1) (dCallS 0 f_next (dCons (dCB dLen (dCons (dVar 1) dNil)) dNil))))
def f_L_pick : RCD := bodyS (N_L_pick.length - 1) 1 t_L_pick
abbrev N_L_rule : List Str := ["stream", "size", "far", "start", "end", "sides", "pick", "event"]
theorem sc_L_rule : FnScope N_L_rule ["stream", "size", "far"] (defScope (top 42)) := ⟨rfl, rfl, rfl, by decide +kernel, rfl, by decide +kernel, by decide +kernel⟩
theorem bb_L_rule : BindsBy "_law_rule" (top 42) ["stream", "size", "far"] := fun _ _ _ _ _ _ us hl => match us, hl with | [_, _, _], _ => rfl
def t_L_rule : T2S :=
  (dSeq (dAsg (dCallS 0 f_next (dCons (dVar 1) dNil)) (gN 3))
  (dSeq (dAsg (dCallS 0 f_L_pick (dCons (tList (dLc (diR1 (dCons (dVar 1) dNil)) (gN 7) (dB (dOp dNe (dVar 7) (dVar 3))) (dVar 7) [7])) dNil)) (gN 4))
  (dSeq (dAsgO (dCons (dOp dSub (dCallS 0 f_next (dCons (dOp dAdd (dOp dMul (dC (.int (2))) (dVar 2)) (dC (.int (1)))) dNil)) (dVar 2)) (dCons (dOp dSub (dCallS 0 f_next (dCons (dOp dAdd (dOp dMul (dC (.int (2))) (dVar 2)) (dC (.int (1)))) dNil)) (dVar 2)) dNil)) 5)
  (dSeq (dIfS (dB (dOp dGt (dCallS 0 f_next (dCons (dC (.int (3))) dNil)) (dC (.int (0)))))
  (dFrz 5 (dAsgO (dCBO dSorted (dCons (dVar 5) dNil)) 5))
  dNext)
  (dSeq (dAsg (dCallS 0 f_next (dCons (dC (.int (5))) dNil)) (gN 6))
  (dSeq (dIfS (dB (dOp dLt (dVar 6) (dC (.int (2)))))
  (dSetIx 5 (dC .none) (dVar 6))
  dNext)
  (dRet (dTup (dCons (dVar 3) (dCons (dVar 4) (dCons (dOIx 5 (dC (.int (0)))) (dCons (dOIx 5 (dC (.int (1)))) dNil))))))))))))
def f_L_rule : RCD := bodyS (N_L_rule.length - 1) 2 t_L_rule
abbrev N_L_net : List Str := ["stream", "most", "many", "far", "size", "count", "k"]
theorem sc_L_net : FnScope N_L_net ["stream", "most", "many", "far"] (defScope (top 43)) := ⟨rfl, rfl, rfl, by decide +kernel, rfl, by decide +kernel, by decide +kernel⟩
theorem bb_L_net : BindsBy "_law_net" (top 43) ["stream", "most", "many", "far"] := fun _ _ _ _ _ _ us hl => match us, hl with | [_, _, _, _], _ => rfl
def t_L_net : T2S :=
  (dSeq (dAsg (dOp dAdd (dC (.int (1))) (dCallS 0 f_next (dCons (dVar 1) dNil))) (gN 4))
  (dSeq (dAsg (dIf (dB (dOp dGt (dVar 4) (dC (.int (1))))) (dCallS 0 f_next (dCons (dOp dAdd (dVar 2) (dC (.int (1)))) dNil)) (dC (.int (0)))) (gN 5))
  (dRet (dTup (dCons (dVar 4) (dCons (dCB dTupOf (dCons (tList (dLc (diR1 (dCons (dVar 5) dNil)) (gN 6) (fun _ Q => Q true) (dCallS 0 f_L_rule (dCons (dVar 4) (dCons (dVar 3) dNil))) [6])) dNil)) dNil))))))
def f_L_net : RCD := bodyS (N_L_net.length - 1) 3 t_L_net
abbrev N_is_whole : List Str := ["value"]
theorem sc_is_whole : FnScope N_is_whole ["value"] (defScope (top 9)) := ⟨rfl, rfl, rfl, by decide +kernel, rfl, by decide +kernel, by decide +kernel⟩
theorem bb_is_whole : BindsBy "is_whole" (top 9) ["value"] := fun _ _ _ _ _ _ us hl => match us, hl with | [_], _ => rfl
def t_is_whole : T2S :=
  (dRet (dAndV (dIsi "int" (dVar 0)) (dNotV (dIsi "bool" (dVar 0)))))
def f_is_whole : RCD := bodyD N_is_whole.length 1 t_is_whole
abbrev N_is_integer : List Str := ["value", "least", "greatest"]
theorem sc_is_integer : FnScope N_is_integer ["value", "least", "greatest"] (defScope (top 10)) := ⟨rfl, rfl, rfl, by decide +kernel, rfl, by decide +kernel, by decide +kernel⟩
theorem bb_is_integer : BindsBy "is_integer" (top 10) ["value", "least", "greatest"] := fun _ _ _ _ _ _ us hl => match us, hl with | [_, _, _], _ => rfl
def t_is_integer : T2S :=
  (dRet (dAndV (dCB f_is_whole (dCons (dVar 0) dNil)) (dChain dLe dLe (dVar 1) (dVar 0) (dVar 2))))
def f_is_integer : RCD := bodyD N_is_integer.length 3 t_is_integer
abbrev N_is_side : List Str := ["value"]
theorem sc_is_side : FnScope N_is_side ["value"] (defScope (top 12)) := ⟨rfl, rfl, rfl, by decide +kernel, rfl, by decide +kernel, by decide +kernel⟩
theorem bb_is_side : BindsBy "is_side" (top 12) ["value"] := fun _ _ _ _ _ _ us hl => match us, hl with | [_], _ => rfl
def t_is_side : T2S :=
  (dRet (dOrV (dOp dIsN (dVar 0) (dC .none)) (dCB f_is_integer (dCons (dVar 0) (dCons (dUn dNeg (dC (.int (100)))) (dCons (dC (.int (100))) dNil))))))
def f_is_side : RCD := bodyD N_is_side.length 1 t_is_side
abbrev N_is_event : List Str := ["value", "size"]
theorem sc_is_event : FnScope N_is_event ["value", "size"] (defScope (top 11)) := ⟨rfl, rfl, rfl, by decide +kernel, rfl, by decide +kernel, by decide +kernel⟩
theorem bb_is_event : BindsBy "is_event" (top 11) ["value", "size"] := fun _ _ _ _ _ _ us hl => match us, hl with | [_, _], _ => rfl
def t_is_event : T2S :=
  (dRet (dCB f_is_integer (dCons (dVar 0) (dCons (dC (.int (0))) (dCons (dOp dSub (dVar 1) (dC (.int (1)))) dNil)))))
def f_is_event : RCD := bodyD N_is_event.length 2 t_is_event
abbrev N_is_rule : List Str := ["value", "size", "start", "end", "low", "high"]
theorem sc_is_rule : FnScope N_is_rule ["value", "size"] (defScope (top 13)) := ⟨rfl, rfl, rfl, by decide +kernel, rfl, by decide +kernel, by decide +kernel⟩
theorem bb_is_rule : BindsBy "is_rule" (top 13) ["value", "size"] := fun _ _ _ _ _ _ us hl => match us, hl with | [_, _], _ => rfl
def t_is_rule : T2S :=
  (dSeq (dIfS (dOr (dNot (dTru (dIsi "tuple" (dVar 0)))) (dB (dOp dNe (dCB dLen (dCons (dVar 0) dNil)) (dC (.int (4))))))
  (dRet (dC (.bool false)))
  dNext)
  (dSeq (dAsg (dVar 0) (gT 4 (gsCons (gN 2) (gsCons (gN 3) (gsCons (gN 4) (gsCons (gN 5) gsNil))))))
  (dSeq (dIfS (dOr (dNot (dTru (dCB f_is_event (dCons (dVar 2) (dCons (dVar 1) dNil))))) (dOr (dNot (dTru (dCB f_is_event (dCons (dVar 3) (dCons (dVar 1) dNil))))) (dB (dOp dEq (dVar 2) (dVar 3)))))
  (dRet (dC (.bool false)))
  dNext)
  (dSeq (dIfS (dAnd (dB (dOp dIsN (dVar 4) (dC .none))) (dB (dOp dIsN (dVar 5) (dC .none))))
  (dRet (dC (.bool false)))
  dNext)
  (dRet (dAndV (dCB f_is_side (dCons (dVar 4) dNil)) (dCB f_is_side (dCons (dVar 5) dNil))))))))
def f_is_rule : RCD := bodyD N_is_rule.length 2 t_is_rule
abbrev N_is_net : List Str := ["value", "size", "rules", "rule"]
theorem sc_is_net : FnScope N_is_net ["value"] (defScope (top 14)) := ⟨rfl, rfl, rfl, by decide +kernel, rfl, by decide +kernel, by decide +kernel⟩
theorem bb_is_net : BindsBy "is_net" (top 14) ["value"] := fun _ _ _ _ _ _ us hl => match us, hl with | [_], _ => rfl
def t_is_net : T2S :=
  (dSeq (dIfS (dOr (dNot (dTru (dIsi "tuple" (dVar 0)))) (dB (dOp dNe (dCB dLen (dCons (dVar 0) dNil)) (dC (.int (2))))))
  (dRet (dC (.bool false)))
  dNext)
  (dSeq (dAsg (dVar 0) (gT 2 (gsCons (gN 1) (gsCons (gN 2) gsNil))))
  (dSeq (dIfS (dNot (dTru (dCB f_is_integer (dCons (dVar 1) (dCons (dC (.int (1))) (dCons (dC (.int (6))) dNil))))))
  (dRet (dC (.bool false)))
  dNext)
  (dSeq (dIfS (dOr (dNot (dTru (dIsi "tuple" (dVar 2)))) (dB (dOp dGt (dCB dLen (dCons (dVar 2) dNil)) (dC (.int (12))))))
  (dRet (dC (.bool false)))
  dNext)
  (dRet (dCB (dBools fun bs => bs.all id) (dCons (tList (dLc (diS (dVar 2)) (gN 3) (fun _ Q => Q true) (dCB f_is_rule (dCons (dVar 3) (dCons (dVar 1) dNil))) [3])) dNil)))))))
def f_is_net : RCD := bodyD N_is_net.length 1 t_is_net
abbrev N_check_net : List Str := ["net"]
theorem sc_check_net : FnScope N_check_net ["net"] (defScope (top 15)) := ⟨rfl, rfl, rfl, by decide +kernel, rfl, by decide +kernel, by decide +kernel⟩
theorem bb_check_net : BindsBy "check_net" (top 15) ["net"] := fun _ _ _ _ _ _ us hl => match us, hl with | [_], _ => rfl
def t_check_net : T2S :=
  (dIfS (dNot (dTru (dCB f_is_net (dCons (dVar 0) dNil))))
  dNever
  dNext)
def f_check_net : RCD := bodyD N_check_net.length 1 t_check_net
theorem o_check_net {a0 : D} {Q : D → Prop} (h : t_check_net { nx := fun _ => Q .none, rt := Q } [some (.dat a0)]) : f_check_net [a0] Q := ⟨rfl, h⟩
abbrev N_edge_course : List Str := ["net", "value", "index", "side", "start", "end", "low", "high"]
theorem sc_edge_course : FnScope N_edge_course ["net", "value"] (defScope (top 17)) := ⟨rfl, rfl, rfl, by decide +kernel, rfl, by decide +kernel, by decide +kernel⟩
theorem bb_edge_course : BindsBy "edge_course" (top 17) ["net", "value"] := fun _ _ _ _ _ _ us hl => match us, hl with | [_, _], _ => rfl
def t_edge_course : T2S :=
  (dSeq (dIfS (dOr (dNot (dTru (dIsi "tuple" (dVar 1)))) (dB (dOp dNe (dCB dLen (dCons (dVar 1) dNil)) (dC (.int (2))))))
  (dRet (dC .none))
  dNext)
  (dSeq (dAsg (dVar 1) (gT 2 (gsCons (gN 2) (gsCons (gN 3) gsNil))))
  (dSeq (dIfS (dOr (dNot (dTru (dCB f_is_integer (dCons (dVar 2) (dCons (dC (.int (0))) (dCons (dOp dSub (dCB dLen (dCons (dOp dIx (dVar 0) (dC (.int (1)))) dNil)) (dC (.int (1)))) dNil)))))) (dNot (dTru (dIsi "str" (dVar 3)))))
  (dRet (dC .none))
  dNext)
  (dSeq (dAsg (dOp dIx (dOp dIx (dVar 0) (dC (.int (1)))) (dVar 2)) (gT 4 (gsCons (gN 4) (gsCons (gN 5) (gsCons (gN 6) (gsCons (gN 7) gsNil))))))
  (dSeq (dIfS (dAnd (dB (dOp dEq (dVar 3) (dC (.str "high")))) (dB (dOp dNotN (dVar 7) (dC .none))))
  (dRet (dTup (dCons (dVar 4) (dCons (dVar 5) (dCons (dVar 7) dNil)))))
  dNext)
  (dSeq (dIfS (dAnd (dB (dOp dEq (dVar 3) (dC (.str "low")))) (dB (dOp dNotN (dVar 6) (dC .none))))
  (dRet (dTup (dCons (dVar 5) (dCons (dVar 4) (dCons (dUn dNeg (dVar 6)) dNil)))))
  dNext)
  (dRet (dC .none))))))))
def f_edge_course : RCD := bodyD N_edge_course.length 2 t_edge_course
theorem o_edge_course {a0 a1 : D} {Q : D → Prop} (h : t_edge_course { nx := fun _ => Q .none, rt := Q } [some (.dat a0), some (.dat a1), none, none, none, none, none, none]) : f_edge_course [a0, a1] Q := ⟨rfl, h⟩
abbrev N_all_edges : List Str := ["net", "found", "index", "edge", "course", "start", "end", "weight"]
theorem sc_all_edges : FnScope N_all_edges ["net"] (defScope (top 18)) := ⟨rfl, rfl, rfl, by decide +kernel, rfl, by decide +kernel, by decide +kernel⟩
theorem bb_all_edges : BindsBy "all_edges" (top 18) ["net"] := fun _ _ _ _ _ _ us hl => match us, hl with | [_], _ => rfl
def t_all_edges : T2S :=
  (dSeq (dAsgO dNil 1)
  (dSeq (dFor (diR1 (dCons (dCB dLen (dCons (dOp dIx (dVar 0) (dC (.int (1)))) dNil)) dNil)) (gN 2)
  (dFor (diS (dTup (dCons (dTup (dCons (dVar 2) (dCons (dC (.str "high")) dNil))) (dCons (dTup (dCons (dVar 2) (dCons (dC (.str "low")) dNil))) dNil)))) (gN 3)
  (dSeq (dAsg (dCB f_edge_course (dCons (dVar 0) (dCons (dVar 3) dNil))) (gN 4))
  (dIfS (dB (dOp dNotN (dVar 4) (dC .none)))
  (dSeq (dAsg (dVar 4) (gT 3 (gsCons (gN 5) (gsCons (gN 6) (gsCons (gN 7) gsNil)))))
  (dApp 1 (dTup (dCons (dVar 3) (dCons (dVar 5) (dCons (dVar 6) (dCons (dVar 7) dNil)))))))
  dNext))))
  (dFrz 1 (dRet (dCB dTupOf (dCons (dVar 1) dNil))))))
def f_all_edges : RCD := bodyD N_all_edges.length 1 t_all_edges
theorem o_all_edges {a0 : D} {Q : D → Prop} (h : t_all_edges { nx := fun _ => Q .none, rt := Q } [some (.dat a0), none, none, none, none, none, none, none]) : f_all_edges [a0] Q := ⟨rfl, h⟩
abbrev N_walks_without_edges : List Str := ["size", "start", "end"]
theorem sc_walks_without_edges : FnScope N_walks_without_edges ["size"] (defScope (top 27)) := ⟨rfl, rfl, rfl, by decide +kernel, rfl, by decide +kernel, by decide +kernel⟩
theorem bb_walks_without_edges : BindsBy "walks_without_edges" (top 27) ["size"] := fun _ _ _ _ _ _ us hl => match us, hl with | [_], _ => rfl
def t_walks_without_edges : T2S :=
  (dRet (tList (dLc (diR1 (dCons (dVar 0) dNil)) (gN 1) (fun _ Q => Q true) (tList (dLc (diR1 (dCons (dVar 0) dNil)) (gN 2) (fun _ Q => Q true) (dIf (dB (dOp dEq (dVar 1) (dVar 2))) (dTup (dCons (dC (.int (0))) (dCons (dTup dNil) dNil))) (dC .none)) [2])) [1])))
def f_walks_without_edges : RCD := bodyD N_walks_without_edges.length 1 t_walks_without_edges
theorem o_walks_without_edges {a0 : D} {Q : D → Prop} (h : t_walks_without_edges { nx := fun _ => Q .none, rt := Q } [some (.dat a0), none, none]) : f_walks_without_edges [a0] Q := ⟨rfl, h⟩
abbrev N_longer_row : List Str := ["row", "courses", "longer", "edge", "start", "end", "weight", "length", "walk"]
theorem sc_longer_row : FnScope N_longer_row ["row", "courses"] (defScope (top 28)) := ⟨rfl, rfl, rfl, by decide +kernel, rfl, by decide +kernel, by decide +kernel⟩
theorem bb_longer_row : BindsBy "longer_row" (top 28) ["row", "courses"] := fun _ _ _ _ _ _ us hl => match us, hl with | [_, _], _ => rfl
def t_longer_row : T2S :=
  (dSeq (dAsgO (dCBO dListOf (dCons (dVar 0) dNil)) 2)
  (dSeq (dFor (diS (dVar 1)) (gT 4 (gsCons (gN 3) (gsCons (gN 4) (gsCons (gN 5) (gsCons (gN 6) gsNil)))))
  (dIfS (dB (dOp dNotN (dOp dIx (dVar 0) (dVar 4)) (dC .none)))
  (dSeq (dAsg (dOp dIx (dVar 0) (dVar 4)) (gT 2 (gsCons (gN 7) (gsCons (gN 8) gsNil))))
  (dIfS (dOr (dB (dOp dIsN (dOIx 2 (dVar 5)) (dC .none))) (dB (dOp dLt (dOp dAdd (dVar 7) (dVar 6)) (dOp dIx (dOIx 2 (dVar 5)) (dC (.int (0)))))))
  (dSetIx 2 (dTup (dCons (dOp dAdd (dVar 7) (dVar 6)) (dCons (dOp dAdd (dVar 8) (dTup (dCons (dVar 3) dNil))) dNil))) (dVar 5))
  dNext))
  dNext))
  (dFrz 2 (dRet (dVar 2)))))
def f_longer_row : RCD := bodyD N_longer_row.length 2 t_longer_row
theorem o_longer_row {a0 a1 : D} {Q : D → Prop} (h : t_longer_row { nx := fun _ => Q .none, rt := Q } [some (.dat a0), some (.dat a1), none, none, none, none, none, none, none]) : f_longer_row [a0, a1] Q := ⟨rfl, h⟩
abbrev N_round_below : List Str := ["walks", "event", "row", "length", "walk"]
theorem sc_round_below : FnScope N_round_below ["walks"] (defScope (top 29)) := ⟨rfl, rfl, rfl, by decide +kernel, rfl, by decide +kernel, by decide +kernel⟩
theorem bb_round_below : BindsBy "round_below" (top 29) ["walks"] := fun _ _ _ _ _ _ us hl => match us, hl with | [_], _ => rfl
def t_round_below : T2S :=
  (dSeq (dFor (diEnumA (dCons (dVar 0) dNil)) (gT 2 (gsCons (gN 1) (gsCons (gN 2) gsNil)))
  (dSeq (dAsg (dOp dIx (dVar 2) (dVar 1)) (gT 2 (gsCons (gN 3) (gsCons (gN 4) gsNil))))
  (dIfS (dB (dOp dLt (dVar 3) (dC (.int (0)))))
  (dRet (dVar 4))
  dNext)))
  (dRet (dC .none)))
def f_round_below : RCD := bodyD N_round_below.length 1 t_round_below
theorem o_round_below {a0 : D} {Q : D → Prop} (h : t_round_below { nx := fun _ => Q .none, rt := Q } [some (.dat a0), none, none, none, none]) : f_round_below [a0] Q := ⟨rfl, h⟩
abbrev N_least_walks : List Str := ["net", "size", "courses", "walks", "_", "row"]
theorem sc_least_walks : FnScope N_least_walks ["net"] (defScope (top 30)) := ⟨rfl, rfl, rfl, by decide +kernel, rfl, by decide +kernel, by decide +kernel⟩
theorem bb_least_walks : BindsBy "least_walks" (top 30) ["net"] := fun _ _ _ _ _ _ us hl => match us, hl with | [_], _ => rfl
def t_least_walks : T2S :=
  (dSeq (dAsg (dOp dIx (dVar 0) (dC (.int (0)))) (gN 1))
  (dSeq (dAsg (dCB f_all_edges (dCons (dVar 0) dNil)) (gN 2))
  (dSeq (dAsg (dCB f_walks_without_edges (dCons (dVar 1) dNil)) (gN 3))
  (dSeq (dFor (diR1 (dCons (dVar 1) dNil)) (gN 4)
  (dSeq (dAsg (tList (dLc (diS (dVar 3)) (gN 5) (fun _ Q => Q true) (dCB f_longer_row (dCons (dVar 5) (dCons (dVar 2) dNil))) [5])) (gN 3))
  (dIfS (dB (dOp dNotN (dCB f_round_below (dCons (dVar 3) dNil)) (dC .none)))
  (dRet (dVar 3))
  dNext)))
  (dRet (dVar 3))))))
def f_least_walks : RCD := bodyD N_least_walks.length 1 t_least_walks
theorem o_least_walks {a0 : D} {Q : D → Prop} (h : t_least_walks { nx := fun _ => Q .none, rt := Q } [some (.dat a0), none, none, none, none, none]) : f_least_walks [a0] Q := ⟨rfl, h⟩
abbrev N_possible_walks : List Str := ["net", "walks"]
theorem sc_possible_walks : FnScope N_possible_walks ["net"] (defScope (top 31)) := ⟨rfl, rfl, rfl, by decide +kernel, rfl, by decide +kernel, by decide +kernel⟩
theorem bb_possible_walks : BindsBy "possible_walks" (top 31) ["net"] := fun _ _ _ _ _ _ us hl => match us, hl with | [_], _ => rfl
def t_possible_walks : T2S :=
  (dSeq (dAsg (dCB f_least_walks (dCons (dVar 0) dNil)) (gN 1))
  (dSeq (dIfS (dB (dOp dNotN (dCB f_round_below (dCons (dVar 1) dNil)) (dC .none)))
  dNever
  dNext)
  (dRet (dVar 1))))
def f_possible_walks : RCD := bodyD N_possible_walks.length 1 t_possible_walks
theorem o_possible_walks {a0 : D} {Q : D → Prop} (h : t_possible_walks { nx := fun _ => Q .none, rt := Q } [some (.dat a0), none]) : f_possible_walks [a0] Q := ⟨rfl, h⟩
abbrev N_lengths_of : List Str := ["walks", "row", "found"]
theorem sc_lengths_of : FnScope N_lengths_of ["walks"] (defScope (top 32)) := ⟨rfl, rfl, rfl, by decide +kernel, rfl, by decide +kernel, by decide +kernel⟩
theorem bb_lengths_of : BindsBy "lengths_of" (top 32) ["walks"] := fun _ _ _ _ _ _ us hl => match us, hl with | [_], _ => rfl
def t_lengths_of : T2S :=
  (dRet (dCB dTupOf (dCons (tList (dLc (diS (dVar 0)) (gN 1) (fun _ Q => Q true) (dCB dTupOf (dCons (tList (dLc (diS (dVar 1)) (gN 2) (fun _ Q => Q true) (dIf (dB (dOp dIsN (dVar 2) (dC .none))) (dC .none) (dOp dIx (dVar 2) (dC (.int (0))))) [2])) dNil)) [1])) dNil)))
def f_lengths_of : RCD := bodyD N_lengths_of.length 1 t_lengths_of
theorem o_lengths_of {a0 : D} {Q : D → Prop} (h : t_lengths_of { nx := fun _ => Q .none, rt := Q } [some (.dat a0), none, none]) : f_lengths_of [a0] Q := ⟨rfl, h⟩
abbrev N_Telling___init__ : List Str := ["self", "net"]
theorem sc_Telling___init__ : FnScope N_Telling___init__ ["self", "net"] (defScope (mt 0)) := ⟨rfl, rfl, rfl, by decide +kernel, rfl, by decide +kernel, by decide +kernel⟩
theorem bb_Telling___init__ : BindsM "__init__" "Telling.__init__" (mt 0) ["self", "net"] := fun _ _ _ _ _ _ us hl => match us, hl with | [_, _], _ => rfl
def t_Telling___init__ (C : Addr) : T2N :=
  (nSeq (nDrop (dCB f_check_net (dCons (dVar 1) dNil)))
  (nSeq (nFld "_walks" fun _ => (dCB f_possible_walks (dCons (dVar 1) dNil)))
  (nSeq (nFld "_bounds" fun fs => dCB f_lengths_of (dCons (nRd 0 "_walks" fs) dNil))
  (nSeq (nFld "_net" fun _ => (dVar 1))
  (nLst "_pieces" dNil)))))
def f_Telling___init__ (C : Addr) : RCN := bodyN (N_Telling___init__.length - 1) 1 (t_Telling___init__ C)
theorem o_Telling___init__ {C : Addr} {a0 : D} {Q : Fls → Obl → Prop} (h : t_Telling___init__ C Q [] [] [none, some (.dat a0)]) : f_Telling___init__ C [a0] Q := ⟨rfl, h⟩
abbrev N_L_order : List Str := ["stream", "many", "left", "k"]
theorem sc_L_order : FnScope N_L_order ["stream", "many"] (defScope (top 41)) := ⟨rfl, rfl, rfl, by decide +kernel, rfl, by decide +kernel, by decide +kernel⟩
theorem bb_L_order : BindsBy "_law_order" (top 41) ["stream", "many"] := fun _ _ _ _ _ _ us hl => match us, hl with | [_, _], _ => rfl
def t_L_order : T2S :=
  (dSeq (dAsgO (dLstRg (dVar 1)) 2)
  (dRetPop 2 (diR1 (dCons (dVar 1) dNil)) (gN 3) (dCallS 0 f_next (dCons (dLenOwn 2) dNil)) [3]))
def f_L_order : RCD := bodyS (N_L_order.length - 1) 1 t_L_order
theorem o_L_order {a0 : D} {Q : D → Prop} (h : t_L_order { nx := fun _ => Q .none, rt := Q } [some .strm, some (.dat a0), none, none]) : f_L_order [a0] Q := ⟨rfl, h⟩
abbrev N_L_edges : List Str := ["net", "found", "k", "start", "end", "low", "high"]
theorem sc_L_edges : FnScope N_L_edges ["net"] (defScope (top 46)) := ⟨rfl, rfl, rfl, by decide +kernel, rfl, by decide +kernel, by decide +kernel⟩
theorem bb_L_edges : BindsBy "_law_edges" (top 46) ["net"] := fun _ _ _ _ _ _ us hl => match us, hl with | [_], _ => rfl
def t_L_edges : T2S :=
  (dSeq (dAsgO dNil 1)
  (dSeq (dFor (diR1 (dCons (dCB dLen (dCons (dOp dIx (dVar 0) (dC (.int (1)))) dNil)) dNil)) (gN 2)
  (dSeq (dAsg (dOp dIx (dOp dIx (dVar 0) (dC (.int (1)))) (dVar 2)) (gT 4 (gsCons (gN 3) (gsCons (gN 4) (gsCons (gN 5) (gsCons (gN 6) gsNil))))))
  (dSeq (dExt 1 (dOp dMul (tList (dCons (dTup (dCons (dTup (dCons (dVar 2) (dCons (dC (.str "high")) dNil))) (dCons (dVar 3) (dCons (dVar 4) (dCons (dVar 6) dNil))))) dNil)) (dCB dIntOf (dCons (dOp dNotN (dVar 6) (dC .none)) dNil))))
  (dExt 1 (dIf (dB (dOp dNotN (dVar 5) (dC .none))) (tList (dCons (dTup (dCons (dTup (dCons (dVar 2) (dCons (dC (.str "low")) dNil))) (dCons (dVar 4) (dCons (dVar 3) (dCons (dOp dSub (dC (.int (0))) (dVar 5)) dNil))))) dNil)) (tList dNil))))))
  (dFrz 1 (dRet (dVar 1)))))
def f_L_edges : RCD := bodyD N_L_edges.length 1 t_L_edges
theorem o_L_edges {a0 : D} {Q : D → Prop} (h : t_L_edges { nx := fun _ => Q .none, rt := Q } [some (.dat a0), none, none, none, none, none, none]) : f_L_edges [a0] Q := ⟨rfl, h⟩
abbrev N_L_bounds : List Str := ["net", "size", "best", "event", "turn", "edge", "start", "end", "weight"]
theorem sc_L_bounds : FnScope N_L_bounds ["net"] (defScope (top 47)) := ⟨rfl, rfl, rfl, by decide +kernel, rfl, by decide +kernel, by decide +kernel⟩
theorem bb_L_bounds : BindsBy "_law_bounds" (top 47) ["net"] := fun _ _ _ _ _ _ us hl => match us, hl with | [_], _ => rfl
def t_L_bounds (w : World) : T2S :=
  (dSeq (dAsg (dOp dIx (dVar 0) (dC (.int (0)))) (gN 1))
  (dSeq (dNewD w 2)
  (dSeq (dFor (diR1 (dCons (dVar 1) dNil)) (gN 3)
  (dPutD w 2 (dTup (dCons (dVar 3) (dCons (dVar 3) dNil))) (dC (.int (0)))))
  (dSeq (dFor (diR1 (dCons (dOp dAdd (dVar 1) (dC (.int (1)))) dNil)) (gN 4)
  (dFor (diS (dCB f_L_edges (dCons (dVar 0) dNil))) (gT 4 (gsCons (gN 5) (gsCons (gN 6) (gsCons (gN 7) (gsCons (gN 8) gsNil)))))
  (dFor (diR1 (dCons (dVar 1) dNil)) (gN 3)
  (dIfS (dAnd (dB (dInO false 2 (dTup (dCons (dVar 3) (dCons (dVar 6) dNil))))) (dB (dOp dLt (dOp dAdd (dGetD w 2 (dTup (dCons (dVar 3) (dCons (dVar 6) dNil)))) (dVar 8)) (dOGet2 2 (dTup (dCons (dVar 3) (dCons (dVar 7) dNil))) (dOp dPow (dC (.int (10))) (dC (.int (9))))))))
  (dPutD w 2 (dTup (dCons (dVar 3) (dCons (dVar 7) dNil))) (dOp dAdd (dGetD w 2 (dTup (dCons (dVar 3) (dCons (dVar 6) dNil)))) (dVar 8)))
  dNext))))
  (dFrzD 2 (dRet (dIf (dTru (dCB (dBools fun bs => bs.any id) (dCons (tList (dLc (diR1 (dCons (dVar 1) dNil)) (gN 3) (fun _ Q => Q true) (dOp dLt (dOp dGetF (dVar 2) (dTup (dCons (dVar 3) (dCons (dVar 3) dNil)))) (dC (.int (0)))) [3])) dNil))) (dC .none) (dVar 2))))))))
def f_L_bounds (w : World) : RCD := bodyD N_L_bounds.length 1 (t_L_bounds w)
theorem o_L_bounds {w : World} {a0 : D} {Q : D → Prop} (h : t_L_bounds w { nx := fun _ => Q .none, rt := Q } [some (.dat a0), none, none, none, none, none, none, none, none]) : f_L_bounds w [a0] Q := ⟨rfl, h⟩
abbrev N_L_all_times : List Str := ["size", "far", "rows", "event", "longer", "row", "time"]
theorem sc_L_all_times : FnScope N_L_all_times ["size", "far"] (defScope (top 48)) := ⟨rfl, rfl, rfl, by decide +kernel, rfl, by decide +kernel, by decide +kernel⟩
theorem bb_L_all_times : BindsBy "_law_all_times" (top 48) ["size", "far"] := fun _ _ _ _ _ _ us hl => match us, hl with | [_, _], _ => rfl
def t_L_all_times : T2S :=
  (dSeq (dAsg (tList (dCons (dTup dNil) dNil)) (gN 2))
  (dSeq (dFor (diR1 (dCons (dVar 0) dNil)) (gN 3)
  (dSeq (dAsgO dNil 4)
  (dSeq (dFor (diS (dVar 2)) (gN 5)
  (dExt 4 (tList (dLc (diR2 (dCons (dOp dSub (dC (.int (0))) (dVar 1)) (dCons (dOp dAdd (dVar 1) (dC (.int (1)))) dNil))) (gN 6) (fun _ Q => Q true) (dOp dAdd (dVar 5) (dTup (dCons (dVar 6) dNil))) [6]))))
  (dFrz 4 (dAsg (dVar 4) (gN 2))))))
  (dRet (dVar 2))))
def f_L_all_times : RCD := bodyD N_L_all_times.length 2 t_L_all_times
theorem o_L_all_times {a0 a1 : D} {Q : D → Prop} (h : t_L_all_times { nx := fun _ => Q .none, rt := Q } [some (.dat a0), some (.dat a1), none, none, none, none, none]) : f_L_all_times [a0, a1] Q := ⟨rfl, h⟩
abbrev N_check_event : List Str := ["net", "name", "event"]
theorem sc_check_event : FnScope N_check_event ["net", "name", "event"] (defScope (top 16)) := ⟨rfl, rfl, rfl, by decide +kernel, rfl, by decide +kernel, by decide +kernel⟩
theorem bb_check_event : BindsBy "check_event" (top 16) ["net", "name", "event"] := fun _ _ _ _ _ _ us hl => match us, hl with | [_, _, _], _ => rfl
def t_check_event : T2S :=
  (dIfS (dNot (dTru (dCB f_is_event (dCons (dVar 2) (dCons (dOp dIx (dVar 0) (dC (.int (0)))) dNil)))))
  dNever
  dNext)
def f_check_event : RCD := bodyD N_check_event.length 3 t_check_event
def tX_check_event (x : T2X) : T2S :=
  (dIfS (dNot (dTru (dCB f_is_event (dCons (dVar 2) (dCons (dOp dIx (dVar 0) (dC (.int (0)))) dNil)))))
  (dRaise x 0 (dVar 1))
  dNext)
def fX_check_event : RCX := bodyX N_check_event.length 3 (tX_check_event)
theorem o_check_event {a0 a1 a2 : D} {Q : D → Prop} (h : t_check_event { nx := fun _ => Q .none, rt := Q } [some (.dat a0), some (.dat a1), some (.dat a2)]) : f_check_event [a0, a1, a2] Q := ⟨rfl, h⟩
abbrev N_marks : List Str := ["time", "there", "back", "low", "high"]
theorem sc_marks : FnScope N_marks ["time", "there", "back"] (defScope (top 20)) := ⟨rfl, rfl, rfl, by decide +kernel, rfl, by decide +kernel, by decide +kernel⟩
theorem bb_marks : BindsBy "marks" (top 20) ["time", "there", "back"] := fun _ _ _ _ _ _ us hl => match us, hl with | [_, _, _], _ => rfl
def t_marks : T2S :=
  (dSeq (dAsg (dIf (dB (dOp dIsN (dVar 1) (dC .none))) (dC .none) (dOp dSub (dVar 0) (dVar 1))) (gN 3))
  (dSeq (dAsg (dIf (dB (dOp dIsN (dVar 2) (dC .none))) (dC .none) (dOp dAdd (dVar 0) (dVar 2))) (gN 4))
  (dRet (dTup (dCons (dVar 3) (dCons (dVar 4) dNil))))))
def f_marks : RCD := bodyD N_marks.length 3 t_marks
theorem o_marks {a0 a1 a2 : D} {Q : D → Prop} (h : t_marks { nx := fun _ => Q .none, rt := Q } [some (.dat a0), some (.dat a1), some (.dat a2), none, none]) : f_marks [a0, a1, a2] Q := ⟨rfl, h⟩
abbrev N_room_beside : List Str := ["bounds", "event", "row", "pairs", "low", "high", "other", "time", "mark", "_"]
theorem sc_room_beside : FnScope N_room_beside ["bounds", "event", "row"] (defScope (top 22)) := ⟨rfl, rfl, rfl, by decide +kernel, rfl, by decide +kernel, by decide +kernel⟩
theorem bb_room_beside : BindsBy "room_beside" (top 22) ["bounds", "event", "row"] := fun _ _ _ _ _ _ us hl => match us, hl with | [_, _, _], _ => rfl
def t_room_beside : T2S :=
  (dSeq (dAsg (tList (dLc (diS (dVar 2)) (gT 2 (gsCons (gN 6) (gsCons (gN 7) gsNil))) (fun _ Q => Q true) (dCB f_marks (dCons (dVar 7) (dCons (dOp dIx (dOp dIx (dVar 0) (dVar 1)) (dVar 6)) (dCons (dOp dIx (dOp dIx (dVar 0) (dVar 6)) (dVar 1)) dNil)))) [6, 7])) (gN 3))
  (dSeq (dAsg (dCBK dmaxDf (dCons (tList (dLc (diS (dVar 3)) (gT 2 (gsCons (gN 8) (gsCons (gN 9) gsNil))) (dB (dOp dNotN (dVar 8) (dC .none))) (dVar 8) [8, 9])) dNil) (dCons (dC .none) dNil)) (gN 4))
  (dSeq (dAsg (dCBK dminDf (dCons (tList (dLc (diS (dVar 3)) (gT 2 (gsCons (gN 9) (gsCons (gN 8) gsNil))) (dB (dOp dNotN (dVar 8) (dC .none))) (dVar 8) [9, 8])) dNil) (dCons (dC .none) dNil)) (gN 5))
  (dRet (dTup (dCons (dVar 4) (dCons (dVar 5) dNil)))))))
def f_room_beside : RCD := bodyD N_room_beside.length 3 t_room_beside
theorem o_room_beside {a0 a1 a2 : D} {Q : D → Prop} (h : t_room_beside { nx := fun _ => Q .none, rt := Q } [some (.dat a0), some (.dat a1), some (.dat a2), none, none, none, none, none, none, none]) : f_room_beside [a0, a1, a2] Q := ⟨rfl, h⟩
abbrev N_Telling__window : List Str := ["self", "event"]
theorem sc_Telling__window : FnScope N_Telling__window ["self", "event"] (defScope (mt 1)) := ⟨rfl, rfl, rfl, by decide +kernel, rfl, by decide +kernel, by decide +kernel⟩
theorem bb_Telling__window : BindsM "_window" "Telling._window" (mt 1) ["self", "event"] := fun _ _ _ _ _ _ us hl => match us, hl with | [_, _], _ => rfl
def t_Telling__window (C : Addr) : T2S :=
  (dRet (dCB f_room_beside (dCons (dFld C 0 1 "_bounds") (dCons (dVar 1) (dCons (dFld C 0 3 "_pieces") dNil)))))
def f_Telling__window (C : Addr) : RCF := bodyF (N_Telling__window.length - 1) 1 C (t_Telling__window C)
theorem o_Telling__window {C : Addr} {fs : List (Str × D)} {a0 : D} {Q : D → Prop} (h : ∀ a, t_Telling__window C { nx := fun _ => Q .none, rt := Q } [some (.obf a C fs), some (.dat a0)]) : f_Telling__window C fs [a0] Q := ⟨rfl, h⟩
abbrev N_Telling_windows : List Str := ["self", "event"]
theorem sc_Telling_windows : FnScope N_Telling_windows ["self"] (defScope (mt 5)) := ⟨rfl, rfl, rfl, by decide +kernel, rfl, by decide +kernel, by decide +kernel⟩
theorem bb_Telling_windows : BindsM "windows" "Telling.windows" (mt 5) ["self"] := fun _ _ _ _ _ _ us hl => match us, hl with | [_], _ => rfl
def t_Telling_windows (C : Addr) : T2S :=
  (dRet (dCB dTupOf (dCons (tList (dLc (diR1 (dCons (dOp dIx (dFld C 0 2 "_net") (dC (.int (0)))) dNil)) (gN 1) (fun _ Q => Q true) (dCallF C "_window" 0 (f_Telling__window C) (dCons (dVar 1) dNil)) [1])) dNil)))
def f_Telling_windows (C : Addr) : RCF := bodyF (N_Telling_windows.length - 1) 0 C (t_Telling_windows C)
theorem o_Telling_windows {C : Addr} {fs : List (Str × D)} {Q : D → Prop} (h : ∀ a, t_Telling_windows C { nx := fun _ => Q .none, rt := Q } [some (.obf a C fs), none]) : f_Telling_windows C fs [] Q := ⟨rfl, h⟩
abbrev N_is_news_time : List Str := ["value"]
theorem sc_is_news_time : FnScope N_is_news_time ["value"] (defScope (top 25)) := ⟨rfl, rfl, rfl, by decide +kernel, rfl, by decide +kernel, by decide +kernel⟩
theorem bb_is_news_time : BindsBy "is_news_time" (top 25) ["value"] := fun _ _ _ _ _ _ us hl => match us, hl with | [_], _ => rfl
def t_is_news_time : T2S :=
  (dRet (dCB f_is_integer (dCons (dVar 0) (dCons (dUn dNeg (dC (.int (500)))) (dCons (dC (.int (500))) dNil)))))
def f_is_news_time : RCD := bodyD N_is_news_time.length 1 t_is_news_time
theorem o_is_news_time {a0 : D} {Q : D → Prop} (h : t_is_news_time { nx := fun _ => Q .none, rt := Q } [some (.dat a0)]) : f_is_news_time [a0] Q := ⟨rfl, h⟩
abbrev N_clamped : List Str := ["height", "low", "high"]
theorem sc_clamped : FnScope N_clamped ["height", "low", "high"] (defScope (top 21)) := ⟨rfl, rfl, rfl, by decide +kernel, rfl, by decide +kernel, by decide +kernel⟩
theorem bb_clamped : BindsBy "clamped" (top 21) ["height", "low", "high"] := fun _ _ _ _ _ _ us hl => match us, hl with | [_, _, _], _ => rfl
def t_clamped : T2S :=
  (dSeq (dIfS (dB (dOp dNotN (dVar 1) (dC .none)))
  (dAsg (dCB (dInt2 fun i j => if j > i then j else i) (dCons (dVar 0) (dCons (dVar 1) dNil))) (gN 0))
  dNext)
  (dSeq (dIfS (dB (dOp dNotN (dVar 2) (dC .none)))
  (dAsg (dCB (dInt2 fun i j => if j < i then j else i) (dCons (dVar 0) (dCons (dVar 2) dNil))) (gN 0))
  dNext)
  (dRet (dVar 0))))
def f_clamped : RCD := bodyD N_clamped.length 3 t_clamped
theorem o_clamped {a0 a1 a2 : D} {Q : D → Prop} (h : t_clamped { nx := fun _ => Q .none, rt := Q } [some (.dat a0), some (.dat a1), some (.dat a2)]) : f_clamped [a0, a1, a2] Q := ⟨rfl, h⟩
abbrev N_Telling_tell : List Str := ["self", "event", "time", "low", "high", "other", "_"]
theorem sc_Telling_tell : FnScope N_Telling_tell ["self", "event", "time"] (defScope (mt 3)) := ⟨rfl, rfl, rfl, by decide +kernel, rfl, by decide +kernel, by decide +kernel⟩
theorem bb_Telling_tell : BindsM "tell" "Telling.tell" (mt 3) ["self", "event", "time"] := fun _ _ _ _ _ _ us hl => match us, hl with | [_, _, _], _ => rfl
def t_Telling_tell (C : Addr) : T2S :=
  (dSeq (dDrop (dCB f_check_event (dCons (dFld C 0 2 "_net") (dCons (dC (.str "event")) (dCons (dVar 1) dNil)))))
  (dSeq (dIfS (dNot (dTru (dCB f_is_news_time (dCons (dVar 2) dNil))))
  dNever
  dNext)
  (dSeq (dIfS (dFzT 0 (dB (dOp (dIn false) (dVar 1) (tList (dLc (diS (dFld C 0 3 "_pieces")) (gT 2 (gsCons (gN 5) (gsCons (gN 6) gsNil))) (fun _ Q => Q true) (dVar 5) [5, 6])))))
  dNever
  dNext)
  (dSeq (dAsg (dFz 0 (dCallF C "_window" 0 (f_Telling__window C) (dCons (dVar 1) dNil))) (gT 2 (gsCons (gN 3) (gsCons (gN 4) gsNil))))
  (dSeq (dIfS (dB (dOp dNe (dCB f_clamped (dCons (dVar 2) (dCons (dVar 3) (dCons (dVar 4) dNil)))) (dVar 2)))
  dNever
  dNext)
  (dSeq (dAppF C 0 0 "_pieces" (dTup (dCons (dVar 1) (dCons (dVar 2) dNil))))
  (dRetE (dFz 0 (dCallF C "windows" 0 (f_Telling_windows C) dNil)))))))))
def f_Telling_tell (C : Addr) : RCM := bodyM (N_Telling_tell.length - 1) 2 C (t_Telling_tell C)
theorem o_Telling_tell {C : Addr} {fs : List (Str × D)} {ls : Obl} {a0 a1 : D} {Q : Obl → D → Prop} (h : ∀ a, t_Telling_tell C { nx := fun env => isO a C fs env fun ls' => Q ls' .none, rt := fun _ => False, re := fun env d => isO a C fs env fun ls' => Q ls' d } [some (.obj a C fs ls), some (.dat a0), some (.dat a1), none, none, none, none]) : f_Telling_tell C fs ls [a0, a1] Q := ⟨rfl, h⟩
def tX_Telling_tell (C : Addr) (x : T2X) : T2S :=
  (dSeq (dDrop (dCBX (orX f_check_event fX_check_event) x (dCons (dFld C 0 2 "_net") (dCons (dC (.str "event")) (dCons (dVar 1) dNil)))))
  (dSeq (dIfS (dNot (dTru (dCB f_is_news_time (dCons (dVar 2) dNil))))
  (dRaise x 0 (dC (.str "time")))
  dNext)
  (dSeq (dIfS (dFzT 0 (dB (dOp (dIn false) (dVar 1) (tList (dLc (diS (dFld C 0 3 "_pieces")) (gT 2 (gsCons (gN 5) (gsCons (gN 6) gsNil))) (fun _ Q => Q true) (dVar 5) [5, 6])))))
  (dRaise x 1 (dC (.str "told")))
  dNext)
  (dSeq (dAsg (dFz 0 (dCallF C "_window" 0 (f_Telling__window C) (dCons (dVar 1) dNil))) (gT 2 (gsCons (gN 3) (gsCons (gN 4) gsNil))))
  (dSeq (dIfS (dB (dOp dNe (dCB f_clamped (dCons (dVar 2) (dCons (dVar 3) (dCons (dVar 4) dNil)))) (dVar 2)))
  (dRaise x 1 (dC (.str "window")))
  dNext)
  (dSeq (dAppF C 0 0 "_pieces" (dTup (dCons (dVar 1) (dCons (dVar 2) dNil))))
  (dRetE (dFz 0 (dCallF C "windows" 0 (f_Telling_windows C) dNil)))))))))
def fX_Telling_tell (C : Addr) : RCMX := bodyMX (N_Telling_tell.length - 1) 2 C (tX_Telling_tell C)
theorem oX_Telling_tell {C : Addr} {fs : List (Str × D)} {ls : Obl} {a0 a1 : D} {Q : Obl → D → Prop} {X : Obl → Nat → D → Prop} (h : ∀ a, tX_Telling_tell C (fun env c e => isO a C fs env fun ls' => X ls' c e) { nx := fun env => isO a C fs env fun ls' => Q ls' .none, rt := fun _ => False, re := fun env d => isO a C fs env fun ls' => Q ls' d } [some (.obj a C fs ls), some (.dat a0), some (.dat a1), none, none, none, none]) : fX_Telling_tell C fs ls [a0, a1] Q X := ⟨rfl, h⟩
abbrev N_Telling_told : List Str := ["self"]
theorem sc_Telling_told : FnScope N_Telling_told ["self"] (defScope (mt 6)) := ⟨rfl, rfl, rfl, by decide +kernel, rfl, by decide +kernel, by decide +kernel⟩
theorem bb_Telling_told : BindsM "told" "Telling.told" (mt 6) ["self"] := fun _ _ _ _ _ _ us hl => match us, hl with | [_], _ => rfl
abbrev N_L_excess : List Str := ["rule", "times", "far", "start", "end", "low", "high"]
theorem sc_L_excess : FnScope N_L_excess ["rule", "times"] (defScope (top 44)) := ⟨rfl, rfl, rfl, by decide +kernel, rfl, by decide +kernel, by decide +kernel⟩
theorem bb_L_excess : BindsBy "_law_excess" (top 44) ["rule", "times"] := fun _ _ _ _ _ _ us hl => match us, hl with | [_, _], _ => rfl
def t_L_excess : T2S :=
  (dSeq (dAsg (dVar 0) (gT 4 (gsCons (gN 3) (gsCons (gN 4) (gsCons (gN 5) (gsCons (gN 6) gsNil))))))
  (dSeq (dAsg (dOp dSub (dOp dIx (dVar 1) (dVar 4)) (dOp dIx (dVar 1) (dVar 3))) (gN 2))
  (dSeq (dIfS (dAnd (dB (dOp dNotN (dVar 5) (dC .none))) (dB (dOp dGt (dVar 5) (dVar 2))))
  (dRet (dOp dSub (dVar 2) (dVar 5)))
  dNext)
  (dRet (dIf (dAnd (dB (dOp dNotN (dVar 6) (dC .none))) (dB (dOp dGt (dVar 2) (dVar 6)))) (dOp dSub (dVar 2) (dVar 6)) (dC (.int (0))))))))
def f_L_excess : RCD := bodyD N_L_excess.length 2 t_L_excess
theorem o_L_excess {a0 a1 : D} {Q : D → Prop} (h : t_L_excess { nx := fun _ => Q .none, rt := Q } [some (.dat a0), some (.dat a1), none, none, none, none, none]) : f_L_excess [a0, a1] Q := ⟨rfl, h⟩
abbrev N_L_holds : List Str := ["net", "times", "rule"]
theorem sc_L_holds : FnScope N_L_holds ["net", "times"] (defScope (top 45)) := ⟨rfl, rfl, rfl, by decide +kernel, rfl, by decide +kernel, by decide +kernel⟩
theorem bb_L_holds : BindsBy "_law_holds" (top 45) ["net", "times"] := fun _ _ _ _ _ _ us hl => match us, hl with | [_, _], _ => rfl
def t_L_holds : T2S :=
  (dRet (dCB (dBools fun bs => bs.all id) (dCons (tList (dLc (diS (dOp dIx (dVar 0) (dC (.int (1))))) (gN 2) (fun _ Q => Q true) (dOp dEq (dCB f_L_excess (dCons (dVar 2) (dCons (dVar 1) dNil))) (dC (.int (0)))) [2])) dNil)))
def f_L_holds : RCD := bodyD N_L_holds.length 2 t_L_holds
theorem o_L_holds {a0 a1 : D} {Q : D → Prop} (h : t_L_holds { nx := fun _ => Q .none, rt := Q } [some (.dat a0), some (.dat a1), none]) : f_L_holds [a0, a1] Q := ⟨rfl, h⟩
abbrev N_told_witness : List Str := ["bounds", "row", "times", "event", "time", "low", "high"]
theorem sc_told_witness : FnScope N_told_witness ["bounds", "row"] (defScope (top 34)) := ⟨rfl, rfl, rfl, by decide +kernel, rfl, by decide +kernel, by decide +kernel⟩
theorem bb_told_witness : BindsBy "told_witness" (top 34) ["bounds", "row"] := fun _ _ _ _ _ _ us hl => match us, hl with | [_, _], _ => rfl
def t_told_witness : T2S :=
  (dSeq (dDcI 2 (diS (dVar 1)) (gT 2 (gsCons (gN 3) (gsCons (gN 4) gsNil))) (fun _ Q => Q true) (dVar 3) (dVar 4) [3, 4])
  (dSeq (dFor (diR1 (dCons (dCB dLen (dCons (dVar 0) dNil)) dNil)) (gN 3)
  (dIfS (dB (dInK true 2 (dVar 3)))
  (dSeq (dAsg (dCB f_room_beside (dCons (dVar 0) (dCons (dVar 3) (dCons (dItemsK 2) dNil)))) (gT 2 (gsCons (gN 5) (gsCons (gN 6) gsNil))))
  (dIfS (dB (dOp dNotN (dVar 5) (dC .none)))
  (dPutK 2 (dVar 3) (dVar 5))
  (dPutK 2 (dVar 3) (dIf (dB (dOp dIsN (dVar 6) (dC .none))) (dC (.int (0))) (dVar 6)))))
  dNext))
  (dRet (dCB dTupOf (dCons (tList (dLc (diR1 (dCons (dCB dLen (dCons (dVar 0) dNil)) dNil)) (gN 3) (fun _ Q => Q true) (dGetK 2 (dVar 3)) [3])) dNil)))))
def f_told_witness : RCD := bodyD N_told_witness.length 2 t_told_witness
theorem o_told_witness {a0 a1 : D} {Q : D → Prop} (h : t_told_witness { nx := fun _ => Q .none, rt := Q } [some (.dat a0), some (.dat a1), none, none, none, none, none]) : f_told_witness [a0, a1] Q := ⟨rfl, h⟩
abbrev N_Telling_heights : List Str := ["self"]
theorem sc_Telling_heights : FnScope N_Telling_heights ["self"] (defScope (mt 7)) := ⟨rfl, rfl, rfl, by decide +kernel, rfl, by decide +kernel, by decide +kernel⟩
theorem bb_Telling_heights : BindsM "heights" "Telling.heights" (mt 7) ["self"] := fun _ _ _ _ _ _ us hl => match us, hl with | [_], _ => rfl
def t_Telling_heights (C : Addr) : T2S :=
  (dRet (dCB f_told_witness (dCons (dFld C 0 1 "_bounds") (dCons (dFld C 0 3 "_pieces") dNil))))
def f_Telling_heights (C : Addr) : RCF := bodyF (N_Telling_heights.length - 1) 0 C (t_Telling_heights C)
theorem o_Telling_heights {C : Addr} {fs : List (Str × D)} {Q : D → Prop} (h : ∀ a, t_Telling_heights C { nx := fun _ => Q .none, rt := Q } [some (.obf a C fs)]) : f_Telling_heights C fs [] Q := ⟨rfl, h⟩
abbrev N_L_can_be_told : List Str := ["net", "order", "times", "telling", "event"]
theorem sc_L_can_be_told : FnScope N_L_can_be_told ["net", "order", "times"] (defScope (top 49)) := ⟨rfl, rfl, rfl, by decide +kernel, rfl, by decide +kernel, by decide +kernel⟩
theorem bb_L_can_be_told : BindsBy "_law_can_be_told" (top 49) ["net", "order", "times"] := fun _ _ _ _ _ _ us hl => match us, hl with | [_, _, _], _ => rfl
def t_L_can_be_told (C : Addr) : T2S :=
  (dSeq (dAsgN C (f_Telling___init__ C) (dCons (dVar 0) dNil) 3)
  (dSeq (dTryO [some false, some true, none] (dRet (dC (.bool false))) (fun x => (dFor (diS (dVar 1)) (gN 4)
  (mDrop (mMethX C "tell" 3 (fX_Telling_tell C) x (dCons (dVar 4) (dCons (dOp dIx (dVar 2) (dVar 4)) dNil)))))))
  (dRet (dOp dEq (dFz 3 (dCallF C "heights" 3 (f_Telling_heights C) dNil)) (dVar 2)))))
def f_L_can_be_told (C : Addr) : RCD := bodyD N_L_can_be_told.length 3 (t_L_can_be_told C)
theorem o_L_can_be_told {C : Addr} {a0 a1 a2 : D} {Q : D → Prop} (h : t_L_can_be_told C { nx := fun _ => Q .none, rt := Q } [some (.dat a0), some (.dat a1), some (.dat a2), none, none]) : f_L_can_be_told C [a0, a1, a2] Q := ⟨rfl, h⟩
abbrev N_law : List Str := ["script", "stream", "net", "telling", "event", "times", "row", "order", "rows", "kept", "turn", "low", "high"]
theorem sc_law : FnScope N_law ["script"] (defScope (top 50)) := ⟨rfl, rfl, rfl, by decide +kernel, rfl, by decide +kernel, by decide +kernel⟩
def t_law (w : World) (C : Addr) : T2S :=
  (dSeq (dAsg (dCallS 1 f_L_net (dCons (dC (.int (3))) (dCons (dC (.int (5))) (dCons (dC (.int (3))) dNil)))) (gN 2))
  (dSeq (dIfS (dB (dOp dNotN (dCB (f_L_bounds w) (dCons (dVar 2) dNil)) (dC .none)))
  (dSeq (dAsg (dCallS 1 f_L_order (dCons (dOp dIx (dVar 2) (dC (.int (0)))) dNil)) (gN 7))
  (dSeq (dAsg (dCB f_L_all_times (dCons (dOp dIx (dVar 2) (dC (.int (0)))) (dCons (dC (.int (3))) dNil))) (gN 8))
  (dSeq (dAsg (tList (dLc (diS (dVar 8)) (gN 6) (dTru (dCB f_L_holds (dCons (dVar 2) (dCons (dVar 6) dNil)))) (dVar 6) [6])) (gN 9))
  (dFor (diR1 (dCons (dC (.int (12))) dNil)) (gN 10)
  (dSeq (dAsg (dCallS 1 f_L_pick (dCons (dIf (dAnd (dTru (dVar 9)) (dB (dOp dLt (dVar 10) (dC (.int (6)))))) (dVar 9) (dVar 8)) dNil)) (gN 6))
  (dIfS (dB (dOp dNe (dCB (f_L_can_be_told C) (dCons (dVar 2) (dCons (dVar 7) (dCons (dVar 6) dNil)))) (dCB f_L_holds (dCons (dVar 2) (dCons (dVar 6) dNil)))))
  (dRet (dC (.bool false)))
  dNext))))))
  dNext)
  (dSeq (dAsg (dCallS 1 f_L_net (dCons (dC (.int (6))) (dCons (dC (.int (8))) (dCons (dC (.int (9))) dNil)))) (gN 2))
  (dSeq (dIfS (dB (dOp dIsN (dCB (f_L_bounds w) (dCons (dVar 2) dNil)) (dC .none)))
  (dRet (dC (.bool true)))
  dNext)
  (dSeq (dAsgN C (f_Telling___init__ C) (dCons (dVar 2) dNil) 3)
  (dSeq (dFor (diS (dCallS 1 f_L_order (dCons (dOp dIx (dVar 2) (dC (.int (0)))) dNil))) (gN 4)
  (dSeq (dAsg (dOp dIx (dFz 3 (dCallF C "windows" 3 (f_Telling_windows C) dNil)) (dVar 4)) (gT 2 (gsCons (gN 11) (gsCons (gN 12) gsNil))))
  (dSeq (dIfS (dAnd (dB (dOp dNotN (dVar 11) (dC .none))) (dAnd (dB (dOp dNotN (dVar 12) (dC .none))) (dB (dOp dGt (dVar 11) (dVar 12)))))
  (dRet (dC (.bool false)))
  dNext)
  (dSeq (dAsg (dIf (dB (dOp dNotN (dVar 11) (dC .none))) (dVar 11) (dOp dSub (dIf (dB (dOp dNotN (dVar 12) (dC .none))) (dVar 12) (dC (.int (0)))) (dCallS 1 f_next (dCons (dC (.int (9))) dNil)))) (gN 11))
  (dSeq (dAsg (dIf (dB (dOp dNotN (dVar 12) (dC .none))) (dVar 12) (dOp dAdd (dVar 11) (dCallS 1 f_next (dCons (dC (.int (9))) dNil)))) (gN 12))
  (mDrop (mMeth C "tell" 3 (f_Telling_tell C) (dCons (dVar 4) (dCons (dOp dAdd (dVar 11) (dCallS 1 f_next (dCons (dOp dAdd (dOp dSub (dVar 12) (dVar 11)) (dC (.int (1)))) dNil))) dNil)))))))))
  (dSeq (dDictT C "told" "_pieces" 3 5)
  (dSeq (dAsg (dCB dTupOf (dCons (tList (dLc (diR1 (dCons (dOp dIx (dVar 2) (dC (.int (0)))) dNil)) (gN 4) (fun _ Q => Q true) (dGetK 5 (dVar 4)) [4])) dNil)) (gN 6))
  (dRet (dAndV (dOp dEq (dFz 3 (dCallF C "heights" 3 (f_Telling_heights C) dNil)) (dVar 6)) (dCB f_L_holds (dCons (dVar 2) (dCons (dVar 6) dNil)))))))))))))
local macro_rules | `(tactic| walk_at "Z") => `(tactic| simp only [↓dSeq, ↓dNext, ↓dAsg, ↓dAsgO, ↓dDrop, ↓dRet, ↓dRetN, ↓dIfS, ↓dNever, ↓dBreak, ↓dCont, ↓dFor, ↓forD, ↓dFrz, ↓dFrzM, ↓dNewM, ↓dMIx, ↓dPar, ↓dMSet, ↓dNewD, ↓dPutD, ↓dGetD, ↓dRetPop, ↓dLstRg, ↓dLenOwn, ↓dMaxL, ↓dMinL, ↓dCBK, ↓dLenSet, dLenSetD, dMaxT, dMinT, dAsgPop, popE, ↓ownD, ↓dOLen, ↓dOTru, ↓dOIx, ↓diOwn, ↓dPop, ↓dPopA, ↓dAugA, ↓dLstRg2, ↓dInD, ↓dAppPop, ↓dGetF, ↓dInF, ↓dInO, ↓dNewK, ↓dPutK, ↓dGetK, ↓dInK, ↓dGet2K, ↓dCBX, ↓dRaise, ↓dTry, ↓dHs, ↓dXf, ↓dIsX, ↓dFGet1, ↓dOGet2, ↓dDcI, ↓dItemsK, ↓dInW, ↓dCBL, ↓dLv, ↓dOInD, ↓dOIdx, ↓dIns, ↓dSortKF, ↓dSortT, ↓diZipM, ↓dSwap, ↓dLc2, ↓dRngS, ↓diRgV, ↓diEnumZ, ↓diZipML, ↓dTupRg, ↓endsU2, ↓dTruK, ↓dFld, ↓dFz, ↓dLn, ↓dCallOX, ↓mAsgO, ↓dTryO, ↓dDictT, ↓dFzT, ↓nS_nil, ↓nS_none, ↓nS_strm, ↓nS_dat, ↓nS_own, ↓nS_obf, ↓nS_obj, ↓lsD_nil, ↓lsD_cons, ↓List.cons_append, ↓List.nil_append, ↓dCallF, ↓dCallFX, ↓dRetE, ↓dRetEN, ↓dRetV, ↓dAsgCO, ↓mE, ↓mT, ↓mNil, ↓dMulO, ↓mPopO, ↓mPopL, ↓mAppO, ↓mIfE, ↓mCons, ↓mCB, ↓mOp, ↓mTup, ↓mLst, ↓mB, ↓mNot, ↓mAnd, ↓mOr, ↓mAndV, ↓mOrV, ↓mIfS, ↓mAsg, ↓mDrop, ↓mRet, ↓mRetE, ↓mMeth, ↓mCallO, ↓mMethX, ↓dAppF, ↓dPopF, ↓nSeq, ↓nNext, ↓nDrop, ↓nRd, ↓nFld, ↓nLst, ↓dAsgN, ↓dRetN2, ↓dRetNX, ↓dDropNX, ↓dAsgNX, ↓dAsgR, ↓dFrzD, ↓dRem, ↓dmaxDf, ↓dminDf, ↓dApp, ↓dExt, ↓dSetIx, ↓dCallS, ↓envD, ↓wipeE, ↓dVar, ↓dC, ↓dOp, ↓dOpO, ↓dUn, ↓dCB, ↓dCBO, ↓dNil, ↓dCons, ↓dTup, ↓tList, ↓dB, ↓dTru, ↓dAnd, ↓dOr, ↓dNot, ↓dAndV, ↓dOrV, ↓dNotV, ↓dIf, ↓dChain, ↓d2I, ↓d2IC, ↓dAdd, ↓dMul, ↓dSub, ↓dDiv, ↓dMod, ↓dPow, ↓dLt, ↓dLe, ↓dGt, ↓dGe, ↓dNeg, ↓dIsN, ↓dNotN, ↓dIsB, ↓dNotBl, ↓dEq, ↓dNe, ↓dIn, ↓dIx, ↓dPart, ↓dNoPart, ↓dSl, ↓dRev, ↓dRevO, ↓dLen, ↓dTupOf, ↓dListOf, ↓dCatL, ↓dRepL, ↓dInt1, ↓dIntOf, ↓dInt2, ↓dIsi, ↓seqOf, ↓gN, ↓gsNil, ↓gsCons, ↓gT, ↓diS, ↓diR1, ↓diEnumA, ↓diZip, ↓diR2, ↓dLc, List.map_cons, List.map_nil, List.cons_append, List.nil_append, ↓List.getElem?_cons_zero, ↓List.getElem?_cons_succ, ↓List.set_cons_zero, ↓List.set_cons_succ, List.replicate, Nat.sub_self, Nat.reduceSub, List.length_cons, List.length_nil, if_true, if_false, Bool.false_eq_true, Bool.true_eq_false, Bool.not_true, Bool.not_false, reduceIte, reduceCtorEq, and_true, true_and, Nat.reduceAdd])
local macro_rules | `(tactic| walk_at "DZ") => `(tactic| dsimp only [↓dSeq, ↓dNext, ↓dAsg, ↓dAsgO, ↓dDrop, ↓dRet, ↓dRetN, ↓dIfS, ↓dNever, ↓dBreak, ↓dCont, ↓dFor, ↓forD, ↓dFrz, ↓dFrzM, ↓dNewM, ↓dMIx, ↓dPar, ↓dMSet, ↓dNewD, ↓dPutD, ↓dGetD, ↓dRetPop, ↓dLstRg, ↓dLenOwn, ↓dMaxL, ↓dMinL, ↓dCBK, ↓dLenSet, dLenSetD, dMaxT, dMinT, dAsgPop, popE, ↓ownD, ↓dOLen, ↓dOTru, ↓dOIx, ↓diOwn, ↓dPop, ↓dPopA, ↓dAugA, ↓dLstRg2, ↓dInD, ↓dAppPop, ↓dGetF, ↓dInF, ↓dInO, ↓dNewK, ↓dPutK, ↓dGetK, ↓dInK, ↓dGet2K, ↓dCBX, ↓dRaise, ↓dTry, ↓dHs, ↓dXf, ↓dIsX, ↓dFGet1, ↓dOGet2, ↓dDcI, ↓dItemsK, ↓dInW, ↓dCBL, ↓dLv, ↓dOInD, ↓dOIdx, ↓dIns, ↓dSortKF, ↓dSortT, ↓diZipM, ↓dSwap, ↓dLc2, ↓dRngS, ↓diRgV, ↓diEnumZ, ↓diZipML, ↓dTupRg, ↓endsU2, ↓dTruK, ↓dFld, ↓dFz, ↓dLn, ↓dCallOX, ↓mAsgO, ↓dTryO, ↓dDictT, ↓dFzT, ↓nS_nil, ↓nS_none, ↓nS_strm, ↓nS_dat, ↓nS_own, ↓nS_obf, ↓nS_obj, ↓lsD_nil, ↓lsD_cons, ↓List.cons_append, ↓List.nil_append, ↓dCallF, ↓dCallFX, ↓dRetE, ↓dRetEN, ↓dRetV, ↓dAsgCO, ↓mE, ↓mT, ↓mNil, ↓dMulO, ↓mPopO, ↓mPopL, ↓mAppO, ↓mIfE, ↓mCons, ↓mCB, ↓mOp, ↓mTup, ↓mLst, ↓mB, ↓mNot, ↓mAnd, ↓mOr, ↓mAndV, ↓mOrV, ↓mIfS, ↓mAsg, ↓mDrop, ↓mRet, ↓mRetE, ↓mMeth, ↓mCallO, ↓mMethX, ↓dAppF, ↓dPopF, ↓nSeq, ↓nNext, ↓nDrop, ↓nRd, ↓nFld, ↓nLst, ↓dAsgN, ↓dRetN2, ↓dRetNX, ↓dDropNX, ↓dAsgNX, ↓dAsgR, ↓dFrzD, ↓dRem, ↓dmaxDf, ↓dminDf, ↓dApp, ↓dExt, ↓dSetIx, ↓dCallS, ↓envD, ↓wipeE, ↓dVar, ↓dC, ↓dOp, ↓dOpO, ↓dUn, ↓dCB, ↓dCBO, ↓dNil, ↓dCons, ↓dTup, ↓tList, ↓dB, ↓dTru, ↓dAnd, ↓dOr, ↓dNot, ↓dAndV, ↓dOrV, ↓dNotV, ↓dIf, ↓dChain, ↓d2I, ↓d2IC, ↓dAdd, ↓dMul, ↓dSub, ↓dDiv, ↓dMod, ↓dPow, ↓dLt, ↓dLe, ↓dGt, ↓dGe, ↓dNeg, ↓dIsN, ↓dNotN, ↓dIsB, ↓dNotBl, ↓dEq, ↓dNe, ↓dIn, ↓dIx, ↓dPart, ↓dNoPart, ↓dSl, ↓dRev, ↓dRevO, ↓dLen, ↓dTupOf, ↓dListOf, ↓dCatL, ↓dRepL, ↓dInt1, ↓dIntOf, ↓dInt2, ↓dIsi, ↓seqOf, ↓gN, ↓gsNil, ↓gsCons, ↓gT, ↓diS, ↓diR1, ↓diEnumA, ↓diZip, ↓diR2, ↓dLc, ↓List.getElem?_cons_zero, ↓List.getElem?_cons_succ, ↓List.set_cons_zero, ↓List.set_cons_succ, List.getElem?_cons_zero, List.getElem?_cons_succ, List.set_cons_zero, List.set_cons_succ, List.map_cons, List.map_nil, List.cons_append, List.nil_append, List.replicate, List.length_cons, List.length_nil, Bool.not_true, Bool.not_false])
theorem is_whole_ok (v : D) (Q : D → Prop) (q : Q (.bool (whI v))) : f_is_whole [v] Q := by
  refine ⟨rfl, ?_⟩
  show t_is_whole _ _
  unfold t_is_whole
  walk_at "Z"
  rw [isT_int, isT_bool]
  cases v <;> simpa [isI, isB, whI] using q
theorem is_integer_ok (v : D) (l g : Int) (Q : D → Prop) (q : Q (.bool (inI v l g))) : f_is_integer [v, .int l, .int g] Q := by
  refine ⟨rfl, ?_⟩
  show t_is_integer _ _
  unfold t_is_integer
  walk_at "DZ"
  refine is_whole_ok _ _ ?_
  cases v <;> simp only [whI, inI, if_true, if_false, Bool.false_eq_true, reduceIte] at q ⊢ <;> try exact q
  rename_i i
  by_cases h : l ≤ i
  · simpa [h] using q
  · simpa [h] using q
theorem pick_ok {ds : List D} {Q : D → Prop} (h1 : ds ≠ []) (h2 : ds.length ≤ 1000000) (q : ∀ d ∈ ds, Q d) : f_L_pick [.list ds] Q := by
  refine ⟨rfl, ?_⟩
  show t_L_pick _ _
  unfold t_L_pick
  walk_at "Z"
  have hp : 0 < ds.length := List.length_pos_iff.mpr h1
  refine next_mk (by omega) (by omega) fun d h3 h4 => ?_
  have hd : d.toNat < ds.length := by omega
  dsimp only
  rw [atI_int h3 (List.getElem?_eq_getElem hd)]
  exact q _ (List.getElem_mem hd)
def notEv (s : Int) (d : D) : Bool := match d with | .int i => decide (i ≠ s) | _ => false
def SideOk (far : Int) (d : D) : Prop := d = .none ∨ ∃ i : Int, d = .int i ∧ -far ≤ i ∧ i ≤ far
def RuleOk (size far : Int) (y : D) : Prop := ∃ (s e : Int) (lo hi : D), y = .tuple [.int s, .int e, lo, hi] ∧ 0 ≤ s ∧ s < size ∧ 0 ≤ e ∧ e < size ∧ s ≠ e ∧ SideOk far lo ∧ SideOk far hi ∧ ¬ (lo = .none ∧ hi = .none)
theorem rule_ok {size far : Int} {Q : D → Prop} (h1 : 2 ≤ size) (h2 : size ≤ 1000) (h3 : 0 ≤ far) (h4 : far ≤ 100000) (q : ∀ y, RuleOk size far y → Q y) : f_L_rule [.int size, .int far] Q := by
  refine ⟨rfl, ?_⟩
  show t_L_rule _ _
  unfold t_L_rule
  walk_at "Z"
  refine next_mk (by omega) (by omega) fun s hs0 hs1 => ?_
  refine ⟨by omega, by omega, by rw [dRange_length]; omega, ?_⟩
  refine lc_gen (notEv s) (fun d y => y = d) (fun d hd R N r1 r2 => ?_) (fun ys hys => ?_)
  · obtain ⟨i, hi, rfl⟩ := mem_dRange hd
    walk_at "Z"
    simp only [shaped_int, true_and, PyData.eqv]
    by_cases e : (0 + (i : Int)) = s
    · simp only [e, beq_self_eq_true, Bool.not_true, Bool.false_eq_true, if_false]
      exact r2 (decide_eq_false (fun q => q e))
    · have e2 : ((0 + (i : Int)) == s) = false := beq_eq_false_iff_ne.mpr e
      simp only [e2, Bool.not_false, if_true]
      exact r1 (decide_eq_true e) _ rfl
  have e := hys.mapEq (f := id)
  rw [List.map_id] at e
  subst e
  refine pick_ok (fun hn => ?_) ?_ fun d hd => ?_
  · -- one of 0 and 1 is another
    have key : ∀ z : Int, 0 ≤ z → z < size → z ≠ s → False := fun z z0 z1 z2 => by
      have hm : PyData.int z ∈ dRange 0 size.toNat := List.mem_map.mpr ⟨z.toNat, List.mem_range.mpr (by omega), by rw [Int.zero_add, Int.toNat_of_nonneg z0]⟩
      have hf := List.mem_filter.mpr ⟨hm, (show notEv s (.int z) = true from decide_eq_true z2)⟩
      rw [hn] at hf
      exact absurd hf (by simp)
    by_cases z : s = 0
    · exact key 1 (by omega) (by omega) (by omega)
    · exact key 0 (by omega) (by omega) (by omega)
  · refine Nat.le_trans (List.length_filter_le _ _) ?_
    rw [dRange_length]; omega
  · obtain ⟨hd1, hd2⟩ := List.mem_filter.mp hd
    obtain ⟨i, hi, rfl⟩ := mem_dRange hd1
    have hne : (0 + (i : Int)) ≠ s := of_decide_eq_true hd2
    refine ⟨.inl ⟨by decide, by decide⟩, next_mk (by omega) (by omega) fun a ha0 ha1 => ?_⟩
    dsimp only
    refine ⟨.inl ⟨by decide, by decide⟩, next_mk (by omega) (by omega) fun b hb0 hb1 => ?_⟩
    dsimp only
    refine next_mk (by omega) (by omega) fun c hc0 hc1 => ?_
    dsimp only
    have fin : ∀ x y : Int, -far ≤ x → x ≤ far → -far ≤ y → y ≤ far → f_next [.int 5] fun d_1 => match d_1, PyData.int 2 with
        | PyData.int i_3, PyData.int j_3 =>
          if decide (i_3 < j_3) = true then
            match d_1 with
            | PyData.int j_4 =>
              match ixN 2 j_4 with
              | some n =>
                match atI ([PyData.int x, PyData.int y].set n PyData.none) 0 with
                | some d_2 => match atI ([PyData.int x, PyData.int y].set n PyData.none) 1 with
                  | some d_3 => Q (PyData.tuple [PyData.int s, PyData.int (0 + (i : Int)), d_2, d_3])
                  | none => False
                | none => False
              | none => False
            | x => False
          else
            match atI [PyData.int x, PyData.int y] 0 with
            | some d_2 => match atI [PyData.int x, PyData.int y] 1 with
              | some d_3 => Q (PyData.tuple [PyData.int s, PyData.int (0 + (i : Int)), d_2, d_3])
              | none => False
            | none => False
        | x, x_1 => False := by
      intro x y x0 x1 y0 y1
      refine next_mk (by omega) (by omega) fun k hk0 hk1 => ?_
      have mk : ∀ lo hi : D, SideOk far lo → SideOk far hi → ¬ (lo = .none ∧ hi = .none) → Q (PyData.tuple [PyData.int s, PyData.int (0 + (i : Int)), lo, hi]) := fun lo hi l1 l2 l3 => q _ ⟨s, _, lo, hi, rfl, hs0, hs1, by omega, by omega, fun z => hne z.symm, l1, l2, l3⟩
      dsimp only
      split
      · rename_i hk
        have hk := of_decide_eq_true hk
        have hk : k = 0 ∨ k = 1 := by omega
        rcases hk with rfl | rfl
        · exact mk .none (.int y) (.inl rfl) (.inr ⟨y, rfl, y0, y1⟩) (fun z => nomatch z.2)
        · exact mk (.int x) .none (.inr ⟨x, rfl, x0, x1⟩) (.inl rfl) (fun z => nomatch z.1)
      · exact mk (.int x) (.int y) (.inr ⟨x, rfl, x0, x1⟩) (.inr ⟨y, rfl, y0, y1⟩) (fun z => nomatch z.1)
    split
    · refine ⟨by show 2 < 64; decide, fun ns' hp hw => ?_⟩
      have hl := hp.length_eq
      match ns', hl, hp with
      | [x, y], _, hp =>
        have hx : ∀ z ∈ [x, y], -far ≤ z ∧ z ≤ far := fun z hz => by
          have := hp.subset hz
          simp only [List.mem_cons, List.not_mem_nil, or_false] at this
          rcases this with rfl | rfl <;> omega
        have h1 := hx x (by simp)
        have h2 := hx y (by simp)
        exact fin x y h1.1 h1.2 h2.1 h2.2
    · exact fin _ _ (by omega) (by omega) (by omega) (by omega)
def NetOk (most many far : Int) (y : D) : Prop := ∃ (size : Int) (rs : List D), y = .tuple [.int size, .tuple rs] ∧ 1 ≤ size ∧ size ≤ most ∧ (rs.length : Int) ≤ many ∧ (∀ r ∈ rs, RuleOk size far r) ∧ (rs ≠ [] → 2 ≤ size)
theorem net_ok {most many far : Int} {Q : D → Prop} (h1 : 1 ≤ most) (h2 : most ≤ 1000) (h3 : 0 ≤ many) (h4 : many ≤ 1000) (h5 : 0 ≤ far) (h6 : far ≤ 100000) (q : ∀ y, NetOk most many far y → Q y) : f_L_net [.int most, .int many, .int far] Q := by
  refine ⟨rfl, ?_⟩
  show t_L_net _ _
  unfold t_L_net
  walk_at "Z"
  refine next_mk (by omega) (by omega) fun s s0 s1 => ?_
  dsimp only
  split
  · rename_i hs
    have hs := of_decide_eq_true hs
    refine next_mk (by omega) (by omega) fun c c0 c1 => ?_
    dsimp only
    refine ⟨by omega, by omega, by rw [dRange_length]; omega, ?_⟩
    refine lc_all (fun _ y => RuleOk (1 + s) far y) (fun d _ R hR => ?_) fun ys hys => ?_
    · walk_at "Z"
      exact rule_ok (by omega) (by omega) h5 h6 hR
    · have hl := hys.length
      rw [dRange_length] at hl
      exact q _ ⟨1 + s, ys, rfl, by omega, by omega, by omega, F2.all (R := fun r => RuleOk (1 + s) far r) (fun _ _ h => h) hys, fun _ => by omega⟩
  · rename_i hs
    refine ⟨by omega, by omega, by decide, ?_⟩
    exact q _ ⟨1 + s, [], rfl, by omega, by omega, by simp; omega, fun r hr => absurd hr (by simp), fun z => absurd rfl z⟩
theorem is_event_ok (v : D) (size : Int) (Q : D → Prop) (q : Q (.bool (inI v 0 (size - 1)))) : f_is_event [v, .int size] Q := by
  refine ⟨rfl, ?_⟩
  show t_is_event _ _
  unfold t_is_event
  walk_at "Z"
  exact is_integer_ok v 0 (size - 1) Q q
def sideB (v : D) : Bool := isNone v || inI v (-100) 100
theorem is_side_ok (v : D) (Q : D → Prop) (q : Q (.bool (sideB v))) : f_is_side [v] Q := by
  refine ⟨rfl, ?_⟩
  show t_is_side _ _
  unfold t_is_side
  walk_at "Z"
  cases v <;> simp only [sideB, isNone, Bool.true_or, Bool.false_or, if_true, if_false, Bool.false_eq_true, reduceIte] at q ⊢ <;> first | exact q | exact is_integer_ok _ (-100) 100 Q q
def ruleB (v : D) (size : Int) : Bool := match v with
  | .tuple [s, e, l, h] => inI s 0 (size - 1) && inI e 0 (size - 1) && !(PyData.eqv s e) && !(isNone l && isNone h) && sideB l && sideB h
  | _ => false
theorem is_rule_ok (v : D) (size : Int) (Q : D → Prop) (q : Q (.bool (ruleB v size))) : f_is_rule [v, .int size] Q := by
  refine ⟨rfl, ?_⟩
  show t_is_rule _ _
  unfold t_is_rule
  walk_at "Z"
  simp only [isT_tuple]
  cases v with
  | tuple xs =>
    simp only [isTu, Bool.not_true, if_false, Bool.false_eq_true, reduceIte, shaped_int, true_and, eqv_intD]
    by_cases hl : xs.length = 4
    · match xs, hl with
      | [s, e, l, h], _ =>
        have e4 : decide ((([s, e, l, h] : List D).length : Int) = 4) = true := rfl
        simp only [e4, Bool.not_true, Bool.false_eq_true, if_false]
        simp only [List.length_cons, List.length_nil, Nat.reduceAdd, true_and]
        refine is_event_ok s size _ ?_
        dsimp only
        cases hs : inI s 0 (size - 1) with
        | false => simpa [ruleB, hs] using q
        | true =>
          simp only [Bool.not_true, Bool.false_eq_true, if_false]
          refine is_event_ok e size _ ?_
          dsimp only
          cases he : inI e 0 (size - 1) with
          | false => simpa [ruleB, hs, he] using q
          | true =>
            simp only [Bool.not_true, Bool.false_eq_true, if_false]
            obtain ⟨i, rfl, _, _⟩ := inI_int hs
            obtain ⟨j, rfl, _, _⟩ := inI_int he
            refine ⟨shaped_int _, shaped_int _, ?_⟩
            rw [eqv_intD]
            by_cases hij : i = j
            · simpa [ruleB, hs, he, hij, eqv_intD] using q
            · simp only [hij, decide_false, Bool.false_eq_true, if_false]
              have fin : ∀ l h : D, (isNone l && isNone h) = false → Q (.bool (sideB l && sideB h)) → f_is_side [l] fun d => match d with
                  | PyData.bool c => if c = true then f_is_side [h] Q else Q (PyData.bool false)
                  | x => False := fun l h _ q => by
                refine is_side_ok l _ ?_
                dsimp only
                cases hl : sideB l with
                | false => simpa [hl] using q
                | true =>
                  simp only [if_true]
                  refine is_side_ok h _ ?_
                  simpa [hl] using q
              cases hl : isNone l with
              | false =>
                simp only [Bool.false_eq_true, if_false]
                refine fin l h (by rw [hl]; rfl) ?_
                simpa [ruleB, hs, he, hij, eqv_intD, hl] using q
              | true =>
                cases hh : isNone h with
                | true => simpa [ruleB, hs, he, hij, eqv_intD, hl, hh] using q
                | false =>
                  simp only [Bool.false_eq_true, if_false, if_true]
                  refine fin l h (by rw [hl, hh]; rfl) ?_
                  simpa [ruleB, hs, he, hij, eqv_intD, hl, hh] using q
    · have e4 : decide ((xs.length : Int) = 4) = false := decide_eq_false (by omega)
      simp only [e4, Bool.not_false, if_true]
      have z : ruleB (.tuple xs) size = false := by
        unfold ruleB
        split
        · rename_i z; cases z; exact absurd rfl hl
        · rfl
      rw [z] at q
      exact q
  | _ => simpa only [isTu, ruleB, Bool.not_false, if_true] using q
def netB (v : D) : Bool := match v with
  | .tuple [.int n, .tuple rs] => inI (.int n) 1 6 && decide (rs.length ≤ 12) && rs.all (ruleB · n)
  | _ => false
theorem is_net_ok (v : D) (Q : D → Prop) (q : Q (.bool (netB v))) : f_is_net [v] Q := by
  refine ⟨rfl, ?_⟩
  show t_is_net _ _
  unfold t_is_net
  walk_at "Z"
  simp only [isT_tuple]
  cases v with
  | tuple xs =>
    simp only [isTu, Bool.not_true, if_false, Bool.false_eq_true, reduceIte, shaped_int, true_and, eqv_intD]
    by_cases hl : xs.length = 2
    · match xs, hl with
      | [s, r], _ =>
        have e4 : decide ((([s, r] : List D).length : Int) = 2) = true := rfl
        simp only [e4, Bool.not_true, Bool.false_eq_true, if_false]
        simp only [List.length_cons, List.length_nil, Nat.reduceAdd, true_and]
        refine is_integer_ok s 1 6 _ ?_
        dsimp only
        cases hs : inI s 1 6 with
        | false =>
          simp only [Bool.not_false, if_true]
          have z : netB (.tuple [s, r]) = false := by
            unfold netB
            split
            · rename_i z; cases z; rw [hs]; rfl
            · rfl
          rw [z] at q; exact q
        | true =>
          simp only [Bool.not_true, Bool.false_eq_true, if_false]
          obtain ⟨n, rfl, _, _⟩ := inI_int hs
          cases r with
          | tuple rs =>
            simp only [isTu, Bool.not_true, if_false, Bool.false_eq_true, reduceIte]
            by_cases h12 : rs.length ≤ 12
            · have e12 : decide ((12 : Int) < (rs.length : Int)) = false := decide_eq_false (by omega)
              simp only [e12, Bool.false_eq_true, if_false]
              refine ⟨by omega, ?_⟩
              refine lc_map (fun d => PyData.bool (ruleB d n)) (fun d _ R hR => ?_) ?_
              · walk_at "Z"
                exact is_rule_ok d n R hR
              · unfold dBools
                dsimp only
                rw [allBool_map]
                dsimp only
                rw [List.all_map]
                simp only [netB, hs, decide_eq_true h12, Bool.true_and] at q
                exact q
            · have e12 : decide ((12 : Int) < (rs.length : Int)) = true := decide_eq_true (by omega)
              simp only [e12, if_true]
              simpa [netB, h12] using q
          | _ => simpa only [isTu, netB, Bool.not_false, if_true] using q
    · have e4 : decide ((xs.length : Int) = 2) = false := decide_eq_false (by omega)
      simp only [e4, Bool.not_false, if_true]
      have z : netB (.tuple xs) = false := by
        unfold netB
        split
        · rename_i z; cases z; exact absurd rfl hl
        · rfl
      rw [z] at q
      exact q
  | _ => simpa only [isTu, netB, Bool.not_false, if_true] using q
theorem rule_good {n far : Int} {r : D} (hf : far ≤ 100) (h : RuleOk n far r) : ruleB r n = true := by
  obtain ⟨s, e, lo, hi, rfl, s0, s1, e0, e1, hne, hl, hh, hb⟩ := h
  have side : ∀ d, SideOk far d → sideB d = true := fun d hd => by
    rcases hd with rfl | ⟨i, rfl, i0, i1⟩
    · rfl
    · simp only [sideB, inI, decide_eq_true (show -100 ≤ i by omega), decide_eq_true (show i ≤ 100 by omega), Bool.and_true, Bool.or_true]
  have hn : (isNone lo && isNone hi) = false := by
    cases lo <;> cases hi <;> first | rfl | exact absurd ⟨rfl, rfl⟩ hb
  have d1 : decide (0 ≤ s) = true := decide_eq_true s0
  have d2 : decide (s ≤ n - 1) = true := decide_eq_true (by omega)
  have d3 : decide (0 ≤ e) = true := decide_eq_true e0
  have d4 : decide (e ≤ n - 1) = true := decide_eq_true (by omega)
  simp only [ruleB, inI, d1, d2, d3, d4, eqv_intD, decide_eq_false hne, hn, side lo hl, side hi hh, Bool.and_true, Bool.not_false]
theorem net_good {n far : Int} {rs : List D} (hf : far ≤ 100) (h0 : 1 ≤ n) (h1 : n ≤ 6) (h2 : rs.length ≤ 12) (h3 : ∀ r ∈ rs, RuleOk n far r) : netB (.tuple [.int n, .tuple rs]) = true := by
  simp only [netB, inI, decide_eq_true h0, decide_eq_true h1, decide_eq_true h2, Bool.and_true, Bool.true_and]
  exact List.all_eq_true.mpr fun r hr => rule_good hf (h3 r hr)
theorem check_net_ok {v : D} {Q : D → Prop} (h : netB v = true) (q : Q .none) : f_check_net [v] Q := by
  refine o_check_net ?_
  unfold t_check_net
  walk_at "DZ"
  refine is_net_ok _ _ ?_
  rw [h]
  exact q
structure Ed where
  k : Nat
  d : Str
  s : Int
  e : Int
  w : Int
def eV (x : Ed) : D := .tuple [.int (x.k : Nat), .str x.d]
def eD (x : Ed) : D := .tuple [eV x, .int x.s, .int x.e, .int x.w]
def hiE (k : Nat) (s e : Int) : D → List Ed | .int h => [⟨k, "high", s, e, h⟩] | _ => []
def loE (k : Nat) (s e : Int) : D → List Ed | .int l => [⟨k, "low", e, s, -l⟩] | _ => []
def edR (k : Nat) : D → List Ed | .tuple [.int s, .int e, lo, hi] => hiE k s e hi ++ loE k s e lo | _ => []
def edN (rs : List D) (n : Nat) : List Ed := (List.range n).flatMap fun k => edR k (rs.getD k .none)
theorem edN_succ (rs : List D) (n : Nat) : edN rs (n + 1) = edN rs n ++ edR n (rs.getD n .none) := by
  unfold edN
  rw [List.range_succ, List.flatMap_append, List.flatMap_singleton]
theorem edR_le (k : Nat) (r : D) : (edR k r).length ≤ 2 := by
  unfold edR
  split
  · rename_i s e lo hi
    have h1 : (hiE k s e hi).length ≤ 1 := by unfold hiE; split <;> simp
    have h2 : (loE k s e lo).length ≤ 1 := by unfold loE; split <;> simp
    rw [List.length_append]
    omega
  · simp
theorem edN_le (rs : List D) : ∀ n : Nat, (edN rs n).length ≤ 2 * n
  | 0 => by simp [edN]
  | n + 1 => by
    rw [edN_succ, List.length_append]
    have := edN_le rs n
    have := edR_le n (rs.getD n .none)
    omega
def crH (s e : Int) : D → D | .int h => .tuple [.int s, .int e, .int h] | _ => .none
def crL (s e : Int) : D → D | .int l => .tuple [.int e, .int s, .int (-l)] | _ => .none
theorem sides_ne : PyData.eqv (.str "high") (.str "high") = true ∧ PyData.eqv (.str "low") (.str "low") = true ∧ PyData.eqv (.str "high") (.str "low") = false ∧ PyData.eqv (.str "low") (.str "high") = false := by decide
theorem sides_lay : PyData.canLay0 (.str "high") = true ∧ PyData.canLay0 (.str "low") = true := by first | exact ⟨rfl, rfl⟩ | decide +kernel
theorem sides_sh : SeqAt.shaped (.str "high") = true ∧ SeqAt.shaped (.str "low") = true := ⟨shaped_str sides_lay.1, shaped_str sides_lay.2⟩
theorem edge_course_hi {n s e far : Int} {rs : List D} {k : Nat} {lo hi : D} {Q : D → Prop} (hr : rs[k]? = some (.tuple [.int s, .int e, lo, hi])) (sh : SideOk far hi) (sl : SideOk far lo) (q : Q (crH s e hi)) : f_edge_course [.tuple [.int n, .tuple rs], .tuple [.int (k : Nat), .str "high"]] Q := by
  refine o_edge_course ?_
  unfold t_edge_course
  have a1 : atI [PyData.int n, PyData.tuple rs] 1 = some (.tuple rs) := rfl
  have hk : k < rs.length := by
    apply Classical.byContradiction
    intro hn
    rw [List.getElem?_eq_none (by omega)] at hr
    cases hr
  have ar : atI rs (k : Int) = some (.tuple [.int s, .int e, lo, hi]) := atI_nat hr
  have hin : inI (.int (k : Nat)) 0 ((rs.length : Int) - 1) = true := inI_good (by omega) (by omega)
  walk_at "DZ"
  simp only [isT_tuple, isTu, Bool.not_true, Bool.false_eq_true, if_false]
  refine ⟨shaped_int _, shaped_int _, ?_⟩
  rw [eqv_intD]
  rw [if_neg (by decide)]
  refine ⟨trivial, ?_⟩
  rw [a1]
  dsimp only
  refine is_integer_ok _ _ _ _ ?_
  rw [hin]
  dsimp only
  simp only [isT_str, isS, Bool.not_true, Bool.false_eq_true, if_false]
  rw [ar]
  dsimp only
  refine ⟨rfl, sides_sh.1, sides_sh.1, ?_⟩
  simp only [sides_ne.1, sides_ne.2.2.1, if_true, Bool.false_eq_true, if_false]
  rcases sh with rfl | ⟨h, rfl, _, _⟩
  · simp only [isNone, Bool.not_true, Bool.false_eq_true, if_false]
    exact ⟨sides_sh.1, sides_sh.2, q⟩
  · exact q
theorem edge_course_lo {n s e far : Int} {rs : List D} {k : Nat} {lo hi : D} {Q : D → Prop} (hr : rs[k]? = some (.tuple [.int s, .int e, lo, hi])) (sh : SideOk far hi) (sl : SideOk far lo) (q : Q (crL s e lo)) : f_edge_course [.tuple [.int n, .tuple rs], .tuple [.int (k : Nat), .str "low"]] Q := by
  refine o_edge_course ?_
  unfold t_edge_course
  have a1 : atI [PyData.int n, PyData.tuple rs] 1 = some (.tuple rs) := rfl
  have hk : k < rs.length := by
    apply Classical.byContradiction
    intro hn
    rw [List.getElem?_eq_none (by omega)] at hr
    cases hr
  have ar : atI rs (k : Int) = some (.tuple [.int s, .int e, lo, hi]) := atI_nat hr
  have hin : inI (.int (k : Nat)) 0 ((rs.length : Int) - 1) = true := inI_good (by omega) (by omega)
  walk_at "DZ"
  simp only [isT_tuple, isTu, Bool.not_true, Bool.false_eq_true, if_false]
  refine ⟨shaped_int _, shaped_int _, ?_⟩
  rw [eqv_intD]
  rw [if_neg (by decide)]
  refine ⟨trivial, ?_⟩
  rw [a1]
  dsimp only
  refine is_integer_ok _ _ _ _ ?_
  rw [hin]
  dsimp only
  simp only [isT_str, isS, Bool.not_true, Bool.false_eq_true, if_false]
  rw [ar]
  dsimp only
  refine ⟨rfl, sides_sh.2, sides_sh.1, ?_⟩
  simp only [sides_ne.2.1, sides_ne.2.2.2, if_true, Bool.false_eq_true, if_false]
  refine ⟨sides_sh.2, sides_sh.2, ?_⟩
  rcases sl with rfl | ⟨h, rfl, _, _⟩
  · exact q
  · exact q
theorem mem_crH {k : Nat} {s e : Int} {hi : D} {far : Int} (sh : SideOk far hi) : (crH s e hi = .none ∧ hiE k s e hi = []) ∨ ∃ h, crH s e hi = .tuple [.int s, .int e, .int h] ∧ hiE k s e hi = [⟨k, "high", s, e, h⟩] := by
  rcases sh with rfl | ⟨h, rfl, _, _⟩
  · exact .inl ⟨rfl, rfl⟩
  · exact .inr ⟨h, rfl, rfl⟩
theorem mem_crL {k : Nat} {s e : Int} {lo : D} {far : Int} (sh : SideOk far lo) : (crL s e lo = .none ∧ loE k s e lo = []) ∨ ∃ h, crL s e lo = .tuple [.int e, .int s, .int h] ∧ loE k s e lo = [⟨k, "low", e, s, h⟩] := by
  rcases sh with rfl | ⟨h, rfl, _, _⟩
  · exact .inl ⟨rfl, rfl⟩
  · exact .inr ⟨-h, rfl, rfl⟩
/-- what a drawn net and one of its rules are -/
structure NR (n far : Int) (rs : List D) : Prop where
  n0 : 1 ≤ n
  n1 : n ≤ 6
  fa : far ≤ 100
  rl : rs.length ≤ 12
  ro : ∀ r ∈ rs, RuleOk n far r
theorem all_edges_ok {n far : Int} {rs : List D} {Q : D → Prop} (h : NR n far rs) (q : Q (.tuple ((edN rs rs.length).map eD))) : f_all_edges [.tuple [.int n, .tuple rs]] Q := by
  have hl := edN_le rs
  have h12 := h.rl
  refine o_all_edges ?_
  unfold t_all_edges
  refine seq_gen fun N hN => ?_
  walk_at "DZ"
  subst hN
  refine seq_gen fun N hN => ?_
  have a1 : atI [PyData.int n, PyData.tuple rs] 1 = some (.tuple rs) := rfl
  unfold dFor
  walk_at "DZ"
  rw [a1]
  dsimp only
  refine ⟨by omega, by omega, ?_⟩
  rw [Int.toNat_natCast]
  refine for_inv (fun i env => ∃ a b c d e f : Option Sl, env = [some (.dat (.tuple [.int n, .tuple rs])), some (.own ((edN rs i).map eD)), a, b, c, d, e, f]) (fun i d env hd hi M hM => ?_) (fun env hi => ?_) ⟨_, _, _, _, _, _, rfl⟩
  · obtain ⟨a, b, c, d', e, f, rfl⟩ := hi
    have hi : i < rs.length := by
      apply Classical.byContradiction
      intro hn
      rw [List.getElem?_eq_none (by rw [dRange_length]; omega)] at hd
      cases hd
    obtain rfl : d = .int (i : Nat) := by
      unfold dRange at hd
      rw [List.getElem?_map, List.getElem?_range hi, Option.map_some, Int.zero_add] at hd
      exact (Option.some.inj hd).symm
    have ei : rs[i]? = some rs[i] := List.getElem?_eq_getElem hi
    have hr := h.ro rs[i] (List.getElem_mem hi)
    obtain ⟨s, e', lo, hi', hre, s0, s1, e0, e1, hne, sl, sh, hb⟩ := hr
    rw [hre] at ei
    have es : edN rs (i + 1) = edN rs i ++ (hiE i s e' hi' ++ loE i s e' lo) := by
      rw [edN_succ, getD_some ei]
      rfl
    walk_at "DZ"
    have hle := hl i
    refine edge_course_hi ei sh sl ?_
    rcases mem_crH (k := i) (s := s) (e := e') sh with ⟨z1, z2⟩ | ⟨w1, z1, z2⟩
    · rw [z1]
      simp only [isNone, Bool.not_true, Bool.false_eq_true, if_false]
      refine edge_course_lo ei sh sl ?_
      rcases mem_crL (k := i) (s := s) (e := e') sl with ⟨y1, y2⟩ | ⟨w2, y1, y2⟩
      · rw [y1]
        simp only [Bool.not_true, Bool.false_eq_true, if_false]
        have el : (edN rs i).map eD = (edN rs (i + 1)).map eD := by rw [es, z2, y2, List.append_nil, List.append_nil]
        rw [el]
        exact hM _ ⟨_, _, _, _, _, _, rfl⟩
      · rw [y1]
        simp only [Bool.not_false, if_true]
        have el : (edN rs i).map eD ++ [eD ⟨i, "low", e', s, w2⟩] = (edN rs (i + 1)).map eD := by rw [es, z2, y2, List.map_append]; rfl
        refine ⟨rfl, by rw [List.length_map]; omega, ?_⟩
        exact hM _ ⟨_, _, _, _, _, _, by rw [← el]; rfl⟩
    · rw [z1]
      simp only [isNone, Bool.not_false, if_true]
      refine ⟨rfl, by rw [List.length_map]; omega, ?_⟩
      refine edge_course_lo ei sh sl ?_
      rcases mem_crL (k := i) (s := s) (e := e') sl with ⟨y1, y2⟩ | ⟨w2, y1, y2⟩
      · rw [y1]
        simp only [Bool.not_true, Bool.false_eq_true, if_false]
        have el : (edN rs i).map eD ++ [eD ⟨i, "high", s, e', w1⟩] = (edN rs (i + 1)).map eD := by rw [es, z2, y2, List.map_append]; rfl
        exact hM _ ⟨_, _, _, _, _, _, by rw [← el]; rfl⟩
      · rw [y1]
        simp only [Bool.not_false, if_true]
        have el : (edN rs i).map eD ++ [eD ⟨i, "high", s, e', w1⟩] ++ [eD ⟨i, "low", e', s, w2⟩] = (edN rs (i + 1)).map eD := by rw [es, z2, y2, List.map_append, List.append_assoc]; rfl
        refine ⟨rfl, by rw [List.length_append, List.length_map]; show _ + 1 < _; omega, ?_⟩
        exact hM _ ⟨_, _, _, _, _, _, by rw [← el]; rfl⟩
  · obtain ⟨a, b, c, d, e, f, rfl⟩ := hi
    subst hN
    walk_at "DZ"
    rw [dRange_length]
    exact q
theorem mem_ed {n far : Int} {rs : List D} {x : Ed} (h : ∀ r ∈ rs, RuleOk n far r) (hx : x ∈ edN rs rs.length) :
    ∃ s e lo hi, rs[x.k]? = some (.tuple [.int s, .int e, lo, hi]) ∧ 0 ≤ s ∧ s < n ∧ 0 ≤ e ∧ e < n ∧ SideOk far lo ∧ SideOk far hi ∧
      ((x = ⟨x.k, "high", s, e, x.w⟩ ∧ hi = .int x.w) ∨ (x = ⟨x.k, "low", e, s, x.w⟩ ∧ lo = .int (-x.w))) := by
  unfold edN at hx
  obtain ⟨k, hk, hx⟩ := List.mem_flatMap.mp hx
  have hk := List.mem_range.mp hk
  have ei : rs[k]? = some rs[k] := List.getElem?_eq_getElem hk
  obtain ⟨s, e, lo, hi, hre, s0, s1, e0, e1, hne, sl, sh, hb⟩ := h rs[k] (List.getElem_mem hk)
  rw [hre] at ei
  rw [getD_some ei] at hx
  have hx : x ∈ hiE k s e hi ++ loE k s e lo := hx
  rcases List.mem_append.mp hx with hx | hx
  · rcases sh with rfl | ⟨w, rfl, w0, w1⟩
    · exact absurd hx List.not_mem_nil
    · obtain rfl := List.mem_singleton.mp hx
      exact ⟨s, e, lo, _, ei, s0, s1, e0, e1, sl, .inr ⟨w, rfl, w0, w1⟩, .inl ⟨rfl, rfl⟩⟩
  · rcases sl with rfl | ⟨w, rfl, w0, w1⟩
    · exact absurd hx List.not_mem_nil
    · obtain rfl := List.mem_singleton.mp hx
      refine ⟨s, e, _, hi, ei, s0, s1, e0, e1, .inr ⟨w, rfl, w0, w1⟩, sh, .inr ⟨rfl, ?_⟩⟩
      show PyData.int w = PyData.int (- -w)
      rw [Int.neg_neg]
theorem getD_some {α : Type} {xs : List α} {k : Nat} {x y : α} (h : xs[k]? = some x) : xs.getD k y = x := by
  rw [List.getD_eq_getElem?_getD, h]
  rfl
theorem L_edges_ok {n far : Int} {rs : List D} {Q : D → Prop} (h : NR n far rs) (q : Q (.list ((edN rs rs.length).map eD))) : f_L_edges [.tuple [.int n, .tuple rs]] Q := by
  have hl := edN_le rs
  have h12 := h.rl
  refine o_L_edges ?_
  unfold t_L_edges
  refine seq_gen fun N hN => ?_
  walk_at "DZ"
  subst hN
  refine seq_gen fun N hN => ?_
  have a1 : atI [PyData.int n, PyData.tuple rs] 1 = some (.tuple rs) := rfl
  unfold dFor
  walk_at "DZ"
  rw [a1]
  dsimp only
  refine ⟨by omega, by omega, ?_⟩
  rw [Int.toNat_natCast]
  refine for_inv (fun i env => ∃ a b c d e : Option Sl, env = [some (.dat (.tuple [.int n, .tuple rs])), some (.own ((edN rs i).map eD)), a, b, c, d, e]) (fun i d env hd hi M hM => ?_) (fun env hi => ?_) ⟨_, _, _, _, _, rfl⟩
  · obtain ⟨a, b, c, d', e, rfl⟩ := hi
    have hi : i < rs.length := by
      apply Classical.byContradiction
      intro hn
      rw [List.getElem?_eq_none (by rw [dRange_length]; omega)] at hd
      cases hd
    obtain rfl : d = .int (i : Nat) := by
      unfold dRange at hd
      rw [List.getElem?_map, List.getElem?_range hi, Option.map_some, Int.zero_add] at hd
      exact (Option.some.inj hd).symm
    have ei : rs[i]? = some rs[i] := List.getElem?_eq_getElem hi
    have hr := h.ro rs[i] (List.getElem_mem hi)
    obtain ⟨s, e', lo, hi', hre, s0, s1, e0, e1, hne, sl, sh, hb⟩ := hr
    rw [hre] at ei
    have es : edN rs (i + 1) = edN rs i ++ (hiE i s e' hi' ++ loE i s e' lo) := by
      rw [edN_succ, getD_some ei]
      rfl
    have hle := hl i
    have ar : atI rs (i : Int) = some (.tuple [.int s, .int e', lo, hi']) := atI_nat ei
    walk_at "DZ"
    rw [a1]
    dsimp only
    rw [ar]
    dsimp only
    refine ⟨rfl, ?_⟩
    have hh : (List.replicate (if (!isNone hi') = true then (1 : Int) else 0).toNat [PyData.tuple [PyData.tuple [PyData.int (i : Nat), PyData.str "high"], PyData.int s, PyData.int e', hi']]).flatten = (hiE i s e' hi').map eD := by
      rcases sh with rfl | ⟨h, rfl, _, _⟩
      · rfl
      · rfl
    have hb1 : (-1000000 ≤ if (!isNone hi') = true then (1 : Int) else 0) ∧ (if (!isNone hi') = true then (1 : Int) else 0) ≤ 1000000 ∧ (0 + 1) * (if (!isNone hi') = true then (1 : Int) else 0).toNat ≤ 1000000 := by
      cases isNone hi' <;> decide
    have h1 : (hiE i s e' hi').length ≤ 1 := by unfold hiE; split <;> simp
    refine ⟨hb1.1, hb1.2.1, hb1.2.2, ?_⟩
    rw [hh]
    refine ⟨by rw [List.length_map, List.length_map]; omega, ?_⟩
    rcases sl with rfl | ⟨l, rfl, _, _⟩
    · simp only [isNone, Bool.not_true, Bool.false_eq_true, if_false]
      have el : (edN rs i).map eD ++ (hiE i s e' hi').map eD ++ [] = (edN rs (i + 1)).map eD := by rw [es, List.append_nil, ← List.map_append]; show _ = List.map eD (_ ++ (_ ++ [])); rw [List.append_nil]
      rw [el]
      exact ⟨by rw [List.length_append, List.length_map, List.length_map]; omega, hM _ ⟨_, _, _, _, _, rfl⟩⟩
    · simp only [isNone, Bool.not_false, if_true]
      have el : (edN rs i).map eD ++ (hiE i s e' hi').map eD ++ [eD ⟨i, "low", e', s, -l⟩] = (edN rs (i + 1)).map eD := by rw [es, List.map_append, List.map_append, List.append_assoc]; rfl
      refine ⟨by rw [List.length_append, List.length_map, List.length_map]; omega, hM _ ⟨_, _, _, _, _, by rw [← el, Int.zero_sub]; rfl⟩⟩
  · obtain ⟨a, b, c, d, e, rfl⟩ := hi
    subst hN
    walk_at "DZ"
    rw [dRange_length]
    exact q
def oD : Option Int → D | some i => .int i | none => .none
/-- a table as rows -/
def rowL (n : Nat) (f : Nat → D) : List D := (List.range n).map f
def tabL (n : Nat) (T : GR.Tb) : List (List D) := (List.range n).map fun i => rowL n fun j => oD (T i j)
theorem rowL_len (n : Nat) (f : Nat → D) : (rowL n f).length = n := by unfold rowL; rw [List.length_map, List.length_range]
theorem rowL_get {n j : Nat} (f : Nat → D) (h : j < n) : (rowL n f)[j]? = some (f j) := by unfold rowL; rw [List.getElem?_map, List.getElem?_range h]; rfl
theorem ixN_nat {n j : Nat} (h : j < n) : ixN n (j : Int) = some j := by
  unfold ixN
  rw [if_pos (by omega), if_pos (by omega), Int.toNat_natCast]
theorem ext_get {α : Type} {xs ys : List α} (h : ∀ i : Nat, xs[i]? = ys[i]?) : xs = ys := List.ext_getElem? h
theorem rowL_set {n j : Nat} (f : Nat → D) (d : D) : (rowL n f).set j d = rowL n fun b => if b = j then d else f b := by
  refine ext_get fun i => ?_
  by_cases hi : i < n
  · rw [rowL_get _ hi]
    by_cases e : i = j
    · subst e
      rw [if_pos rfl, List.getElem?_set_self (by rw [rowL_len]; exact hi)]
    · rw [if_neg e, List.getElem?_set_ne (fun q => e q.symm), rowL_get _ hi]
  · rw [List.getElem?_eq_none (by rw [List.length_set, rowL_len]; omega), List.getElem?_eq_none (by rw [rowL_len]; omega)]
theorem lc_rng {g : T2G} {te : T2E} {env : Ev} {n : Nat} {Q : List D → Prop} (f : Nat → D) (h : ∀ i, i < n → ∀ R : D → Prop, R (f i) → g (.int (i : Nat)) env fun env1 => te env1 R) (q : Q (rowL n f)) :
    lcD g (fun _ Q => Q true) te env (dRange 0 n) Q := by
  refine lc_map (fun d => match d with | .int i => f i.toNat | _ => .none) (fun d hd R hR => ?_) ?_
  · obtain ⟨i, hi, rfl⟩ := mem_dRange hd
    rw [Int.zero_add]
    refine h i hi R ?_
    dsimp only at hR
    rw [Int.zero_add, Int.toNat_natCast] at hR
    exact hR
  · have e : (dRange 0 n).map (fun d => match d with | .int i => f i.toNat | _ => .none) = rowL n f := by
      unfold dRange rowL
      rw [List.map_map]
      refine List.map_congr_left fun i _ => ?_
      show f (0 + (i : Int)).toNat = f i
      rw [Int.zero_add, Int.toNat_natCast]
    rw [e]
    exact q
/-! ### the graph of a net -/
abbrev gs (x : Ed) : Nat := x.s.toNat
abbrev ge (x : Ed) : Nat := x.e.toNat
abbrev gw (x : Ed) : Int := x.w
abbrev es (rs : List D) : List Ed := edN rs rs.length
theorem ed_in {n far : Int} {rs : List D} (h : NR n far rs) {x : Ed} (hx : x ∈ es rs) : 0 ≤ x.s ∧ x.s < n ∧ 0 ≤ x.e ∧ x.e < n ∧ x.s ≠ x.e := by
  obtain ⟨s, e, lo, hi, hr, s0, s1, e0, e1, _, _, hh⟩ := mem_ed h.ro hx
  have hne : s ≠ e := by
    have hm : PyData.tuple [.int s, .int e, lo, hi] ∈ rs := by
      obtain ⟨hk, e⟩ := List.getElem?_eq_some_iff.mp hr
      rw [← e]; exact List.getElem_mem hk
    obtain ⟨s', e', lo', hi', hre, _, _, _, _, hne, _⟩ := h.ro _ hm
    simp only [PyData.tuple.injEq, List.cons.injEq, PyData.int.injEq] at hre
    omega
  rcases hh with ⟨e, _⟩ | ⟨e, _⟩
  · rw [e]; exact ⟨s0, s1, e0, e1, hne⟩
  · rw [e]; exact ⟨e0, e1, s0, s1, fun q => hne q.symm⟩
theorem ed_rng {n far : Int} {rs : List D} (h : NR n far rs) : ∀ x ∈ es rs, gs x < n.toNat ∧ ge x < n.toNat := fun x hx => by
  have := ed_in h hx
  show x.s.toNat < _ ∧ x.e.toNat < _
  omega
/-- the table of the edges -/
def T0 : GR.Tb := fun i j => if i = j then some 0 else none
def stE (T : GR.Tb) (x : Ed) : GR.Tb := GR.upd2 T (gs x) (ge x) (GR.omin (T (gs x) (ge x)) (some x.w))
def T1 (xs : List Ed) : GR.Tb := xs.foldl stE T0
abbrev NoNegR (rs : List D) : Prop := GR.NoNeg gs ge gw (es rs)
abbrev DstR (rs : List D) (i j : Nat) (o : Option Int) : Prop := GR.Dst gs ge gw (es rs) i j o
/-- a table of the tight bounds -/
structure TB (n : Nat) (rs : List D) (T : GR.Tb) : Prop where
  dst : ∀ i j, i < n → j < n → DstR rs i j (T i j)
  diag : ∀ i, i < n → T i i = some 0
theorem filt_map {α : Type} (g : α → Option Int) : ∀ l : List α, (l.filter fun a => (g a).isSome).map (fun a => PyData.int ((g a).getD 0)) = (l.filterMap g).map PyData.int
  | [] => rfl
  | a :: l => by
    have ih := filt_map g l
    cases hz : g a with
    | none => simp [List.filter_cons, List.filterMap_cons, hz, ih]
    | some L => simp [List.filter_cons, List.filterMap_cons, hz, ih]
theorem allInt_ints (ns : List Int) : allInt (ns.map PyData.int) = some ns := by
  have := allInt_map id ns
  rw [List.map_id] at this
  exact this
theorem lc_list {α : Type} {g : T2G} {tt : T2T} {te : T2E} {env : Ev} (G f : α → D) (keep : α → Bool) : ∀ {l : List α} {Q : List D → Prop},
    (∀ a ∈ l, ∀ (R : D → Prop) (N : Prop), (keep a = true → R (f a)) → (keep a = false → N) → g (G a) env fun env1 => tt env1 fun b => if b = true then te env1 R else N) →
    Q ((l.filter keep).map f) → lcD g tt te env (l.map G) Q
  | [], Q, h, q => q
  | a :: l, Q, h, q => by
    refine h a List.mem_cons_self _ _ (fun hk => ?_) (fun hk => ?_)
    · refine lc_list G f keep (fun e he => h e (List.mem_cons_of_mem _ he)) ?_
      rw [List.filter_cons_of_pos hk] at q
      exact q
    · refine lc_list G f keep (fun e he => h e (List.mem_cons_of_mem _ he)) ?_
      rw [List.filter_cons_of_neg (by rw [hk]; exact Bool.false_ne_true)] at q
      exact q
theorem lc_row {g : T2G} {te : T2E} {env : Ev} {n : Nat} {Q : List D → Prop} (G f : Nat → D) (h : ∀ i, i < n → ∀ R : D → Prop, R (f i) → g (G i) env fun env1 => te env1 R) (q : Q (rowL n f)) :
    lcD g (fun _ Q => Q true) te env (rowL n G) Q := by
  unfold rowL
  refine lc_list G f (fun _ => true) (fun i hi R N r1 _ => h i (List.mem_range.mp hi) R (r1 rfl)) ?_
  rw [List.filter_eq_self.mpr fun _ _ => rfl]
  exact q
/-- a walk found, with its length -/
def wD : Option (List Ed) → D | some p => .tuple [.int (GR.wlen gw p), .tuple (p.map eV)] | none => .none
def rowW (n : Nat) (R : GR.Wt Ed) : List D := rowL n fun j => wD (R j)
def walksD (n : Nat) (W : Nat → GR.Wt Ed) : D := .list (rowL n fun i => .list (rowW n (W i)))
theorem rowW_set {n j : Nat} (R : GR.Wt Ed) (o : Option (List Ed)) : (rowW n R).set j (wD o) = rowW n (GR.upd1 R j o) := by
  unfold rowW
  rw [rowL_set]
  congr 1
  funext b
  unfold GR.upd1
  by_cases e : b = j
  · simp [e]
  · simp [e]
theorem at_rowL {n j : Nat} (f : Nat → D) (h : j < n) : atI (rowL n f) (j : Int) = some (f j) := atI_nat (rowL_get f h)
theorem at_rowW {n j : Nat} (R : GR.Wt Ed) (h : j < n) : atI (rowW n R) (j : Int) = some (wD (R j)) := at_rowL _ h
theorem walks_without_ok {m : Nat} {Q : D → Prop} (hm : m ≤ 6) (q : Q (walksD m fun i j => if i = j then some [] else none)) : f_walks_without_edges [.int (m : Nat)] Q := by
  refine o_walks_without_edges ?_
  unfold t_walks_without_edges
  walk_at "DZ"
  refine ⟨by omega, by omega, by rw [dRange_length]; omega, ?_⟩
  rw [Int.toNat_natCast]
  refine lc_rng (fun i => .list (rowW m fun j => if i = j then some [] else none)) (fun i hi R hR => ?_) q
  walk_at "DZ"
  refine ⟨by omega, by omega, by rw [dRange_length]; omega, ?_⟩
  refine lc_rng (fun j => wD (if i = j then some [] else none)) (fun j hj R hR => ?_) hR
  walk_at "DZ"
  refine ⟨shaped_int _, shaped_int _, ?_⟩
  rw [eqv_intD]
  by_cases e : i = j
  · rw [decide_eq_true (by omega), if_pos rfl]
    rw [if_pos e] at hR
    exact hR
  · rw [decide_eq_false (by omega), if_neg (by decide)]
    rw [if_neg e] at hR
    exact hR
theorem longer_row_ok {n far : Int} {rs : List D} {R : GR.Wt Ed} {Q : D → Prop} (h : NR n far rs) (hl : ∀ j p, R j = some p → p.length ≤ 1000) (q : Q (.list (rowW n.toNat (GR.bfRow gs ge gw (es rs) R)))) : f_longer_row [.list (rowW n.toNat R), .tuple ((es rs).map eD)] Q := by
  have hrg := ed_rng h
  generalize n.toNat = m at hrg q ⊢
  refine o_longer_row ?_
  unfold t_longer_row
  refine seq_gen fun N hN => ?_
  walk_at "DZ"
  subst hN
  refine seq_gen fun N hN => ?_
  unfold dFor
  walk_at "DZ"
  refine for_inv (fun i env => ∃ a b c d e f : Option Sl, env = [some (.dat (.list (rowW m R))), some (.dat (.tuple ((es rs).map eD))), some (.own (rowW m (((es rs).take i).foldl (GR.bfOne gs ge gw R) R))), a, b, c, d, e, f]) (fun i d env hd hi M hM => ?_) (fun env hi => ?_) ⟨_, _, _, _, _, _, rfl⟩
  · obtain ⟨a, b, c, d', e, f, rfl⟩ := hi
    rw [List.getElem?_map] at hd
    obtain ⟨x, hx, rfl⟩ := Option.map_eq_some_iff.mp hd
    have hxm : x ∈ es rs := List.mem_of_getElem? hx
    have hin := ed_in h hxm
    have hr := hrg x hxm
    have et : (es rs).take (i + 1) = (es rs).take i ++ [x] := by rw [List.take_add_one, hx]; rfl
    rw [et] at hM
    simp only [List.foldl_append, List.foldl_cons, List.foldl_nil] at hM
    generalize ((es rs).take i).foldl (GR.bfOne gs ge gw R) R = U at hM ⊢
    have hs : x.s = ((gs x : Nat) : Int) := (Int.toNat_of_nonneg hin.1).symm
    have he : x.e = ((ge x : Nat) : Int) := (Int.toNat_of_nonneg hin.2.2.1).symm
    unfold eD
    walk_at "DZ"
    refine ⟨rfl, ?_⟩
    rw [hs, he, at_rowW R hr.1]
    dsimp only
    cases hp : R (gs x) with
    | none =>
      rw [GR.bfOne_n hp] at hM
      exact hM _ ⟨_, _, _, _, _, _, rfl⟩
    | some p =>
      have hpl := hl _ _ hp
      unfold wD
      dsimp only [isNone, Bool.not_false]
      rw [if_pos rfl]
      refine ⟨rfl, ?_⟩
      rw [at_rowW U hr.2]
      dsimp only
      have new : ∀ (V : GR.Wt Ed), V = GR.upd1 U (ge x) (some (p ++ [x])) → (p.map eV).length + 1 ≤ 1000000 ∧ (match ixN (rowW m U).length ((ge x : Nat) : Int) with
          | some k => M [some (.dat (.list (rowW m R))), some (.dat (.tuple ((es rs).map eD))), some (.own ((rowW m U).set k (.tuple [.int (GR.wlen gw p + x.w), .tuple (p.map eV ++ [eV x])]))), some (.dat (eV x)), some (.dat (.int ((gs x : Nat) : Int))), some (.dat (.int ((ge x : Nat) : Int))), some (.dat (.int x.w)), some (.dat (.int (GR.wlen gw p))), some (.dat (.tuple (p.map eV)))]
          | none => False) ∨ V ≠ GR.bfOne gs ge gw R U x := fun V hV => by
        by_cases c : V = GR.bfOne gs ge gw R U x
        · refine .inl ⟨by rw [List.length_map]; omega, ?_⟩
          rw [ixN_nat (by unfold rowW; rw [rowL_len]; exact hr.2)]
          dsimp only
          have e2 : (PyData.tuple [.int (GR.wlen gw p + x.w), .tuple (p.map eV ++ [eV x])]) = wD (some (p ++ [x])) := by
            unfold wD
            dsimp only
            rw [GR.wlen_append, GR.wlen_one, List.map_append]
            rfl
          rw [e2, rowW_set, ← hV, c]
          exact hM _ ⟨_, _, _, _, _, _, rfl⟩
        · exact .inr c
      cases hq : U (ge x) with
      | none =>
        refine ite_t rfl ?_
        exact (new _ rfl).resolve_right (fun z => z (GR.bfOne_a hp hq).symm)
      | some u =>
        refine ite_f (fun z => nomatch z) ?_
        unfold wD
        dsimp only
        rw [atI_0]
        dsimp only
        have bo := GR.bfOne_b (sv := gs) (ev := ge) (wv := gw) hp hq
        by_cases c : GR.wlen gw p + x.w < GR.wlen gw u
        · rw [decide_eq_true c, if_pos rfl]
          exact (new _ rfl).resolve_right (fun z => z (by rw [bo, if_pos c]))
        · rw [decide_eq_false c, if_neg (by decide)]
          rw [bo, if_neg c] at hM
          exact hM _ ⟨_, _, _, _, _, _, rfl⟩
  · obtain ⟨a, b, c, d', e, f, rfl⟩ := hi
    subst hN
    walk_at "DZ"
    rw [List.length_map, List.take_length]
    exact q
theorem round_below_ok {m : Nat} {W : Nat → GR.Wt Ed} {Q : D → Prop} (hd : ∀ i, i < m → ∃ p, W i i = some p) (q0 : (∀ i, i < m → GR.ole (some 0) (GR.oL gw (W i i))) → Q .none) (q1 : ∀ i p, i < m → W i i = some p → GR.wlen gw p < 0 → Q (.tuple (p.map eV))) : f_round_below [walksD m W] Q := by
  refine o_round_below ?_
  unfold t_round_below walksD
  refine seq_gen fun N hN => ?_
  unfold dFor
  walk_at "DZ"
  refine for_inv (fun i env => ∃ a b c d : Option Sl, (∀ j, j < i → GR.ole (some 0) (GR.oL gw (W j j))) ∧ env = [some (.dat (.list (rowL m fun i => .list (rowW m (W i))))), a, b, c, d]) (fun i d env he hi M hM => ?_) (fun env hi => ?_) ⟨_, _, _, _, fun j hj => absurd hj (Nat.not_lt_zero _), rfl⟩
  · obtain ⟨a, b, c, d', hj, rfl⟩ := hi
    obtain ⟨y, hy, rfl⟩ := dEnum_get he
    have him : i < m := by have := lt_of_get hy; rwa [rowL_len] at this
    rw [rowL_get _ him] at hy
    cases hy
    obtain ⟨p, hp⟩ := hd i him
    walk_at "DZ"
    refine ⟨rfl, ?_⟩
    rw [at_rowW _ him, hp]
    unfold wD
    dsimp only
    refine ⟨rfl, ?_⟩
    by_cases c : GR.wlen gw p < 0
    · rw [decide_eq_true c, if_pos rfl]
      exact q1 i p him hp c
    · rw [decide_eq_false c, if_neg (by decide)]
      refine hM _ ⟨_, _, _, _, fun j hj' => ?_, rfl⟩
      by_cases e : j = i
      · subst e; rw [hp]; exact Int.not_lt.mp c
      · exact hj j (by omega)
  · obtain ⟨a, b, c, d', hj, rfl⟩ := hi
    subst hN
    walk_at "DZ"
    rw [dEnum_length, rowL_len] at hj
    exact q0 hj
theorem least_walks_ok {n far : Int} {rs : List D} {Q : D → Prop} (h : NR n far rs)
    (q0 : ∀ W, (∀ i, i < n.toNat → GR.Kd gs ge gw (es rs) n.toNat i (W i)) → (∀ i, i < n.toNat → GR.ole (some 0) (GR.oL gw (W i i))) → Q (walksD n.toNat W))
    (q1 : ∀ W k, k < n.toNat → (∀ i, i < n.toNat → GR.Kd gs ge gw (es rs) (k + 1) i (W i)) → (∀ i p, i < n.toNat → GR.IsW gs ge (es rs) i i p → p.length ≤ k → 0 ≤ GR.wlen gw p) → (∃ i p, i < n.toNat ∧ W i i = some p ∧ GR.wlen gw p < 0) → Q (walksD n.toNat W)) : f_least_walks [.tuple [.int n, .tuple rs]] Q := by
  obtain ⟨m, rfl⟩ : ∃ m : Nat, n = (m : Int) := ⟨n.toNat, by have := h.n0; omega⟩
  have hm : m ≤ 6 := by have := h.n1; omega
  have lr := @longer_row_ok (m : Int) far rs
  rw [Int.toNat_natCast] at q0 q1 lr
  have a0 : atI [PyData.int (m : Int), PyData.tuple rs] 0 = some (.int m) := rfl
  refine o_least_walks ?_
  unfold t_least_walks
  refine seq_gen fun N hN => ?_
  walk_at "DZ"
  rw [a0]
  dsimp only
  subst hN
  try dsimp only
  refine seq_gen fun N hN => ?_
  walk_at "DZ"
  refine all_edges_ok h ?_
  subst hN
  try dsimp only
  refine seq_gen fun N hN => ?_
  walk_at "DZ"
  refine walks_without_ok hm ?_
  subst hN
  try dsimp only
  refine seq_gen fun N hN => ?_
  unfold dFor
  walk_at "DZ"
  refine ⟨by omega, by omega, ?_⟩
  rw [Int.toNat_natCast]
  have diag : ∀ {k : Nat} {W : Nat → GR.Wt Ed}, (∀ i, i < m → GR.Kd gs ge gw (es rs) k i (W i)) → ∀ i, i < m → ∃ p, W i i = some p := fun {k W} hK i hi => by
    have := (hK i hi).le i [] rfl (Nat.zero_le _)
    cases hz : W i i with
    | none => rw [hz] at this; exact this.elim
    | some p => exact ⟨p, rfl⟩
  refine for_rng (fun k env => ∃ (W : Nat → GR.Wt Ed) (a b : Option Sl), (∀ i, i < m → GR.Kd gs ge gw (es rs) k i (W i)) ∧ (∀ i, i < m → GR.ole (some 0) (GR.oL gw (W i i))) ∧ env = [some (.dat (.tuple [.int m, .tuple rs])), some (.dat (.int m)), some (.dat (.tuple ((es rs).map eD))), some (.dat (walksD m W)), a, b]) (fun k env hk hInv M hM => ?_) (fun env hInv => ?_) ⟨_, _, _, fun i _ => .zero i, fun i _ => ?_, rfl⟩
  · obtain ⟨W, a, b, hK, hpos, rfl⟩ := hInv
    have nn : ∀ i p, i < m → GR.IsW gs ge (es rs) i i p → p.length ≤ k → 0 ≤ GR.wlen gw p := fun i p hi hp hl => by
      have := GR.ole_trans (hpos i hi) ((hK i hi).le i p hp hl)
      exact this
    refine seq_gen fun N2 hN2 => ?_
    unfold walksD
    walk_at "DZ"
    refine ⟨by rw [rowL_len]; omega, ?_⟩
    refine lc_row _ (fun i => .list (rowW m (GR.bfRow gs ge gw (es rs) (W i)))) (fun i hi R hR => ?_) ?_
    · walk_at "DZ"
      exact lr h (fun j p hp => by have := ((hK i hi).ok j p hp).2; omega) hR
    obtain ⟨V, hV⟩ : ∃ V : Nat → GR.Wt Ed, V = fun i => GR.bfRow gs ge gw (es rs) (W i) := ⟨_, rfl⟩
    have hK' : ∀ i, i < m → GR.Kd gs ge gw (es rs) (k + 1) i (V i) := fun i hi => by rw [hV]; exact (hK i hi).succ
    show N2 [_, _, _, some (.dat (walksD m fun i => GR.bfRow gs ge gw (es rs) (W i))), _, _]
    rw [← hV]
    subst hN2
    walk_at "DZ"
    refine round_below_ok (diag hK') (fun hp => ?_) (fun i p hi hp hn => ?_)
    · refine ite_f (fun z => nomatch z) ?_
      exact hM _ ⟨V, _, _, hK', hp, rfl⟩
    · refine ite_t rfl ?_
      exact q1 V k hk hK' nn ⟨i, p, hi, hp, hn⟩
  · obtain ⟨W, a, b, hK, hpos, rfl⟩ := hInv
    subst hN
    walk_at "DZ"
    exact q0 W hK hpos
  · show GR.ole (some 0) (GR.oL gw (if i = i then some [] else none))
    rw [if_pos rfl]
    exact Int.le_refl _
/-- the least walks of a net that can be kept -/
structure LW (m : Nat) (rs : List D) (W : Nat → GR.Wt Ed) : Prop where
  kd : ∀ i, i < m → GR.Kd gs ge gw (es rs) m i (W i)
  pos : ∀ i, i < m → GR.ole (some 0) (GR.oL gw (W i i))
  dst : ∀ i j, i < m → DstR rs i j (GR.oL gw (W i j))
theorem LW.diag {m : Nat} {rs : List D} {W : Nat → GR.Wt Ed} (h : LW m rs W) (i : Nat) (hi : i < m) : ∃ p, W i i = some p := by
  have := (h.kd i hi).le i [] rfl (Nat.zero_le _)
  cases hz : W i i with
  | none => rw [hz] at this; exact this.elim
  | some p => exact ⟨p, rfl⟩
/-- a table with a round below 0 of k + 1 edges, none shorter -/
structure LN (m : Nat) (rs : List D) (k : Nat) (W : Nat → GR.Wt Ed) : Prop where
  kd : ∀ i, i < m → GR.Kd gs ge gw (es rs) (k + 1) i (W i)
  nn : ∀ i p, i < m → GR.IsW gs ge (es rs) i i p → p.length ≤ k → 0 ≤ GR.wlen gw p
  km : k < m
  neg : ∃ i p, i < m ∧ W i i = some p ∧ GR.wlen gw p < 0
theorem LN.diag {m k : Nat} {rs : List D} {W : Nat → GR.Wt Ed} (h : LN m rs k W) (i : Nat) (hi : i < m) : ∃ p, W i i = some p := by
  have := (h.kd i hi).le i [] rfl (Nat.zero_le _)
  cases hz : W i i with
  | none => rw [hz] at this; exact this.elim
  | some p => exact ⟨p, rfl⟩
theorem least_walks_spec {n far : Int} {rs : List D} {Q : D → Prop} (h : NR n far rs) (q0 : NoNegR rs → ∀ W, LW n.toNat rs W → Q (walksD n.toNat W)) (q1 : ¬ NoNegR rs → ∀ W k, LN n.toNat rs k W → Q (walksD n.toNat W)) : f_least_walks [.tuple [.int n, .tuple rs]] Q := by
  refine least_walks_ok h (fun W hK hpos => ?_) (fun W k hk hK nn hneg => ?_)
  · obtain ⟨hz, hd⟩ := GR.Kd.dst (ed_rng h) hK hpos
    exact q0 hz W ⟨hK, hpos, hd⟩
  · refine q1 (fun hz => ?_) W k ⟨hK, nn, hk, hneg⟩
    obtain ⟨i, p, hi, hp, hn⟩ := hneg
    have := hz i p ((hK i hi).ok i p hp).1
    omega
theorem round_below_kept {m : Nat} {rs : List D} {W : Nat → GR.Wt Ed} {Q : D → Prop} (h : LW m rs W) (q : Q .none) : f_round_below [walksD m W] Q :=
  round_below_ok h.diag (fun _ => q) fun i p hi hp hn => by
    have := h.pos i hi
    rw [hp] at this
    exact absurd hn (Int.not_lt.mpr this)
/-- a told round -/
structure TR (m : Nat) (rs : List D) (p : List Ed) : Prop where
  ex : ∃ i, i < m ∧ GR.IsW gs ge (es rs) i i p
  neg : GR.wlen gw p < 0
  few : ∀ i q, i < m → GR.IsW gs ge (es rs) i i q → GR.wlen gw q < 0 → p.length ≤ q.length
  le : p.length ≤ m
theorem nr_net {n far : Int} {rs : List D} (h : NR n far rs) : netB (.tuple [.int n, .tuple rs]) = true := net_good h.fa h.n0 h.n1 h.rl h.ro
/-- right heights, from the least walks -/
def htL (m : Nat) (W : Nat → GR.Wt Ed) (e : Nat) : List Int := (List.range m).filterMap fun i => GR.oL gw (W i e)
def ht (m : Nat) (W : Nat → GR.Wt Ed) (e : Nat) : Int := minD (htL m W e)
/-- heights at the events -/
def hts (m : Nat) (t : Nat → Int) : D := .tuple (rowL m fun e => .int (t e))
def RightH (rs : List D) (t : Nat → Int) : Prop := ∀ x ∈ es rs, t (ge x) - t (gs x) ≤ x.w
def ruleHold (t : Nat → Int) : D → Bool
  | .tuple [.int s, .int e, lo, hi] => (match lo with | .int l => decide (l ≤ t e.toNat - t s.toNat) | _ => true) && (match hi with | .int h => decide (t e.toNat - t s.toNat ≤ h) | _ => true)
  | _ => false
theorem right_iff {n far : Int} {rs : List D} (h : NR n far rs) (t : Nat → Int) : RightH rs t ↔ rs.all (ruleHold t) = true := by
  rw [List.all_eq_true]
  constructor
  · intro hr r hrm
    obtain ⟨s, e, lo, hi, rfl, s0, s1, e0, e1, hne, sl, sh, hb⟩ := h.ro r hrm
    obtain ⟨k, hk, ek⟩ := List.getElem_of_mem hrm
    have er : rs[k]? = some (.tuple [.int s, .int e, lo, hi]) := by rw [List.getElem?_eq_getElem hk, ek]
    have mem : ∀ x, x ∈ hiE k s e hi ++ loE k s e lo → x ∈ es rs := fun x hx => List.mem_flatMap.mpr ⟨k, List.mem_range.mpr hk, by rw [getD_some er]; exact hx⟩
    unfold ruleHold
    dsimp only
    rw [Bool.and_eq_true]
    constructor
    · rcases sl with rfl | ⟨l, rfl, _, _⟩
      · rfl
      · have := hr ⟨k, "low", e, s, -l⟩ (mem _ (List.mem_append.mpr (.inr (List.mem_singleton.mpr rfl))))
        have this : t s.toNat - t e.toNat ≤ -l := this
        exact decide_eq_true (by omega)
    · rcases sh with rfl | ⟨l, rfl, _, _⟩
      · rfl
      · have := hr ⟨k, "high", s, e, l⟩ (mem _ (List.mem_append.mpr (.inl (List.mem_singleton.mpr rfl))))
        have this : t e.toNat - t s.toNat ≤ l := this
        exact decide_eq_true this
  · intro hr x hx
    obtain ⟨s, e, lo, hi, her, s0, s1, e0, e1, sl, sh, hh⟩ := mem_ed h.ro hx
    have hrm : PyData.tuple [.int s, .int e, lo, hi] ∈ rs := List.mem_of_getElem? her
    have := hr _ hrm
    unfold ruleHold at this
    dsimp only at this
    rw [Bool.and_eq_true] at this
    rcases hh with ⟨hx, rfl⟩ | ⟨hx, rfl⟩
    · have z := of_decide_eq_true this.2
      rw [hx]
      exact z
    · have z : -x.w ≤ t e.toNat - t s.toNat := of_decide_eq_true this.1
      rw [hx]
      show t s.toNat - t e.toNat ≤ x.w
      omega
/-- where a row of edges leads from v, and how long it is -/
def endsF (rs : List D) : Int → Int → List Ed → Option (Int × Int)
  | v, L, [] => some (v, L)
  | v, L, x :: xs => if x.s = v then endsF rs x.e (L + x.w) xs else none
/-! ### greatest and least of what may be none -/
def mxO : List Int → Option Int | [] => none | n :: ns => some (maxD (n :: ns))
def mnO : List Int → Option Int | [] => none | n :: ns => some (minD (n :: ns))
def cLo (x : Int) : Option Int → Int | some l => if l > x then l else x | none => x
def cHi (a : Int) : Option Int → Int | some h => if h < a then h else a | none => a
def clampI (x : Int) (lo hi : Option Int) : Int := cHi (cLo x lo) hi
theorem mxO_some {ns : List Int} {l : Int} : mxO ns = some l ↔ (l ∈ ns ∧ ∀ y ∈ ns, y ≤ l) := by
  cases ns with
  | nil => exact ⟨(fun h => nomatch h), (fun h => absurd h.1 List.not_mem_nil)⟩
  | cons n ns =>
    constructor
    · intro h
      cases h
      exact ⟨maxD_mem (Nat.succ_pos _), maxD_ge⟩
    · rintro ⟨h1, h2⟩
      show some _ = _
      rw [Int.le_antisymm (h2 _ (maxD_mem (Nat.succ_pos _))) (maxD_ge l h1)]
theorem mnO_some {ns : List Int} {l : Int} : mnO ns = some l ↔ (l ∈ ns ∧ ∀ y ∈ ns, l ≤ y) := by
  cases ns with
  | nil => exact ⟨(fun h => nomatch h), (fun h => absurd h.1 List.not_mem_nil)⟩
  | cons n ns =>
    constructor
    · intro h
      cases h
      exact ⟨minD_mem (Nat.succ_pos _), minD_le⟩
    · rintro ⟨h1, h2⟩
      show some _ = _
      rw [Int.le_antisymm (minD_le l h1) (h2 _ (minD_mem (Nat.succ_pos _)))]
theorem mxO_none {ns : List Int} : mxO ns = none ↔ ns = [] := by cases ns <;> simp [mxO]
theorem mnO_none {ns : List Int} : mnO ns = none ↔ ns = [] := by cases ns <;> simp [mnO]
/-! ### news at the tight bounds -/
def nN (y : Nat × Int) : D := .tuple [.int (y.1 : Nat), .int y.2]
def lows (T : GR.Tb) (c : Nat) (row : List (Nat × Int)) : List Int := row.filterMap fun y => (T c y.1).map (y.2 - ·)
def highs (T : GR.Tb) (c : Nat) (row : List (Nat × Int)) : List Int := row.filterMap fun y => (T y.1 c).map (y.2 + ·)
def movI (T : GR.Tb) (t : Nat → Int) (row : List (Nat × Int)) (c : Nat) : Int := clampI (t c) (mxO (lows T c row)) (mnO (highs T c row))
theorem mem_lows {T : GR.Tb} {c : Nat} {row : List (Nat × Int)} {l : Int} : l ∈ lows T c row ↔ ∃ y ∈ row, ∃ d, T c y.1 = some d ∧ l = y.2 - d := by
  unfold lows
  rw [List.mem_filterMap]
  constructor
  · rintro ⟨y, hy, h⟩
    obtain ⟨d, hd, rfl⟩ := Option.map_eq_some_iff.mp h
    exact ⟨y, hy, d, hd, rfl⟩
  · rintro ⟨y, hy, d, hd, rfl⟩
    exact ⟨y, hy, by rw [hd]; rfl⟩
theorem mem_highs {T : GR.Tb} {c : Nat} {row : List (Nat × Int)} {l : Int} : l ∈ highs T c row ↔ ∃ y ∈ row, ∃ d, T y.1 c = some d ∧ l = y.2 + d := by
  unfold highs
  rw [List.mem_filterMap]
  constructor
  · rintro ⟨y, hy, h⟩
    obtain ⟨d, hd, rfl⟩ := Option.map_eq_some_iff.mp h
    exact ⟨y, hy, d, hd, rfl⟩
  · rintro ⟨y, hy, d, hd, rfl⟩
    exact ⟨y, hy, by rw [hd]; rfl⟩
/-- two pieces of news fit -/
def fit2 (T : GR.Tb) (y z : Nat × Int) : Bool := match T y.1 z.1 with | some d => decide (z.2 - y.2 ≤ d) | none => true
def fitAll (T : GR.Tb) (row : List (Nat × Int)) : Prop := ∀ y ∈ row, ∀ z ∈ row, fit2 T y z = true
theorem fit2_le {T : GR.Tb} {y z : Nat × Int} (h : fit2 T y z = true) {d : Int} (e : T y.1 z.1 = some d) : z.2 - y.2 ≤ d := by
  unfold fit2 at h
  rw [e] at h
  exact of_decide_eq_true h
/-! ### the program's -/
def bT (m : Nat) (T : GR.Tb) : D := .tuple (rowL m fun i => .tuple (rowL m fun j => oD (T i j)))
theorem marks_ok {v : Int} {a b : Option Int} {Q : D → Prop} (q : Q (.tuple [oD (a.map (v - ·)), oD (b.map (v + ·))])) : f_marks [.int v, oD a, oD b] Q := by
  refine o_marks ?_
  unfold t_marks
  cases a <;> cases b <;> exact q
theorem clamped_ok {x : Int} {lo hi : Option Int} {Q : D → Prop} (q : Q (.int (clampI x lo hi))) : f_clamped [.int x, oD lo, oD hi] Q := by
  refine o_clamped ?_
  unfold t_clamped
  cases lo <;> cases hi <;> exact q
def mkD (T : GR.Tb) (c : Nat) (y : Nat × Int) : D := .tuple [oD ((T c y.1).map (y.2 - ·)), oD ((T y.1 c).map (y.2 + ·))]
theorem room_beside_ok {m c : Nat} {T : GR.Tb} {row : List (Nat × Int)} {b : Bool} {Q : D → Prop} (hc : c < m) (hrow : ∀ y ∈ row, y.1 < m) (hl : row.length ≤ 1000) (q : Q (.tuple [oD (mxO (lows T c row)), oD (mnO (highs T c row))])) : f_room_beside [bT m T, .int (c : Nat), if b then PyData.tuple (row.map nN) else PyData.list (row.map nN)] Q := by
  have sq : ∀ R : List D → Prop, R (row.map nN) → (match (if b then PyData.tuple (row.map nN) else PyData.list (row.map nN)) with | .list ds => R ds | .tuple ds => R ds | _ => False) := fun R hR => by cases b <;> exact hR
  refine o_room_beside ?_
  unfold t_room_beside bT
  refine seq_gen fun N hN => ?_
  walk_at "DZ"
  refine sq _ ?_
  refine ⟨by rw [List.length_map]; omega, ?_⟩
  refine lc_list (l := row) nN (mkD T c) (fun _ => true) (fun y hy R N' r1 _ => ?_) ?_
  · have hym := hrow y hy
    unfold nN
    walk_at "DZ"
    refine ⟨rfl, ?_⟩
    rw [at_rowL _ hc]
    dsimp only
    rw [at_rowL _ hym]
    dsimp only
    rw [at_rowL _ hym]
    dsimp only
    rw [at_rowL _ hc]
    dsimp only
    exact marks_ok (r1 rfl)
  rw [List.filter_eq_self.mpr fun _ _ => rfl]
  subst hN
  try dsimp only
  refine seq_gen fun N hN => ?_
  walk_at "DZ"
  refine ⟨by rw [List.length_map]; omega, ?_⟩
  refine lc_list (l := row) (mkD T c) (fun y => .int (((T c y.1).map (y.2 - ·)).getD 0)) (fun y => ((T c y.1).map (y.2 - ·)).isSome) (fun y hy R N' r1 r2 => ?_) ?_
  · unfold mkD
    walk_at "DZ"
    refine ⟨rfl, ?_⟩
    cases hz : (T c y.1).map (y.2 - ·) with
    | none => exact r2 (by rw [hz]; rfl)
    | some d =>
      have := r1 (by rw [hz]; rfl)
      rw [hz] at this
      exact this
  rw [filt_map fun y : Nat × Int => (T c y.1).map (y.2 - ·), allInt_ints]
  suffices hN1 : N [some (.dat (.tuple (rowL m fun i => .tuple (rowL m fun j => oD (T i j))))), some (.dat (.int (c : Nat))), some (.dat (if b then PyData.tuple (row.map nN) else PyData.list (row.map nN))), some (.dat (.list (row.map (mkD T c)))), some (.dat (oD (mxO (lows T c row)))), none, none, none, none, none] by
    show (lows T c row = [] → _) ∧ (lows T c row ≠ [] → _)
    refine ⟨fun h0 => ?_, fun h0 => ?_⟩
    · have z : oD (mxO (lows T c row)) = .none := by rw [h0]; rfl
      rw [z] at hN1
      exact hN1
    · have z : oD (mxO (lows T c row)) = .int (maxD (lows T c row)) := by
        cases hz : lows T c row with
        | nil => exact absurd hz h0
        | cons n ns => rfl
      rw [z] at hN1
      exact hN1
  subst hN
  try dsimp only
  refine seq_gen fun N hN => ?_
  walk_at "DZ"
  refine ⟨by rw [List.length_map]; omega, ?_⟩
  refine lc_list (l := row) (mkD T c) (fun y => .int (((T y.1 c).map (y.2 + ·)).getD 0)) (fun y => ((T y.1 c).map (y.2 + ·)).isSome) (fun y hy R N' r1 r2 => ?_) ?_
  · unfold mkD
    walk_at "DZ"
    refine ⟨rfl, ?_⟩
    cases hz : (T y.1 c).map (y.2 + ·) with
    | none => exact r2 (by rw [hz]; rfl)
    | some d =>
      have := r1 (by rw [hz]; rfl)
      rw [hz] at this
      exact this
  rw [filt_map fun y : Nat × Int => (T y.1 c).map (y.2 + ·), allInt_ints]
  suffices hN1 : N [some (.dat (.tuple (rowL m fun i => .tuple (rowL m fun j => oD (T i j))))), some (.dat (.int (c : Nat))), some (.dat (if b then PyData.tuple (row.map nN) else PyData.list (row.map nN))), some (.dat (.list (row.map (mkD T c)))), some (.dat (oD (mxO (lows T c row)))), some (.dat (oD (mnO (highs T c row)))), none, none, none, none] by
    show (highs T c row = [] → _) ∧ (highs T c row ≠ [] → _)
    refine ⟨fun h0 => ?_, fun h0 => ?_⟩
    · have z : oD (mnO (highs T c row)) = .none := by rw [h0]; rfl
      rw [z] at hN1
      exact hN1
    · have z : oD (mnO (highs T c row)) = .int (minD (highs T c row)) := by
        cases hz : highs T c row with
        | nil => exact absurd hz h0
        | cons n ns => rfl
      rw [z] at hN1
      exact hN1
  subst hN
  walk_at "DZ"
  exact q
theorem lengths_of_ok {m : Nat} {W : Nat → GR.Wt Ed} {Q : D → Prop} (hm : m ≤ 6) (q : Q (bT m fun i j => GR.oL gw (W i j))) : f_lengths_of [walksD m W] Q := by
  refine o_lengths_of ?_
  unfold t_lengths_of walksD
  walk_at "DZ"
  refine ⟨by rw [rowL_len]; omega, ?_⟩
  refine lc_row _ (fun i => .tuple (rowL m fun j => oD (GR.oL gw (W i j)))) (fun i hi R hR => ?_) q
  walk_at "DZ"
  unfold rowW
  refine ⟨by rw [rowL_len]; omega, ?_⟩
  refine lc_row _ (fun j => oD (GR.oL gw (W i j))) (fun j hj R hR => ?_) hR
  walk_at "DZ"
  cases hz : W i j with
  | none => rw [hz] at hR; exact hR
  | some p =>
    rw [hz] at hR
    unfold wD
    refine ite_f (fun z => nomatch z) ?_
    dsimp only
    rw [atI_0]
    exact hR
theorem LW.tb {m : Nat} {rs : List D} {W : Nat → GR.Wt Ed} (h : LW m rs W) (hz : NoNegR rs) : TB m rs fun i j => GR.oL gw (W i j) :=
  ⟨fun i j hi _ => h.dst i j hi, fun i hi => (h.dst i i hi).uniq (GR.Dst.self hz)⟩
theorem TB.uniq {m : Nat} {rs : List D} {T U : GR.Tb} (h : TB m rs T) (h' : TB m rs U) {i j : Nat} (hi : i < m) (hj : j < m) : T i j = U i j := (h.dst i j hi hj).uniq (h'.dst i j hi hj)
def tv (ts : List Int) (i : Int) : Int := ts.getD i.toNat 0
def exHi (d : Int) (hi : D) : Int := match hi with | .int h => if h < d then d - h else 0 | _ => 0
def exLo (d : Int) (lo hi : D) : Int := match lo with | .int l => if d < l then d - l else exHi d hi | _ => exHi d hi
def excI (r : D) (ts : List Int) : Int := match r with | .tuple [.int s, .int e, lo, hi] => exLo (tv ts e - tv ts s) lo hi | _ => 0
theorem at_tv {ts : List Int} {i : Int} (h0 : 0 ≤ i) (h1 : i < ts.length) : atI (ts.map PyData.int) i = some (.int (tv ts i)) := by
  have hi : i.toNat < ts.length := by omega
  refine atI_int h0 ?_
  rw [List.getElem?_map]
  unfold tv
  rw [List.getElem?_eq_getElem hi, List.getD_eq_getElem?_getD, List.getElem?_eq_getElem hi]
  rfl
theorem L_excess_ok {n far : Int} {r : D} {ts : List Int} {Q : D → Prop} (hr : RuleOk n far r) (ht : (ts.length : Int) = n) (q : Q (.int (excI r ts))) : f_L_excess [r, .tuple (ts.map PyData.int)] Q := by
  obtain ⟨s, e, lo, hi, rfl, s0, s1, e0, e1, hne, hl, hh, hb⟩ := hr
  refine o_L_excess ?_
  unfold t_L_excess
  have as := at_tv (ts := ts) s0 (by omega)
  have ae := at_tv (ts := ts) e0 (by omega)
  refine seq_gen fun N hN => ?_
  walk_at "DZ"
  refine ⟨rfl, ?_⟩
  subst hN
  walk_at "DZ"
  rw [as, ae]
  dsimp only
  generalize hd : tv ts e - tv ts s = d at q ⊢
  have eq : excI (.tuple [.int s, .int e, lo, hi]) ts = exLo d lo hi := by show exLo (tv ts e - tv ts s) lo hi = _; rw [hd]
  rw [eq] at q
  rcases hl with rfl | ⟨l, rfl, _, _⟩ <;> rcases hh with rfl | ⟨h, rfl, _, _⟩
  · exact absurd ⟨rfl, rfl⟩ hb
  · simp only [isNone, Bool.not_true, Bool.not_false, Bool.false_eq_true, if_false, if_true, exLo, exHi] at q ⊢
    by_cases c : h < d <;> simpa [c] using q
  · simp only [isNone, Bool.not_true, Bool.not_false, Bool.false_eq_true, if_false, if_true, exLo, exHi] at q ⊢
    by_cases c : d < l <;> simpa [c] using q
  · simp only [isNone, Bool.not_true, Bool.not_false, Bool.false_eq_true, if_false, if_true, exLo, exHi] at q ⊢
    by_cases c : d < l
    · simpa [c] using q
    · by_cases c2 : h < d <;> simpa [c, c2] using q
theorem hts_ts (m : Nat) (t : Nat → Int) : hts m t = .tuple (((List.range m).map t).map PyData.int) := by
  unfold hts rowL
  rw [List.map_map]
  rfl
theorem tv_at {m : Nat} {t : Nat → Int} {i : Int} (h0 : 0 ≤ i) (h1 : i < m) : tv ((List.range m).map t) i = t i.toNat := by
  unfold tv
  rw [List.getD_eq_getElem?_getD, List.getElem?_map, List.getElem?_range (by omega)]
  rfl
theorem exc_hold {n far : Int} {r : D} {m : Nat} {t : Nat → Int} (hn : n = (m : Int)) (hr : RuleOk n far r) : decide (excI r ((List.range m).map t) = 0) = ruleHold t r := by
  obtain ⟨s, e, lo, hi, rfl, s0, s1, e0, e1, hne, sl, sh, hb⟩ := hr
  have ex : excI (.tuple [.int s, .int e, lo, hi]) ((List.range m).map t) = exLo (t e.toNat - t s.toNat) lo hi := by
    show exLo (tv _ e - tv _ s) lo hi = _
    rw [tv_at e0 (by omega), tv_at s0 (by omega)]
  rw [ex]
  unfold ruleHold
  dsimp only
  generalize t e.toNat - t s.toNat = d
  rw [Bool.eq_iff_iff, decide_eq_true_iff]
  rcases sl with rfl | ⟨l, rfl, _, _⟩ <;> rcases sh with rfl | ⟨g, rfl, _, _⟩
  · exact absurd ⟨rfl, rfl⟩ hb
  · show (if g < d then d - g else 0) = 0 ↔ (true && decide (d ≤ g)) = true
    rw [Bool.true_and, decide_eq_true_iff]
    split <;> omega
  · show (if d < l then d - l else 0) = 0 ↔ (decide (l ≤ d) && true) = true
    rw [Bool.and_true, decide_eq_true_iff]
    split <;> omega
  · show (if d < l then d - l else if g < d then d - g else 0) = 0 ↔ (decide (l ≤ d) && decide (d ≤ g)) = true
    rw [Bool.and_eq_true, decide_eq_true_iff, decide_eq_true_iff]
    split
    · omega
    · split <;> omega
theorem possible_walks_ok {n far : Int} {rs : List D} {Q : D → Prop} (h : NR n far rs) (hz : NoNegR rs) (q : ∀ W, LW n.toNat rs W → Q (walksD n.toNat W)) : f_possible_walks [.tuple [.int n, .tuple rs]] Q := by
  refine o_possible_walks ?_
  unfold t_possible_walks
  walk_at "DZ"
  refine least_walks_spec h (fun _ W hW => ?_) (fun c => absurd hz c)
  refine round_below_kept hW ?_
  exact q W hW
theorem is_news_time_ok (v : D) (Q : D → Prop) (q : Q (.bool (inI v (-500) 500))) : f_is_news_time [v] Q := by
  refine o_is_news_time ?_
  unfold t_is_news_time
  walk_at "DZ"
  exact is_integer_ok v (-500) 500 Q q
def NewsN (m : Nat) (y : Nat × Int) : Prop := y.1 < m ∧ -500 ≤ y.2 ∧ y.2 ≤ 500
/-- how far a tight bound can be -/
theorem TB.far {n far : Int} {rs : List D} {T : GR.Tb} (hf : 0 ≤ far) (h : NR n far rs) (hz : NoNegR rs) (ht : TB n.toNat rs T) {i j : Nat} (hi : i < n.toNat) (hj : j < n.toNat) {L : Int} (e : T i j = some L) : -(5 * far) ≤ L ∧ L ≤ 5 * far := by
  have hw : ∀ x ∈ es rs, -far ≤ x.w ∧ x.w ≤ far := fun x hx => by
    obtain ⟨s, e, lo, hi, hr, s0, s1, e0, e1, sl, sh, hh⟩ := mem_ed h.ro hx
    rcases hh with ⟨_, rfl⟩ | ⟨_, rfl⟩
    · rcases sh with z | ⟨i, z, h1, h2⟩
      · cases z
      · cases z; exact ⟨h1, h2⟩
    · rcases sl with z | ⟨i, z, h1, h2⟩
      · cases z
      · injection z with z; omega
  have hlen : ∀ p : List Ed, (∀ x ∈ p, x ∈ es rs) → -(p.length * far) ≤ GR.wlen gw p ∧ GR.wlen gw p ≤ p.length * far := by
    intro p
    induction p with
    | nil => intro _; rw [GR.wlen_nil]; simp
    | cons x p ih =>
      intro hp
      have h1 := hw x (hp x List.mem_cons_self)
      have h2 := ih fun y hy => hp y (List.mem_cons_of_mem _ hy)
      have e : ((x :: p).length : Int) * far = p.length * far + far := by
        rw [List.length_cons]
        show ((p.length : Int) + 1) * far = _
        rw [Int.add_mul, Int.one_mul]
      rw [GR.wlen_cons, e]
      have : gw x = x.w := rfl
      omega
  obtain ⟨p, p1, p2⟩ := (ht.dst i j hi hj).ex L e
  obtain ⟨q, q1, q2, q3⟩ := GR.short_walk (ed_rng h) hz _ (Nat.le_refl _) hi p1
  obtain ⟨L', e', l'⟩ := (ht.dst i j hi hj).le q q1
  rw [e] at e'
  cases e'
  have h3 := hlen q (GR.isW_mem q1)
  have hq : q.length ≤ 5 := by have := h.n1; omega
  have h4 : (q.length : Int) * far ≤ 5 * far := Int.mul_le_mul_of_nonneg_right (by omega) hf
  omega
/-- right heights, from the tight bounds -/
def khL (m : Nat) (T : GR.Tb) (e : Nat) : List Int := (List.range m).filterMap fun i => T i e
def kh (m : Nat) (T : GR.Tb) (e : Nat) : Int := minD (khL m T e)
def bL (m : Nat) (T : GR.Tb) : D := .list (rowL m fun i => .list (rowL m fun j => oD (T i j)))
theorem NR.take {n far : Int} {rs : List D} (h : NR n far rs) (k : Nat) : NR n far (rs.take k) :=
  ⟨h.n0, h.n1, h.fa, by rw [List.length_take]; have := h.rl; omega, fun r hr => h.ro r (List.mem_of_mem_take hr)⟩
theorem NR.nil {n far : Int} {rs : List D} (h : NR n far rs) : NR n far [] := ⟨h.n0, h.n1, h.fa, Nat.zero_le _, fun r hr => absurd hr List.not_mem_nil⟩
theorem right_walk {m : Nat} {rs : List D} {T : GR.Tb} {t : Nat → Int} (h : TB m rs T) (ht : RightH rs t) {i j : Nat} (hi : i < m) (hj : j < m) {d : Int} (e : T i j = some d) : t j - t i ≤ d := by
  obtain ⟨p, p1, p2⟩ := (h.dst i j hi hj).ex d e
  have := GR.pot_walk (wv := gw) (t := t) (fun x hx => ht x hx) p1
  omega
theorem hts_congr {m : Nat} {t u : Nat → Int} (h : ∀ e, e < m → t e = u e) : hts m t = hts m u := by
  unfold hts rowL
  congr 1
  exact List.map_congr_left fun e he => by rw [h e (List.mem_range.mp he)]
/-- joint news: of different events -/
structure JointN (m : Nat) (row : List (Nat × Int)) : Prop where
  ok : ∀ y ∈ row, NewsN m y
  nd : (row.map (·.1)).Nodup
  le : row.length ≤ 6
def rowAdd (row : List (Nat × Int)) (s : Int) : List (Nat × Int) := row.map fun y => (y.1, y.2 + s)
def rowNeg (row : List (Nat × Int)) : List (Nat × Int) := row.map fun y => (y.1, 0 - y.2)
/-- the table of the net that is turned over -/
def tr (T : GR.Tb) : GR.Tb := fun i j => T j i
/-- the least high mark is no less than the greatest low one -/
theorem marks_le {m : Nat} {rs : List D} {T : GR.Tb} {row : List (Nat × Int)} (h : TB m rs T) (hrow : ∀ y ∈ row, y.1 < m) (hf : fitAll T row) {c : Nat} (hc : c < m) : ∀ l g, mxO (lows T c row) = some l → mnO (highs T c row) = some g → l ≤ g := by
  intro l g h1 h2
  obtain ⟨y, hy, d, e, rfl⟩ := mem_lows.mp (mxO_some.mp h1).1
  obtain ⟨z, hz, d', e', rfl⟩ := mem_highs.mp (mnO_some.mp h2).1
  have t := GR.Dst.tri (h.dst _ _ (hrow z hz) hc) (h.dst _ _ hc (hrow y hy)) (h.dst _ _ (hrow z hz) (hrow y hy))
  rw [e, e'] at t
  cases hd : T z.1 y.1 with
  | none => rw [hd] at t; exact t.elim
  | some u =>
    rw [hd] at t
    have t : u ≤ d' + d := t
    have := fit2_le (hf z hz y hy) hd
    omega
def negD' : D → D | .int i => .int (0 - i) | d => d
def mirR : D → D | .tuple [s, e, lo, hi] => .tuple [s, e, negD' hi, negD' lo] | d => d
theorem F2.get {α β : Type} {P : α → β → Prop} : ∀ {as : List α} {bs : List β}, F2 P as bs → ∀ (i : Nat) (b : β), bs[i]? = some b → ∃ a, as[i]? = some a ∧ P a b
  | _, _, .nil, i, b, h => by rw [List.getElem?_nil] at h; cases h
  | _, _, .cons h1 h2, 0, b, h => by rw [List.getElem?_cons_zero] at h; cases h; exact ⟨_, List.getElem?_cons_zero, h1⟩
  | _, _, .cons h1 h2, i + 1, b, h => by
    rw [List.getElem?_cons_succ] at h
    obtain ⟨a, e, p⟩ := F2.get h2 i b h
    exact ⟨a, by rw [List.getElem?_cons_succ]; exact e, p⟩
/-- a net, and two rows of times that keep it -/
structure Two (n w : Int) (rs : List D) (t1 t2 : Nat → Int) : Prop where
  nr : NR n (4 * w + 3) rs
  b1 : ∀ e, e < n.toNat → -w ≤ t1 e ∧ t1 e ≤ w
  b2 : ∀ e, e < n.toNat → -(2 * w) ≤ t2 e ∧ t2 e ≤ 2 * w
  h1 : RightH rs t1
  h2 : RightH rs t2
theorem Two.nn {n w : Int} {rs : List D} {t1 t2 : Nat → Int} (h : Two n w rs t1 t2) : NoNegR rs := GR.pot_noNeg h.h1
/-! ### tight bounds in a dict, by turns over the edges -/
def rel (i : Nat) (x : Ed) (T : GR.Tb) : GR.Tb := GR.upd2 T i (ge x) (GR.omin (T i (ge x)) (GR.oadd (T i (gs x)) (some x.w)))
def Pk (m : Nat) (rs : List D) (k : Nat) (T : GR.Tb) : Prop := ∀ (i j : Nat) (p : List Ed), i < m → GR.IsW gs ge (es rs) i j p → p.length ≤ k → GR.ole (T i j) (some (GR.wlen gw p))
structure Rx (rs : List D) (T0 T : GR.Tb) (R : Ed → Nat → Prop) : Prop where
  so : GR.Sound gs ge gw (es rs) T
  mo : ∀ a b, GR.ole (T a b) (T0 a b)
  rx : ∀ x i, R x i → GR.ole (T i (ge x)) (GR.oadd (T0 i (gs x)) (some x.w))
theorem rel_mono (i : Nat) (x : Ed) (T : GR.Tb) (a b : Nat) : GR.ole (rel i x T a b) (T a b) := by
  unfold rel GR.upd2
  split
  · rename_i z; obtain ⟨rfl, rfl⟩ := z; exact GR.omin_left _ _
  · exact GR.ole_refl _
theorem Rx.step {rs : List D} {T0 T : GR.Tb} {R R' : Ed → Nat → Prop} (h : Rx rs T0 T R) {x : Ed} (hx : x ∈ es rs) (i : Nat) (hR : ∀ y j, R' y j → R y j ∨ (y = x ∧ j = i)) : Rx rs T0 (rel i x T) R' := by
  refine ⟨?_, fun a b => GR.ole_trans (rel_mono i x T a b) (h.mo a b), fun y j hy => ?_⟩
  · refine h.so.upd fun L e => ?_
    rcases GR.omin_cases (T i (ge x)) (GR.oadd (T i (gs x)) (some x.w)) with z | z
    · rw [z] at e; exact h.so _ _ _ e
    · rw [z] at e
      cases hz : T i (gs x) with
      | none => rw [hz] at e; cases e
      | some a =>
        rw [hz] at e
        have e : some (a + x.w) = some L := e
        cases e
        obtain ⟨p, p1, p2⟩ := h.so _ _ _ hz
        exact ⟨p ++ [x], GR.isW_append.mpr ⟨_, p1, GR.isW_one hx⟩, by rw [GR.wlen_append, GR.wlen_one, p2]⟩
  · rcases hR y j hy with hy | ⟨rfl, rfl⟩
    · exact GR.ole_trans (rel_mono i x T _ _) (h.rx y j hy)
    · unfold rel GR.upd2
      rw [if_pos ⟨rfl, rfl⟩]
      exact GR.ole_trans (GR.omin_right _ _) (GR.oadd_mono (h.mo _ _) (GR.ole_refl _))
theorem Rx.start {rs : List D} {T : GR.Tb} (h : GR.Sound gs ge gw (es rs) T) : Rx rs T T fun _ _ => False := ⟨h, fun _ _ => GR.ole_refl _, fun _ _ z => z.elim⟩
theorem last_edge {α : Type} : ∀ {k : Nat} {p : List α}, p.length ≤ k + 1 → p.length ≤ k ∨ ∃ q x, p = q ++ [x] ∧ q.length ≤ k := fun {k p} h => by
  by_cases c : p.length ≤ k
  · exact .inl c
  · have hne : p ≠ [] := fun z => by subst z; exact c (Nat.zero_le _)
    refine .inr ⟨p.dropLast, p.getLast hne, (List.dropLast_concat_getLast hne).symm, ?_⟩
    rw [List.length_dropLast]
    omega
theorem Pk.next {m k : Nat} {rs : List D} {T0 T : GR.Tb} {R : Ed → Nat → Prop} (hk : Pk m rs k T0) (h : Rx rs T0 T R) (hR : ∀ x ∈ es rs, ∀ i, i < m → R x i) : Pk m rs (k + 1) T := by
  intro i j p hi hp hl
  rcases last_edge hl with hl' | ⟨q, x, rfl, hl'⟩
  · exact GR.ole_trans (h.mo i j) (hk i j p hi hp hl')
  · obtain ⟨v, h1, h2⟩ := GR.isW_append.mp hp
    have hx : x ∈ es rs := h2.1
    have hv : gs x = v := h2.2.1
    have hj : ge x = j := h2.2.2
    subst hv hj
    refine GR.ole_trans (h.rx x i (hR x hx i hi)) ?_
    rw [GR.wlen_append, GR.wlen_one]
    exact GR.oadd_mono (hk i _ q hi h1 hl') (GR.ole_refl (some x.w))
theorem tb_of {m : Nat} {rs : List D} {T : GR.Tb} (hr : ∀ x ∈ es rs, gs x < m ∧ ge x < m) (hz : NoNegR rs) (so : GR.Sound gs ge gw (es rs) T) (hk : Pk m rs m T) : TB m rs T := by
  have dst : ∀ i j, i < m → j < m → DstR rs i j (T i j) := fun i j hi hj => ⟨fun L e => so i j L e, fun p hp => by
    obtain ⟨q, q1, q2, q3⟩ := GR.short_walk hr hz _ (Nat.le_refl _) hi hp
    have := hk i j q hi q1 (by omega)
    cases hT : T i j with
    | none => rw [hT] at this; exact this.elim
    | some L =>
      rw [hT] at this
      have : L ≤ GR.wlen gw q := this
      exact ⟨L, rfl, by omega⟩⟩
  exact ⟨dst, fun i hi => (dst i i hi hi).uniq (GR.Dst.self hz)⟩
theorem upd2_id (T : GR.Tb) (i j : Nat) : GR.upd2 T i j (T i j) = T := by
  funext a b
  unfold GR.upd2
  by_cases c : a = i ∧ b = j
  · rw [if_pos c, c.1, c.2]
  · rw [if_neg c]
/-! the dict of a table -/
def k2 (i j : Nat) : List Int := [(i : Int), (j : Int)]
theorem k2_inj {i j a b : Nat} : k2 i j = k2 a b ↔ i = a ∧ j = b := by
  unfold k2
  simp only [List.cons.injEq, and_true]
  omega
structure DT (m : Nat) (ks : List (List Key × D)) (T : GR.Tb) : Prop where
  sh : ∃ is : List (List Int × D), ks = ksOf is ∧ ∀ q ∈ is, scal q.2 = true
  va : ∀ i j : Nat, i < m → j < m → valD ks (kI (k2 i j)) = (T i j).map PyData.int
theorem DT.keys {m : Nat} {ks : List (List Key × D)} {T : GR.Tb} (h : DT m ks T) : ∀ y ∈ ks, ∃ ms, y.1 = kI ms := fun y hy => by
  obtain ⟨is, rfl, _⟩ := h.sh
  obtain ⟨q, _, rfl⟩ := List.mem_map.mp hy
  exact ⟨_, rfl⟩
theorem putD_len (ks : List (List Key × D)) (k : List Key) (d : D) : (putD ks k d).length ≤ ks.length + 1 := by
  unfold putD
  split
  · rw [List.length_map]; omega
  · rw [List.length_append, List.length_singleton]; omega
theorem valD_snoc (ks : List (List Key × D)) (k k' : List Key) (d : D) (h : valD ks k = none) : valD (ks ++ [(k, d)]) k' = if k' = k then some d else valD ks k' := by
  unfold valD at h ⊢
  rw [List.find?_append]
  have h0 : ks.find? (fun x => decide (x.1 = k)) = none := by
    cases hz : ks.find? (fun x => decide (x.1 = k)) with
    | none => rfl
    | some x => rw [hz] at h; cases h
  by_cases c : k' = k
  · subst c
    rw [if_pos rfl, h0]
    show Option.map _ (Option.or none (List.find? _ [(k', d)])) = _
    rw [Option.none_or, List.find?_cons, decide_eq_true rfl]
    rfl
  · rw [if_neg c]
    cases hz : ks.find? (fun x => decide (x.1 = k')) with
    | some x => rfl
    | none =>
      show Option.map _ (Option.or none (List.find? _ [(k, d)])) = _
      rw [Option.none_or, List.find?_cons, decide_eq_false (fun z => c z.symm)]
      rfl
theorem valD_repl (k k' : List Key) (d : D) : ∀ ks : List (List Key × D), (valD ks k).isSome = true → valD (ks.map fun x => if x.1 = k then (x.1, d) else x) k' = if k' = k then some d else valD ks k'
  | [], h => nomatch h
  | (k1, d1) :: ks, h => by
    rw [List.map_cons]
    by_cases c : k1 = k
    · subst c
      rw [if_pos rfl]
      by_cases c2 : k' = k1
      · subst c2
        rw [if_pos rfl]
        unfold valD
        rw [List.find?_cons, decide_eq_true rfl]
        rfl
      · rw [if_neg c2]
        have e1 : ∀ (d : D) (l : List (List Key × D)), valD ((k1, d) :: l) k' = valD l k' := fun d l => by unfold valD; rw [List.find?_cons, decide_eq_false (fun z => c2 z.symm)]
        rw [e1, e1]
        by_cases c3 : (valD ks k1).isSome = true
        · rw [valD_repl k1 k' d ks c3, if_neg c2]
        · have e : (ks.map fun x => if x.1 = k1 then (x.1, d) else x) = ks := by
            have hn : ∀ x ∈ ks, x.1 ≠ k1 := fun x hx e => by
              refine c3 ?_
              unfold valD
              rw [Option.isSome_map, List.find?_isSome]
              exact ⟨x, hx, decide_eq_true e⟩
            calc (ks.map fun x => if x.1 = k1 then (x.1, d) else x) = ks.map id := List.map_congr_left fun x hx => by rw [if_neg (hn x hx)]; rfl
              _ = ks := List.map_id ks
          rw [e]
    · rw [if_neg c]
      have h' : (valD ks k).isSome = true := by
        unfold valD at h ⊢
        rw [List.find?_cons, decide_eq_false c] at h
        exact h
      have ih := valD_repl k k' d ks h'
      by_cases c2 : k1 = k'
      · subst c2
        rw [if_neg c]
        unfold valD
        rw [List.find?_cons, decide_eq_true rfl, List.find?_cons, decide_eq_true rfl]
      · have e1 : ∀ (l : List (List Key × D)), valD ((k1, d1) :: l) k' = valD l k' := fun l => by unfold valD; rw [List.find?_cons, decide_eq_false c2]
        rw [e1, e1]
        exact ih
theorem valD_put (ks : List (List Key × D)) (k k' : List Key) (d : D) : valD (putD ks k d) k' = if k' = k then some d else valD ks k' := by
  unfold putD
  by_cases c : (valD ks k).isSome = true
  · rw [if_pos c]; exact valD_repl k k' d ks c
  · rw [if_neg c]
    refine valD_snoc ks k k' d ?_
    cases hz : valD ks k with
    | none => rfl
    | some x => rw [hz] at c; exact absurd rfl c
theorem putD_sh {is : List (List Int × D)} (hs : ∀ q ∈ is, scal q.2 = true) (k : List Int) {d : D} (hd : scal d = true) : ∃ is' : List (List Int × D), putD (ksOf is) (kI k) d = ksOf is' ∧ ∀ q ∈ is', scal q.2 = true := by
  unfold putD
  split
  · refine ⟨is.map fun q => if q.1 = k then (q.1, d) else q, ?_, fun q hq => ?_⟩
    · unfold ksOf
      rw [List.map_map, List.map_map]
      refine List.map_congr_left fun q _ => ?_
      show (if kI q.1 = kI k then (kI q.1, d) else (kI q.1, q.2)) = _
      dsimp only [Function.comp]
      by_cases c : q.1 = k
      · rw [if_pos (by rw [c]), if_pos c]
      · rw [if_neg (fun z => c (kI_inj z)), if_neg c]
    · obtain ⟨q', hq', rfl⟩ := List.mem_map.mp hq
      by_cases c : q'.1 = k
      · rw [if_pos c]; exact hd
      · rw [if_neg c]; exact hs q' hq'
  · refine ⟨is ++ [(k, d)], ?_, fun q hq => ?_⟩
    · unfold ksOf
      rw [List.map_append]
      rfl
    · rcases List.mem_append.mp hq with hq | hq
      · exact hs q hq
      · rw [List.mem_singleton.mp hq]; exact hd
theorem DT.put {m : Nat} {ks : List (List Key × D)} {T : GR.Tb} (h : DT m ks T) (i j : Nat) (v : Int) : DT m (putD ks (kI (k2 i j)) (.int v)) (GR.upd2 T i j (some v)) := by
  constructor
  · obtain ⟨is, rfl, hs⟩ := h.sh
    exact putD_sh hs _ rfl
  · intro a b ha hb
    rw [valD_put]
    unfold GR.upd2
    by_cases c : a = i ∧ b = j
    · rw [if_pos (by rw [c.1, c.2]), if_pos c]; rfl
    · rw [if_neg (fun z => c (k2_inj.mp (kI_inj z))), if_neg c]
      exact h.va a b ha hb
theorem getF_ks (k : List Int) : ∀ is : List (List Int × D), getF (is.map fun q => (PyData.tuple (q.1.map PyData.int), q.2)) k = valD (ksOf is) (kI k)
  | [] => rfl
  | (ns, d) :: is => by
    have ih := getF_ks k is
    unfold getF at ih ⊢
    unfold valD at ih ⊢
    unfold ksOf at ih ⊢
    rw [List.map_cons, List.map_cons, List.find?_cons, List.find?_cons]
    dsimp only
    rw [keyI_ints]
    by_cases c : ns = k
    · rw [decide_eq_true (by rw [c]), decide_eq_true (by rw [c])]; rfl
    · rw [decide_eq_false (fun z => c (Option.some.inj z)), decide_eq_false (fun z => c (kI_inj z))]
      exact ih
/-- a dict that holds the table -/
def BdD (m : Nat) (T : GR.Tb) (d : D) : Prop := ∃ kvs, d = .dict kvs ∧ ∀ i j : Nat, i < m → j < m → getF kvs (k2 i j) = (T i j).map PyData.int
theorem key_nat (i j : Nat) : keyD (.tuple [.int (i : Nat), .int (j : Nat)]) = some (kI (k2 i j)) := rfl
theorem keyI_nat (i j : Nat) : keyI (.tuple [.int (i : Nat), .int (j : Nat)]) = some (k2 i j) := rfl
def TdD (k : Nat) : GR.Tb := fun i j => if i = j ∧ i < k then some 0 else none
theorem TdD_set (i : Nat) : GR.upd2 (TdD i) i i (some 0) = TdD (i + 1) := by
  funext a b
  unfold GR.upd2 TdD
  by_cases c : a = i ∧ b = i
  · rw [if_pos c, if_pos ⟨by omega, by omega⟩]
  · rw [if_neg c]
    by_cases d : a = b ∧ a < i
    · rw [if_pos d, if_pos ⟨d.1, by omega⟩]
    · rw [if_neg d, if_neg (fun z => by omega)]
theorem ifs_gen {c : T2T} {a b : T2S} {E : Ends2} {env : Ev} (h : ∀ A B, A = a → B = b → dIfS c A B E env) : dIfS c a b E env := h _ _ rfl rfl
theorem fit_more {m : Nat} {rs : List D} {T : GR.Tb} (hT : TB m rs T) {row : List (Nat × Int)} {c : Nat} {v : Int} (hc : c < m) (hf : fitAll T row) : fitAll T (row ++ [(c, v)]) ↔ (∀ l, mxO (lows T c row) = some l → l ≤ v) ∧ (∀ g, mnO (highs T c row) = some g → v ≤ g) := by
  constructor
  · intro h
    constructor
    · intro l hl
      obtain ⟨y, hy, d, hd, rfl⟩ := mem_lows.mp (mxO_some.mp hl).1
      have := fit2_le (h (c, v) (by simp) y (List.mem_append.mpr (.inl hy))) hd
      dsimp only at this
      omega
    · intro g hg
      obtain ⟨y, hy, d, hd, rfl⟩ := mem_highs.mp (mnO_some.mp hg).1
      have := fit2_le (h y (List.mem_append.mpr (.inl hy)) (c, v) (by simp)) hd
      dsimp only at this
      omega
  · rintro ⟨h1, h2⟩
    have low : ∀ y ∈ row, fit2 T (c, v) y = true := fun y hy => by
      unfold fit2
      dsimp only
      cases hd : T c y.1 with
      | none => rfl
      | some d =>
        have hm : y.2 - d ∈ lows T c row := mem_lows.mpr ⟨y, hy, d, hd, rfl⟩
        cases hx : mxO (lows T c row) with
        | none => rw [mxO_none.mp hx] at hm; exact absurd hm List.not_mem_nil
        | some l =>
          have := h1 l hx
          have := (mxO_some.mp hx).2 _ hm
          exact decide_eq_true (by omega)
    have high : ∀ y ∈ row, fit2 T y (c, v) = true := fun y hy => by
      unfold fit2
      dsimp only
      cases hd : T y.1 c with
      | none => rfl
      | some d =>
        have hm : y.2 + d ∈ highs T c row := mem_highs.mpr ⟨y, hy, d, hd, rfl⟩
        cases hx : mnO (highs T c row) with
        | none => rw [mnO_none.mp hx] at hm; exact absurd hm List.not_mem_nil
        | some l =>
          have := h2 l hx
          have := (mnO_some.mp hx).2 _ hm
          exact decide_eq_true (by omega)
    have self : fit2 T (c, v) (c, v) = true := by
      unfold fit2
      dsimp only
      rw [hT.diag c hc]
      exact decide_eq_true (by omega)
    intro y hy z hz
    rcases List.mem_append.mp hy with hy | hy
    · rcases List.mem_append.mp hz with hz | hz
      · exact hf y hy z hz
      · rw [List.mem_singleton.mp hz]; exact high y hy
    · rw [List.mem_singleton.mp hy]
      rcases List.mem_append.mp hz with hz | hz
      · exact low z hz
      · rw [List.mem_singleton.mp hz]; exact self
/-! ### the told witness: one fold -/
def kK (kl : List (Nat × Int)) : List (Int × D) := kl.map fun y => ((y.1 : Int), PyData.int y.2)
def hasN (kl : List (Nat × Int)) (c : Nat) : Bool := kl.any fun y => decide (y.1 = c)
def putN (kl : List (Nat × Int)) (c : Nat) (v : Int) : List (Nat × Int) := if hasN kl c = true then kl.map (fun y => if y.1 = c then (y.1, v) else y) else kl ++ [(c, v)]
def vN (kl : List (Nat × Int)) (c : Nat) : Option Int := (kl.find? fun y => decide (y.1 = c)).map (·.2)
theorem nat_dec (a c : Nat) : decide ((a : Int) = (c : Int)) = decide (a = c) := by
  rw [Bool.eq_iff_iff, decide_eq_true_iff, decide_eq_true_iff]
  omega
theorem kK_any (kl : List (Nat × Int)) (c : Nat) : ((kK kl).any fun x => decide (x.1 = (c : Int))) = hasN kl c := by
  unfold kK hasN
  rw [List.any_map]
  congr 1
  funext y
  exact nat_dec y.1 c
theorem kK_put (kl : List (Nat × Int)) (c : Nat) (v : Int) : putI (kK kl) (c : Int) (.int v) = kK (putN kl c v) := by
  unfold putI putN
  rw [kK_any]
  split
  · unfold kK
    rw [List.map_map, List.map_map]
    refine List.map_congr_left fun y _ => ?_
    show (if (y.1 : Int) = (c : Int) then ((y.1 : Int), PyData.int v) else ((y.1 : Int), PyData.int y.2)) = _
    simp only [Function.comp_apply]
    by_cases h : y.1 = c
    · rw [if_pos (show (y.1 : Int) = (c : Int) by omega), if_pos h]
    · rw [if_neg (show ¬ (y.1 : Int) = (c : Int) by omega), if_neg h]
  · unfold kK
    rw [List.map_append]
    rfl
theorem kK_val (kl : List (Nat × Int)) (c : Nat) : valI (kK kl) (c : Int) = (vN kl c).map PyData.int := by
  unfold valI vN
  induction kl with
  | nil => rfl
  | cons y kl ih =>
    show ((((y.1 : Int), PyData.int y.2) :: kK kl).find? fun x => decide (x.1 = (c : Int))).map (·.2) = _
    rw [List.find?_cons, List.find?_cons]
    dsimp only
    rw [nat_dec]
    cases h : decide (y.1 = c) with
    | true => rfl
    | false => exact ih
theorem has_v (kl : List (Nat × Int)) (c : Nat) : hasN kl c = (vN kl c).isSome := by
  unfold hasN vN
  induction kl with
  | nil => rfl
  | cons y kl ih =>
    rw [List.any_cons, List.find?_cons]
    cases h : decide (y.1 = c) with
    | true => rfl
    | false => rw [Bool.false_or]; exact ih
theorem put_new {kl : List (Nat × Int)} {c : Nat} (h : hasN kl c = false) (v : Int) : putN kl c v = kl ++ [(c, v)] := by
  unfold putN
  rw [h]
  rfl
theorem has_app (kl : List (Nat × Int)) (c e : Nat) (v : Int) : hasN (kl ++ [(c, v)]) e = (hasN kl e || decide (c = e)) := by
  unfold hasN
  rw [List.any_append, List.any_cons, List.any_nil, Bool.or_false]
def pickV (lo hi : Option Int) : Int := match lo with | some l => l | none => match hi with | some g => g | none => 0
def stepW (T : GR.Tb) (c : Nat) (kl : List (Nat × Int)) : List (Nat × Int) := if hasN kl c = true then kl else kl ++ [(c, pickV (mxO (lows T c kl)) (mnO (highs T c kl)))]
def rowK (row : List (Nat × Int)) : List (Nat × Int) := row.foldl (fun kl y => putN kl y.1 y.2) []
def fillW (T : GR.Tb) (m : Nat) (kl : List (Nat × Int)) : List (Nat × Int) := (List.range m).foldl (fun kl c => stepW T c kl) kl
theorem fill_succ (T : GR.Tb) (i : Nat) (kl : List (Nat × Int)) : fillW T (i + 1) kl = stepW T i (fillW T i kl) := by
  unfold fillW
  rw [List.range_succ, List.foldl_append]
  rfl
theorem has_step (T : GR.Tb) (c e : Nat) (kl : List (Nat × Int)) : hasN (stepW T c kl) e = (hasN kl e || decide (c = e)) := by
  unfold stepW
  split
  · rename_i h
    by_cases he : c = e
    · subst he
      rw [h]
      rfl
    · rw [decide_eq_false he, Bool.or_false]
  · exact has_app _ _ _ _
theorem has_fill (T : GR.Tb) (kl : List (Nat × Int)) : ∀ i e, e < i → hasN (fillW T i kl) e = true
  | 0, _, h => absurd h (Nat.not_lt_zero _)
  | i + 1, e, h => by
    rw [fill_succ, has_step]
    by_cases he : e < i
    · rw [has_fill T kl i e he]
      rfl
    · rw [decide_eq_true (by omega : i = e), Bool.or_true]
theorem items_nN (kl : List (Nat × Int)) : ((kK kl).map fun q => PyData.tuple [.int q.1, q.2]) = kl.map nN := by
  unfold kK
  rw [List.map_map]
  rfl
theorem mem_put {kl : List (Nat × Int)} {c : Nat} {v : Int} {y : Nat × Int} (h : y ∈ putN kl c v) : y ∈ kl ∨ y = (c, v) := by
  unfold putN at h
  split at h
  · obtain ⟨z, hz, e⟩ := List.mem_map.mp h
    split at e
    · rename_i hc
      rw [hc] at e
      exact .inr e.symm
    · rw [← e]
      exact .inl hz
  · rcases List.mem_append.mp h with h | h
    · exact .inl h
    · exact .inr (List.mem_singleton.mp h)
theorem mem_rowF : ∀ {row kl : List (Nat × Int)} {y : Nat × Int}, y ∈ row.foldl (fun kl y => putN kl y.1 y.2) kl → y ∈ kl ∨ y ∈ row
  | [], _, _, h => .inl h
  | z :: row, kl, y, h => by
    rcases mem_rowF (row := row) h with h | h
    · rcases mem_put h with h | h
      · exact .inl h
      · exact .inr (by rw [h]; exact List.mem_cons_self)
    · exact .inr (List.mem_cons_of_mem _ h)
theorem len_put (kl : List (Nat × Int)) (c : Nat) (v : Int) : (putN kl c v).length ≤ kl.length + 1 := by
  unfold putN
  split
  · rw [List.length_map]; omega
  · rw [List.length_append]; exact Nat.le_refl _
theorem len_rowF : ∀ (row kl : List (Nat × Int)), (row.foldl (fun kl y => putN kl y.1 y.2) kl).length ≤ kl.length + row.length
  | [], kl => Nat.le_refl _
  | z :: row, kl => by
    have h1 := len_rowF row (putN kl z.1 z.2)
    have h2 := len_put kl z.1 z.2
    rw [List.foldl_cons, List.length_cons]
    omega
theorem len_fill (T : GR.Tb) (kl : List (Nat × Int)) : ∀ i, (fillW T i kl).length ≤ kl.length + i
  | 0 => Nat.le_refl _
  | i + 1 => by
    have h := len_fill T kl i
    rw [fill_succ]
    unfold stepW
    split
    · omega
    · rw [List.length_append]
      show (fillW T i kl).length + 1 ≤ _
      omega
theorem mem_fill (T : GR.Tb) (kl : List (Nat × Int)) : ∀ (i : Nat) (y : Nat × Int), y ∈ fillW T i kl → y ∈ kl ∨ y.1 < i
  | 0, y, h => .inl h
  | i + 1, y, h => by
    rw [fill_succ] at h
    unfold stepW at h
    split at h
    · rcases mem_fill T kl i y h with h | h
      · exact .inl h
      · exact .inr (by omega)
    · rcases List.mem_append.mp h with h | h
      · rcases mem_fill T kl i y h with h | h
        · exact .inl h
        · exact .inr (by omega)
      · rw [List.mem_singleton.mp h]
        exact .inr (Nat.lt_succ_self i)
theorem dc_row {d0 d1 : Sl} {Q : List (Int × D) → Prop} : ∀ {row kl : List (Nat × Int)}, Q (kK (row.foldl (fun kl y => putN kl y.1 y.2) kl)) → dcD (gT 2 (gsCons (gN 3) (gsCons (gN 4) gsNil))) (fun _ Q => Q true) (dVar 3) (dVar 4) [some d0, some d1, none, none, none, none, none] (row.map nN) (kK kl) Q
  | [], kl, q => q
  | y :: row, kl, q => by
    rw [List.map_cons]
    unfold dcD nN
    walk_at "DZ"
    refine ⟨rfl, ?_⟩
    refine ite_t rfl ?_
    rw [kK_put]
    exact dc_row (row := row) q
/-! ### the told witness is right -/
theorem same_ev {m : Nat} {rs : List D} {T : GR.Tb} (hT : TB m rs T) {kl : List (Nat × Int)} (hf : fitAll T kl) {c : Nat} {a b : Int} (hc : c < m) (ha : (c, a) ∈ kl) (hb : (c, b) ∈ kl) : a = b := by
  have h1 := fit2_le (hf _ ha _ hb) (hT.diag c hc)
  have h2 := fit2_le (hf _ hb _ ha) (hT.diag c hc)
  dsimp only at h1 h2
  omega
theorem fill_sub (T : GR.Tb) (kl : List (Nat × Int)) : ∀ (i : Nat) (y : Nat × Int), y ∈ kl → y ∈ fillW T i kl
  | 0, _, h => h
  | i + 1, y, h => by
    rw [fill_succ]
    unfold stepW
    split
    · exact fill_sub T kl i y h
    · exact List.mem_append.mpr (.inl (fill_sub T kl i y h))
theorem fill_fit {m : Nat} {rs : List D} {T : GR.Tb} (hT : TB m rs T) {kl : List (Nat × Int)} (hf : fitAll T kl) (hk : ∀ y ∈ kl, y.1 < m) : ∀ i, i ≤ m → fitAll T (fillW T i kl)
  | 0, _ => hf
  | i + 1, hi => by
    have ih := fill_fit hT hf hk i (by omega)
    have hk2 : ∀ y ∈ fillW T i kl, y.1 < m := fun y hy => by
      rcases mem_fill T kl i y hy with h | h
      · exact hk y h
      · omega
    rw [fill_succ]
    unfold stepW
    split
    · exact ih
    · have ml := marks_le hT hk2 ih (c := i) (by omega)
      refine (fit_more hT (by omega) ih).mpr ⟨fun l hl => ?_, fun g hg => ?_⟩
      · rw [hl]
        exact Int.le_refl _
      · rw [hg]
        cases hl : mxO (lows T i (fillW T i kl)) with
        | none => exact Int.le_refl _
        | some l => exact ml l g hl hg
theorem mem_put_has {kl : List (Nat × Int)} {c : Nat} {v : Int} : (c, v) ∈ putN kl c v := by
  unfold putN
  split
  · rename_i h
    obtain ⟨y, hy, e⟩ := List.any_eq_true.mp h
    have e := of_decide_eq_true e
    refine List.mem_map.mpr ⟨y, hy, ?_⟩
    rw [if_pos e, e]
  · exact List.mem_append.mpr (.inr (List.mem_singleton.mpr rfl))
theorem put_keeps {kl : List (Nat × Int)} {c e : Nat} {v : Int} (h : ∃ u, (e, u) ∈ kl) : ∃ u, (e, u) ∈ putN kl c v := by
  obtain ⟨u, hu⟩ := h
  by_cases hec : e = c
  · subst hec
    exact ⟨v, mem_put_has⟩
  · refine ⟨u, ?_⟩
    unfold putN
    split
    · refine List.mem_map.mpr ⟨(e, u), hu, ?_⟩
      exact if_neg hec
    · exact List.mem_append.mpr (.inl hu)
theorem row_keys : ∀ (row kl : List (Nat × Int)) (e : Nat), ((∃ u, (e, u) ∈ kl) ∨ ∃ u, (e, u) ∈ row) → ∃ u, (e, u) ∈ row.foldl (fun kl y => putN kl y.1 y.2) kl
  | [], kl, e, h => by
    rcases h with h | ⟨u, h⟩
    · exact h
    · cases h
  | z :: row, kl, e, h => by
    refine row_keys row (putN kl z.1 z.2) e ?_
    rcases h with h | ⟨u, h⟩
    · exact .inl (put_keeps h)
    · rcases List.mem_cons.mp h with h | h
      · subst h
        exact .inl ⟨u, mem_put_has⟩
      · exact .inr ⟨u, h⟩
theorem vN_mem {kl : List (Nat × Int)} {c : Nat} {v : Int} (h : vN kl c = some v) : (c, v) ∈ kl := by
  unfold vN at h
  obtain ⟨y, hy, e⟩ := Option.map_eq_some_iff.mp h
  have h1 := List.mem_of_find?_eq_some hy
  have h2 := List.find?_some hy
  have h2 := of_decide_eq_true h2
  subst h2
  subst e
  exact h1
def tW (T : GR.Tb) (m : Nat) (row : List (Nat × Int)) (c : Nat) : Int := (vN (fillW T m (rowK row)) c).getD 0
theorem tW_mem {T : GR.Tb} {m : Nat} {row : List (Nat × Int)} {c : Nat} (hc : c < m) : (c, tW T m row c) ∈ fillW T m (rowK row) := by
  have hs := has_fill T (rowK row) m c hc
  rw [has_v] at hs
  obtain ⟨v, hv⟩ := Option.isSome_iff_exists.mp hs
  unfold tW
  rw [hv]
  exact vN_mem hv
theorem rowK_fit {T : GR.Tb} {row : List (Nat × Int)} (hf : fitAll T row) : fitAll T (rowK row) := fun y hy z hz => by
  have h1 : y ∈ row := by
    rcases mem_rowF hy with h | h
    · cases h
    · exact h
  have h2 : z ∈ row := by
    rcases mem_rowF hz with h | h
    · cases h
    · exact h
  exact hf y h1 z h2
theorem tW_fit {m : Nat} {rs : List D} {T : GR.Tb} (hT : TB m rs T) {row : List (Nat × Int)} (hf : fitAll T row) (hk : ∀ y ∈ row, y.1 < m) : fitAll T (fillW T m (rowK row)) :=
  fill_fit hT (rowK_fit hf) (fun y hy => by
    rcases mem_rowF hy with h | h
    · cases h
    · exact hk y h) m (Nat.le_refl _)
theorem tW_right {m : Nat} {rs : List D} {T : GR.Tb} (hT : TB m rs T) (hr : ∀ x ∈ es rs, gs x < m ∧ ge x < m) {row : List (Nat × Int)} (hf : fitAll T row) (hk : ∀ y ∈ row, y.1 < m) : RightH rs (tW T m row) := fun x hx => by
  have hff := tW_fit hT hf hk
  obtain ⟨h1, h2⟩ := hr x hx
  obtain ⟨L, hL, hle⟩ := (hT.dst (gs x) (ge x) h1 h2).le [x] (GR.isW_one hx)
  have := fit2_le (hff _ (tW_mem h1) _ (tW_mem h2)) hL
  rw [GR.wlen_one] at hle
  dsimp only at this
  show tW T m row (ge x) - tW T m row (gs x) ≤ x.w
  have hle : L ≤ x.w := hle
  omega
theorem tW_row {m : Nat} {rs : List D} {T : GR.Tb} (hT : TB m rs T) {row : List (Nat × Int)} (hf : fitAll T row) (hk : ∀ y ∈ row, y.1 < m) {y : Nat × Int} (hy : y ∈ row) : tW T m row y.1 = y.2 := by
  have hff := tW_fit hT hf hk
  obtain ⟨u, hu⟩ := row_keys row [] y.1 (.inr ⟨y.2, hy⟩)
  have hur : (y.1, u) ∈ row := by
    rcases mem_rowF hu with h | h
    · cases h
    · exact h
  rw [same_ev hT hff (hk y hy) (tW_mem (hk y hy)) (fill_sub T _ m _ hu)]
  exact same_ev hT hf (hk y hy) hur hy
/-! ### tight bounds in a dict that asks with .get, or None -/
theorem rng_nat (n : Nat) : dRange 0 n = (List.range n).map fun i : Nat => PyData.int (i : Nat) := by
  unfold dRange
  exact List.map_congr_left fun i _ => by rw [Int.zero_add]
theorem ed_far {n far : Int} {rs : List D} (h : NR n far rs) {x : Ed} (hx : x ∈ es rs) : -far ≤ x.w ∧ x.w ≤ far := by
  obtain ⟨s, e, lo, hi, _, _, _, _, _, sl, sh, hh⟩ := mem_ed h.ro hx
  rcases hh with ⟨_, rfl⟩ | ⟨_, rfl⟩
  · rcases sh with z | ⟨i, z, h1, h2⟩
    · cases z
    · cases z; exact ⟨h1, h2⟩
  · rcases sl with z | ⟨i, z, h1, h2⟩
    · cases z
    · have : -x.w = i := by injection z
      omega
def UB (T : GR.Tb) (b : Int) : Prop := ∀ i j L, T i j = some L → L ≤ b
theorem UB.rel {T : GR.Tb} {b : Int} (h : UB T b) {i : Nat} {x : Ed} {f : Int} (hx : x.w ≤ f) (hf : 0 ≤ f) : UB (rel i x T) (b + f) := fun a c L e => by
  unfold Law.rel GR.upd2 at e
  split at e
  · rcases GR.omin_cases (T i (ge x)) (GR.oadd (T i (gs x)) (some x.w)) with z | z
    · rw [z] at e; have := h _ _ _ e; omega
    · rw [z] at e
      cases hz : T i (gs x) with
      | none => rw [hz] at e; cases e
      | some v =>
        rw [hz] at e
        have e : some (v + x.w) = some L := e
        cases e
        have := h _ _ _ hz
        omega
  · have := h _ _ _ e; omega
theorem UB.mono {T : GR.Tb} {a b : Int} (h : UB T a) (k : a ≤ b) : UB T b := fun i j L e => Int.le_trans (h i j L e) k
theorem L_bounds_no {w : World} {n far : Int} {rs : List D} {Q : D → Prop} (h : NR n far rs) (q0 : ¬ NoNegR rs → Q .none) (q1 : NoNegR rs → ∀ T d, TB n.toNat rs T → BdD n.toNat T d → Q d) : f_L_bounds w [.tuple [.int n, .tuple rs]] Q := by
  have hel := edN_le rs rs.length
  have h12 := h.rl
  have hrg := ed_rng h
  have hfa := h.fa
  obtain ⟨m, rfl⟩ : ∃ m : Nat, n = (m : Int) := ⟨n.toNat, by have := h.n0; omega⟩
  have hm : m ≤ 6 := by have := h.n1; omega
  rw [Int.toNat_natCast] at q1 hrg
  have a0 : atI [PyData.int (m : Int), PyData.tuple rs] 0 = some (.int m) := rfl
  refine o_L_bounds ?_
  unfold t_L_bounds
  refine seq_gen fun N hN => ?_
  walk_at "DZ"
  rw [a0]
  dsimp only
  subst hN
  refine seq_gen fun N hN => ?_
  walk_at "DZ"
  subst hN
  try dsimp only
  refine seq_gen fun N hN => ?_
  refine for_gen fun B hB => ?_
  unfold dFor
  walk_at "DZ"
  refine ⟨by omega, by omega, ?_⟩
  rw [Int.toNat_natCast]
  refine for_rng (fun i env => ∃ (ks : List (List Key × D)) (a : Option Sl), DT m ks (TdD i) ∧ ks.length ≤ i ∧ env = [some (.dat (.tuple [.int m, .tuple rs])), some (.dat (.int m)), some (.dct w ks), a, none, none, none, none, none]) (fun i env hi hInv M hM => ?_) (fun env hInv => ?_) ⟨[], _, ⟨⟨[], rfl, fun q hq => absurd hq List.not_mem_nil⟩, fun i j _ _ => by unfold TdD; rw [if_neg (fun z => by omega)]; rfl⟩, Nat.le_refl _, rfl⟩
  · obtain ⟨ks, a, hd, hl, rfl⟩ := hInv
    subst hB
    walk_at "DZ"
    refine ⟨rfl, by omega, ?_⟩
    rw [key_nat]
    dsimp only
    have := hd.put i i 0
    rw [TdD_set] at this
    refine hM _ ⟨_, some (.dat (.int (i : Nat))), this, ?_, rfl⟩
    have := putD_len ks (kI (k2 i i)) (.int 0)
    omega
  obtain ⟨ks, a, hd, hl, rfl⟩ := hInv
  have so0 : GR.Sound gs ge gw (es rs) (TdD m) := fun i j L e => by
    unfold TdD at e
    split at e
    · rename_i c; cases e; exact ⟨[], c.1, rfl⟩
    · cases e
  have ub0 : UB (TdD m) 0 := fun i j L e => by
    unfold TdD at e
    split at e
    · cases e; exact Int.le_refl _
    · cases e
  have pk0 : Pk m rs 0 (TdD m) := fun i j p hi hp hl => by
    have : p = [] := List.eq_nil_of_length_eq_zero (by omega)
    subst this
    have hij : i = j := hp
    unfold TdD
    rw [if_pos ⟨hij, hi⟩]
    exact Int.le_refl _
  generalize TdD m = T at hd so0 pk0 ub0
  show N _
  subst hN
  try dsimp only
  refine seq_gen fun N hN => ?_
  refine for_gen fun B hB => ?_
  unfold dFor
  walk_at "DZ"
  refine ⟨by omega, by omega, ?_⟩
  rw [show ((m : Int) + 1).toNat = m + 1 by omega]
  refine for_rng (fun i env => ∃ (T : GR.Tb) (ks : List (List Key × D)) (a b c d e f : Option Sl), DT m ks T ∧ GR.Sound gs ge gw (es rs) T ∧ Pk m rs i T ∧ UB T (100 * (144 * i : Nat)) ∧ ks.length ≤ 6 + 144 * i ∧ env = [some (.dat (.tuple [.int m, .tuple rs])), some (.dat (.int m)), some (.dct w ks), a, b, c, d, e, f]) (fun i env hi hInv M hM => ?_) (fun env hInv => ?_) ⟨T, ks, _, _, _, _, _, _, hd, so0, pk0, ub0.mono (by omega), by omega, rfl⟩
  · obtain ⟨T0, ks, a, b, c, d, e, f, hd, so, pk, ub, hl, rfl⟩ := hInv
    subst hB
    refine for_gen fun B hB => ?_
    unfold dFor
    walk_at "DZ"
    refine L_edges_ok h ?_
    try dsimp only
    refine for_inv (fun k env => ∃ (T : GR.Tb) (ks : List (List Key × D)) (a c d e f : Option Sl), DT m ks T ∧ Rx rs T0 T (fun x i => x ∈ (es rs).take k ∧ i < m) ∧ UB T (100 * (144 * i + 6 * k : Nat)) ∧ ks.length ≤ 6 + 144 * i + 6 * k ∧ env = [some (.dat (.tuple [.int m, .tuple rs])), some (.dat (.int m)), some (.dct w ks), a, some (.dat (.int (i : Nat))), c, d, e, f]) (fun k d' env hdg hInv M2 hM2 => ?_) (fun env hInv => ?_) ?_
    · obtain ⟨T, ks, a, c, d, e, f, hd, hx, ub, hl, rfl⟩ := hInv
      rw [List.getElem?_map] at hdg
      obtain ⟨x, hxk, rfl⟩ := Option.map_eq_some_iff.mp hdg
      have hxm : x ∈ es rs := List.mem_of_getElem? hxk
      have hin := ed_in h hxm
      have hr := hrg x hxm
      have hk24 : k < 24 := by
        have := lt_of_get hxk
        have : (es rs).length ≤ 2 * rs.length := hel
        omega
      have et : (es rs).take (k + 1) = (es rs).take k ++ [x] := by rw [List.take_add_one, hxk]; rfl
      have hs : x.s = ((gs x : Nat) : Int) := (Int.toNat_of_nonneg hin.1).symm
      have he : x.e = ((ge x : Nat) : Int) := (Int.toNat_of_nonneg hin.2.2.1).symm
      have hw100 : x.w ≤ 100 := by have := (ed_far h hxm).2; omega
      unfold eD
      refine ⟨rfl, ?_⟩
      rw [hs, he]
      dsimp only [gsCons, gsNil, gN, List.set_cons_succ, List.set_cons_zero]
      subst hB
      refine for_gen fun B hB => ?_
      unfold dFor
      walk_at "DZ"
      refine ⟨by omega, by omega, ?_⟩
      rw [Int.toNat_natCast]
      refine for_rng (fun v env => ∃ (T : GR.Tb) (ks : List (List Key × D)) (a : Option Sl), DT m ks T ∧ Rx rs T0 T (fun y i => (y ∈ (es rs).take k ∧ i < m) ∨ (y = x ∧ i < v)) ∧ UB T (100 * (144 * i + 6 * k + v : Nat)) ∧ ks.length ≤ 6 + 144 * i + 6 * k + v ∧ env = [some (.dat (.tuple [.int m, .tuple rs])), some (.dat (.int m)), some (.dct w ks), a, some (.dat (.int (i : Nat))), some (.dat (eV x)), some (.dat (.int (gs x : Nat))), some (.dat (.int (ge x : Nat))), some (.dat (.int x.w))]) (fun v env hv hInv M3 hM3 => ?_) (fun env hInv => ?_) ⟨T, ks, _, hd, ⟨hx.so, hx.mo, fun y i hy => hx.rx y i (hy.resolve_right fun z => by omega)⟩, ub, by omega, rfl⟩
      · obtain ⟨T, ks, a, hd, hx, ub, hl, rfl⟩ := hInv
        have hstep : Rx rs T0 (rel v x T) (fun y i => (y ∈ (es rs).take k ∧ i < m) ∨ (y = x ∧ i < v + 1)) := hx.step hxm v fun y j hy => by
          rcases hy with hy | ⟨rfl, hy⟩
          · exact .inl (.inl hy)
          · by_cases c : j = v
            · exact .inr ⟨rfl, c⟩
            · exact .inl (.inr ⟨rfl, by omega⟩)
        have ubs : UB (rel v x T) (100 * (144 * i + 6 * k + (v + 1) : Nat)) := (ub.rel (i := v) hw100 (by omega)).mono (by omega)
        have same : rel v x T = T → ∀ a : Option Sl, M3 [some (.dat (.tuple [.int m, .tuple rs])), some (.dat (.int m)), some (.dct w ks), a, some (.dat (.int (i : Nat))), some (.dat (eV x)), some (.dat (.int (gs x : Nat))), some (.dat (.int (ge x : Nat))), some (.dat (.int x.w))] := fun e a => by
          rw [e] at hstep ubs
          exact hM3 _ ⟨T, ks, a, hd, hstep, ubs, by omega, rfl⟩
        have other : ∀ L : Int, rel v x T = GR.upd2 T v (ge x) (some L) → ∀ a : Option Sl, M3 [some (.dat (.tuple [.int m, .tuple rs])), some (.dat (.int m)), some (.dct w (putD ks (kI (k2 v (ge x))) (.int L))), a, some (.dat (.int (i : Nat))), some (.dat (eV x)), some (.dat (.int (gs x : Nat))), some (.dat (.int (ge x : Nat))), some (.dat (.int x.w))] := fun L e a => by
          have hd' := hd.put v (ge x) L
          rw [e] at hstep ubs
          have := putD_len ks (kI (k2 v (ge x))) (.int L)
          exact hM3 _ ⟨_, _, a, hd', hstep, ubs, by omega, rfl⟩
        have v1 := hd.va v (gs x) hv hr.1
        have v2 := hd.va v (ge x) hv hr.2
        subst hB
        walk_at "DZ"
        rw [keyI_nat]
        dsimp only
        refine ⟨hd.keys, ?_⟩
        rw [v1]
        cases hT1 : T v (gs x) with
        | none =>
          refine ite_f (fun z => nomatch z) ?_
          refine ite_f (fun z => nomatch z) ?_
          refine same ?_ _
          unfold rel
          rw [hT1]
          show GR.upd2 T v (ge x) (GR.omin (T v (ge x)) none) = T
          have e1 : GR.omin (T v (ge x)) none = T v (ge x) := by cases T v (ge x) <;> rfl
          rw [e1, upd2_id]
        | some L1 =>
          have erel : rel v x T = GR.upd2 T v (ge x) (GR.omin (T v (ge x)) (some (L1 + x.w))) := by unfold rel; rw [hT1]; rfl
          have big := ub _ _ _ hT1
          refine ite_t rfl ?_
          refine ⟨rfl, ?_⟩
          rw [key_nat]
          dsimp only
          rw [v1, hT1]
          dsimp only [Option.map_some]
          refine ⟨hd.keys, by unfold CPow; decide, ?_⟩
          rw [keyI_nat]
          dsimp only
          rw [v2]
          have p9 : (10 : Int) ^ Int.toNat 9 = 1000000000 := by decide
          cases hT2 : T v (ge x) with
          | none =>
            rw [hT2] at erel
            dsimp only [Option.map_none, Option.getD_none]
            rw [p9]
            refine ite_t (decide_eq_true (by omega)) ?_
            refine ⟨rfl, rfl, by omega, ?_⟩
            rw [key_nat]
            dsimp only
            exact other _ erel _
          | some L2 =>
            rw [hT2] at erel
            dsimp only [Option.map_some, Option.getD_some]
            by_cases cl : L1 + x.w < L2
            · refine ite_t (decide_eq_true cl) ?_
              refine ⟨rfl, rfl, by omega, ?_⟩
              rw [key_nat]
              dsimp only
              refine other _ ?_ _
              rw [erel]
              show GR.upd2 T v (ge x) (some (if L1 + x.w < L2 then L1 + x.w else L2)) = _
              rw [if_pos cl]
            · refine ite_f (fun z => cl (of_decide_eq_true z)) ?_
              refine same ?_ _
              rw [erel]
              show GR.upd2 T v (ge x) (some (if L1 + x.w < L2 then L1 + x.w else L2)) = _
              rw [if_neg cl, ← hT2, upd2_id]
      · obtain ⟨T, ks, a, hd, hx, ub, hl, rfl⟩ := hInv
        refine hM2 _ ⟨T, ks, _, _, _, _, _, hd, ⟨hx.so, hx.mo, fun y i hy => ?_⟩, ub.mono (by omega), by omega, rfl⟩
        rw [et] at hy
        rcases List.mem_append.mp hy.1 with h1 | h1
        · exact hx.rx y i (.inl ⟨h1, hy.2⟩)
        · exact hx.rx y i (.inr ⟨List.mem_singleton.mp h1, hy.2⟩)
    · obtain ⟨T, ks, a, c, d, e, f, hd, hx, ub, hl, rfl⟩ := hInv
      rw [List.length_map] at hx hl ub
      rw [List.take_length] at hx
      have : (es rs).length ≤ 2 * rs.length := hel
      exact hM _ ⟨T, ks, _, _, _, _, _, _, hd, hx.so, pk.next hx fun x hx i hi => ⟨hx, hi⟩, ub.mono (by omega), by omega, rfl⟩
    · exact ⟨T0, ks, _, _, _, _, _, hd, ⟨so, fun _ _ => GR.ole_refl _, fun y i hy => absurd hy.1 (by rw [List.take_zero]; exact List.not_mem_nil)⟩, ub.mono (by omega), by omega, rfl⟩
  · obtain ⟨T, ks, a, b, c, d, e, f, hd, so, pk, ub, hl, rfl⟩ := hInv
    obtain ⟨is, rfl, hs⟩ := hd.sh
    show N _
    subst hN
    walk_at "DZ"
    have dg : ∀ e, e < m → ∃ L, T e e = some L ∧ L ≤ 0 := fun e he => by
      have := pk e e [] he rfl (Nat.zero_le _)
      cases hT : T e e with
      | none => rw [hT] at this; exact this.elim
      | some L => rw [hT] at this; exact ⟨L, rfl, this⟩
    have gv : ∀ i j : Nat, i < m → j < m → getF (is.map fun q => (PyData.tuple (q.1.map PyData.int), q.2)) (k2 i j) = (T i j).map PyData.int := fun i j hi hj => by rw [getF_ks]; exact hd.va i j hi hj
    refine ⟨is, rfl, hs, by omega, by omega, by rw [Int.toNat_natCast, dRange_length]; omega, ?_⟩
    rw [Int.toNat_natCast, rng_nat]
    refine lc_list (l := List.range m) (fun i : Nat => PyData.int (i : Nat)) (fun e : Nat => PyData.bool (decide ((T e e).getD 0 < 0))) (fun _ => true) (fun e he R N' r1 _ => ?_) ?_
    · have he := List.mem_range.mp he
      have := r1 rfl
      obtain ⟨L, hL, _⟩ := dg e he
      rw [hL] at this
      walk_at "DZ"
      unfold dicD
      dsimp only
      rw [keyI_nat]
      dsimp only
      rw [gv e e he he, hL]
      exact this
    rw [List.filter_eq_self.mpr fun _ _ => rfl]
    unfold dBools
    dsimp only
    rw [allBool_map (fun e : Nat => decide ((T e e).getD 0 < 0))]
    dsimp only
    by_cases hn : ∃ e, e < m ∧ ∃ L, T e e = some L ∧ L < 0
    · obtain ⟨e, he, L, hL, hneg⟩ := hn
      refine ite_t (List.any_eq_true.mpr ⟨_, List.mem_map.mpr ⟨e, List.mem_range.mpr he, rfl⟩, by rw [hL]; exact decide_eq_true hneg⟩) ?_
      refine q0 fun hz => ?_
      obtain ⟨p, p1, p2⟩ := so _ _ _ hL
      have := hz e p p1
      omega
    · have hnn : ∀ e, e < m → ∀ L, T e e = some L → 0 ≤ L := fun e he L hL => Classical.byContradiction fun z => hn ⟨e, he, L, hL, by omega⟩
      have hz : NoNegR rs := GR.noNeg_of hrg fun i p hi hp hl => by
        obtain ⟨L, hL, _⟩ := dg i hi
        have h1 := pk i i p hi hp (by omega)
        rw [hL] at h1
        have h1 : L ≤ GR.wlen gw p := h1
        have := hnn i hi L hL
        omega
      refine ite_f (fun z => ?_) ?_
      · obtain ⟨b, hb, hb2⟩ := List.any_eq_true.mp z
        obtain ⟨e, he, rfl⟩ := List.mem_map.mp hb
        have he := List.mem_range.mp he
        obtain ⟨L, hL, _⟩ := dg e he
        rw [hL] at hb2
        have := hnn e he L hL
        have : L < 0 := of_decide_eq_true hb2
        omega
      · exact q1 hz T _ (tb_of hrg hz so fun i j p hi hp hl => pk i j p hi hp (by omega)) ⟨_, rfl, gv⟩
/-! ### a telling -/
theorem lk_none {α : Type} {f : Str} {l : List (Str × α)} (ns : List Str) (e : l.map (·.1) = ns) (h : (ns.all fun g => !(f == g)) = true) : l.lookup f = none := by
  rw [lk_keys]
  intro y hy
  have := List.all_eq_true.mp h y.1 (by rw [← e]; exact List.mem_map_of_mem hy)
  simpa using this
def fsT (m : Nat) (rs : List D) (W : Nat → GR.Wt Ed) : List (Str × D) := [("_walks", walksD m W), ("_bounds", bT m fun i j => GR.oL gw (W i j)), ("_net", .tuple [.int (m : Int), .tuple rs])]
def lsT (b : Addr) (ps : List (Nat × Int)) : Obl := [("_pieces", b, ps.map nN)]
def fsB (m : Nat) (rs : List D) (W : Nat → GR.Wt Ed) (ps : List (Nat × Int)) : List (Str × D) := [("_walks", walksD m W), ("_bounds", bT m fun i j => GR.oL gw (W i j)), ("_net", .tuple [.int (m : Int), .tuple rs]), ("_pieces", .list (ps.map nN))]
theorem Telling_init_ok {C : Addr} {n far : Int} {rs : List D} {Q : Fls → Obl → Prop} (h : NR n far rs) (hz : NoNegR rs) (q : ∀ W b, LW n.toNat rs W → Q (fsT n.toNat rs W) (lsT b [])) : f_Telling___init__ C [.tuple [.int n, .tuple rs]] Q := by
  have pw := @possible_walks_ok n far rs
  have nr := nr_net h
  obtain ⟨m, rfl⟩ : ∃ m : Nat, n = (m : Int) := ⟨n.toNat, by have := h.n0; omega⟩
  have hm : m ≤ 6 := by have := h.n1; omega
  rw [Int.toNat_natCast] at q pw
  refine o_Telling___init__ ?_
  unfold t_Telling___init__
  walk_at "DZ"
  refine check_net_ok nr ?_
  try dsimp only
  refine ⟨⟨lk_none [] rfl (by decide), lk_none [] rfl (by decide), by show 0 + 0 < 100; decide⟩, ?_⟩
  refine pw h hz fun W hW => ?_
  refine ⟨⟨lk_none ["_walks"] rfl (by decide), lk_none [] rfl (by decide), by show 1 + 0 < 100; decide⟩, ?_⟩
  refine ⟨rfl, ?_⟩
  refine lengths_of_ok hm ?_
  refine ⟨⟨lk_none ["_walks", "_bounds"] rfl (by decide), lk_none [] rfl (by decide), by show 2 + 0 < 100; decide⟩, ?_⟩
  refine ⟨⟨lk_none ["_walks", "_bounds", "_net"] rfl (by decide), lk_none [] rfl (by decide), by show 3 + 0 < 100; decide⟩, fun b => ?_⟩
  exact q W b hW
/-- the window of an event -/
def wnT (T : GR.Tb) (ps : List (Nat × Int)) (e : Nat) : Option Int × Option Int := (mxO (lows T e ps), mnO (highs T e ps))
def wD1 (p : Option Int × Option Int) : D := .tuple [oD p.1, oD p.2]
def wnD (m : Nat) (T : GR.Tb) (ps : List (Nat × Int)) : D := .tuple (rowL m fun e => wD1 (wnT T ps e))
theorem window_ok {C : Addr} {m : Nat} {rs : List D} {W : Nat → GR.Wt Ed} {ps : List (Nat × Int)} {e : Nat} {Q : D → Prop} (he : e < m) (hp : ∀ y ∈ ps, y.1 < m) (hl : ps.length ≤ 1000) (q : Q (wD1 (wnT (fun i j => GR.oL gw (W i j)) ps e))) : f_Telling__window C (fsB m rs W ps) [.int (e : Nat)] Q := by
  refine o_Telling__window fun a => ?_
  unfold t_Telling__window fsB
  walk_at "DZ"
  refine ⟨⟨rfl, rfl⟩, ⟨rfl, rfl⟩, ?_⟩
  exact room_beside_ok (b := false) he hp hl q
theorem windows_ok {C : Addr} {m : Nat} {rs : List D} {W : Nat → GR.Wt Ed} {ps : List (Nat × Int)} {Q : D → Prop} (hm : m ≤ 6) (hp : ∀ y ∈ ps, y.1 < m) (hl : ps.length ≤ 1000) (q : Q (wnD m (fun i j => GR.oL gw (W i j)) ps)) : f_Telling_windows C (fsB m rs W ps) [] Q := by
  have wo := fun e (he : e < m) R => @window_ok C m rs W ps e R he hp hl
  have nm : (fsB m rs W ps).lookup ("_window" : Str) = none := lk_none ["_walks", "_bounds", "_net", "_pieces"] rfl (by decide)
  refine o_Telling_windows fun a => ?_
  unfold t_Telling_windows
  unfold fsB at *
  walk_at "DZ"
  refine ⟨⟨rfl, rfl⟩, ?_⟩
  rw [show atI [PyData.int (m : Int), PyData.tuple rs] 0 = some (.int m) from rfl]
  dsimp only
  rw [Int.toNat_natCast, dRange_length]
  refine ⟨by omega, by omega, by omega, ?_⟩
  rw [rng_nat]
  refine lc_list (l := List.range m) (fun i : Nat => PyData.int (i : Nat)) (fun e => wD1 (wnT (fun i j => GR.oL gw (W i j)) ps e)) (fun _ => true) (fun e he R N' q1 _ => ?_) ?_
  · have he := List.mem_range.mp he
    walk_at "DZ"
    exact ⟨⟨rfl, nm⟩, wo e he _ (q1 rfl)⟩
  rw [List.filter_eq_self.mpr fun _ _ => rfl]
  exact q
theorem noLsts_all : ∀ {ds : List D}, (∀ d ∈ ds, noLst d = true) → noLsts ds = true
  | [], _ => rfl
  | d :: ds, h => by
    unfold noLsts
    rw [h d List.mem_cons_self, noLsts_all fun e he => h e (List.mem_cons_of_mem _ he)]
    rfl
def inW (p : Option Int × Option Int) (t : Int) : Prop := (∀ a, p.1 = some a → a ≤ t) ∧ (∀ b, p.2 = some b → t ≤ b)
theorem clamp_in {p : Option Int × Option Int} {t : Int} (h : inW p t) : clampI t p.1 p.2 = t := by
  obtain ⟨lo, hi⟩ := p
  obtain ⟨h1, h2⟩ := h
  cases lo with
  | none =>
    cases hi with
    | none => rfl
    | some b => have := h2 b rfl; unfold clampI cHi cLo; dsimp only; split <;> omega
  | some a =>
    have := h1 a rfl
    cases hi with
    | none => unfold clampI cHi cLo; dsimp only; split <;> omega
    | some b => have := h2 b rfl; unfold clampI cHi cLo; dsimp only; split <;> split <;> omega
theorem check_event_fine {v nm x : D} {n : Int} {Q : D → Prop} (h : inI v 0 (n - 1) = true) (q : Q .none) : f_check_event [.tuple [.int n, x], nm, v] Q := by
  refine o_check_event ?_
  unfold t_check_event
  walk_at "DZ"
  rw [atI_0]
  dsimp only
  refine is_event_ok _ _ _ ?_
  rw [h]
  refine ite_f (fun z => nomatch z) ?_
  exact q
theorem tell_ok {C : Addr} {m : Nat} {rs : List D} {W : Nat → GR.Wt Ed} {b : Addr} {ps : List (Nat × Int)} {e : Nat} {t : Int} {Q : Obl → D → Prop} (hm : m ≤ 6) (hp : ∀ y ∈ ps, y.1 < m) (hl : ps.length ≤ 900) (he : e < m) (ht : -500 ≤ t ∧ t ≤ 500) (hn : ∀ y ∈ ps, y.1 ≠ e) (hw : inW (wnT (fun i j => GR.oL gw (W i j)) ps e) t)
    (q : Q (lsT b (ps ++ [(e, t)])) (wnD m (fun i j => GR.oL gw (W i j)) (ps ++ [(e, t)]))) : f_Telling_tell C (fsT m rs W) (lsT b ps) [.int (e : Nat), .int t] Q := by
  have wo := fun R => @window_ok C m rs W ps e R he hp (by omega)
  have wso := fun R => @windows_ok C m rs W (ps ++ [(e, t)]) R hm (fun y hy => (List.mem_append.mp hy).elim (hp y) fun z => by rw [List.mem_singleton.mp z]; exact he) (by rw [List.length_append]; show ps.length + 1 ≤ _; omega)
  have nm := fun (f : Str) ps (hf : (["_walks", "_bounds", "_net", "_pieces"].all fun g => !(f == g)) = true) => (lk_none (l := fsB m rs W ps) ["_walks", "_bounds", "_net", "_pieces"] rfl hf)
  refine o_Telling_tell fun a => ?_
  unfold t_Telling_tell
  refine seq_gen fun N hN => ?_
  unfold fsB fsT lsT at *
  walk_at "DZ"
  refine ⟨⟨rfl, rfl⟩, ?_⟩
  refine check_event_fine (inI_good (by omega) (by omega)) ?_
  try dsimp only
  subst hN
  refine seq_gen fun N hN => ?_
  walk_at "DZ"
  refine is_news_time_ok _ _ ?_
  rw [inI_good ht.1 ht.2]
  try dsimp only
  refine ite_f (fun z => nomatch z) ?_
  subst hN
  refine seq_gen fun N hN => ?_
  walk_at "DZ"
  refine ⟨⟨rfl, rfl⟩, by rw [List.length_map]; omega, ?_⟩
  refine lc_list (l := ps) nN (fun y => PyData.int (y.1 : Nat)) (fun _ => true) (fun y hy R N' q1 _ => ?_) ?_
  · unfold nN
    walk_at "DZ"
    exact ⟨rfl, q1 rfl⟩
  rw [List.filter_eq_self.mpr fun _ _ => rfl]
  refine ⟨rfl, List.all_eq_true.mpr fun d hd => by obtain ⟨y, _, rfl⟩ := List.mem_map.mp hd; rfl, ?_⟩
  refine ite_f (fun z => ?_) ?_
  · rw [if_neg Bool.false_ne_true] at z
    obtain ⟨d, hd, hd2⟩ := List.any_eq_true.mp z
    obtain ⟨y, hy, rfl⟩ := List.mem_map.mp hd
    rw [eqv_intD] at hd2
    have := of_decide_eq_true hd2
    exact hn y hy (by omega)
  subst hN
  refine seq_gen fun N hN => ?_
  walk_at "DZ"
  refine ⟨⟨rfl, nm "_window" ps (by decide)⟩, wo _ ?_⟩
  have hwd : noLst (wD1 (wnT (fun i j => GR.oL gw (W i j)) ps e)) = true := by
    unfold wD1
    show (noLst (oD _) && (noLst (oD _) && true)) = true
    have no : ∀ o : Option Int, noLst (oD o) = true := fun o => by cases o <;> rfl
    rw [no, no]; rfl
  refine ⟨hwd, ?_⟩
  unfold wD1
  refine ⟨rfl, ?_⟩
  subst hN
  refine seq_gen fun N hN => ?_
  walk_at "DZ"
  refine clamped_ok ?_
  rw [clamp_in hw]
  try dsimp only
  refine ⟨shaped_int _, shaped_int _, ?_⟩
  rw [eqv_intD, decide_eq_true rfl]
  refine ite_f (fun z => nomatch z) ?_
  subst hN
  refine seq_gen fun N hN => ?_
  walk_at "DZ"
  refine ⟨⟨rfl, rfl⟩, by rw [List.length_map]; omega, ?_⟩
  subst hN
  walk_at "DZ"
  have em : ps.map nN ++ [PyData.tuple [.int (e : Nat), .int t]] = (ps ++ [(e, t)]).map nN := by rw [List.map_append]; rfl
  rw [em]
  refine ⟨⟨rfl, nm "windows" (ps ++ [(e, t)]) (by decide)⟩, wso _ ?_⟩
  refine ⟨noLsts_all fun d hd => ?_, _, rfl, q⟩
  obtain ⟨i, _, rfl⟩ := List.mem_map.mp hd
  unfold wD1
  show (noLst (oD _) && (noLst (oD _) && true)) = true
  have no : ∀ o : Option Int, noLst (oD o) = true := fun o => by cases o <;> rfl
  rw [no, no]; rfl
def nar (p q : Option Int × Option Int) : Prop := (∀ a, p.1 = some a → ∃ a', q.1 = some a' ∧ a ≤ a') ∧ (∀ b, p.2 = some b → ∃ b', q.2 = some b' ∧ b' ≤ b)
theorem lows_mem {T : GR.Tb} {e : Nat} {ps : List (Nat × Int)} {l : Int} : l ∈ lows T e ps ↔ ∃ y ∈ ps, ∃ d, T e y.1 = some d ∧ l = y.2 - d := mem_lows
theorem highs_mem {T : GR.Tb} {e : Nat} {ps : List (Nat × Int)} {l : Int} : l ∈ highs T e ps ↔ ∃ y ∈ ps, ∃ d, T y.1 e = some d ∧ l = y.2 + d := mem_highs
theorem wn_in {T : GR.Tb} {ps : List (Nat × Int)} {e : Nat} {t : Int} : inW (wnT T ps e) t ↔ (∀ y ∈ ps, (∀ d, T e y.1 = some d → y.2 - d ≤ t) ∧ (∀ d, T y.1 e = some d → t ≤ y.2 + d)) := by
  constructor
  · rintro ⟨h1, h2⟩ y hy
    refine ⟨fun d hd => ?_, fun d hd => ?_⟩
    · have hm : y.2 - d ∈ lows T e ps := lows_mem.mpr ⟨y, hy, d, hd, rfl⟩
      cases e1 : mxO (lows T e ps) with
      | none => rw [mxO_none] at e1; rw [e1] at hm; cases hm
      | some a => have := h1 a e1; have := (mxO_some.mp e1).2 _ hm; omega
    · have hm : y.2 + d ∈ highs T e ps := highs_mem.mpr ⟨y, hy, d, hd, rfl⟩
      cases e1 : mnO (highs T e ps) with
      | none => rw [mnO_none] at e1; rw [e1] at hm; cases hm
      | some a => have := h2 a e1; have := (mnO_some.mp e1).2 _ hm; omega
  · intro h
    refine ⟨fun a e1 => ?_, fun a e1 => ?_⟩
    · obtain ⟨y, hy, d, hd, rfl⟩ := lows_mem.mp (mxO_some.mp e1).1
      exact (h y hy).1 d hd
    · obtain ⟨y, hy, d, hd, rfl⟩ := highs_mem.mp (mnO_some.mp e1).1
      exact (h y hy).2 d hd
theorem wn_ord {m : Nat} {rs : List D} {T : GR.Tb} (hT : TB m rs T) {ps : List (Nat × Int)} (hp : ∀ y ∈ ps, y.1 < m) (hf : fitAll T ps) {e : Nat} (he : e < m) {a b : Int} (ha : (wnT T ps e).1 = some a) (hb : (wnT T ps e).2 = some b) : a ≤ b := by
  obtain ⟨y, hy, d, hd, rfl⟩ := lows_mem.mp (mxO_some.mp ha).1
  obtain ⟨z, hz, d2, hd2, rfl⟩ := highs_mem.mp (mnO_some.mp hb).1
  have t := GR.Dst.tri (hT.dst z.1 e (hp z hz) he) (hT.dst e y.1 he (hp y hy)) (hT.dst z.1 y.1 (hp z hz) (hp y hy))
  rw [hd, hd2] at t
  cases h3 : T z.1 y.1 with
  | none => rw [h3] at t; exact t.elim
  | some d3 =>
    rw [h3] at t
    have t : d3 ≤ d2 + d := t
    have := fit2_le (hf z hz y hy) h3
    omega
theorem fit_snoc {m : Nat} {rs : List D} {T : GR.Tb} (hT : TB m rs T) {ps : List (Nat × Int)} (hf : fitAll T ps) {e : Nat} (he : e < m) {t : Int} (hw : inW (wnT T ps e) t) : fitAll T (ps ++ [(e, t)]) := by
  have h := wn_in.mp hw
  have f2 : ∀ y z : Nat × Int, (∀ d, T y.1 z.1 = some d → z.2 - y.2 ≤ d) → fit2 T y z = true := fun y z k => by
    unfold fit2
    cases e1 : T y.1 z.1 with
    | none => rfl
    | some d => exact decide_eq_true (k d e1)
  intro y hy z hz
  rcases List.mem_append.mp hy with hy | hy <;> rcases List.mem_append.mp hz with hz | hz
  · exact hf y hy z hz
  · rw [List.mem_singleton.mp hz]
    exact f2 _ _ fun d hd => by have := (h y hy).2 d hd; show t - y.2 ≤ d; omega
  · rw [List.mem_singleton.mp hy]
    exact f2 _ _ fun d hd => by have := (h z hz).1 d hd; show z.2 - t ≤ d; omega
  · rw [List.mem_singleton.mp hy, List.mem_singleton.mp hz]
    exact f2 _ _ fun d hd => by
      have := hT.diag e he
      have hd : T e e = some d := hd
      rw [this] at hd; cases hd
      show t - t ≤ 0
      omega
def inB (p : Option Int × Option Int) (t : Int) : Bool := (match p.1 with | none => true | some a => decide (a ≤ t)) && (match p.2 with | none => true | some b => decide (t ≤ b))
theorem erase_perm {α : Type} {l : List α} {m : Nat} (h : m < l.length) : (l[m] :: l.eraseIdx m).Perm l := by
  rw [List.eraseIdx_eq_take_drop_succ]
  have e : l = l.take m ++ l[m] :: l.drop (m + 1) := by rw [← List.drop_eq_getElem_cons h, List.take_append_drop]
  conv => rhs; rw [e]
  exact (List.perm_middle (a := l[m]) (l₁ := l.take m) (l₂ := l.drop (m + 1))).symm
theorem erase_mapI {α β : Type} (f : α → β) (l : List α) (j : Nat) : (l.map f).eraseIdx j = (l.eraseIdx j).map f := by
  rw [List.eraseIdx_eq_take_drop_succ, List.eraseIdx_eq_take_drop_succ, List.map_append, List.map_take, List.map_drop]
def iI (i : Nat) : D := .int (i : Nat)
theorem pop_perm : ∀ (ds : List D) (L : List Nat) (n : D) (x : Option Sl) (Q : List D → Prop), ds.length = L.length → L.length ≤ 1000 → (∀ ks : List Nat, ks.Perm L → Q (ks.map iI)) → popD 2 (gN 3) (dCallS 0 f_next (dCons (dLenOwn 2) dNil)) [3] [some .strm, some (.dat n), some (.own (L.map iI)), x] ds Q
  | [], L, n, x, Q, h, _, q => by
    have e : L = [] := List.eq_nil_of_length_eq_zero h.symm
    subst e
    exact q [] (List.Perm.refl _)
  | d :: ds, L, n, x, Q, h, hl, q => by
    have h : ds.length + 1 = L.length := h
    unfold popD
    walk_at "DZ"
    rw [List.length_map]
    refine ⟨trivial, next_mk (by omega) (by omega) fun j j0 j1 => ?_⟩
    obtain ⟨j, rfl⟩ : ∃ n : Nat, j = (n : Int) := ⟨j.toNat, by omega⟩
    have hj : j < L.length := by omega
    try dsimp only
    rw [ixN_nat hj]
    dsimp only
    rw [List.getElem?_map, List.getElem?_eq_getElem hj]
    refine ⟨by omega, by omega, ?_⟩
    rw [erase_mapI]
    refine pop_perm ds (L.eraseIdx j) n x _ (by rw [List.length_eraseIdx_of_lt hj]; omega) (by rw [List.length_eraseIdx_of_lt hj]; omega) fun ks hk => ?_
    exact q (L[j] :: ks) ((List.Perm.cons _ hk).trans (erase_perm hj))
theorem L_order_ok {n : Nat} {Q : D → Prop} (hn : n ≤ 900) (q : ∀ ks : List Nat, ks.Perm (List.range n) → Q (.tuple (ks.map iI))) : f_L_order [.int (n : Int)] Q := by
  refine o_L_order ?_
  unfold t_L_order
  refine seq_gen fun N hN => ?_
  walk_at "DZ"
  rw [Int.toNat_natCast]
  refine ⟨by omega, by omega, ?_⟩
  subst hN
  walk_at "DZ"
  rw [Int.toNat_natCast, dRange_length, rng_nat]
  refine ⟨by omega, by omega, by omega, ?_⟩
  exact pop_perm _ (List.range n) _ _ _ (by rw [List.length_map]) (by rw [List.length_range]; omega) q
theorem at_wnD {m : Nat} {T : GR.Tb} {ps : List (Nat × Int)} {e : Nat} (he : e < m) : atI (rowL m fun e => wD1 (wnT T ps e)) (e : Int) = some (wD1 (wnT T ps e)) := at_rowL _ he
noncomputable def rws (m : Nat) (T : GR.Tb) (ps : List (Nat × Int)) : List D := (List.range (ps.length + 1)).map fun j => wnD m T (ps.take j)
theorem noLst_oD (o : Option Int) : noLst (oD o) = true := by cases o <;> rfl
theorem noLst_wnD (m : Nat) (T : GR.Tb) (ps : List (Nat × Int)) : noLst (wnD m T ps) = true := noLsts_all fun d hd => by
  obtain ⟨i, _, rfl⟩ := List.mem_map.mp hd
  unfold wD1
  show (noLst (oD _) && (noLst (oD _) && true)) = true
  rw [noLst_oD, noLst_oD]; rfl
structure Tl (m : Nat) (T : GR.Tb) (k : Nat) (ps : List (Nat × Int)) : Prop where
  lt : ∀ y ∈ ps, y.1 < m
  nd : (ps.map (·.1)).Nodup
  fi : fitAll T ps
  bd : ∀ y ∈ ps, -(45 * (k : Int)) ≤ y.2 ∧ y.2 ≤ 45 * (k : Int)
  ln : ps.length ≤ k
theorem Tl.up {m : Nat} {T : GR.Tb} {k : Nat} {ps : List (Nat × Int)} (h : Tl m T k ps) : Tl m T (k + 1) ps := ⟨h.lt, h.nd, h.fi, fun y hy => by have := h.bd y hy; omega, by have := h.ln; omega⟩
theorem Tl.snoc {m : Nat} {rs : List D} {T : GR.Tb} {k : Nat} {ps : List (Nat × Int)} {e : Nat} {t : Int} (h : Tl m T k ps) (hT : TB m rs T) (he : e < m) (hw : inW (wnT T ps e) t) (hb : -(45 * ((k + 1 : Nat) : Int)) ≤ t ∧ t ≤ 45 * ((k + 1 : Nat) : Int)) (hin : ¬ ∃ y ∈ ps, y.1 = e) : Tl m T (k + 1) (ps ++ [(e, t)]) := by
  refine ⟨fun y hy => ?_, ?_, fit_snoc hT h.fi he hw, fun y hy => ?_, by have := h.ln; rw [List.length_append]; show ps.length + 1 ≤ _; omega⟩
  · rcases List.mem_append.mp hy with hy | hy
    · exact h.lt y hy
    · rw [List.mem_singleton.mp hy]; exact he
  · rw [List.map_append]
    refine List.nodup_append.mpr ⟨h.nd, by show ([e] : List Nat).Nodup; simp, fun a ha b hb hab => ?_⟩
    have hb : b = e := List.mem_singleton.mp hb
    obtain ⟨y, hy, rfl⟩ := List.mem_map.mp ha
    exact hin ⟨y, hy, by rw [hab, hb]⟩
  · rcases List.mem_append.mp hy with hy | hy
    · have := h.bd y hy; omega
    · rw [List.mem_singleton.mp hy]; exact hb
theorem told_witness_okL {m : Nat} {T : GR.Tb} {row : List (Nat × Int)} {Q : D → Prop} (hm : m ≤ 6) (hrow : ∀ y ∈ row, y.1 < m) (hl : row.length ≤ 8) (q : Q (.tuple (rowL m fun c => .int ((vN (fillW T m (rowK row)) c).getD 0)))) : f_told_witness [bT m T, .list (row.map nN)] Q := by
  have rb := @room_beside_ok m
  refine o_told_witness ?_
  unfold t_told_witness
  refine seq_gen fun N hN => ?_
  unfold dDcI
  walk_at "DZ"
  refine ⟨by rw [List.length_map]; omega, ?_⟩
  refine dc_row (row := row) (kl := []) ?_
  subst hN
  try dsimp only
  refine seq_gen fun N hN => ?_
  refine for_gen fun B hB => ?_
  unfold dFor bT
  walk_at "DZ"
  rw [rowL_len, Int.toNat_natCast]
  refine ⟨by omega, by omega, ?_⟩
  refine for_inv (fun i env => ∃ a c d : Option Sl, env = [some (.dat (bT m T)), some (.dat (.list (row.map nN))), some (.dki (kK (fillW T i (rowK row)))), a, none, c, d]) (fun i d env hd hi M hM => ?_) (fun env hi => ?_) ⟨_, _, _, rfl⟩
  · obtain ⟨a, c, d', rfl⟩ := hi
    obtain ⟨him, rfl⟩ := dRange_get hd
    subst hB
    have hkl : ∀ y ∈ fillW T i (rowK row), y.1 < m := fun y hy => by
      rcases mem_fill T _ i y hy with h | h
      · rcases mem_rowF h with h | h
        · cases h
        · exact hrow y h
      · omega
    have hlen : (fillW T i (rowK row)).length ≤ 20 := by
      have h1 := len_fill T (rowK row) i
      have h2 : (rowK row).length ≤ 0 + row.length := len_rowF row []
      omega
    have hkk : (kK (fillW T i (rowK row))).length ≤ 20 := by unfold kK; rw [List.length_map]; exact hlen
    have es := fill_succ T i (rowK row)
    generalize fillW T i (rowK row) = kl at hkl hlen hkk es ⊢
    dsimp only [gN, List.set_cons_succ, List.set_cons_zero]
    walk_at "DZ"
    rw [kK_val]
    have ev : ((vN kl i).map PyData.int).isSome = hasN kl i := by rw [has_v]; cases vN kl i <;> rfl
    rw [ev]
    cases hh : hasN kl i with
    | true =>
      refine ite_f (fun z => nomatch z) ?_
      have es3 : fillW T (i + 1) (rowK row) = kl := by
        rw [es]
        unfold stepW
        rw [if_pos hh]
      rw [es3] at hM
      exact hM _ ⟨_, _, _, rfl⟩
    | false =>
      refine ite_t rfl ?_
      rw [items_nN]
      have es2 : fillW T (i + 1) (rowK row) = kl ++ [(i, pickV (mxO (lows T i kl)) (mnO (highs T i kl)))] := by
        rw [es]
        unfold stepW
        rw [if_neg (by rw [hh]; exact fun z => nomatch z)]
      rw [es2] at hM
      refine rb (b := false) him hkl (by omega) ?_
      dsimp only
      refine ⟨rfl, ?_⟩
      cases hlo : mxO (lows T i kl) with
      | some l =>
        rw [hlo] at hM
        refine ite_t rfl ?_
        refine ⟨by omega, rfl, ?_⟩
        have e := kK_put kl i l
        rw [put_new hh] at e
        rw [show putI (kK kl) (i : Int) (oD (some l)) = kK (kl ++ [(i, l)]) from e]
        exact hM _ ⟨_, _, _, rfl⟩
      | none =>
        rw [hlo] at hM
        refine ite_f (fun z => nomatch z) ?_
        cases hhi : mnO (highs T i kl) with
        | some g =>
          rw [hhi] at hM
          refine ite_f (fun z => nomatch z) ?_
          refine ⟨by omega, rfl, ?_⟩
          have e := kK_put kl i g
          rw [put_new hh] at e
          rw [show putI (kK kl) (i : Int) (oD (some g)) = kK (kl ++ [(i, g)]) from e]
          exact hM _ ⟨_, _, _, rfl⟩
        | none =>
          rw [hhi] at hM
          refine ite_t rfl ?_
          refine ⟨by omega, rfl, ?_⟩
          have e := kK_put kl i 0
          rw [put_new hh] at e
          rw [e]
          exact hM _ ⟨_, _, _, rfl⟩
  · obtain ⟨a, c, d', rfl⟩ := hi
    rw [dRange_length]
    subst hN
    unfold bT
    walk_at "DZ"
    rw [rowL_len, Int.toNat_natCast]
    refine ⟨by omega, by omega, by rw [dRange_length]; omega, ?_⟩
    refine lc_rng (fun c => .int ((vN (fillW T m (rowK row)) c).getD 0)) (fun c hc R hR => ?_) q
    walk_at "DZ"
    rw [kK_val]
    have hs := has_fill T (rowK row) m c hc
    rw [has_v] at hs
    obtain ⟨v, hv⟩ := Option.isSome_iff_exists.mp hs
    rw [hv] at hR ⊢
    exact hR
theorem heights_ok {C : Addr} {m : Nat} {rs : List D} {W : Nat → GR.Wt Ed} {ps : List (Nat × Int)} {Q : D → Prop} (hm : m ≤ 6) (hp : ∀ y ∈ ps, y.1 < m) (hl : ps.length ≤ 8) (q : Q (hts m (tW (fun i j => GR.oL gw (W i j)) m ps))) : f_Telling_heights C (fsB m rs W ps) [] Q := by
  refine o_Telling_heights fun a => ?_
  unfold t_Telling_heights fsB
  walk_at "DZ"
  exact ⟨⟨rfl, rfl⟩, ⟨rfl, rfl⟩, told_witness_okL hm hp hl q⟩
theorem clamp_out {p : Option Int × Option Int} {t : Int} (ho : ∀ a b, p.1 = some a → p.2 = some b → a ≤ b) (h : ¬ inW p t) : clampI t p.1 p.2 ≠ t := by
  intro hc
  obtain ⟨lo, hi⟩ := p
  apply h
  cases lo with
  | none =>
    cases hi with
    | none => exact ⟨fun a z => (nomatch z), fun a z => (nomatch z)⟩
    | some b =>
      refine ⟨fun a z => (nomatch z), fun a z => ?_⟩
      cases z
      unfold clampI cHi cLo at hc
      dsimp only at hc
      split at hc <;> omega
  | some a =>
    cases hi with
    | none =>
      refine ⟨fun a z => ?_, fun a z => (nomatch z)⟩
      cases z
      unfold clampI cHi cLo at hc
      dsimp only at hc
      split at hc <;> omega
    | some b =>
      have := ho a b rfl rfl
      refine ⟨fun a z => ?_, fun a z => ?_⟩ <;> cases z <;> unfold clampI cHi cLo at hc <;> dsimp only at hc <;> split at hc <;> split at hc <;> omega
theorem noLst_wD1 (p : Option Int × Option Int) : noLst (wD1 p) = true := by
  have no : ∀ o : Option Int, noLst (oD o) = true := fun o => by cases o <;> rfl
  unfold wD1
  show (noLst (oD _) && (noLst (oD _) && true)) = true
  rw [no, no]; rfl
theorem L_holds_ok {m : Nat} {far : Int} {rs : List D} {t : Nat → Int} {Q : D → Prop} (h : NR (m : Int) far rs) (q : Q (.bool (rs.all (ruleHold t)))) : f_L_holds [.tuple [.int (m : Int), .tuple rs], hts m t] Q := by
  have ho := h.ro
  have hl := h.rl
  have a1 : atI [PyData.int (m : Int), PyData.tuple rs] 1 = some (.tuple rs) := rfl
  refine o_L_holds ?_
  unfold t_L_holds
  rw [hts_ts]
  walk_at "DZ"
  rw [a1]
  refine ⟨by omega, ?_⟩
  refine lc_map (fun r => .bool (ruleHold t r)) (fun r hr R r1 => ?_) ?_
  · walk_at "DZ"
    refine L_excess_ok (ho r hr) (by rw [List.length_map, List.length_range]) ?_
    try dsimp only
    refine ⟨shaped_int _, shaped_int _, ?_⟩
    rw [eqv_intD, exc_hold rfl (ho r hr)]
    exact r1
  unfold dBools
  dsimp only
  rw [allBool_map (fun r => ruleHold t r)]
  dsimp only
  have e : (rs.map (ruleHold t)).all id = rs.all (ruleHold t) := by rw [List.all_map]; rfl
  rw [e]
  exact q
theorem tell_okX {C : Addr} {m : Nat} {rs : List D} {W : Nat → GR.Wt Ed} {b : Addr} {ps : List (Nat × Int)} {e : Nat} {t : Int} {Q : Obl → D → Prop} {X : Obl → Nat → D → Prop} (hm : m ≤ 6) (hp : ∀ y ∈ ps, y.1 < m) (hl : ps.length ≤ 900) (he : e < m) (ht : -500 ≤ t ∧ t ≤ 500)
    (ho : ∀ x y, (wnT (fun i j => GR.oL gw (W i j)) ps e).1 = some x → (wnT (fun i j => GR.oL gw (W i j)) ps e).2 = some y → x ≤ y)
    (qt : (∃ y ∈ ps, y.1 = e) → X (lsT b ps) 1 (.str "told"))
    (qw : (¬ ∃ y ∈ ps, y.1 = e) → ¬ inW (wnT (fun i j => GR.oL gw (W i j)) ps e) t → X (lsT b ps) 1 (.str "window"))
    (q : (¬ ∃ y ∈ ps, y.1 = e) → inW (wnT (fun i j => GR.oL gw (W i j)) ps e) t → Q (lsT b (ps ++ [(e, t)])) (wnD m (fun i j => GR.oL gw (W i j)) (ps ++ [(e, t)]))) : fX_Telling_tell C (fsT m rs W) (lsT b ps) [.int (e : Nat), .int t] Q X := by
  have wo := fun R => @window_ok C m rs W ps e R he hp (by omega)
  have wso := fun R => @windows_ok C m rs W (ps ++ [(e, t)]) R hm (fun y hy => (List.mem_append.mp hy).elim (hp y) fun z => by rw [List.mem_singleton.mp z]; exact he) (by rw [List.length_append]; show ps.length + 1 ≤ _; omega)
  have nm := fun (f : Str) ps (hf : (["_walks", "_bounds", "_net", "_pieces"].all fun g => !(f == g)) = true) => (lk_none (l := fsB m rs W ps) ["_walks", "_bounds", "_net", "_pieces"] rfl hf)
  refine oX_Telling_tell fun a => ?_
  unfold tX_Telling_tell
  refine seq_gen fun N hN => ?_
  unfold fsB fsT lsT at *
  walk_at "DZ"
  refine ⟨⟨rfl, rfl⟩, ?_⟩
  refine .inl (check_event_fine (inI_good (by omega) (by omega)) ?_)
  try dsimp only
  subst hN
  refine seq_gen fun N hN => ?_
  walk_at "DZ"
  refine is_news_time_ok _ _ ?_
  rw [inI_good ht.1 ht.2]
  try dsimp only
  refine ite_f (fun z => nomatch z) ?_
  subst hN
  refine seq_gen fun N hN => ?_
  walk_at "DZ"
  refine ⟨⟨rfl, rfl⟩, by rw [List.length_map]; omega, ?_⟩
  refine lc_list (l := ps) nN (fun y => PyData.int (y.1 : Nat)) (fun _ => true) (fun y hy R N' q1 _ => ?_) ?_
  · unfold nN
    walk_at "DZ"
    exact ⟨rfl, q1 rfl⟩
  rw [List.filter_eq_self.mpr fun _ _ => rfl]
  refine ⟨rfl, List.all_eq_true.mpr fun d hd => by obtain ⟨y, _, rfl⟩ := List.mem_map.mp hd; rfl, ?_⟩
  have hany : (((ps.map fun y => PyData.int (y.1 : Nat)).any fun d => PyData.eqv d (.int (e : Nat))) = true) ↔ ∃ y ∈ ps, y.1 = e := by
    rw [List.any_eq_true]
    constructor
    · rintro ⟨d, hd, hd2⟩
      obtain ⟨y, hy, rfl⟩ := List.mem_map.mp hd
      rw [eqv_intD] at hd2
      have := of_decide_eq_true hd2
      exact ⟨y, hy, by omega⟩
    · rintro ⟨y, hy, rfl⟩
      exact ⟨_, List.mem_map.mpr ⟨y, hy, rfl⟩, by rw [eqv_intD]; exact decide_eq_true rfl⟩
  by_cases hin : ∃ y ∈ ps, y.1 = e
  · refine ite_t (by rw [if_neg Bool.false_ne_true]; exact hany.mpr hin) ?_
    exact ⟨_, rfl, qt hin⟩
  refine ite_f (fun z => ?_) ?_
  · rw [if_neg Bool.false_ne_true] at z
    exact hin (hany.mp z)
  subst hN
  refine seq_gen fun N hN => ?_
  walk_at "DZ"
  refine ⟨⟨rfl, nm "_window" ps (by decide)⟩, wo _ ?_⟩
  refine ⟨noLst_wD1 _, ?_⟩
  unfold wD1
  refine ⟨rfl, ?_⟩
  subst hN
  refine seq_gen fun N hN => ?_
  walk_at "DZ"
  refine clamped_ok ?_
  try dsimp only
  refine ⟨shaped_int _, shaped_int _, ?_⟩
  rw [eqv_intD]
  by_cases hw : ¬ inW (wnT (fun i j => GR.oL gw (W i j)) ps e) t
  · refine ite_t ?_ ?_
    · rw [decide_eq_false (clamp_out ho hw)]; rfl
    · exact ⟨_, rfl, qw hin hw⟩
  have hw := Classical.not_not.mp hw
  rw [clamp_in hw, decide_eq_true rfl]
  refine ite_f (fun z => nomatch z) ?_
  subst hN
  refine seq_gen fun N hN => ?_
  walk_at "DZ"
  refine ⟨⟨rfl, rfl⟩, by rw [List.length_map]; omega, ?_⟩
  subst hN
  walk_at "DZ"
  have em : ps.map nN ++ [PyData.tuple [.int (e : Nat), .int t]] = (ps ++ [(e, t)]).map nN := by rw [List.map_append]; rfl
  rw [em]
  refine ⟨⟨rfl, nm "windows" (ps ++ [(e, t)]) (by decide)⟩, wso _ ?_⟩
  exact ⟨noLst_wnD _ _ _, _, rfl, q hin hw⟩
theorem rowK_nd {ps : List (Nat × Int)} (h : (ps.map (·.1)).Nodup) : rowK ps = ps := by
  unfold rowK
  have key : ∀ (qs kl : List (Nat × Int)), ((kl ++ qs).map (·.1)).Nodup → qs.foldl (fun kl y => putN kl y.1 y.2) kl = kl ++ qs := by
    intro qs
    induction qs with
    | nil => intro kl _; rw [List.append_nil]; rfl
    | cons y qs ih =>
      intro kl hn
      rw [List.foldl_cons]
      have hno : hasN kl y.1 = false := by
        rw [Bool.eq_false_iff]
        intro z
        obtain ⟨x, hx, hx2⟩ := List.any_eq_true.mp z
        have hx2 := of_decide_eq_true hx2
        rw [List.map_append, List.map_cons] at hn
        exact (List.nodup_append.mp hn).2.2 x.1 (List.mem_map_of_mem hx) y.1 List.mem_cons_self hx2
      rw [put_new hno, ih (kl ++ [(y.1, y.2)]) (by rw [List.append_assoc]; exact hn), List.append_assoc]
      rfl
  exact key ps [] h
theorem vN_of_mem {ps : List (Nat × Int)} (h : (ps.map (·.1)).Nodup) {y : Nat × Int} (hy : y ∈ ps) : vN ps y.1 = some y.2 := by
  have hs : (vN ps y.1).isSome = true := by
    rw [← has_v]
    exact List.any_eq_true.mpr ⟨y, hy, decide_eq_true rfl⟩
  obtain ⟨v, hv⟩ := Option.isSome_iff_exists.mp hs
  have hm := vN_mem hv
  obtain ⟨i, hi, e1⟩ := List.getElem_of_mem hm
  obtain ⟨j, hj, e2⟩ := List.getElem_of_mem hy
  have pi := List.pairwise_iff_getElem.mp h
  have g1 : (ps.map (·.1))[i]'(by rw [List.length_map]; exact hi) = (ps.map (·.1))[j]'(by rw [List.length_map]; exact hj) := by rw [List.getElem_map, List.getElem_map, e1, e2]
  rcases Nat.lt_trichotomy i j with c | c | c
  · exact absurd g1 (pi i j _ _ c)
  · subst c
    rw [e1] at e2
    rw [hv, ← e2]
  · exact absurd g1.symm (pi j i _ _ c)
def RowT (i : Nat) (d : D) : Prop := ∃ ts : List Int, d = .tuple (ts.map PyData.int) ∧ ts.length = i ∧ ∀ t ∈ ts, -3 ≤ t ∧ t ≤ 3
theorem all_times_ok {n : Int} {Q : D → Prop} (n0 : 1 ≤ n) (n3 : n ≤ 3) (q : ∀ ys : List D, ys.length ≤ 343 → 0 < ys.length → (∀ y ∈ ys, RowT n.toNat y) → Q (.list ys)) : f_L_all_times [.int n, .int 3] Q := by
  refine o_L_all_times ?_
  unfold t_L_all_times
  refine seq_gen fun N hN => ?_
  walk_at "DZ"
  subst hN
  refine seq_gen fun N hN => ?_
  unfold dFor
  walk_at "DZ"
  refine ⟨by omega, by omega, ?_⟩
  refine for_inv (fun i env => ∃ (ys : List D) (a b c d : Option Sl), env = [some (.dat (.int n)), some (.dat (.int 3)), some (.dat (.list ys)), a, b, c, d] ∧ ys.length = 7 ^ i ∧ ∀ y ∈ ys, RowT i y) (fun i d env hd hi M hM => ?_) (fun env hi => ?_) ⟨[.tuple []], _, _, _, _, rfl, rfl, fun y hy => ⟨[], List.mem_singleton.mp hy, rfl, fun t ht => absurd ht List.not_mem_nil⟩⟩
  · obtain ⟨ys, a, b, c, d', rfl, hl, hr⟩ := hi
    have hi : i < n.toNat := by
      apply Classical.byContradiction
      intro hn
      rw [List.getElem?_eq_none (by rw [dRange_length]; omega)] at hd
      cases hd
    have hp : 7 ^ i ≤ 7 ^ 2 := Nat.pow_le_pow_right (by decide) (by omega)
    have hp2 : (7 : Nat) ^ 2 = 49 := rfl
    refine seq_gen fun N2 hN2 => ?_
    walk_at "DZ"
    subst hN2
    refine seq_gen fun N2 hN2 => ?_
    walk_at "DZ"
    refine for_inv (fun j env => ∃ (zs : List D) (a b c : Option Sl), env = [some (.dat (.int n)), some (.dat (.int 3)), some (.dat (.list ys)), a, some (.own zs), b, c] ∧ zs.length = 7 * j ∧ ∀ y ∈ zs, RowT (i + 1) y) (fun j d env hd hj M2 hM2 => ?_) (fun env hj => ?_) ⟨[], _, _, _, rfl, rfl, fun y hy => absurd hy List.not_mem_nil⟩
    · obtain ⟨zs, a, b, c, rfl, hzl, hz⟩ := hj
      have hj : j < ys.length := by
        apply Classical.byContradiction
        intro hn
        rw [List.getElem?_eq_none (by omega)] at hd
        cases hd
      have hd2 : d ∈ ys := by
        rw [List.getElem?_eq_getElem hj] at hd
        rw [← Option.some.inj hd]
        exact List.getElem_mem hj
      obtain ⟨ts, rfl, htl, ht⟩ := hr d hd2
      walk_at "DZ"
      refine ⟨by decide, by decide, by decide, ?_⟩
      refine lc_all (fun d y => RowT (i + 1) y) (fun d hd R hR => ?_) (fun us hus => ?_)
      · obtain ⟨m, hm, rfl⟩ := mem_dRange hd
        have hm7 : m < 7 := hm
        walk_at "DZ"
        refine ⟨by rw [List.length_map]; omega, hR _ ⟨ts ++ [0 - 3 + (m : Int)], ?_, ?_, ?_⟩⟩
        · rw [List.map_append]
          rfl
        · rw [List.length_append, htl]
          rfl
        · intro t ht2
          rcases List.mem_append.mp ht2 with ht2 | ht2
          · exact ht t ht2
          · rw [List.mem_singleton.mp ht2]
            omega
      · have hul := hus.length
        rw [dRange_length] at hul
        have hul : 7 = us.length := hul
        refine ⟨by omega, hM2 _ ⟨_, _, _, _, rfl, by rw [List.length_append]; omega, fun y hy => ?_⟩⟩
        rcases List.mem_append.mp hy with hy | hy
        · exact hz y hy
        · exact F2.all (R := fun y => RowT (i + 1) y) (fun _ _ h => h) hus y hy
    · obtain ⟨zs, a, b, c, rfl, hzl, hz⟩ := hj
      subst hN2
      walk_at "DZ"
      exact hM _ ⟨zs, _, _, _, _, rfl, by rw [hzl, hl, Nat.pow_succ, Nat.mul_comm], hz⟩
  · obtain ⟨ys, a, b, c, d', rfl, hl, hr⟩ := hi
    subst hN
    walk_at "DZ"
    rw [dRange_length] at hl hr
    have hp : 7 ^ n.toNat ≤ 7 ^ 3 := Nat.pow_le_pow_right (by decide) (by omega)
    have hp2 : (7 : Nat) ^ 3 = 343 := rfl
    have hp3 : 0 < 7 ^ n.toNat := Nat.pow_pos (by decide)
    exact q _ (by omega) (by omega) hr
theorem right_fit {m : Nat} {rs : List D} {T : GR.Tb} (hT : TB m rs T) {t : Nat → Int} (hr : RightH rs t) {e : Nat} (he : e < m) {ks : List Nat} (hk : ∀ i ∈ ks, i < m) : inW (wnT T (ks.map fun i => (i, t i)) e) (t e) := wn_in.mpr fun y hy => by
  obtain ⟨i, hi, rfl⟩ := List.mem_map.mp hy
  refine ⟨fun d hd => ?_, fun d hd => ?_⟩
  · have := right_walk hT hr he (hk i hi) hd
    show t i - d ≤ t e
    omega
  · have := right_walk hT hr (hk i hi) he hd
    show t e ≤ t i + d
    omega
theorem fit_right {m : Nat} {rs : List D} {T : GR.Tb} (hT : TB m rs T) (hr : ∀ x ∈ es rs, gs x < m ∧ ge x < m) {t : Nat → Int} {ks : List Nat} (hk : ∀ i, i < m → i ∈ ks) (hf : fitAll T (ks.map fun i => (i, t i))) : RightH rs t := fun x hx => by
  obtain ⟨h1, h2⟩ := hr x hx
  obtain ⟨L, e1, e2⟩ := (hT.dst (gs x) (ge x) h1 h2).le [x] ⟨hx, rfl, rfl⟩
  have hL : L ≤ gw x := by
    have : GR.wlen gw [x] = gw x := by simp [GR.wlen]
    omega
  have := fit2_le (hf (gs x, t (gs x)) (List.mem_map.mpr ⟨_, hk _ h1, rfl⟩) (ge x, t (ge x)) (List.mem_map.mpr ⟨_, hk _ h2, rfl⟩)) e1
  simp only at this
  have hg : gw x = x.w := rfl
  omega
theorem L_can_be_told_ok {C : Addr} {m : Nat} {far : Int} {rs : List D} {t : Nat → Int} {ks : List Nat} {Q : D → Prop} (h : NR (m : Int) far rs) (hz : NoNegR rs) (hm : m ≤ 6) (hp : ks.Perm (List.range m)) (hb : ∀ e, e < m → -3 ≤ t e ∧ t e ≤ 3) (q : Q (.bool (rs.all (ruleHold t)))) : f_L_can_be_told C [.tuple [.int (m : Int), .tuple rs], .tuple (ks.map iI), hts m t] Q := by
  have hkm : ∀ i ∈ ks, i < m := fun i hi => List.mem_range.mp (hp.mem_iff.mp hi)
  have hkl : ks.length = m := by rw [hp.length_eq, List.length_range]
  have hknd : ks.Nodup := hp.nodup_iff.mpr List.nodup_range
  have hin := ed_rng h
  have li := @Telling_init_ok C (m : Int) far rs
  rw [Int.toNat_natCast] at li hin
  refine o_L_can_be_told ?_
  unfold t_L_can_be_told
  refine seq_gen fun N hN => ?_
  walk_at "DZ"
  refine li h hz fun W b hW a => ?_
  have hT := hW.tb hz
  subst hN
  refine seq_gen fun N hN => ?_
  generalize hFD : @forD = FD
  unfold dFor
  walk_at "DZ"
  subst hFD
  have nott : ∀ {i : Nat} {e : Nat}, ks[i]? = some e → e ∉ ks.take i := fun {i e} he hm => by
    have hn : (ks.take i ++ ks.drop i).Nodup := by rw [List.take_append_drop]; exact hknd
    have hd : e ∈ ks.drop i := List.mem_of_getElem? (i := 0) (by rw [List.getElem?_drop]; exact he)
    exact (List.nodup_append.mp hn).2.2 e hm e hd rfl
  refine for_inv (fun i env => ∃ x4 : Option Sl, env = [some (.dat (.tuple [.int (m : Int), .tuple rs])), some (.dat (.tuple (ks.map iI))), some (.dat (hts m t)), some (.obj a C (fsT m rs W) (lsT b ((ks.take i).map fun i => (i, t i)))), x4] ∧ fitAll (fun i j => GR.oL gw (W i j)) ((ks.take i).map fun i => (i, t i))) (fun i d env hd hInv M hM => ?_) (fun env hInv => ?_) ⟨_, by rw [List.take_zero]; rfl, fun y hy => by rw [List.take_zero] at hy; exact (nomatch hy)⟩
  · obtain ⟨x4, rfl, hf⟩ := hInv
    rw [List.getElem?_map] at hd
    obtain ⟨e, he, rfl⟩ := Option.map_eq_some_iff.mp hd
    have hem := hkm e (List.mem_of_getElem? he)
    have hbe := hb e hem
    have hil := lt_of_get he
    have htk : ∀ i' ∈ ks.take i, i' < m := fun i' hi' => hkm i' (List.mem_of_mem_take hi')
    have hps : ∀ y ∈ (ks.take i).map (fun i => (i, t i)), y.1 < m := fun y hy => by
      obtain ⟨j, hj, rfl⟩ := List.mem_map.mp hy
      exact htk j hj
    have et : (ks.take (i + 1)).map (fun i => (i, t i)) = (ks.take i).map (fun i => (i, t i)) ++ [(e, t e)] := by
      rw [List.take_add_one, he, List.map_append]
      rfl
    have hat : atI (rowL m fun e => PyData.int (t e)) (e : Int) = some (.int (t e)) := at_rowL _ hem
    unfold iI
    walk_at "DZ"
    refine ⟨⟨rfl, lk_none ["_walks", "_bounds", "_net"] rfl (by decide), lk_none ["_pieces"] rfl (by decide)⟩, ?_⟩
    unfold hts
    dsimp only
    rw [hat]
    dsimp only
    refine tell_okX hm hps (by rw [List.length_map, List.length_take]; omega) hem (by omega) (fun x y hx hy => wn_ord hT hps hf hem hx hy) (fun ⟨y, hy, e2⟩ => ?_) (fun _ hw => ?_) (fun hn hw => ?_)
    · obtain ⟨j, hj, rfl⟩ := List.mem_map.mp hy
      exact absurd hj (by rw [show j = e from e2]; exact nott he)
    · show Q (.bool false)
      have : rs.all (ruleHold t) = false := by
        cases c : rs.all (ruleHold t) with
        | false => rfl
        | true => exact absurd (right_fit hT ((right_iff h t).mpr c) hem htk) hw
      rw [this] at q
      exact q
    · refine hM _ ⟨_, by rw [et]; rfl, ?_⟩
      rw [et]
      exact fit_snoc hT hf hem hw
  · obtain ⟨x4, rfl, hf⟩ := hInv
    rw [List.length_map, List.take_length] at hf ⊢
    have hall : ∀ i, i < m → i ∈ ks := fun i hi => hp.mem_iff.mpr (List.mem_range.mpr hi)
    have hr := fit_right hT hin hall hf
    rw [(right_iff h t).mp hr] at q
    have hps : ∀ y ∈ ks.map (fun i => (i, t i)), y.1 < m := fun y hy => by
      obtain ⟨j, hj, rfl⟩ := List.mem_map.mp hy
      exact hkm j hj
    have hgo := fun R => @heights_ok C m rs W (ks.map fun i => (i, t i)) R hm hps (by rw [List.length_map]; omega)
    have nm := fun (f : Str) (hf : (["_walks", "_bounds", "_net", "_pieces"].all fun g => !(f == g)) = true) => (lk_none (l := fsB m rs W (ks.map fun i => (i, t i))) ["_walks", "_bounds", "_net", "_pieces"] rfl hf)
    show N _
    subst hN
    walk_at "DZ"
    refine ⟨⟨rfl, nm "heights" (by decide)⟩, hgo _ ?_⟩
    have eh : hts m (tW (fun i j => GR.oL gw (W i j)) m (ks.map fun i => (i, t i))) = hts m t := hts_congr fun e he => tW_row hT hf hps (y := (e, t e)) (List.mem_map.mpr ⟨e, hall e he, rfl⟩)
    rw [eh]
    have ok : okN 1 (hts m t) := okN.tup fun d hd => by
      obtain ⟨i, _, rfl⟩ := List.mem_map.mp hd
      exact okN.int _ _
    refine ⟨noLsts_all fun d hd => by obtain ⟨i, _, rfl⟩ := List.mem_map.mp hd; rfl, ok.shaped, ok.shaped, ?_⟩
    rw [eqv_same ok.lay]
    exact q
theorem fold_kK : ∀ (ps kl : List (Nat × Int)), (ps.map fun y => ((y.1 : Int), y.2)).foldl (fun ks y => putI ks y.1 (.int y.2)) (kK kl) = kK (ps.foldl (fun kl y => putN kl y.1 y.2) kl)
  | [], kl => rfl
  | y :: ps, kl => by
    rw [List.map_cons, List.foldl_cons, List.foldl_cons, kK_put]
    exact fold_kK ps _
def iv : D → Int | .int i => i | _ => 0
def tO (d : D) (i : Nat) : Int := match d with | .tuple us => iv (us.getD i .none) | _ => 0
theorem rowT_hts {m : Nat} {y : D} (h : RowT m y) : y = hts m (tO y) ∧ ∀ e, e < m → -3 ≤ tO y e ∧ tO y e ≤ 3 := by
  obtain ⟨ts, rfl, hl, hb⟩ := h
  have key : ∀ e, e < m → ∃ t ∈ ts, ts[e]? = some t ∧ tO (.tuple (ts.map PyData.int)) e = t := fun e he => by
    have hi : e < ts.length := by omega
    refine ⟨ts[e], List.getElem_mem hi, List.getElem?_eq_getElem hi, ?_⟩
    show iv ((ts.map PyData.int).getD e .none) = _
    rw [List.getD_eq_getElem?_getD, List.getElem?_map, List.getElem?_eq_getElem hi]
    rfl
  refine ⟨?_, fun e he => ?_⟩
  · show PyData.tuple (ts.map PyData.int) = .tuple (rowL m fun e => .int (tO (.tuple (ts.map PyData.int)) e))
    congr 1
    refine List.ext_getElem? fun e => ?_
    by_cases he : e < m
    · obtain ⟨t, _, h1, h2⟩ := key e he
      rw [rowL_get _ he, h2, List.getElem?_map, h1]
      rfl
    · rw [List.getElem?_eq_none (by rw [List.length_map]; omega), List.getElem?_eq_none (by rw [rowL_len]; omega)]
  · obtain ⟨t, h0, _, h2⟩ := key e he
    rw [h2]
    exact hb t h0
theorem pure_law (w : World) {C : Addr} : t_law w C { nx := fun _ => False, rt := fun d => d = .bool true } (none :: some .strm :: List.replicate (N_law.length - 2) none) := by
  show t_law w C _ [none, some .strm, none, none, none, none, none, none, none, none, none, none, none]
  unfold t_law
  refine seq_gen fun N hN => ?_
  walk_at "DZ"
  refine ⟨trivial, net_ok (by omega) (by omega) (by omega) (by omega) (by omega) (by omega) fun y hy => ?_⟩
  obtain ⟨n, rs, rfl, n0, n1, hrl, hro, _⟩ := hy
  have nr : NR n 3 rs := ⟨n0, by omega, by omega, by omega, hro⟩
  have lb := @L_bounds_no w n 3 rs
  obtain ⟨m, rfl⟩ : ∃ m : Nat, n = (m : Int) := ⟨n.toNat, by omega⟩
  have hm : m ≤ 3 := by omega
  simp only [Int.toNat_natCast] at lb
  have a0 : atI [PyData.int (m : Int), PyData.tuple rs] 0 = some (.int m) := rfl
  subst hN
  refine seq_gen fun N hN => ?_
  have hC : ∀ x2 x6 x7 x8 x9 x10 : Option Sl, N [none, some .strm, x2, none, none, none, x6, x7, x8, x9, x10, none, none] := by
    clear nr lb a0 hm n0 n1 hrl hro
    intro x2 x6 x7 x8 x9 x10
    subst hN
    refine seq_gen fun N hN => ?_
    walk_at "DZ"
    refine ⟨trivial, net_ok (by omega) (by omega) (by omega) (by omega) (by omega) (by omega) fun y hy => ?_⟩
    obtain ⟨n, rs, rfl, n0, n1, hrl, hro, _⟩ := hy
    have nr : NR n 9 rs := ⟨n0, by omega, by omega, by omega, hro⟩
    have lb := @L_bounds_no w n 9 rs
    have li := @Telling_init_ok C n 9 rs
    have hin := ed_rng nr
    have far := fun T hz (hT : TB n.toNat rs T) i j L (hi : i < n.toNat) hj e => @TB.far n 9 rs T (by omega) nr hz hT i j hi hj L e
    obtain ⟨m, rfl⟩ : ∃ m : Nat, n = (m : Int) := ⟨n.toNat, by omega⟩
    have hm : m ≤ 6 := by omega
    simp only [Int.toNat_natCast] at lb li far hin
    have a0 : atI [PyData.int (m : Int), PyData.tuple rs] 0 = some (.int m) := rfl
    subst hN
    refine seq_gen fun N hN => ?_
    walk_at "DZ"
    refine lb nr (fun hz => ite_t rfl rfl) fun hz T0 d hT0 hd => ?_
    have hdn : isNone d = false := by obtain ⟨kvs, rfl, _⟩ := hd; rfl
    refine ite_f (by rw [hdn]; exact fun z => nomatch z) ?_
    subst hN
    refine seq_gen fun N hN => ?_
    walk_at "DZ"
    refine li nr hz fun W b hW a => ?_
    have hT := hW.tb hz
    have far := fun i j L hi hj => far _ hz hT i j L hi hj
    have nm := fun (f : Str) ps (hf : (["_walks", "_bounds", "_net", "_pieces"].all fun g => !(f == g)) = true) => (lk_none (l := fsB m rs W ps) ["_walks", "_bounds", "_net", "_pieces"] rfl hf)
    subst hN
    refine seq_gen fun N hN => ?_
    refine for_gen fun B hB => ?_
    unfold dFor
    walk_at "DZ"
    rw [a0]
    dsimp only
    refine ⟨trivial, L_order_ok (n := m) (by omega) fun ks hks => ?_⟩
    dsimp only
    have hkm : ∀ i ∈ ks, i < m := fun i hi => List.mem_range.mp (hks.mem_iff.mp hi)
    have hkl : ks.length = m := by rw [hks.length_eq, List.length_range]
    have hknd : ks.Nodup := hks.nodup_iff.mpr List.nodup_range
    refine for_inv (fun i env => ∃ (ps : List (Nat × Int)) (x4 x11 x12 : Option Sl), env = [none, some .strm, some (.dat (.tuple [.int (m : Int), .tuple rs])), some (.obj a C (fsT m rs W) (lsT b ps)), x4, none, x6, x7, x8, x9, x10, x11, x12] ∧ ps.map (·.1) = ks.take i ∧ fitAll (fun i j => GR.oL gw (W i j)) ps ∧ ∀ y ∈ ps, -(60 * (i : Int)) ≤ y.2 ∧ y.2 ≤ 60 * (i : Int)) (fun i d' env hd' hInv M hM => ?_) (fun env hInv => ?_) ⟨[], _, _, _, rfl, by rw [List.take_zero]; rfl, fun y hy => (nomatch hy), fun y hy => (nomatch hy)⟩
    · obtain ⟨ps, x4, x11, x12, rfl, hpk, hf, hbd⟩ := hInv
      rw [List.getElem?_map] at hd'
      obtain ⟨e, he, rfl⟩ := Option.map_eq_some_iff.mp hd'
      have hem := hkm e (List.mem_of_getElem? he)
      have hil := lt_of_get he
      have hpl : ps.length = i := by
        have := congrArg List.length hpk
        rw [List.length_map, List.length_take] at this
        omega
      have hps : ∀ y ∈ ps, y.1 < m := fun y hy => hkm y.1 (List.mem_of_mem_take (i := i) (by rw [← hpk]; exact List.mem_map.mpr ⟨y, hy, rfl⟩))
      have hnew : ∀ y ∈ ps, y.1 ≠ e := fun y hy z => by
        have hm1 : y.1 ∈ ks.take i := by rw [← hpk]; exact List.mem_map.mpr ⟨y, hy, rfl⟩
        have hn : (ks.take i ++ ks.drop i).Nodup := by rw [List.take_append_drop]; exact hknd
        have hd : e ∈ ks.drop i := List.mem_of_getElem? (i := 0) (by rw [List.getElem?_drop]; exact he)
        exact (List.nodup_append.mp hn).2.2 y.1 hm1 e hd z
      have wso := fun R => @windows_ok C m rs W ps R hm hps (by omega)
      have hlo : ∀ l, (wnT (fun i j => GR.oL gw (W i j)) ps e).1 = some l → -(60 * (i : Int) + 45) ≤ l ∧ l ≤ 60 * (i : Int) + 45 := fun l hl => by
        obtain ⟨y, hy, dd, h1, rfl⟩ := lows_mem.mp (mxO_some.mp hl).1
        have := far e y.1 dd hem (hps y hy) h1
        have := hbd y hy
        omega
      have hhi : ∀ l, (wnT (fun i j => GR.oL gw (W i j)) ps e).2 = some l → -(60 * (i : Int) + 45) ≤ l ∧ l ≤ 60 * (i : Int) + 45 := fun l hl => by
        obtain ⟨y, hy, dd, h1, rfl⟩ := highs_mem.mp (mnO_some.mp hl).1
        have := far y.1 e dd (hps y hy) hem h1
        have := hbd y hy
        omega
      have hord := fun x y hx hy => wn_ord hT hps hf hem (a := x) (b := y) hx hy
      have tell : ∀ (t : Int) (Q : Obl → D → Prop), inW (wnT (fun i j => GR.oL gw (W i j)) ps e) t → -500 ≤ t ∧ t ≤ 500 → (∀ d, Q (lsT b (ps ++ [(e, t)])) d) → f_Telling_tell C (fsT m rs W) (lsT b ps) [.int (e : Nat), .int t] Q := fun t Q h1 h2 q => tell_ok hm hps (by omega) hem h2 hnew h1 (q _)
      unfold fsB at wso nm
      unfold iI
      walk_at "DZ"
      subst hB
      refine seq_gen fun N2 hN2 => ?_
      unfold fsT lsT
      walk_at "DZ"
      refine ⟨⟨rfl, nm "windows" ps (by decide)⟩, wso _ ?_⟩
      refine ⟨noLst_wnD _ _ _, ?_⟩
      unfold wnD
      dsimp only
      rw [at_wnD hem]
      unfold wD1
      dsimp only
      refine ⟨rfl, ?_⟩
      generalize hw : wnT (fun i j => GR.oL gw (W i j)) ps e = win at hlo hhi hord tell ⊢
      obtain ⟨lo, hi⟩ := win
      dsimp only at hlo hhi hord ⊢
      unfold fsT lsT at tell
      have fin : ∀ (t : Int) (x11 x12 : Option Sl), inW (lo, hi) t → -(60 * (i : Int) + 60) ≤ t ∧ t ≤ 60 * (i : Int) + 60 → f_Telling_tell C [("_walks", walksD m W), ("_bounds", bT m fun i j => GR.oL gw (W i j)), ("_net", .tuple [.int (m : Int), .tuple rs])] [("_pieces", b, ps.map nN)] [.int (e : Nat), .int t] fun ls' _ => M [none, some .strm, some (.dat (.tuple [.int (m : Int), .tuple rs])), some (.obj a C [("_walks", walksD m W), ("_bounds", bT m fun i j => GR.oL gw (W i j)), ("_net", .tuple [.int (m : Int), .tuple rs])] ls'), some (.dat (.int (e : Nat))), none, x6, x7, x8, x9, x10, x11, x12] := by
        intro t x11 x12 h1 h2
        refine tell t _ h1 (by omega) fun _ => ?_
        refine hM _ ⟨ps ++ [(e, t)], _, _, _, rfl, ?_, fit_snoc hT hf hem (by rw [hw]; exact h1), fun y hy => ?_⟩
        · rw [List.map_append, hpk, List.take_add_one, he]
          rfl
        · rcases List.mem_append.mp hy with hy | hy
          · have := hbd y hy
            omega
          · rw [List.mem_singleton.mp hy]
            show -(60 * ((i + 1 : Nat) : Int)) ≤ t ∧ t ≤ 60 * ((i + 1 : Nat) : Int)
            omega
      cases lo with
      | none =>
        cases hi with
        | none =>
          subst hN2
          refine seq_gen fun N2 hN2 => ?_
          unfold oD
          walk_at "DZ"
          refine ite_f (fun z => nomatch z) (ite_f (fun z => nomatch z) ?_)
          subst hN2
          refine seq_gen fun N2 hN2 => ?_
          walk_at "DZ"
          refine ite_f (fun z => nomatch z) ?_
          refine ite_f (fun z => nomatch z) ⟨trivial, next_mk (by decide) (by decide) fun s0 s00 s01 => ?_⟩
          dsimp only
          subst hN2
          refine seq_gen fun N2 hN2 => ?_
          walk_at "DZ"
          refine ite_f (fun z => nomatch z) ⟨trivial, next_mk (by decide) (by decide) fun s1 s10 s11 => ?_⟩
          dsimp only
          subst hN2
          walk_at "DZ"
          refine ⟨⟨rfl, rfl, rfl⟩, trivial, next_mk (by omega) (by omega) fun s2 s20 s21 => ?_⟩
          exact fin _ _ _ ⟨fun a z => (nomatch z), fun a z => (nomatch z)⟩ (by omega)
        | some h =>
          subst hN2
          refine seq_gen fun N2 hN2 => ?_
          unfold oD
          walk_at "DZ"
          refine ite_f (fun z => nomatch z) (ite_f (fun z => nomatch z) ?_)
          subst hN2
          refine seq_gen fun N2 hN2 => ?_
          walk_at "DZ"
          refine ite_f (fun z => nomatch z) ?_
          have := hhi h rfl
          refine ite_t rfl ⟨trivial, next_mk (by decide) (by decide) fun s0 s00 s01 => ?_⟩
          dsimp only
          subst hN2
          refine seq_gen fun N2 hN2 => ?_
          walk_at "DZ"
          refine ite_t rfl ?_
          subst hN2
          walk_at "DZ"
          refine ⟨⟨rfl, rfl, rfl⟩, trivial, next_mk (by omega) (by omega) fun s2 s20 s21 => ?_⟩
          exact fin _ _ _ ⟨fun a z => (nomatch z), fun a z => by cases z; omega⟩ (by omega)
      | some l =>
        cases hi with
        | none =>
          subst hN2
          refine seq_gen fun N2 hN2 => ?_
          unfold oD
          walk_at "DZ"
          refine ite_t rfl (ite_f (fun z => nomatch z) (ite_f (fun z => nomatch z) ?_))
          subst hN2
          refine seq_gen fun N2 hN2 => ?_
          walk_at "DZ"
          refine ite_t rfl ?_
          subst hN2
          refine seq_gen fun N2 hN2 => ?_
          walk_at "DZ"
          refine ite_f (fun z => nomatch z) ?_
          have := hlo l rfl
          refine ⟨trivial, next_mk (by decide) (by decide) fun s1 s10 s11 => ?_⟩
          dsimp only
          subst hN2
          walk_at "DZ"
          refine ⟨⟨rfl, rfl, rfl⟩, trivial, next_mk (by omega) (by omega) fun s2 s20 s21 => ?_⟩
          exact fin _ _ _ ⟨fun a z => by cases z; omega, fun a z => (nomatch z)⟩ (by omega)
        | some h =>
          have hlh := hord l h rfl rfl
          subst hN2
          refine seq_gen fun N2 hN2 => ?_
          unfold oD
          walk_at "DZ"
          have := hlo l rfl
          have := hhi h rfl
          refine ite_t rfl (ite_t rfl (ite_f (by rw [decide_eq_false (by omega)]; decide) ?_))
          subst hN2
          refine seq_gen fun N2 hN2 => ?_
          walk_at "DZ"
          refine ite_t rfl ?_
          subst hN2
          refine seq_gen fun N2 hN2 => ?_
          walk_at "DZ"
          refine ite_t rfl ?_
          subst hN2
          walk_at "DZ"
          refine ⟨⟨rfl, rfl, rfl⟩, trivial, next_mk (by omega) (by omega) fun s2 s20 s21 => ?_⟩
          exact fin _ _ _ ⟨fun a z => by cases z; omega, fun a z => by cases z; omega⟩ (by omega)
    · obtain ⟨ps, x4, x11, x12, rfl, hpk, hf, hbd⟩ := hInv
      rw [List.length_map, List.take_length] at hpk
      clear hB hbd
      have hps : ∀ y ∈ ps, y.1 < m := fun y hy => hkm y.1 (by rw [← hpk]; exact List.mem_map.mpr ⟨y, hy, rfl⟩)
      have hnd : (ps.map (·.1)).Nodup := by rw [hpk]; exact hknd
      have hpl : ps.length = m := by
        have := congrArg List.length hpk
        rw [List.length_map] at this
        omega
      have hval : ∀ e, e < m → valI (kK ps) (e : Int) = some (.int (tW (fun i j => GR.oL gw (W i j)) m ps e)) := fun e he => by
        have hm1 : e ∈ ps.map (·.1) := by rw [hpk]; exact hks.mem_iff.mpr (List.mem_range.mpr he)
        obtain ⟨y, hy, rfl⟩ := List.mem_map.mp hm1
        rw [kK_val, vN_of_mem hnd hy, tW_row hT hf hps hy]
        rfl
      have hgo := fun R => @heights_ok C m rs W ps R hm hps (by omega)
      have hfk : (ps.map fun y => ((y.1 : Int), y.2)).foldl (fun ks y => putI ks y.1 (.int y.2)) [] = kK ps := by
        have := fold_kK ps []
        rw [show (ps.foldl (fun kl y => putN kl y.1 y.2) []) = ps from rowK_nd hnd] at this
        exact this
      unfold fsB at hgo nm
      show N _
      subst hN
      refine seq_gen fun N hN => ?_
      unfold fsT lsT
      walk_at "DZ"
      refine ⟨⟨rfl, nm "told" ps (by decide)⟩, ps.map (fun y => ((y.1 : Int), y.2)), ?_, ?_⟩
      · rw [List.map_map]
        exact .tail _ (.tail _ (.tail _ (.head _)))
      rw [hfk]
      subst hN
      refine seq_gen fun N hN => ?_
      walk_at "DZ"
      rw [a0]
      dsimp only
      refine ⟨by omega, by omega, by rw [dRange_length]; omega, ?_⟩
      rw [Int.toNat_natCast, rng_nat]
      refine lc_list (l := List.range m) (fun k : Nat => PyData.int (k : Nat)) (fun k => PyData.int (tW (fun i j => GR.oL gw (W i j)) m ps k)) (fun _ => true) (fun k hk R N' r1 _ => ?_) ?_
      · have hk := List.mem_range.mp hk
        walk_at "DZ"
        refine ite_t rfl ?_
        rw [hval k hk]
        exact r1 rfl
      rw [show (List.range m).filter (fun _ => true) = List.range m from List.filter_eq_self.mpr fun _ _ => rfl]
      have er : (PyData.tuple ((List.range m).map fun k => PyData.int (tW (fun i j => GR.oL gw (W i j)) m ps k)) : D) = hts m (tW (fun i j => GR.oL gw (W i j)) m ps) := rfl
      rw [er]
      have hr : RightH rs (tW (fun i j => GR.oL gw (W i j)) m ps) := tW_right hT hin hf hps
      subst hN
      walk_at "DZ"
      refine ⟨⟨rfl, nm "heights" ps (by decide)⟩, hgo _ ?_⟩
      have ok : okN 1 (hts m (tW (fun i j => GR.oL gw (W i j)) m ps)) := okN.tup fun d hd => by
        obtain ⟨i, _, rfl⟩ := List.mem_map.mp hd
        exact okN.int _ _
      refine ⟨noLsts_all fun d hd => by obtain ⟨i, _, rfl⟩ := List.mem_map.mp hd; rfl, ok.shaped, ok.shaped, ite_t (eqv_same ok.lay) ?_⟩
      refine L_holds_ok nr ?_
      rw [(right_iff nr _).mp hr]
  refine ifs_gen fun A1 A2 hA1 hA2 => ?_
  walk_at "DZ"
  refine lb nr (fun hz => ?_) fun hz T0 d hT0 hd => ?_
  · refine ite_f (by decide) ?_
    subst hA2
    walk_at "DZ"
    exact hC _ _ _ _ _ _
  · have hdn : isNone d = false := by obtain ⟨kvs, rfl, _⟩ := hd; rfl
    refine ite_t (by rw [hdn]; rfl) ?_
    subst hA1
    refine seq_gen fun N2 hN2 => ?_
    walk_at "DZ"
    rw [a0]
    dsimp only
    refine ⟨trivial, L_order_ok (n := m) (by omega) fun ks hks => ?_⟩
    subst hN2
    refine seq_gen fun N2 hN2 => ?_
    walk_at "DZ"
    rw [a0]
    dsimp only
    refine all_times_ok (by omega) (by omega) fun ys hyl hyp hys => ?_
    rw [Int.toNat_natCast] at hys
    subst hN2
    refine seq_gen fun N2 hN2 => ?_
    walk_at "DZ"
    rw [← List.map_id ys]
    refine ⟨by rw [List.length_map]; omega, ?_⟩
    refine lc_list (l := ys) id id (fun y => rs.all (ruleHold (tO y))) (fun y hy R N' r1 r2 => ?_) ?_
    · obtain ⟨ey, hyb⟩ := rowT_hts (hys y hy)
      walk_at "DZ"
      show f_L_holds [_, y] _
      have lh := @L_holds_ok m 3 rs (tO y)
      rw [← ey] at lh
      refine lh nr ?_
      dsimp only
      cases c : rs.all (ruleHold (tO y)) with
      | true => exact ite_t rfl (r1 c)
      | false => exact ite_f (fun z => nomatch z) (r2 c)
    rw [List.map_id, List.map_id]
    have hkept : ∀ y ∈ ys.filter (fun y => rs.all (ruleHold (tO y))), y ∈ ys := fun y hy => (List.mem_filter.mp hy).1
    have hkl : (ys.filter (fun y => rs.all (ruleHold (tO y)))).length ≤ ys.length := List.length_filter_le _ _
    generalize ys.filter (fun y => rs.all (ruleHold (tO y))) = kept at hkept hkl ⊢
    subst hN2
    refine for_gen fun B hB => ?_
    unfold dFor
    walk_at "DZ"
    refine ⟨by decide, by decide, ?_⟩
    refine for_inv (fun i env => ∃ x6 x10 : Option Sl, env = [none, some .strm, some (.dat (.tuple [.int (m : Int), .tuple rs])), none, none, none, x6, some (.dat (.tuple (ks.map iI))), some (.dat (.list ys)), some (.dat (.list kept)), x10, none, none]) (fun i d' env hd' hInv M hM => ?_) (fun env hInv => ?_) ⟨_, _, rfl⟩
    · obtain ⟨x6, x10, rfl⟩ := hInv
      obtain ⟨k, hk, rfl⟩ := mem_dRange (List.mem_of_getElem? hd')
      walk_at "DZ"
      subst hB
      refine seq_gen fun N2 hN2 => ?_
      have go : ∀ y ∈ ys, N2 [none, some .strm, some (.dat (.tuple [.int (m : Int), .tuple rs])), none, none, none, some (.dat y), some (.dat (.tuple (ks.map iI))), some (.dat (.list ys)), some (.dat (.list kept)), some (.dat (.int (0 + (k : Int)))), none, none] := by
        intro y hy
        obtain ⟨ey, hyb⟩ := rowT_hts (hys y hy)
        have lh := @L_holds_ok m 3 rs (tO y)
        have lc := @L_can_be_told_ok C m 3 rs (tO y) ks
        rw [← ey] at lh lc
        subst hN2
        walk_at "DZ"
        refine lc nr hz (by omega) hks hyb ?_
        refine lh nr ?_
        refine ⟨shaped_bool _, shaped_bool _, ite_f (by rw [eqv_same rfl]; decide) ?_⟩
        exact hM _ ⟨_, _, rfl⟩
      walk_at "DZ"
      have py := pick_ok (ds := ys) (Q := fun d => N2 [none, some .strm, some (.dat (.tuple [.int (m : Int), .tuple rs])), none, none, none, some (.dat d), some (.dat (.tuple (ks.map iI))), some (.dat (.list ys)), some (.dat (.list kept)), some (.dat (.int (0 + (k : Int)))), none, none]) (fun z => by rw [z] at hyp; exact absurd hyp (by decide)) (by omega) go
      refine ⟨trivial, ?_⟩
      cases hke : kept.isEmpty with
      | true => exact ite_f (fun z => nomatch z) (ite_f (fun z => nomatch z) py)
      | false =>
        refine ite_t rfl ?_
        by_cases c6 : 0 + (k : Int) < 6
        · refine ite_t (decide_eq_true c6) ?_
          exact pick_ok (fun z => by rw [z] at hke; cases hke) (by omega) fun y hy => go y (hkept y hy)
        · exact ite_f (by rw [decide_eq_false c6]; decide) py
    · obtain ⟨x6, x10, rfl⟩ := hInv
      exact hC _ _ _ _ _ _
structure Txt (mg : Str → Option Value) : Prop where
  b_abs : mg "abs" = none
  b_all : mg "all" = none
  b_any : mg "any" = none
  b_bool : mg "bool" = none
  b_dict : mg "dict" = none
  b_enumerate : mg "enumerate" = none
  b_int : mg "int" = none
  b_isinstance : mg "isinstance" = none
  b_len : mg "len" = none
  b_list : mg "list" = none
  b_max : mg "max" = none
  b_min : mg "min" = none
  b_range : mg "range" = none
  b_sorted : mg "sorted" = none
  b_str : mg "str" = none
  b_tuple : mg "tuple" = none
  c_GREATEST_NEWS_TIME : ∃ t, mg "GREATEST_NEWS_TIME" = some (.int 500 t)
  c_GREATEST_SIDE : ∃ t, mg "GREATEST_SIDE" = some (.int 100 t)
  c_MOST_EVENTS : ∃ t, mg "MOST_EVENTS" = some (.int 6 t)
  c_MOST_RULES : ∃ t, mg "MOST_RULES" = some (.int 12 t)
section
variable {P : Program} {w : World} {K : PySem.W.Frag} {mg : Str → Option Value} {base : Heap}
theorem fx_L_stream (d : Df K mg "_law_stream" (top 38)) (T : Txt mg)  : Fx P w K mg base 1 "_law_stream" ["script"] (spStream K) :=
  fx_stream d sc_L_stream bb_L_stream (fun f cdv A outer s H Q E hr => pss_one (ps_ret (pe_lst (pa_cons (pe_callTy call_list_of (by rfl) T.b_list bt_list (pa_cons (pv 0) pa_nil)) (pa_cons pe_int (pa_cons pe_int pa_nil))))))
theorem fx_L_next (d : Df K mg "_law_next" (top 39)) (T : Txt mg)  : Fx P w K mg base 1 "_law_next" ["stream", "many"] (spS K 1 f_next) :=
  fx_next d sc_L_next bb_L_next (fun f cdv A outer s H Q E hr => (pss_cons (ps_if (pt_cmpR op_eq (pe_ix ix_list (pv 0) pe_int (fun _ _ => rfl)) pe_int (nomark _))
   (pss_cons (ps_set (i := 2) sc_L_next.nd rfl (.inl rfl) (pe_ix ix_list (pv 0) pe_int (fun _ _ => rfl)))
   (pss_cons (ps_set (i := 3) sc_L_next.nd rfl (.inl rfl) (pe_op op_add pe_int (pv 2)))
   (pss_cons (ps_if (pt_cmpR op_lt (pv 2) (pe_callB call_len_seq (by rfl) T.b_len PySem.boot_len (pa_cons (pe_ix ix_list (pv 0) pe_int (fun _ _ => rfl)) pa_nil)) (nomark _))
     (pss_one (ps_set (i := 3) sc_L_next.nd rfl (.inl rfl) (pe_callB call_abs (by rfl) T.b_abs bt_abs (pa_cons (pe_ix ix_list (pe_ix ix_list (pv 0) pe_int (fun _ _ => rfl)) (pv 2) (fun _ _ => rfl)) pa_nil)))) pss_nil)
   (pss_cons (ps_if (pt_cmpR op_lt (pv 3) (pe_op op_pow pe_int pe_int) (nomark _))
     (pss_cons (ps_set (i := 3) sc_L_next.nd rfl (.inl rfl) (pe_op op_mod (pe_callTy call_int1 (by rfl) T.b_int bt_int (pa_cons (pe_op op_add (pe_op op_add (pe_op op_mul (pv 3) pe_int) (pe_op op_mul (pv 2) pe_int)) pe_int) pa_nil)) pe_int))
     (pss_one (ps_set (i := 3) sc_L_next.nd rfl (.inl rfl) (pe_op op_add (pe_op op_mul (pe_op op_mod (pe_callTy call_int1 (by rfl) T.b_int bt_int (pa_cons (pe_op op_add (pe_op op_mul (pv 3) pe_int) pe_int) pa_nil)) pe_int) pe_int) (pv 3))))) pss_nil)
   (pss_cons (ps_asg (pv 3) (pg_sub (pv 0) pe_int set_list)) (pss_one (ps_asg (pe_op op_add (pv 2) pe_int) (pg_sub (pv 0) pe_int set_list)))))))) pss_nil)
   (pss_cons (ps_set (i := 4) sc_L_next.nd rfl (.inl rfl) (pe_op op_mod (pe_callTy call_int1 (by rfl) T.b_int bt_int (pa_cons (pe_ix ix_list (pv 0) pe_int (fun _ _ => rfl)) pa_nil)) (pv 1)))
   (pss_cons (ps_asg (pe_op op_fdiv (pe_ix ix_list (pv 0) pe_int (fun _ _ => rfl)) (pv 1)) (pg_sub (pv 0) pe_int set_list)) (pss_one (ps_ret (pv 4)))))))
theorem fx_L_pick (d : Df K mg "_law_pick" (top 40)) (T : Txt mg) (G_L_next : Fx P w K mg base 1 "_law_next" ["stream", "many"] (spS K 1 f_next)) : Fx P w K mg base 2 "_law_pick" ["stream", "rows"] (spS K 1 f_L_pick) :=
  fx_ofS d sc_L_pick bb_L_pick rfl (by decide) fun f cdv A outer s H Q E hr => ⟨_,
  (pss_one (ps_ret (pe_ix ix_seq (pv 1) (pe_fx G_L_next (hr.mono (by decide)) (by rfl) (pa_cons (pv 0) (pa_cons (pe_callB call_len_seq (by rfl) T.b_len PySem.boot_len (pa_cons (pv 1) pa_nil)) pa_nil))) (fun _ _ => rfl)))),
  (ss_ret (se_op s2_ix (se_var 1) (se_callS 0 (sa_cons (se_cb sc_len (sa_cons (se_var 1) sa_nil)) sa_nil))))⟩
theorem fx_L_rule (d : Df K mg "_law_rule" (top 42)) (T : Txt mg) (G_L_next : Fx P w K mg base 1 "_law_next" ["stream", "many"] (spS K 1 f_next)) (G_L_pick : Fx P w K mg base 2 "_law_pick" ["stream", "rows"] (spS K 1 f_L_pick)) : Fx P w K mg base 3 "_law_rule" ["stream", "size", "far"] (spS K 2 f_L_rule) :=
  fx_ofS d sc_L_rule bb_L_rule rfl (by decide) fun f cdv A outer s H Q E hr => ⟨_,
  (pss_cons (ps_set (i := 3) sc_L_rule.nd rfl (by first | exact .inl rfl | exact .inr rfl) (pe_fx G_L_next (hr.mono (by decide)) (by rfl) (pa_cons (pv 0) (pa_cons (pv 1) pa_nil))))
  (pss_cons (ps_set (i := 4) sc_L_rule.nd rfl (by first | exact .inl rfl | exact .inr rfl) (pe_fx G_L_pick (hr.mono (by decide)) (by rfl) (pa_cons (pv 0) (pa_cons (pe_lc (own := [("event", 7)]) (g := (gName 7)) rfl sc_L_rule.nd (pi_range1 (by rfl) T.b_range (pa_cons (pv 1) pa_nil)) (blkOk_by (own := [("event", 7)]) (N := N_L_rule) (sc := defScope (top 42)) (by decide +kernel)) (fun _ _ _ _ _ => (pg_name (i := 7) sc_L_rule.nd rfl (by first | exact .inl rfl | exact .inr rfl))) (fun _ _ _ _ _ => (pts_one (pt_cmpR (op_neD hr.units) (pv 7) (pv 3) (nomark _)))) (fun _ _ _ _ _ => (pv 7))) pa_nil))))
  (pss_cons (ps_set (i := 5) sc_L_rule.nd rfl (by first | exact .inl rfl | exact .inr rfl) (pe_lst (pa_cons (pe_op op_sub (pe_fx G_L_next (hr.mono (by decide)) (by rfl) (pa_cons (pv 0) (pa_cons (pe_op op_addA (pe_op op_mulA pe_int (pv 2)) pe_int) pa_nil))) (pv 2)) (pa_cons (pe_op op_sub (pe_fx G_L_next (hr.mono (by decide)) (by rfl) (pa_cons (pv 0) (pa_cons (pe_op op_addA (pe_op op_mulA pe_int (pv 2)) pe_int) pa_nil))) (pv 2)) pa_nil))))
  (pss_cons (ps_if (pt_cmpR op_gt (pe_fx G_L_next (hr.mono (by decide)) (by rfl) (pa_cons (pv 0) (pa_cons pe_int pa_nil))) pe_int (nomark _))
  (pss_one (ps_set (i := 5) sc_L_rule.nd rfl (by first | exact .inl rfl | exact .inr rfl) (pe_callB cr_sorted (by rfl) T.b_sorted bt_sorted (pa_cons (pv 5) pa_nil))))
  pss_nil)
  (pss_cons (ps_set (i := 6) sc_L_rule.nd rfl (by first | exact .inl rfl | exact .inr rfl) (pe_fx G_L_next (hr.mono (by decide)) (by rfl) (pa_cons (pv 0) (pa_cons pe_int pa_nil))))
  (pss_cons (ps_if (pt_cmpR op_lt (pv 6) pe_int (nomark _))
  (pss_one (ps_asg pe_non (pg_sub (pv 5) (pv 6) set_list)))
  pss_nil)
  (pss_one (ps_ret (pe_tup (pa_cons (pv 3) (pa_cons (pv 4) (pa_cons (pe_ix ix_seq (pv 5) pe_int (fun _ _ => rfl)) (pa_cons (pe_ix ix_seq (pv 5) pe_int (fun _ _ => rfl)) pa_nil))))))))))))),
  (ss_seq (ss_set (i := 3) (se_callS 0 (sa_cons (se_var 1) sa_nil)))
  (ss_seq (ss_set (i := 4) (se_callS 0 (sa_cons (se_own (so_lc (vs := [7]) (si_range1 (sa_cons (se_var 1) sa_nil)) (sg_name 7) (st_test (se_op s2_ne (se_var 7) (se_var 3))) (se_var 7))) sa_nil)))
  (ss_seq (ss_asgO (so_lst (sa_cons (se_op s2_sub (se_callS 0 (sa_cons (se_op s2_add (se_op s2_mul se_int (se_var 2)) se_int) sa_nil)) (se_var 2)) (sa_cons (se_op s2_sub (se_callS 0 (sa_cons (se_op s2_add (se_op s2_mul se_int (se_var 2)) se_int) sa_nil)) (se_var 2)) sa_nil))))
  (ss_seq (ss_if (st_test (se_op s2_gt (se_callS 0 (sa_cons se_int sa_nil)) se_int))
  (ss_frz 5 (ss_asgO (so_cb sc_sorted (sa_cons (se_var 5) sa_nil))))
  ss_next)
  (ss_seq (ss_set (i := 6) (se_callS 0 (sa_cons se_int sa_nil)))
  (ss_seq (ss_if (st_test (se_op s2_lt (se_var 6) se_int))
  (ss_setIx 5 se_non (se_var 6))
  ss_next)
  (ss_ret (se_tup (sa_cons (se_var 3) (sa_cons (se_var 4) (sa_cons (se_oIx 5 se_int) (sa_cons (se_oIx 5 se_int) sa_nil))))))))))))⟩
theorem fx_L_net (d : Df K mg "_law_net" (top 43)) (T : Txt mg) (G_L_next : Fx P w K mg base 1 "_law_next" ["stream", "many"] (spS K 1 f_next)) (G_L_rule : Fx P w K mg base 3 "_law_rule" ["stream", "size", "far"] (spS K 2 f_L_rule)) : Fx P w K mg base 4 "_law_net" ["stream", "most", "many", "far"] (spS K 3 f_L_net) :=
  fx_ofS d sc_L_net bb_L_net rfl (by decide) fun f cdv A outer s H Q E hr => ⟨_,
  (pss_cons (ps_set (i := 4) sc_L_net.nd rfl (by first | exact .inl rfl | exact .inr rfl) (pe_op op_addA pe_int (pe_fx G_L_next (hr.mono (by decide)) (by rfl) (pa_cons (pv 0) (pa_cons (pv 1) pa_nil)))))
  (pss_cons (ps_set (i := 5) sc_L_net.nd rfl (by first | exact .inl rfl | exact .inr rfl) (pe_ifExp (pt_cmpR op_gt (pv 4) pe_int (nomark _)) (pe_fx G_L_next (hr.mono (by decide)) (by rfl) (pa_cons (pv 0) (pa_cons (pe_op op_addA (pv 2) pe_int) pa_nil))) pe_int))
  (pss_one (ps_ret (pe_tup (pa_cons (pv 4) (pa_cons (pe_callTy call_tuple_of (by rfl) T.b_tuple bt_tuple (pa_cons (pe_lc (own := [("k", 6)]) (g := (gName 6)) rfl sc_L_net.nd (pi_range1 (by rfl) T.b_range (pa_cons (pv 5) pa_nil)) (blkOk_by (own := [("k", 6)]) (N := N_L_net) (sc := defScope (top 43)) (by decide +kernel)) (fun _ _ _ _ _ => (pg_name (i := 6) sc_L_net.nd rfl (by first | exact .inl rfl | exact .inr rfl))) (fun _ _ _ _ _ => pts_nil) (fun _ _ _ _ _ => (pe_fx G_L_rule (hr.mono (by decide)) (by rfl) (pa_cons (pv 0) (pa_cons (pv 4) (pa_cons (pv 3) pa_nil)))))) pa_nil)) pa_nil))))))),
  (ss_seq (ss_set (i := 4) (se_op s2_add se_int (se_callS 0 (sa_cons (se_var 1) sa_nil))))
  (ss_seq (ss_set (i := 5) (se_if (st_test (se_op s2_gt (se_var 4) se_int)) (se_callS 0 (sa_cons (se_op s2_add (se_var 2) se_int) sa_nil)) se_int))
  (ss_ret (se_tup (sa_cons (se_var 4) (sa_cons (se_cb sc_tuple (sa_cons (se_own (so_lc (vs := [6]) (si_range1 (sa_cons (se_var 5) sa_nil)) (sg_name 6) st_yes (se_callS 0 (sa_cons (se_var 4) (sa_cons (se_var 3) sa_nil))))) sa_nil)) sa_nil))))))⟩
theorem fx_is_whole (d : Df K mg "is_whole" (top 9)) (T : Txt mg)  : Fx P w K mg base 1 "is_whole" ["value"] (spD K 1 f_is_whole) :=
  fx_of d sc_is_whole bb_is_whole rfl fun f cdv A outer s H Q E hr => ⟨_,
  (pss_one (ps_ret (pe_and (pe_callB call_isi2 (by rfl) T.b_isinstance bt_isi (pa_cons (pv 0) (pa_cons (pe_bltn (v := .ty "int") (by rfl) T.b_int bt_int rfl) pa_nil))) (pe_one (pe_not (pe_callB call_isi2 (by rfl) T.b_isinstance bt_isi (pa_cons (pv 0) (pa_cons (pe_bltn (v := .ty "bool") (by rfl) T.b_bool bt_bool rfl) pa_nil)))))))),
  (ss_ret (se_and (se_isi ty_int (se_var 0)) (se_not (se_isi ty_bool (se_var 0)))))⟩
theorem fx_is_integer (d : Df K mg "is_integer" (top 10)) (T : Txt mg) (G_is_whole : Fx P w K mg base 1 "is_whole" ["value"] (spD K 1 f_is_whole)) : Fx P w K mg base 2 "is_integer" ["value", "least", "greatest"] (spD K 3 f_is_integer) :=
  fx_of d sc_is_integer bb_is_integer rfl fun f cdv A outer s H Q E hr => ⟨_,
  (pss_one (ps_ret (pe_and (pe_fx G_is_whole (hr.mono (by decide)) (by rfl) (pa_cons (pv 0) pa_nil)) (pe_one (pe_chain op_le op_le (pv 1) (pv 0) (pv 2)))))),
  (ss_ret (se_and (se_call (sa_cons (se_var 0) sa_nil)) (se_chain s2_le s2_le (se_var 1) (se_var 0) (se_var 2))))⟩
theorem fx_is_side (d : Df K mg "is_side" (top 12)) (T : Txt mg) (G_is_integer : Fx P w K mg base 2 "is_integer" ["value", "least", "greatest"] (spD K 3 f_is_integer)) : Fx P w K mg base 3 "is_side" ["value"] (spD K 1 f_is_side) :=
  fx_of d sc_is_side bb_is_side rfl fun f cdv A outer s H Q E hr => ⟨_,
  (pss_one (ps_ret (pe_or (pe_cmpR op_isN (pv 0) pe_non (nomark _)) (pe_one (pe_fx G_is_integer (hr.mono (by decide)) (by rfl) (pa_cons (pv 0) (pa_cons (pe_un un_neg (pe_gint T.c_GREATEST_SIDE (by rfl))) (pa_cons (pe_gint T.c_GREATEST_SIDE (by rfl)) pa_nil)))))))),
  (ss_ret (se_or (se_op s2_isN (se_var 0) se_non) (se_call (sa_cons (se_var 0) (sa_cons (se_un s1_neg se_int) (sa_cons se_int sa_nil))))))⟩
theorem fx_is_event (d : Df K mg "is_event" (top 11)) (T : Txt mg) (G_is_integer : Fx P w K mg base 2 "is_integer" ["value", "least", "greatest"] (spD K 3 f_is_integer)) : Fx P w K mg base 3 "is_event" ["value", "size"] (spD K 2 f_is_event) :=
  fx_of d sc_is_event bb_is_event rfl fun f cdv A outer s H Q E hr => ⟨_,
  (pss_one (ps_ret (pe_fx G_is_integer (hr.mono (by decide)) (by rfl) (pa_cons (pv 0) (pa_cons pe_int (pa_cons (pe_op op_sub (pv 1) pe_int) pa_nil)))))),
  (ss_ret (se_call (sa_cons (se_var 0) (sa_cons se_int (sa_cons (se_op s2_sub (se_var 1) se_int) sa_nil)))))⟩
theorem fx_is_rule (d : Df K mg "is_rule" (top 13)) (T : Txt mg) (G_is_side : Fx P w K mg base 3 "is_side" ["value"] (spD K 1 f_is_side)) (G_is_event : Fx P w K mg base 3 "is_event" ["value", "size"] (spD K 2 f_is_event)) : Fx P w K mg base 4 "is_rule" ["value", "size"] (spD K 2 f_is_rule) :=
  fx_of d sc_is_rule bb_is_rule rfl fun f cdv A outer s H Q E hr => ⟨_,
  (pss_cons (ps_if (PW.pt (pw_or (pt_not (pt_truth (pe_callB call_isi2 (by rfl) T.b_isinstance bt_isi (pa_cons (pv 0) (pa_cons (pe_bltn (v := .ty "tuple") (by rfl) T.b_tuple bt_tuple rfl) pa_nil))) (by intro _; rfl))) (pw_or1 (pt_cmpR (op_neD hr.units) (pe_callB call_len_seq (by rfl) T.b_len PySem.boot_len (pa_cons (pv 0) pa_nil)) pe_int (nomark _)))))
  (pss_one (ps_ret pe_bl))
  pss_nil)
  (pss_cons (ps_asg (pv 0) (pg_sq rfl (pgs_cons (pg_name (i := 2) sc_is_rule.nd rfl (by first | exact .inl rfl | exact .inr rfl)) (pgs_cons (pg_name (i := 3) sc_is_rule.nd rfl (by first | exact .inl rfl | exact .inr rfl)) (pgs_cons (pg_name (i := 4) sc_is_rule.nd rfl (by first | exact .inl rfl | exact .inr rfl)) (pgs_cons (pg_name (i := 5) sc_is_rule.nd rfl (by first | exact .inl rfl | exact .inr rfl)) pgs_nil))))))
  (pss_cons (ps_if (PW.pt (pw_or (pt_not (pt_truth (pe_fx G_is_event (hr.mono (by decide)) (by rfl) (pa_cons (pv 2) (pa_cons (pv 1) pa_nil))) (by intro _; rfl))) (pw_or (pt_not (pt_truth (pe_fx G_is_event (hr.mono (by decide)) (by rfl) (pa_cons (pv 3) (pa_cons (pv 1) pa_nil))) (by intro _; rfl))) (pw_or1 (pt_cmpR (op_eqD hr.units) (pv 2) (pv 3) (nomark _))))))
  (pss_one (ps_ret pe_bl))
  pss_nil)
  (pss_cons (ps_if (PW.pt (pw_and (pt_cmpR op_isN (pv 4) pe_non (nomark _)) (pw_and1 (pt_cmpR op_isN (pv 5) pe_non (nomark _)))))
  (pss_one (ps_ret pe_bl))
  pss_nil)
  (pss_one (ps_ret (pe_and (pe_fx G_is_side (hr.mono (by decide)) (by rfl) (pa_cons (pv 4) pa_nil)) (pe_one (pe_fx G_is_side (hr.mono (by decide)) (by rfl) (pa_cons (pv 5) pa_nil)))))))))),
  (ss_seq (ss_if (st_or (st_not (st_truth (se_isi ty_tuple (se_var 0)))) (st_test (se_op s2_ne (se_cb sc_len (sa_cons (se_var 0) sa_nil)) se_int)))
  (ss_ret se_bl)
  ss_next)
  (ss_seq (ss_asg (vs := [2, 3, 4, 5]) (se_var 0) (sg_tup (sgs_cons (sg_name 2) (sgs_cons (sg_name 3) (sgs_cons (sg_name 4) (sgs_cons (sg_name 5) sgs_nil))))))
  (ss_seq (ss_if (st_or (st_not (st_truth (se_call (sa_cons (se_var 2) (sa_cons (se_var 1) sa_nil))))) (st_or (st_not (st_truth (se_call (sa_cons (se_var 3) (sa_cons (se_var 1) sa_nil))))) (st_test (se_op s2_eq (se_var 2) (se_var 3)))))
  (ss_ret se_bl)
  ss_next)
  (ss_seq (ss_if (st_and (st_test (se_op s2_isN (se_var 4) se_non)) (st_test (se_op s2_isN (se_var 5) se_non)))
  (ss_ret se_bl)
  ss_next)
  (ss_ret (se_and (se_call (sa_cons (se_var 4) sa_nil)) (se_call (sa_cons (se_var 5) sa_nil))))))))⟩
theorem fx_is_net (d : Df K mg "is_net" (top 14)) (T : Txt mg) (G_is_integer : Fx P w K mg base 2 "is_integer" ["value", "least", "greatest"] (spD K 3 f_is_integer)) (G_is_rule : Fx P w K mg base 4 "is_rule" ["value", "size"] (spD K 2 f_is_rule)) : Fx P w K mg base 5 "is_net" ["value"] (spD K 1 f_is_net) :=
  fx_of d sc_is_net bb_is_net rfl fun f cdv A outer s H Q E hr => ⟨_,
  (pss_cons (ps_if (PW.pt (pw_or (pt_not (pt_truth (pe_callB call_isi2 (by rfl) T.b_isinstance bt_isi (pa_cons (pv 0) (pa_cons (pe_bltn (v := .ty "tuple") (by rfl) T.b_tuple bt_tuple rfl) pa_nil))) (by intro _; rfl))) (pw_or1 (pt_cmpR (op_neD hr.units) (pe_callB call_len_seq (by rfl) T.b_len PySem.boot_len (pa_cons (pv 0) pa_nil)) pe_int (nomark _)))))
  (pss_one (ps_ret pe_bl))
  pss_nil)
  (pss_cons (ps_asg (pv 0) (pg_sq rfl (pgs_cons (pg_name (i := 1) sc_is_net.nd rfl (by first | exact .inl rfl | exact .inr rfl)) (pgs_cons (pg_name (i := 2) sc_is_net.nd rfl (by first | exact .inl rfl | exact .inr rfl)) pgs_nil))))
  (pss_cons (ps_if (pt_not (pt_truth (pe_fx G_is_integer (hr.mono (by decide)) (by rfl) (pa_cons (pv 1) (pa_cons pe_int (pa_cons (pe_gint T.c_MOST_EVENTS (by rfl)) pa_nil)))) (by intro _; rfl)))
  (pss_one (ps_ret pe_bl))
  pss_nil)
  (pss_cons (ps_if (PW.pt (pw_or (pt_not (pt_truth (pe_callB call_isi2 (by rfl) T.b_isinstance bt_isi (pa_cons (pv 2) (pa_cons (pe_bltn (v := .ty "tuple") (by rfl) T.b_tuple bt_tuple rfl) pa_nil))) (by intro _; rfl))) (pw_or1 (pt_cmpR op_gt (pe_callB call_len_seq (by rfl) T.b_len PySem.boot_len (pa_cons (pv 2) pa_nil)) (pe_gint T.c_MOST_RULES (by rfl)) (nomark _)))))
  (pss_one (ps_ret pe_bl))
  pss_nil)
  (pss_one (ps_ret (pe_callB (cr_all rfl) (by rfl) T.b_all bt_all (pa_cons (pe_lc (own := [("rule", 3)]) (g := (gName 3)) rfl sc_is_net.nd (pi_seq (pv 2)) (blkOk_by (own := [("rule", 3)]) (N := N_is_net) (sc := defScope (top 14)) (by decide +kernel)) (fun _ _ _ _ _ => (pg_name (i := 3) sc_is_net.nd rfl (by first | exact .inl rfl | exact .inr rfl))) (fun _ _ _ _ _ => pts_nil) (fun _ _ _ _ _ => (pe_fx G_is_rule (hr.mono (by decide)) (by rfl) (pa_cons (pv 3) (pa_cons (pv 1) pa_nil))))) pa_nil)))))))),
  (ss_seq (ss_if (st_or (st_not (st_truth (se_isi ty_tuple (se_var 0)))) (st_test (se_op s2_ne (se_cb sc_len (sa_cons (se_var 0) sa_nil)) se_int)))
  (ss_ret se_bl)
  ss_next)
  (ss_seq (ss_asg (vs := [1, 2]) (se_var 0) (sg_tup (sgs_cons (sg_name 1) (sgs_cons (sg_name 2) sgs_nil))))
  (ss_seq (ss_if (st_not (st_truth (se_call (sa_cons (se_var 1) (sa_cons se_int (sa_cons se_int sa_nil))))))
  (ss_ret se_bl)
  ss_next)
  (ss_seq (ss_if (st_or (st_not (st_truth (se_isi ty_tuple (se_var 2)))) (st_test (se_op s2_gt (se_cb sc_len (sa_cons (se_var 2) sa_nil)) se_int)))
  (ss_ret se_bl)
  ss_next)
  (ss_ret (se_cb sc_all (sa_cons (se_own (so_lc (vs := [3]) (si_seq (se_var 2)) (sg_name 3) st_yes (se_call (sa_cons (se_var 3) (sa_cons (se_var 1) sa_nil))))) sa_nil)))))))⟩
theorem fx_check_net (d : Df K mg "check_net" (top 15)) (T : Txt mg) (G_is_net : Fx P w K mg base 5 "is_net" ["value"] (spD K 1 f_is_net)) : Fx P w K mg base 6 "check_net" ["net"] (spD K 1 f_check_net) :=
  fx_of d sc_check_net bb_check_net rfl fun f cdv A outer s H Q E hr => ⟨_,
  (pss_one (ps_if (pt_not (pt_truth (pe_fx G_is_net (hr.mono (by decide)) (by rfl) (pa_cons (pv 0) pa_nil)) (by intro _; rfl)))
  (pss_one ps_never)
  pss_nil)),
  (ss_if (st_not (st_truth (se_call (sa_cons (se_var 0) sa_nil))))
  ss_never
  ss_next)⟩
theorem fx_edge_course (d : Df K mg "edge_course" (top 17)) (T : Txt mg) (G_is_integer : Fx P w K mg base 2 "is_integer" ["value", "least", "greatest"] (spD K 3 f_is_integer)) : Fx P w K mg base 3 "edge_course" ["net", "value"] (spD K 2 f_edge_course) :=
  fx_of d sc_edge_course bb_edge_course rfl fun f cdv A outer s H Q E hr => ⟨_,
  (pss_cons (ps_if (PW.pt (pw_or (pt_not (pt_truth (pe_callB call_isi2 (by rfl) T.b_isinstance bt_isi (pa_cons (pv 1) (pa_cons (pe_bltn (v := .ty "tuple") (by rfl) T.b_tuple bt_tuple rfl) pa_nil))) (by intro _; rfl))) (pw_or1 (pt_cmpR (op_neD hr.units) (pe_callB call_len_seq (by rfl) T.b_len PySem.boot_len (pa_cons (pv 1) pa_nil)) pe_int (nomark _)))))
  (pss_one (ps_ret pe_non))
  pss_nil)
  (pss_cons (ps_asg (pv 1) (pg_sq rfl (pgs_cons (pg_name (i := 2) sc_edge_course.nd rfl (by first | exact .inl rfl | exact .inr rfl)) (pgs_cons (pg_name (i := 3) sc_edge_course.nd rfl (by first | exact .inl rfl | exact .inr rfl)) pgs_nil))))
  (pss_cons (ps_if (PW.pt (pw_or (pt_not (pt_truth (pe_fx G_is_integer (hr.mono (by decide)) (by rfl) (pa_cons (pv 2) (pa_cons pe_int (pa_cons (pe_op op_sub (pe_callB call_len_seq (by rfl) T.b_len PySem.boot_len (pa_cons (pe_ix ix_seq (pv 0) pe_int (fun _ _ => rfl)) pa_nil)) pe_int) pa_nil)))) (by intro _; rfl))) (pw_or1 (pt_not (pt_truth (pe_callB call_isi2 (by rfl) T.b_isinstance bt_isi (pa_cons (pv 3) (pa_cons (pe_bltn (v := .ty "str") (by rfl) T.b_str bt_str rfl) pa_nil))) (by intro _; rfl))))))
  (pss_one (ps_ret pe_non))
  pss_nil)
  (pss_cons (ps_asg (pe_ix ix_seq (pe_ix ix_seq (pv 0) pe_int (fun _ _ => rfl)) (pv 2) (fun _ _ => rfl)) (pg_sq rfl (pgs_cons (pg_name (i := 4) sc_edge_course.nd rfl (by first | exact .inl rfl | exact .inr rfl)) (pgs_cons (pg_name (i := 5) sc_edge_course.nd rfl (by first | exact .inl rfl | exact .inr rfl)) (pgs_cons (pg_name (i := 6) sc_edge_course.nd rfl (by first | exact .inl rfl | exact .inr rfl)) (pgs_cons (pg_name (i := 7) sc_edge_course.nd rfl (by first | exact .inl rfl | exact .inr rfl)) pgs_nil))))))
  (pss_cons (ps_if (PW.pt (pw_and (pt_cmpR (op_eqD hr.units) (pv 3) pe_str (nomark _)) (pw_and1 (pt_cmpR op_notN (pv 7) pe_non (nomark _)))))
  (pss_one (ps_ret (pe_tup (pa_cons (pv 4) (pa_cons (pv 5) (pa_cons (pv 7) pa_nil))))))
  pss_nil)
  (pss_cons (ps_if (PW.pt (pw_and (pt_cmpR (op_eqD hr.units) (pv 3) pe_str (nomark _)) (pw_and1 (pt_cmpR op_notN (pv 6) pe_non (nomark _)))))
  (pss_one (ps_ret (pe_tup (pa_cons (pv 5) (pa_cons (pv 4) (pa_cons (pe_un un_neg (pv 6)) pa_nil))))))
  pss_nil)
  (pss_one (ps_ret pe_non)))))))),
  (ss_seq (ss_if (st_or (st_not (st_truth (se_isi ty_tuple (se_var 1)))) (st_test (se_op s2_ne (se_cb sc_len (sa_cons (se_var 1) sa_nil)) se_int)))
  (ss_ret se_non)
  ss_next)
  (ss_seq (ss_asg (vs := [2, 3]) (se_var 1) (sg_tup (sgs_cons (sg_name 2) (sgs_cons (sg_name 3) sgs_nil))))
  (ss_seq (ss_if (st_or (st_not (st_truth (se_call (sa_cons (se_var 2) (sa_cons se_int (sa_cons (se_op s2_sub (se_cb sc_len (sa_cons (se_op s2_ix (se_var 0) se_int) sa_nil)) se_int) sa_nil)))))) (st_not (st_truth (se_isi ty_str (se_var 3)))))
  (ss_ret se_non)
  ss_next)
  (ss_seq (ss_asg (vs := [4, 5, 6, 7]) (se_op s2_ix (se_op s2_ix (se_var 0) se_int) (se_var 2)) (sg_tup (sgs_cons (sg_name 4) (sgs_cons (sg_name 5) (sgs_cons (sg_name 6) (sgs_cons (sg_name 7) sgs_nil))))))
  (ss_seq (ss_if (st_and (st_test (se_op s2_eq (se_var 3) se_str)) (st_test (se_op s2_notN (se_var 7) se_non)))
  (ss_ret (se_tup (sa_cons (se_var 4) (sa_cons (se_var 5) (sa_cons (se_var 7) sa_nil)))))
  ss_next)
  (ss_seq (ss_if (st_and (st_test (se_op s2_eq (se_var 3) se_str)) (st_test (se_op s2_notN (se_var 6) se_non)))
  (ss_ret (se_tup (sa_cons (se_var 5) (sa_cons (se_var 4) (sa_cons (se_un s1_neg (se_var 6)) sa_nil)))))
  ss_next)
  (ss_ret se_non)))))))⟩
theorem fx_all_edges (d : Df K mg "all_edges" (top 18)) (T : Txt mg) (G_edge_course : Fx P w K mg base 3 "edge_course" ["net", "value"] (spD K 2 f_edge_course)) : Fx P w K mg base 4 "all_edges" ["net"] (spD K 1 f_all_edges) :=
  fx_of d sc_all_edges bb_all_edges rfl fun f cdv A outer s H Q E hr => ⟨_,
  (pss_cons (ps_set (i := 1) sc_all_edges.nd rfl (by first | exact .inl rfl | exact .inr rfl) (pe_lst pa_nil))
  (pss_cons (ps_for PassesOwn.never rfl (pi_range1 (by rfl) T.b_range (pa_cons (pe_callB call_len_seq (by rfl) T.b_len PySem.boot_len (pa_cons (pe_ix ix_seq (pv 0) pe_int (fun _ _ => rfl)) pa_nil)) pa_nil)) (pg_name (i := 2) sc_all_edges.nd rfl (by first | exact .inl rfl | exact .inr rfl))
  (pss_one (ps_for PassesOwn.never rfl (pi_seq (pe_tup (pa_cons (pe_tup (pa_cons (pv 2) (pa_cons pe_str pa_nil))) (pa_cons (pe_tup (pa_cons (pv 2) (pa_cons pe_str pa_nil))) pa_nil)))) (pg_name (i := 3) sc_all_edges.nd rfl (by first | exact .inl rfl | exact .inr rfl))
  (pss_cons (ps_set (i := 4) sc_all_edges.nd rfl (by first | exact .inl rfl | exact .inr rfl) (pe_fx G_edge_course (hr.mono (by decide)) (by rfl) (pa_cons (pv 0) (pa_cons (pv 3) pa_nil))))
  (pss_one (ps_if (pt_cmpR op_notN (pv 4) pe_non (nomark _))
  (pss_cons (ps_asg (pv 4) (pg_sq rfl (pgs_cons (pg_name (i := 5) sc_all_edges.nd rfl (by first | exact .inl rfl | exact .inr rfl)) (pgs_cons (pg_name (i := 6) sc_all_edges.nd rfl (by first | exact .inl rfl | exact .inr rfl)) (pgs_cons (pg_name (i := 7) sc_all_edges.nd rfl (by first | exact .inl rfl | exact .inr rfl)) pgs_nil)))))
  (pss_one (ps_expr (pe_bm PySem.F.plainAttrs_list PySem.F.slot_list_append PySem.F.type_list_append mt_append (pv 1) (pa_cons (pe_tup (pa_cons (pv 3) (pa_cons (pv 5) (pa_cons (pv 6) (pa_cons (pv 7) pa_nil))))) pa_nil)))))
  pss_nil))))))
  (pss_one (ps_ret (pe_callTy call_tuple_of (by rfl) T.b_tuple bt_tuple (pa_cons (pv 1) pa_nil)))))),
  (ss_seq (ss_asgO (so_lst sa_nil))
  (ss_seq (ss_for (vs := [2]) (si_range1 (sa_cons (se_cb sc_len (sa_cons (se_op s2_ix (se_var 0) se_int) sa_nil)) sa_nil)) (sg_name 2)
  (ss_for (vs := [3]) (si_seq (se_tup (sa_cons (se_tup (sa_cons (se_var 2) (sa_cons se_str sa_nil))) (sa_cons (se_tup (sa_cons (se_var 2) (sa_cons se_str sa_nil))) sa_nil)))) (sg_name 3)
  (ss_seq (ss_set (i := 4) (se_call (sa_cons (se_var 0) (sa_cons (se_var 3) sa_nil))))
  (ss_if (st_test (se_op s2_notN (se_var 4) se_non))
  (ss_seq (ss_asg (vs := [5, 6, 7]) (se_var 4) (sg_tup (sgs_cons (sg_name 5) (sgs_cons (sg_name 6) (sgs_cons (sg_name 7) sgs_nil)))))
  (ss_app 1 (se_tup (sa_cons (se_var 3) (sa_cons (se_var 5) (sa_cons (se_var 6) (sa_cons (se_var 7) sa_nil)))))))
  ss_next))))
  (ss_frz 1 (ss_ret (se_cb sc_tuple (sa_cons (se_var 1) sa_nil))))))⟩
theorem fx_walks_without_edges (d : Df K mg "walks_without_edges" (top 27)) (T : Txt mg)  : Fx P w K mg base 1 "walks_without_edges" ["size"] (spD K 1 f_walks_without_edges) :=
  fx_of d sc_walks_without_edges bb_walks_without_edges rfl fun f cdv A outer s H Q E hr => ⟨_,
  (pss_one (ps_ret (pe_lc (own := [("start", 1)]) (g := (gName 1)) rfl sc_walks_without_edges.nd (pi_range1 (by rfl) T.b_range (pa_cons (pv 0) pa_nil)) (blkOk_by (own := [("start", 1)]) (N := N_walks_without_edges) (sc := defScope (top 27)) (by decide +kernel)) (fun _ _ _ _ _ => (pg_name (i := 1) sc_walks_without_edges.nd rfl (by first | exact .inl rfl | exact .inr rfl))) (fun _ _ _ _ _ => pts_nil) (fun _ _ _ _ _ => (pe_lc (own := [("end", 2)]) (g := (gName 2)) rfl sc_walks_without_edges.nd (pi_range1 (by rfl) T.b_range (pa_cons (pv 0) pa_nil)) (blkOk_by (own := [("end", 2)]) (by kernel_rfl)) (fun _ _ _ _ _ => (pg_name (i := 2) sc_walks_without_edges.nd rfl (by first | exact .inl rfl | exact .inr rfl))) (fun _ _ _ _ _ => pts_nil) (fun _ _ _ _ _ => (pe_ifExp (pt_cmpR (op_eqD hr.units) (pv 1) (pv 2) (nomark _)) (pe_tup (pa_cons pe_int (pa_cons (pe_tup pa_nil) pa_nil))) pe_non))))))),
  (ss_ret (se_own (so_lc (vs := [1]) (si_range1 (sa_cons (se_var 0) sa_nil)) (sg_name 1) st_yes (se_own (so_lc (vs := [2]) (si_range1 (sa_cons (se_var 0) sa_nil)) (sg_name 2) st_yes (se_if (st_test (se_op s2_eq (se_var 1) (se_var 2))) (se_tup (sa_cons se_int (sa_cons (se_tup sa_nil) sa_nil))) se_non))))))⟩
theorem fx_longer_row (d : Df K mg "longer_row" (top 28)) (T : Txt mg)  : Fx P w K mg base 1 "longer_row" ["row", "courses"] (spD K 2 f_longer_row) :=
  fx_of d sc_longer_row bb_longer_row rfl fun f cdv A outer s H Q E hr => ⟨_,
  (pss_cons (ps_set (i := 2) sc_longer_row.nd rfl (by first | exact .inl rfl | exact .inr rfl) (pe_callTy call_list_of (by rfl) T.b_list bt_list (pa_cons (pv 0) pa_nil)))
  (pss_cons (ps_for PassesOwn.never rfl (pi_seq (pv 1)) (pg_sq rfl (pgs_cons (pg_name (i := 3) sc_longer_row.nd rfl (by first | exact .inl rfl | exact .inr rfl)) (pgs_cons (pg_name (i := 4) sc_longer_row.nd rfl (by first | exact .inl rfl | exact .inr rfl)) (pgs_cons (pg_name (i := 5) sc_longer_row.nd rfl (by first | exact .inl rfl | exact .inr rfl)) (pgs_cons (pg_name (i := 6) sc_longer_row.nd rfl (by first | exact .inl rfl | exact .inr rfl)) pgs_nil)))))
  (pss_one (ps_if (pt_cmpR op_notN (pe_ix ix_seq (pv 0) (pv 4) (fun _ _ => rfl)) pe_non (nomark _))
  (pss_cons (ps_asg (pe_ix ix_seq (pv 0) (pv 4) (fun _ _ => rfl)) (pg_sq rfl (pgs_cons (pg_name (i := 7) sc_longer_row.nd rfl (by first | exact .inl rfl | exact .inr rfl)) (pgs_cons (pg_name (i := 8) sc_longer_row.nd rfl (by first | exact .inl rfl | exact .inr rfl)) pgs_nil))))
  (pss_one (ps_if (PW.pt (pw_or (pt_cmpR op_isN (pe_ix ix_seq (pv 2) (pv 5) (fun _ _ => rfl)) pe_non (nomark _)) (pw_or1 (pt_cmpR op_lt (pe_op op_addA (pv 7) (pv 6)) (pe_ix ix_seq (pe_ix ix_seq (pv 2) (pv 5) (fun _ _ => rfl)) pe_int (fun _ _ => rfl)) (nomark _)))))
  (pss_one (ps_asg (pe_tup (pa_cons (pe_op op_addA (pv 7) (pv 6)) (pa_cons (pe_op op_addA (pv 8) (pe_tup (pa_cons (pv 3) pa_nil))) pa_nil))) (pg_sub (pv 2) (pv 5) set_list)))
  pss_nil)))
  pss_nil)))
  (pss_one (ps_ret (pv 2))))),
  (ss_seq (ss_asgO (so_cb sc_list (sa_cons (se_var 0) sa_nil)))
  (ss_seq (ss_for (vs := [3, 4, 5, 6]) (si_seq (se_var 1)) (sg_tup (sgs_cons (sg_name 3) (sgs_cons (sg_name 4) (sgs_cons (sg_name 5) (sgs_cons (sg_name 6) sgs_nil)))))
  (ss_if (st_test (se_op s2_notN (se_op s2_ix (se_var 0) (se_var 4)) se_non))
  (ss_seq (ss_asg (vs := [7, 8]) (se_op s2_ix (se_var 0) (se_var 4)) (sg_tup (sgs_cons (sg_name 7) (sgs_cons (sg_name 8) sgs_nil))))
  (ss_if (st_or (st_test (se_op s2_isN (se_oIx 2 (se_var 5)) se_non)) (st_test (se_op s2_lt (se_op s2_add (se_var 7) (se_var 6)) (se_op s2_ix (se_oIx 2 (se_var 5)) se_int))))
  (ss_setIx 2 (se_tup (sa_cons (se_op s2_add (se_var 7) (se_var 6)) (sa_cons (se_op s2_add (se_var 8) (se_tup (sa_cons (se_var 3) sa_nil))) sa_nil))) (se_var 5))
  ss_next))
  ss_next))
  (ss_frz 2 (ss_ret (se_var 2)))))⟩
theorem fx_round_below (d : Df K mg "round_below" (top 29)) (T : Txt mg)  : Fx P w K mg base 1 "round_below" ["walks"] (spD K 1 f_round_below) :=
  fx_of d sc_round_below bb_round_below rfl fun f cdv A outer s H Q E hr => ⟨_,
  (pss_cons (ps_for PassesOwn.never rfl (pi_enumA (by rfl) T.b_enumerate (pa_cons (pv 0) pa_nil)) (pg_sq rfl (pgs_cons (pg_name (i := 1) sc_round_below.nd rfl (by first | exact .inl rfl | exact .inr rfl)) (pgs_cons (pg_name (i := 2) sc_round_below.nd rfl (by first | exact .inl rfl | exact .inr rfl)) pgs_nil)))
  (pss_cons (ps_asg (pe_ix ix_seq (pv 2) (pv 1) (fun _ _ => rfl)) (pg_sq rfl (pgs_cons (pg_name (i := 3) sc_round_below.nd rfl (by first | exact .inl rfl | exact .inr rfl)) (pgs_cons (pg_name (i := 4) sc_round_below.nd rfl (by first | exact .inl rfl | exact .inr rfl)) pgs_nil))))
  (pss_one (ps_if (pt_cmpR op_lt (pv 3) pe_int (nomark _))
  (pss_one (ps_ret (pv 4)))
  pss_nil))))
  (pss_one (ps_ret pe_non))),
  (ss_seq (ss_for (vs := [1, 2]) (si_enumA (sa_cons (se_var 0) sa_nil)) (sg_tup (sgs_cons (sg_name 1) (sgs_cons (sg_name 2) sgs_nil)))
  (ss_seq (ss_asg (vs := [3, 4]) (se_op s2_ix (se_var 2) (se_var 1)) (sg_tup (sgs_cons (sg_name 3) (sgs_cons (sg_name 4) sgs_nil))))
  (ss_if (st_test (se_op s2_lt (se_var 3) se_int))
  (ss_ret (se_var 4))
  ss_next)))
  (ss_ret se_non))⟩
theorem fx_least_walks (d : Df K mg "least_walks" (top 30)) (T : Txt mg) (G_all_edges : Fx P w K mg base 4 "all_edges" ["net"] (spD K 1 f_all_edges)) (G_walks_without_edges : Fx P w K mg base 1 "walks_without_edges" ["size"] (spD K 1 f_walks_without_edges)) (G_longer_row : Fx P w K mg base 1 "longer_row" ["row", "courses"] (spD K 2 f_longer_row)) (G_round_below : Fx P w K mg base 1 "round_below" ["walks"] (spD K 1 f_round_below)) : Fx P w K mg base 5 "least_walks" ["net"] (spD K 1 f_least_walks) :=
  fx_of d sc_least_walks bb_least_walks rfl fun f cdv A outer s H Q E hr => ⟨_,
  (pss_cons (ps_set (i := 1) sc_least_walks.nd rfl (by first | exact .inl rfl | exact .inr rfl) (pe_ix ix_seq (pv 0) pe_int (fun _ _ => rfl)))
  (pss_cons (ps_set (i := 2) sc_least_walks.nd rfl (by first | exact .inl rfl | exact .inr rfl) (pe_fx G_all_edges (hr.mono (by decide)) (by rfl) (pa_cons (pv 0) pa_nil)))
  (pss_cons (ps_set (i := 3) sc_least_walks.nd rfl (by first | exact .inl rfl | exact .inr rfl) (pe_fx G_walks_without_edges (hr.mono (by decide)) (by rfl) (pa_cons (pv 1) pa_nil)))
  (pss_cons (ps_for PassesOwn.never rfl (pi_range1 (by rfl) T.b_range (pa_cons (pv 1) pa_nil)) (pg_name (i := 4) sc_least_walks.nd rfl (by first | exact .inl rfl | exact .inr rfl))
  (pss_cons (ps_setLc (i := 3) (own := [("row", 5)]) (g := (gName 5)) rfl sc_least_walks.nd rfl rfl (sw_true rfl rfl rfl (by decide +kernel)) (pi_seq (pv 3)) (blkOk_by (own := [("row", 5)]) (N := N_least_walks) (sc := defScope (top 30)) (by decide +kernel)) (fun _ _ _ _ _ => (pg_name (i := 5) sc_least_walks.nd rfl (by first | exact .inl rfl | exact .inr rfl))) (fun _ _ _ _ _ => pts_nil) (fun _ _ _ _ _ => (pe_fx G_longer_row (hr.mono (by decide)) (by rfl) (pa_cons (pv 5) (pa_cons (pv 2) pa_nil)))))
  (pss_one (ps_if (pt_cmpR op_notN (pe_fx G_round_below (hr.mono (by decide)) (by rfl) (pa_cons (pv 3) pa_nil)) pe_non (nomark _))
  (pss_one (ps_ret (pv 3)))
  pss_nil))))
  (pss_one (ps_ret (pv 3))))))),
  (ss_seq (ss_set (i := 1) (se_op s2_ix (se_var 0) se_int))
  (ss_seq (ss_set (i := 2) (se_call (sa_cons (se_var 0) sa_nil)))
  (ss_seq (ss_set (i := 3) (se_call (sa_cons (se_var 1) sa_nil)))
  (ss_seq (ss_for (vs := [4]) (si_range1 (sa_cons (se_var 1) sa_nil)) (sg_name 4)
  (ss_seq (ss_set (i := 3) (se_own (so_lc (vs := [5]) (si_seq (se_var 3)) (sg_name 5) st_yes (se_call (sa_cons (se_var 5) (sa_cons (se_var 2) sa_nil))))))
  (ss_if (st_test (se_op s2_notN (se_call (sa_cons (se_var 3) sa_nil)) se_non))
  (ss_ret (se_var 3))
  ss_next)))
  (ss_ret (se_var 3))))))⟩
theorem fx_possible_walks (d : Df K mg "possible_walks" (top 31)) (T : Txt mg) (G_least_walks : Fx P w K mg base 5 "least_walks" ["net"] (spD K 1 f_least_walks)) (G_round_below : Fx P w K mg base 1 "round_below" ["walks"] (spD K 1 f_round_below)) : Fx P w K mg base 6 "possible_walks" ["net"] (spD K 1 f_possible_walks) :=
  fx_of d sc_possible_walks bb_possible_walks rfl fun f cdv A outer s H Q E hr => ⟨_,
  (pss_cons (ps_set (i := 1) sc_possible_walks.nd rfl (by first | exact .inl rfl | exact .inr rfl) (pe_fx G_least_walks (hr.mono (by decide)) (by rfl) (pa_cons (pv 0) pa_nil)))
  (pss_cons (ps_if (pt_cmpR op_notN (pe_fx G_round_below (hr.mono (by decide)) (by rfl) (pa_cons (pv 1) pa_nil)) pe_non (nomark _))
  (pss_one ps_never)
  pss_nil)
  (pss_one (ps_ret (pv 1))))),
  (ss_seq (ss_set (i := 1) (se_call (sa_cons (se_var 0) sa_nil)))
  (ss_seq (ss_if (st_test (se_op s2_notN (se_call (sa_cons (se_var 1) sa_nil)) se_non))
  ss_never
  ss_next)
  (ss_ret (se_var 1))))⟩
theorem fx_lengths_of (d : Df K mg "lengths_of" (top 32)) (T : Txt mg)  : Fx P w K mg base 1 "lengths_of" ["walks"] (spD K 1 f_lengths_of) :=
  fx_of d sc_lengths_of bb_lengths_of rfl fun f cdv A outer s H Q E hr => ⟨_,
  (pss_one (ps_ret (pe_callTy call_tuple_of (by rfl) T.b_tuple bt_tuple (pa_cons (pe_lc (own := [("row", 1)]) (g := (gName 1)) rfl sc_lengths_of.nd (pi_seq (pv 0)) (blkOk_by (own := [("row", 1)]) (N := N_lengths_of) (sc := defScope (top 32)) (by decide +kernel)) (fun _ _ _ _ _ => (pg_name (i := 1) sc_lengths_of.nd rfl (by first | exact .inl rfl | exact .inr rfl))) (fun _ _ _ _ _ => pts_nil) (fun _ _ _ _ _ => (pe_callTy call_tuple_of (by rfl) T.b_tuple bt_tuple (pa_cons (pe_lc (own := [("found", 2)]) (g := (gName 2)) rfl sc_lengths_of.nd (pi_seq (pv 1)) (blkOk_by (own := [("found", 2)]) (by kernel_rfl)) (fun _ _ _ _ _ => (pg_name (i := 2) sc_lengths_of.nd rfl (by first | exact .inl rfl | exact .inr rfl))) (fun _ _ _ _ _ => pts_nil) (fun _ _ _ _ _ => (pe_ifExp (pt_cmpR op_isN (pv 2) pe_non (nomark _)) pe_non (pe_ix ix_seq (pv 2) pe_int (fun _ _ => rfl))))) pa_nil)))) pa_nil)))),
  (ss_ret (se_cb sc_tuple (sa_cons (se_own (so_lc (vs := [1]) (si_seq (se_var 0)) (sg_name 1) st_yes (se_cb sc_tuple (sa_cons (se_own (so_lc (vs := [2]) (si_seq (se_var 1)) (sg_name 2) st_yes (se_if (st_test (se_op s2_isN (se_var 2) se_non)) se_non (se_op s2_ix (se_var 2) se_int)))) sa_nil)))) sa_nil)))⟩
theorem fx_Telling___init__ (T : Txt mg) {C : Addr} (TO : OC K C ["_walks", "_bounds", "_net", "_pieces"]) (G_check_net : Fx P w K mg base 6 "check_net" ["net"] (spD K 1 f_check_net)) (G_possible_walks : Fx P w K mg base 6 "possible_walks" ["net"] (spD K 1 f_possible_walks)) (G_lengths_of : Fx P w K mg base 1 "lengths_of" ["walks"] (spD K 1 f_lengths_of)) (d : Dn K C "Telling.__init__" (mt 0)) (gl : mg "Telling" = some (.ref C)) : FxN P w K mg base 7 "Telling" C ["self", "net"] (spN K C 1 (f_Telling___init__ C)) :=
  fx_ofN d gl sc_Telling___init__ bb_Telling___init__ rfl (by decide) fun f cdv A outer s H Q E hr => ⟨_,
  (pss_cons (ps_expr (pe_fx G_check_net (hr.mono (by decide)) (by rfl) (pa_cons (pv 1) pa_nil)))
  (pss_cons (ps_fld (pv 0) (pe_fx G_possible_walks (hr.mono (by decide)) (by rfl) (pa_cons (pv 1) pa_nil)) (by rfl))
  (pss_cons (ps_fld (pv 0) (pe_fx G_lengths_of (hr.mono (by decide)) (by rfl) (pa_cons (pe_fld (pv 0) (by rfl)) pa_nil)) (by rfl))
  (pss_cons (ps_fld (pv 0) (pv 1) (by rfl))
  (pss_one (ps_fld (pv 0) (pe_lst pa_nil) (by rfl))))))),
  (ssn_seq (ssn_drop kept_true (seg_of (se_call (sa_cons (se_var 1) sa_nil))))
  (ssn_seq (ssn_fld TO (fun _ _ _ _ _ _ _ _ => trivial) kept_true (fun _ _ _ _ => seg_ini (seg_of (se_call (sa_cons (se_var 1) sa_nil)))) (.head _))
  (ssn_seq (ssn_fld TO (fun _ _ _ _ _ _ _ _ => trivial) kept_true (fun _ _ _ _ => seg_call (sag_of1 (seg_rd TO 0 (.head _)) (ini_kept kept_true))) (.tail _ (.head _)))
  (ssn_seq (ssn_fld TO (fun _ _ _ _ _ _ _ _ => trivial) kept_true (fun _ _ _ _ => seg_ini (seg_of (se_var 1))) (.tail _ (.tail _ (.head _))))
  (ssn_lst TO (fun _ _ _ _ _ _ _ _ => trivial) kept_true (so_lst sa_nil) (.tail _ (.tail _ (.tail _ (.head _)))))))))⟩
theorem fx_L_order (d : Df K mg "_law_order" (top 41)) (T : Txt mg) (G_L_next : Fx P w K mg base 1 "_law_next" ["stream", "many"] (spS K 1 f_next)) : Fx P w K mg base 2 "_law_order" ["stream", "many"] (spS K 1 f_L_order) :=
  fx_ofS d sc_L_order bb_L_order rfl (by decide) fun f cdv A outer s H Q E hr => ⟨_,
  (pss_cons (ps_set (i := 2) sc_L_order.nd rfl (by first | exact .inl rfl | exact .inr rfl) (pe_listRg rfl (by rfl) T.b_list (prg_1 (by rfl) T.b_range (pv 1))))
  (pss_one (ps_ret (pe_callTy call_tuple_of (by rfl) T.b_tuple bt_tuple (pa_cons (pe_lc (own := [("k", 3)]) (g := (gName 3)) rfl sc_L_order.nd (pi_range1 (by rfl) T.b_range (pa_cons (pv 1) pa_nil)) (blkOk_by (own := [("k", 3)]) (N := N_L_order) (sc := defScope (top 41)) (by decide +kernel)) (fun _ _ _ _ _ => (pg_name (i := 3) sc_L_order.nd rfl (by first | exact .inl rfl | exact .inr rfl))) (fun _ _ _ _ _ => pts_nil) (fun _ _ _ _ _ => (pe_bm PySem.F.plainAttrs_list PySem.F.slot_list_pop PySem.F.type_list_pop mt_popAt (pv 2) (pa_cons (pe_fx G_L_next (hr.mono (by decide)) (by rfl) (pa_cons (pv 0) (pa_cons (pe_callB call_len_seq (by rfl) T.b_len PySem.boot_len (pa_cons (pv 2) pa_nil)) pa_nil))) pa_nil)))) pa_nil))))),
  (ss_seq (ss_asgO (so_listRg (se_var 1)))
  (ss_retPop 2 (by decide) (vs := [3]) (si_range1 (sa_cons (se_var 1) sa_nil)) (sg_name 3) st_yes (se_callS 0 (sa_cons (se_lenOwn 2) sa_nil))))⟩
theorem fx_L_edges (d : Df K mg "_law_edges" (top 46)) (T : Txt mg)  : Fx P w K mg base 1 "_law_edges" ["net"] (spD K 1 f_L_edges) :=
  fx_of d sc_L_edges bb_L_edges rfl fun f cdv A outer s H Q E hr => ⟨_,
  (pss_cons (ps_set (i := 1) sc_L_edges.nd rfl (by first | exact .inl rfl | exact .inr rfl) (pe_lst pa_nil))
  (pss_cons (ps_for PassesOwn.never rfl (pi_range1 (by rfl) T.b_range (pa_cons (pe_callB call_len_seq (by rfl) T.b_len PySem.boot_len (pa_cons (pe_ix ix_seq (pv 0) pe_int (fun _ _ => rfl)) pa_nil)) pa_nil)) (pg_name (i := 2) sc_L_edges.nd rfl (by first | exact .inl rfl | exact .inr rfl))
  (pss_cons (ps_asg (pe_ix ix_seq (pe_ix ix_seq (pv 0) pe_int (fun _ _ => rfl)) (pv 2) (fun _ _ => rfl)) (pg_sq rfl (pgs_cons (pg_name (i := 3) sc_L_edges.nd rfl (by first | exact .inl rfl | exact .inr rfl)) (pgs_cons (pg_name (i := 4) sc_L_edges.nd rfl (by first | exact .inl rfl | exact .inr rfl)) (pgs_cons (pg_name (i := 5) sc_L_edges.nd rfl (by first | exact .inl rfl | exact .inr rfl)) (pgs_cons (pg_name (i := 6) sc_L_edges.nd rfl (by first | exact .inl rfl | exact .inr rfl)) pgs_nil))))))
  (pss_cons (ps_expr (pe_bm PySem.F.plainAttrs_list PySem.F.slot_list_extend PySem.F.type_list_extend mt_extend (pv 1) (pa_cons (pe_op op_mulA (pe_lst (pa_cons (pe_tup (pa_cons (pe_tup (pa_cons (pv 2) (pa_cons pe_str pa_nil))) (pa_cons (pv 3) (pa_cons (pv 4) (pa_cons (pv 6) pa_nil))))) pa_nil)) (pe_callTy call_int1 (by rfl) T.b_int bt_int (pa_cons (pe_cmpR op_notN (pv 6) pe_non (nomark _)) pa_nil))) pa_nil)))
  (pss_one (ps_expr (pe_bm PySem.F.plainAttrs_list PySem.F.slot_list_extend PySem.F.type_list_extend mt_extend (pv 1) (pa_cons (pe_ifExp (pt_cmpR op_notN (pv 5) pe_non (nomark _)) (pe_lst (pa_cons (pe_tup (pa_cons (pe_tup (pa_cons (pv 2) (pa_cons pe_str pa_nil))) (pa_cons (pv 4) (pa_cons (pv 3) (pa_cons (pe_op op_sub pe_int (pv 5)) pa_nil))))) pa_nil)) (pe_lst pa_nil)) pa_nil)))))))
  (pss_one (ps_ret (pv 1))))),
  (ss_seq (ss_asgO (so_lst sa_nil))
  (ss_seq (ss_for (vs := [2]) (si_range1 (sa_cons (se_cb sc_len (sa_cons (se_op s2_ix (se_var 0) se_int) sa_nil)) sa_nil)) (sg_name 2)
  (ss_seq (ss_asg (vs := [3, 4, 5, 6]) (se_op s2_ix (se_op s2_ix (se_var 0) se_int) (se_var 2)) (sg_tup (sgs_cons (sg_name 3) (sgs_cons (sg_name 4) (sgs_cons (sg_name 5) (sgs_cons (sg_name 6) sgs_nil))))))
  (ss_seq (ss_ext 1 (se_op s2_mul (se_own (so_lst (sa_cons (se_tup (sa_cons (se_tup (sa_cons (se_var 2) (sa_cons se_str sa_nil))) (sa_cons (se_var 3) (sa_cons (se_var 4) (sa_cons (se_var 6) sa_nil))))) sa_nil))) (se_cb sc_int (sa_cons (se_op s2_notN (se_var 6) se_non) sa_nil))))
  (ss_ext 1 (se_if (st_test (se_op s2_notN (se_var 5) se_non)) (se_own (so_lst (sa_cons (se_tup (sa_cons (se_tup (sa_cons (se_var 2) (sa_cons se_str sa_nil))) (sa_cons (se_var 4) (sa_cons (se_var 3) (sa_cons (se_op s2_sub se_int (se_var 5)) sa_nil))))) sa_nil))) (se_own (so_lst sa_nil)))))))
  (ss_frz 1 (ss_ret (se_var 1)))))⟩
theorem fx_L_bounds (d : Df K mg "_law_bounds" (top 47)) (T : Txt mg) (G_L_edges : Fx P w K mg base 1 "_law_edges" ["net"] (spD K 1 f_L_edges)) : Fx P w K mg base 2 "_law_bounds" ["net"] (spD K 1 (f_L_bounds w)) :=
  fx_of d sc_L_bounds bb_L_bounds rfl fun f cdv A outer s H Q E hr => ⟨_,
  (pss_cons (ps_set (i := 1) sc_L_bounds.nd rfl (by first | exact .inl rfl | exact .inr rfl) (pe_ix ix_seq (pv 0) pe_int (fun _ _ => rfl)))
  (pss_cons (ps_set (i := 2) sc_L_bounds.nd rfl (by first | exact .inl rfl | exact .inr rfl) pe_dnew)
  (pss_cons (ps_for PassesOwn.never rfl (pi_range1 (by rfl) T.b_range (pa_cons (pv 1) pa_nil)) (pg_name (i := 3) sc_L_bounds.nd rfl (by first | exact .inl rfl | exact .inr rfl))
  (pss_one (ps_dput2 (hr.units1) (pv 2) (pe_tup (pa_cons (pv 3) (pa_cons (pv 3) pa_nil))) pe_int (by rfl))))
  (pss_cons (ps_for PassesOwn.never rfl (pi_range1 (by rfl) T.b_range (pa_cons (pe_op op_addA (pv 1) pe_int) pa_nil)) (pg_name (i := 4) sc_L_bounds.nd rfl (by first | exact .inl rfl | exact .inr rfl))
  (pss_one (ps_for PassesOwn.never rfl (pi_seq (pe_fx G_L_edges (hr.mono (by decide)) (by rfl) (pa_cons (pv 0) pa_nil))) (pg_sq rfl (pgs_cons (pg_name (i := 5) sc_L_bounds.nd rfl (by first | exact .inl rfl | exact .inr rfl)) (pgs_cons (pg_name (i := 6) sc_L_bounds.nd rfl (by first | exact .inl rfl | exact .inr rfl)) (pgs_cons (pg_name (i := 7) sc_L_bounds.nd rfl (by first | exact .inl rfl | exact .inr rfl)) (pgs_cons (pg_name (i := 8) sc_L_bounds.nd rfl (by first | exact .inl rfl | exact .inr rfl)) pgs_nil)))))
  (pss_one (ps_for PassesOwn.never rfl (pi_range1 (by rfl) T.b_range (pa_cons (pv 1) pa_nil)) (pg_name (i := 3) sc_L_bounds.nd rfl (by first | exact .inl rfl | exact .inr rfl))
  (pss_one (ps_if (PW.pt (pw_and (pt_cmpR (op_fIn (hr.units1)) (pe_tup (pa_cons (pv 3) (pa_cons (pv 6) pa_nil))) (pv 2) (by rfl)) (pw_and1 (pt_cmpR op_lt (pe_op op_addA (pe_dg (hr.units1) (pv 2) (pe_tup (pa_cons (pv 3) (pa_cons (pv 6) pa_nil))) (fun _ _ => rfl)) (pv 8)) (pe_fget2 (hr.units1) (pv 2) (pe_tup (pa_cons (pv 3) (pa_cons (pv 7) pa_nil))) (pe_op op_pow pe_int pe_int) ⟨by rfl, by rfl, by rfl, by rfl⟩) (nomark _)))))
  (pss_one (ps_dput2 (hr.units1) (pv 2) (pe_tup (pa_cons (pv 3) (pa_cons (pv 7) pa_nil))) (pe_op op_addA (pe_dg (hr.units1) (pv 2) (pe_tup (pa_cons (pv 3) (pa_cons (pv 6) pa_nil))) (fun _ _ => rfl)) (pv 8)) (by rfl)))
  pss_nil)))))))
  (pss_one (ps_ret (pe_ifExp (pt_truth (pe_callB (cr_any rfl) (by rfl) T.b_any bt_any (pa_cons (pe_lc (own := [("event", 3)]) (g := (gName 3)) rfl sc_L_bounds.nd (pi_range1 (by rfl) T.b_range (pa_cons (pv 1) pa_nil)) (blkOk_by (own := [("event", 3)]) (N := N_L_bounds) (sc := defScope (top 47)) (by decide +kernel)) (fun _ _ _ _ _ => (pg_name (i := 3) sc_L_bounds.nd rfl (by first | exact .inl rfl | exact .inr rfl))) (fun _ _ _ _ _ => pts_nil) (fun _ _ _ _ _ => (pe_cmpR op_lt (pe_fg (hr.units1) (pv 2) (pe_tup (pa_cons (pv 3) (pa_cons (pv 3) pa_nil))) (fun _ _ => rfl)) pe_int (nomark _)))) pa_nil)) (by intro _; rfl)) pe_non (pv 2)))))))),
  (ss_seq (ss_set (i := 1) (se_op s2_ix (se_var 0) se_int))
  (ss_seq (ss_newD 2)
  (ss_seq (ss_for (vs := [3]) (si_range1 (sa_cons (se_var 1) sa_nil)) (sg_name 3)
  (ss_putD 2 (se_tup (sa_cons (se_var 3) (sa_cons (se_var 3) sa_nil))) se_int))
  (ss_seq (ss_for (vs := [4]) (si_range1 (sa_cons (se_op s2_add (se_var 1) se_int) sa_nil)) (sg_name 4)
  (ss_for (vs := [5, 6, 7, 8]) (si_seq (se_call (sa_cons (se_var 0) sa_nil))) (sg_tup (sgs_cons (sg_name 5) (sgs_cons (sg_name 6) (sgs_cons (sg_name 7) (sgs_cons (sg_name 8) sgs_nil)))))
  (ss_for (vs := [3]) (si_range1 (sa_cons (se_var 1) sa_nil)) (sg_name 3)
  (ss_if (st_and (st_test (se_inO false 2 (se_tup (sa_cons (se_var 3) (sa_cons (se_var 6) sa_nil))))) (st_test (se_op s2_lt (se_op s2_add (se_getD 2 (se_tup (sa_cons (se_var 3) (sa_cons (se_var 6) sa_nil)))) (se_var 8)) (se_oget2 2 (se_tup (sa_cons (se_var 3) (sa_cons (se_var 7) sa_nil))) (se_op s2_pow se_int se_int)))))
  (ss_putD 2 (se_tup (sa_cons (se_var 3) (sa_cons (se_var 7) sa_nil))) (se_op s2_add (se_getD 2 (se_tup (sa_cons (se_var 3) (sa_cons (se_var 6) sa_nil)))) (se_var 8)))
  ss_next))))
  (ss_frzD 2 (ss_ret (se_if (st_truth (se_cb sc_any (sa_cons (se_own (so_lc (vs := [3]) (si_range1 (sa_cons (se_var 1) sa_nil)) (sg_name 3) st_yes (se_op s2_lt (se_op s2_getF (se_var 2) (se_tup (sa_cons (se_var 3) (sa_cons (se_var 3) sa_nil)))) se_int))) sa_nil))) se_non (se_var 2))))))))⟩
theorem fx_L_all_times (d : Df K mg "_law_all_times" (top 48)) (T : Txt mg)  : Fx P w K mg base 1 "_law_all_times" ["size", "far"] (spD K 2 f_L_all_times) :=
  fx_of d sc_L_all_times bb_L_all_times rfl fun f cdv A outer s H Q E hr => ⟨_,
  (pss_cons (ps_set (i := 2) sc_L_all_times.nd rfl (by first | exact .inl rfl | exact .inr rfl) (pe_lst (pa_cons (pe_tup pa_nil) pa_nil)))
  (pss_cons (ps_for PassesOwn.never rfl (pi_range1 (by rfl) T.b_range (pa_cons (pv 0) pa_nil)) (pg_name (i := 3) sc_L_all_times.nd rfl (by first | exact .inl rfl | exact .inr rfl))
  (pss_cons (ps_set (i := 4) sc_L_all_times.nd rfl (by first | exact .inl rfl | exact .inr rfl) (pe_lst pa_nil))
  (pss_cons (ps_for PassesOwn.never rfl (pi_seq (pv 2)) (pg_name (i := 5) sc_L_all_times.nd rfl (by first | exact .inl rfl | exact .inr rfl))
  (pss_one (ps_expr (pe_bm PySem.F.plainAttrs_list PySem.F.slot_list_extend PySem.F.type_list_extend mt_extend (pv 4) (pa_cons (pe_lc (own := [("time", 6)]) (g := (gName 6)) rfl sc_L_all_times.nd (pi_range2 (by rfl) T.b_range (pa_cons (pe_op op_sub pe_int (pv 1)) (pa_cons (pe_op op_addA (pv 1) pe_int) pa_nil))) (blkOk_by (own := [("time", 6)]) (N := N_L_all_times) (sc := defScope (top 48)) (by decide +kernel)) (fun _ _ _ _ _ => (pg_name (i := 6) sc_L_all_times.nd rfl (by first | exact .inl rfl | exact .inr rfl))) (fun _ _ _ _ _ => pts_nil) (fun _ _ _ _ _ => (pe_op op_addA (pv 5) (pe_tup (pa_cons (pv 6) pa_nil))))) pa_nil)))))
  (pss_one (ps_set (i := 2) sc_L_all_times.nd rfl (by first | exact .inl rfl | exact .inr rfl) (pv 4))))))
  (pss_one (ps_ret (pv 2))))),
  (ss_seq (ss_set (i := 2) (se_own (so_lst (sa_cons (se_tup sa_nil) sa_nil))))
  (ss_seq (ss_for (vs := [3]) (si_range1 (sa_cons (se_var 0) sa_nil)) (sg_name 3)
  (ss_seq (ss_asgO (so_lst sa_nil))
  (ss_seq (ss_for (vs := [5]) (si_seq (se_var 2)) (sg_name 5)
  (ss_ext 4 (se_own (so_lc (vs := [6]) (si_range2 (sa_cons (se_op s2_sub se_int (se_var 1)) (sa_cons (se_op s2_add (se_var 1) se_int) sa_nil))) (sg_name 6) st_yes (se_op s2_add (se_var 5) (se_tup (sa_cons (se_var 6) sa_nil)))))))
  (ss_frz 4 (ss_set (i := 2) (se_var 4))))))
  (ss_ret (se_var 2))))⟩
theorem fx_check_event (d : Df K mg "check_event" (top 16)) (T : Txt mg) (G_is_event : Fx P w K mg base 3 "is_event" ["value", "size"] (spD K 2 f_is_event)) : Fx P w K mg base 4 "check_event" ["net", "name", "event"] (spD K 3 f_check_event) :=
  fx_of d sc_check_event bb_check_event rfl fun f cdv A outer s H Q E hr => ⟨_,
  (pss_one (ps_if (pt_not (pt_truth (pe_fx G_is_event (hr.mono (by decide)) (by rfl) (pa_cons (pv 2) (pa_cons (pe_ix ix_seq (pv 0) pe_int (fun _ _ => rfl)) pa_nil))) (by intro _; rfl)))
  (pss_one ps_never)
  pss_nil)),
  (ss_if (st_not (st_truth (se_call (sa_cons (se_var 2) (sa_cons (se_op s2_ix (se_var 0) se_int) sa_nil)))))
  ss_never
  ss_next)⟩
theorem fxX_check_event (G0 : Fx P w K mg base 4 "check_event" ["net", "name", "event"] (spD K 3 f_check_event)) (d : Df K mg "check_event" (top 16)) (T : Txt mg) (G_is_event : Fx P w K mg base 3 "is_event" ["value", "size"] (spD K 2 f_is_event))  {C0 : Addr} (X_0 : XC P w K mg base 0 C0) {C1 : Addr} (X_1 : XC P w K mg base 1 C1) : FxX P w K mg base 4 "check_event" ["net", "name", "event"] 3 f_check_event fX_check_event :=
  fx_ofX G0 d sc_check_event bb_check_event rfl fun f cdv A outer s H E hr => ⟨_,
  by have tk := takes_of (X := cxOf (L2.CX P w) P w K mg base N_check_event "check_event" (defScope (top 16)) f cdv A outer s H E) (E := E) rfl rfl rfl rfl; have po := passes_of (X := cxOf (L2.CX P w) P w K mg base N_check_event "check_event" (defScope (top 16)) f cdv A outer s H E) rfl; exact (pss_one (ps_if (PT.nox (pt_not (pt_truth (pe_fx G_is_event (hr.mono (by decide)) (by rfl) (pa_cons (pv 2) (pa_cons (pe_ix ix_seq (pv 0) pe_int (fun _ _ => rfl)) pa_nil))) (by intro _; rfl))))
  (pss_one (ps_raise1 (c := 0) X_0 rfl tk (hr.mono (by decide)) (by rfl) (pv 1)))
  pss_nil)),
  fun x => (ssg_if cx1_kept (stg_of (st_not (st_truth (se_call (sa_cons (se_var 2) (sa_cons (se_op s2_ix (se_var 0) se_int) sa_nil))))))
  (ssg_raise (c := 0) X_0 (se_var 1))
  (ssg_of ss_next))⟩
theorem fx_marks (d : Df K mg "marks" (top 20)) (T : Txt mg)  : Fx P w K mg base 1 "marks" ["time", "there", "back"] (spD K 3 f_marks) :=
  fx_of d sc_marks bb_marks rfl fun f cdv A outer s H Q E hr => ⟨_,
  (pss_cons (ps_set (i := 3) sc_marks.nd rfl (by first | exact .inl rfl | exact .inr rfl) (pe_ifExp (pt_cmpR op_isN (pv 1) pe_non (nomark _)) pe_non (pe_op op_sub (pv 0) (pv 1))))
  (pss_cons (ps_set (i := 4) sc_marks.nd rfl (by first | exact .inl rfl | exact .inr rfl) (pe_ifExp (pt_cmpR op_isN (pv 2) pe_non (nomark _)) pe_non (pe_op op_addA (pv 0) (pv 2))))
  (pss_one (ps_ret (pe_tup (pa_cons (pv 3) (pa_cons (pv 4) pa_nil))))))),
  (ss_seq (ss_set (i := 3) (se_if (st_test (se_op s2_isN (se_var 1) se_non)) se_non (se_op s2_sub (se_var 0) (se_var 1))))
  (ss_seq (ss_set (i := 4) (se_if (st_test (se_op s2_isN (se_var 2) se_non)) se_non (se_op s2_add (se_var 0) (se_var 2))))
  (ss_ret (se_tup (sa_cons (se_var 3) (sa_cons (se_var 4) sa_nil))))))⟩
theorem fx_room_beside (d : Df K mg "room_beside" (top 22)) (T : Txt mg) (G_marks : Fx P w K mg base 1 "marks" ["time", "there", "back"] (spD K 3 f_marks)) : Fx P w K mg base 2 "room_beside" ["bounds", "event", "row"] (spD K 3 f_room_beside) :=
  fx_of d sc_room_beside bb_room_beside rfl fun f cdv A outer s H Q E hr => ⟨_,
  (pss_cons (ps_setLc (i := 3) (own := [("other", 6), ("time", 7)]) (g := (gSq K 2 (gCons (gName 6) (gCons (gName 7) gNil)))) rfl sc_room_beside.nd rfl rfl (sw_true rfl rfl rfl (by decide +kernel)) (pi_seq (pv 2)) (blkOk_by (own := [("other", 6), ("time", 7)]) (N := N_room_beside) (sc := defScope (top 22)) (by decide +kernel)) (fun _ _ _ _ _ => (pg_sq rfl (pgs_cons (pg_name (i := 6) sc_room_beside.nd rfl (by first | exact .inl rfl | exact .inr rfl)) (pgs_cons (pg_name (i := 7) sc_room_beside.nd rfl (by first | exact .inl rfl | exact .inr rfl)) pgs_nil)))) (fun _ _ _ _ _ => pts_nil) (fun _ _ _ _ _ => (pe_fx G_marks (hr.mono (by decide)) (by rfl) (pa_cons (pv 7) (pa_cons (pe_ix ix_seq (pe_ix ix_seq (pv 0) (pv 1) (fun _ _ => rfl)) (pv 6) (fun _ _ => rfl)) (pa_cons (pe_ix ix_seq (pe_ix ix_seq (pv 0) (pv 6) (fun _ _ => rfl)) (pv 1) (fun _ _ => rfl)) pa_nil))))))
  (pss_cons (ps_set (i := 4) sc_room_beside.nd rfl (by first | exact .inl rfl | exact .inr rfl) (pe_callBK (crk_max rfl) (by rfl) T.b_max bt_max (pa_cons (pe_lc (own := [("mark", 8), ("_", 9)]) (g := (gSq K 2 (gCons (gName 8) (gCons (gName 9) gNil)))) rfl sc_room_beside.nd (pi_seq (pv 3)) (blkOk_by (own := [("mark", 8), ("_", 9)]) (N := N_room_beside) (sc := defScope (top 22)) (by decide +kernel)) (fun _ _ _ _ _ => (pg_sq rfl (pgs_cons (pg_name (i := 8) sc_room_beside.nd rfl (by first | exact .inl rfl | exact .inr rfl)) (pgs_cons (pg_name (i := 9) sc_room_beside.nd rfl (by first | exact .inl rfl | exact .inr rfl)) pgs_nil)))) (fun _ _ _ _ _ => (pts_one (pt_cmpR op_notN (pv 8) pe_non (nomark _)))) (fun _ _ _ _ _ => (pv 8))) pa_nil) (pk_cons pe_non pk_nil)))
  (pss_cons (ps_set (i := 5) sc_room_beside.nd rfl (by first | exact .inl rfl | exact .inr rfl) (pe_callBK (crk_min rfl) (by rfl) T.b_min bt_min (pa_cons (pe_lc (own := [("_", 9), ("mark", 8)]) (g := (gSq K 2 (gCons (gName 9) (gCons (gName 8) gNil)))) rfl sc_room_beside.nd (pi_seq (pv 3)) (blkOk_by (own := [("_", 9), ("mark", 8)]) (N := N_room_beside) (sc := defScope (top 22)) (by decide +kernel)) (fun _ _ _ _ _ => (pg_sq rfl (pgs_cons (pg_name (i := 9) sc_room_beside.nd rfl (by first | exact .inl rfl | exact .inr rfl)) (pgs_cons (pg_name (i := 8) sc_room_beside.nd rfl (by first | exact .inl rfl | exact .inr rfl)) pgs_nil)))) (fun _ _ _ _ _ => (pts_one (pt_cmpR op_notN (pv 8) pe_non (nomark _)))) (fun _ _ _ _ _ => (pv 8))) pa_nil) (pk_cons pe_non pk_nil)))
  (pss_one (ps_ret (pe_tup (pa_cons (pv 4) (pa_cons (pv 5) pa_nil)))))))),
  (ss_seq (ss_set (i := 3) (se_own (so_lc (vs := [6, 7]) (si_seq (se_var 2)) (sg_tup (sgs_cons (sg_name 6) (sgs_cons (sg_name 7) sgs_nil))) st_yes (se_call (sa_cons (se_var 7) (sa_cons (se_op s2_ix (se_op s2_ix (se_var 0) (se_var 1)) (se_var 6)) (sa_cons (se_op s2_ix (se_op s2_ix (se_var 0) (se_var 6)) (se_var 1)) sa_nil)))))))
  (ss_seq (ss_set (i := 4) (se_cbk sck_max (sa_cons (se_own (so_lc (vs := [8, 9]) (si_seq (se_var 3)) (sg_tup (sgs_cons (sg_name 8) (sgs_cons (sg_name 9) sgs_nil))) (st_test (se_op s2_notN (se_var 8) se_non)) (se_var 8))) sa_nil) (sa_cons se_non sa_nil)))
  (ss_seq (ss_set (i := 5) (se_cbk sck_min (sa_cons (se_own (so_lc (vs := [9, 8]) (si_seq (se_var 3)) (sg_tup (sgs_cons (sg_name 9) (sgs_cons (sg_name 8) sgs_nil))) (st_test (se_op s2_notN (se_var 8) se_non)) (se_var 8))) sa_nil) (sa_cons se_non sa_nil)))
  (ss_ret (se_tup (sa_cons (se_var 4) (sa_cons (se_var 5) sa_nil)))))))⟩
theorem fx_Telling__window (T : Txt mg) {C : Addr} (TO : OC K C ["_walks", "_bounds", "_net", "_pieces"]) (G_room_beside : Fx P w K mg base 2 "room_beside" ["bounds", "event", "row"] (spD K 3 f_room_beside)) (d : Dm K C "_window" "Telling._window" (mt 1)) : FxM P w K mg base 3 C "_window" ["self", "event"] (spF K C 1 (f_Telling__window C)) :=
  fx_ofF d sc_Telling__window bb_Telling__window rfl (by decide) fun f cdv A outer s H Q E hr => ⟨_,
  (pss_one (ps_ret (pe_fx G_room_beside (hr.mono (by decide)) (by rfl) (pa_cons (pe_fld (pv 0) (by rfl)) (pa_cons (pv 1) (pa_cons (pe_fld (pv 0) (by rfl)) pa_nil)))))),
  (ss_ret (se_call (sa_cons (se_fld TO 0 1 (.tail _ (.head _))) (sa_cons (se_var 1) (sa_cons (se_fld TO 0 3 (.tail _ (.tail _ (.tail _ (.head _))))) sa_nil)))))⟩
theorem fx_Telling_windows (T : Txt mg) {C : Addr} (TO : OC K C ["_walks", "_bounds", "_net", "_pieces"]) (G_Telling__window : FxM P w K mg base 3 C "_window" ["self", "event"] (spF K C 1 (f_Telling__window C))) (d : Dm K C "windows" "Telling.windows" (mt 5)) : FxM P w K mg base 4 C "windows" ["self"] (spF K C 0 (f_Telling_windows C)) :=
  fx_ofF d sc_Telling_windows bb_Telling_windows rfl (by decide) fun f cdv A outer s H Q E hr => ⟨_,
  (pss_one (ps_ret (pe_callTy call_tuple_of (by rfl) T.b_tuple bt_tuple (pa_cons (pe_lc (own := [("event", 1)]) (g := (gName 1)) rfl sc_Telling_windows.nd (pi_range1 (by rfl) T.b_range (pa_cons (pe_ix ix_seq (pe_fld (pv 0) (by rfl)) pe_int (fun _ _ => rfl)) pa_nil)) (blkOk_by (own := [("event", 1)]) (N := N_Telling_windows) (sc := defScope (mt 5)) (by decide +kernel)) (fun _ _ _ _ _ => (pg_name (i := 1) sc_Telling_windows.nd rfl (by first | exact .inl rfl | exact .inr rfl))) (fun _ _ _ _ _ => pts_nil) (fun _ _ _ _ _ => (pe_m G_Telling__window TO.cls (hr.mono (by decide)) (pv 0) (pa_cons (pv 1) pa_nil)))) pa_nil)))),
  (ss_ret (se_cb sc_tuple (sa_cons (se_own (so_lc (vs := [1]) (si_range1 (sa_cons (se_op s2_ix (se_fld TO 0 2 (.tail _ (.tail _ (.head _)))) se_int) sa_nil)) (sg_name 1) st_yes (se_callF 0 (sa_cons (se_var 1) sa_nil)))) sa_nil)))⟩
theorem fx_is_news_time (d : Df K mg "is_news_time" (top 25)) (T : Txt mg) (G_is_integer : Fx P w K mg base 2 "is_integer" ["value", "least", "greatest"] (spD K 3 f_is_integer)) : Fx P w K mg base 3 "is_news_time" ["value"] (spD K 1 f_is_news_time) :=
  fx_of d sc_is_news_time bb_is_news_time rfl fun f cdv A outer s H Q E hr => ⟨_,
  (pss_one (ps_ret (pe_fx G_is_integer (hr.mono (by decide)) (by rfl) (pa_cons (pv 0) (pa_cons (pe_un un_neg (pe_gint T.c_GREATEST_NEWS_TIME (by rfl))) (pa_cons (pe_gint T.c_GREATEST_NEWS_TIME (by rfl)) pa_nil)))))),
  (ss_ret (se_call (sa_cons (se_var 0) (sa_cons (se_un s1_neg se_int) (sa_cons se_int sa_nil)))))⟩
theorem fx_clamped (d : Df K mg "clamped" (top 21)) (T : Txt mg)  : Fx P w K mg base 1 "clamped" ["height", "low", "high"] (spD K 3 f_clamped) :=
  fx_of d sc_clamped bb_clamped rfl fun f cdv A outer s H Q E hr => ⟨_,
  (pss_cons (ps_if (pt_cmpR op_notN (pv 1) pe_non (nomark _))
  (pss_one (ps_set (i := 0) sc_clamped.nd rfl (by first | exact .inl rfl | exact .inr rfl) (pe_callB (call_max2 rfl) (by rfl) T.b_max bt_max (pa_cons (pv 0) (pa_cons (pv 1) pa_nil)))))
  pss_nil)
  (pss_cons (ps_if (pt_cmpR op_notN (pv 2) pe_non (nomark _))
  (pss_one (ps_set (i := 0) sc_clamped.nd rfl (by first | exact .inl rfl | exact .inr rfl) (pe_callB (call_min2 rfl) (by rfl) T.b_min bt_min (pa_cons (pv 0) (pa_cons (pv 2) pa_nil)))))
  pss_nil)
  (pss_one (ps_ret (pv 0))))),
  (ss_seq (ss_if (st_test (se_op s2_notN (se_var 1) se_non))
  (ss_set (i := 0) (se_cb sc_max2 (sa_cons (se_var 0) (sa_cons (se_var 1) sa_nil))))
  ss_next)
  (ss_seq (ss_if (st_test (se_op s2_notN (se_var 2) se_non))
  (ss_set (i := 0) (se_cb sc_min2 (sa_cons (se_var 0) (sa_cons (se_var 2) sa_nil))))
  ss_next)
  (ss_ret (se_var 0))))⟩
theorem fx_Telling_tell (T : Txt mg) {C : Addr} (TO : OC K C ["_walks", "_bounds", "_net", "_pieces"]) (G_check_event : Fx P w K mg base 4 "check_event" ["net", "name", "event"] (spD K 3 f_check_event)) (G_Telling__window : FxM P w K mg base 3 C "_window" ["self", "event"] (spF K C 1 (f_Telling__window C))) (G_Telling_windows : FxM P w K mg base 4 C "windows" ["self"] (spF K C 0 (f_Telling_windows C))) (G_is_news_time : Fx P w K mg base 3 "is_news_time" ["value"] (spD K 1 f_is_news_time)) (G_clamped : Fx P w K mg base 1 "clamped" ["height", "low", "high"] (spD K 3 f_clamped)) (d : Dm K C "tell" "Telling.tell" (mt 3)) : FxM P w K mg base 5 C "tell" ["self", "event", "time"] (spM K C 2 (f_Telling_tell C)) :=
  fx_ofM d sc_Telling_tell bb_Telling_tell rfl (by decide) fun f cdv A outer s H Q E hr => ⟨_,
  (pss_cons (ps_expr (pe_fx G_check_event (hr.mono (by decide)) (by rfl) (pa_cons (pe_fld (pv 0) (by rfl)) (pa_cons pe_str (pa_cons (pv 1) pa_nil)))))
  (pss_cons (ps_if (pt_not (pt_truth (pe_fx G_is_news_time (hr.mono (by decide)) (by rfl) (pa_cons (pv 2) pa_nil)) (by intro _; rfl)))
  (pss_one ps_never)
  pss_nil)
  (pss_cons (ps_if (pt_cmpR op_in_seq (pv 1) (pe_lc (own := [("other", 5), ("_", 6)]) (g := (gSq K 2 (gCons (gName 5) (gCons (gName 6) gNil)))) rfl sc_Telling_tell.nd (pi_seq (pe_fld (pv 0) (by rfl))) (blkOk_by (own := [("other", 5), ("_", 6)]) (N := N_Telling_tell) (sc := defScope (mt 3)) (by decide +kernel)) (fun _ _ _ _ _ => (pg_sq rfl (pgs_cons (pg_name (i := 5) sc_Telling_tell.nd rfl (by first | exact .inl rfl | exact .inr rfl)) (pgs_cons (pg_name (i := 6) sc_Telling_tell.nd rfl (by first | exact .inl rfl | exact .inr rfl)) pgs_nil)))) (fun _ _ _ _ _ => pts_nil) (fun _ _ _ _ _ => (pv 5))) (by rfl))
  (pss_one ps_never)
  pss_nil)
  (pss_cons (ps_asg (pe_m G_Telling__window TO.cls (hr.mono (by decide)) (pv 0) (pa_cons (pv 1) pa_nil)) (pg_sq rfl (pgs_cons (pg_name (i := 3) sc_Telling_tell.nd rfl (by first | exact .inl rfl | exact .inr rfl)) (pgs_cons (pg_name (i := 4) sc_Telling_tell.nd rfl (by first | exact .inl rfl | exact .inr rfl)) pgs_nil))))
  (pss_cons (ps_if (pt_cmpR (op_neD hr.units) (pe_fx G_clamped (hr.mono (by decide)) (by rfl) (pa_cons (pv 2) (pa_cons (pv 3) (pa_cons (pv 4) pa_nil)))) (pv 2) (nomark _))
  (pss_one ps_never)
  pss_nil)
  (pss_cons (ps_expr (pe_bm PySem.F.plainAttrs_list PySem.F.slot_list_append PySem.F.type_list_append mt_append (pe_fld (pv 0) (by rfl)) (pa_cons (pe_tup (pa_cons (pv 1) (pa_cons (pv 2) pa_nil))) pa_nil)))
  (pss_one (ps_ret (pe_m0 G_Telling_windows TO.cls (hr.mono (by decide)) (pv 0)))))))))),
  (ss_seq (ss_drop (se_call (sa_cons (se_fld TO 0 2 (.tail _ (.tail _ (.head _)))) (sa_cons se_str (sa_cons (se_var 1) sa_nil)))))
  (ss_seq (ss_if (st_not (st_truth (se_call (sa_cons (se_var 2) sa_nil))))
  ss_never
  ss_next)
  (ss_seq (ss_if (st_fz 0 (st_test (se_op s2_in (se_var 1) (se_own (so_lc (vs := [5, 6]) (si_seq (se_fld TO 0 3 (.tail _ (.tail _ (.tail _ (.head _)))))) (sg_tup (sgs_cons (sg_name 5) (sgs_cons (sg_name 6) sgs_nil))) st_yes (se_var 5))))))
  ss_never
  ss_next)
  (ss_seq (ss_asg (vs := [3, 4]) (se_fz 0 (se_callF 0 (sa_cons (se_var 1) sa_nil))) (sg_tup (sgs_cons (sg_name 3) (sgs_cons (sg_name 4) sgs_nil))))
  (ss_seq (ss_if (st_test (se_op s2_ne (se_call (sa_cons (se_var 2) (sa_cons (se_var 3) (sa_cons (se_var 4) sa_nil)))) (se_var 2)))
  ss_never
  ss_next)
  (ss_seq (ss_appF TO 0 0 (se_tup (sa_cons (se_var 1) (sa_cons (se_var 2) sa_nil))) (.tail _ (.tail _ (.tail _ (.head _)))))
  (ss_retE (se_fz 0 (se_callF 0 sa_nil)))))))))⟩
theorem fxX_Telling_tell (T : Txt mg) {C : Addr} (TO : OC K C ["_walks", "_bounds", "_net", "_pieces"]) (G_check_event : Fx P w K mg base 4 "check_event" ["net", "name", "event"] (spD K 3 f_check_event)) (G_Telling__window : FxM P w K mg base 3 C "_window" ["self", "event"] (spF K C 1 (f_Telling__window C))) (G_Telling_windows : FxM P w K mg base 4 C "windows" ["self"] (spF K C 0 (f_Telling_windows C))) (G_is_news_time : Fx P w K mg base 3 "is_news_time" ["value"] (spD K 1 f_is_news_time)) (G_clamped : Fx P w K mg base 1 "clamped" ["height", "low", "high"] (spD K 3 f_clamped)) (d : Dm K C "tell" "Telling.tell" (mt 3)) (GX_check_event : FxX P w K mg base 4 "check_event" ["net", "name", "event"] 3 f_check_event fX_check_event) {C0 : Addr} (X_0 : XC P w K mg base 0 C0) {C1 : Addr} (X_1 : XC P w K mg base 1 C1) : FxMX P w K mg base 5 C "tell" ["self", "event", "time"] (spMX K mg C 2 (fX_Telling_tell C)) :=
  fx_ofMX d sc_Telling_tell bb_Telling_tell rfl (by decide) fun f cdv A outer s H E hr => ⟨_,
  by have tk := takes_of (X := cxOf (L2.CX P w) P w K mg base N_Telling_tell "Telling.tell" (defScope (mt 3)) f cdv A outer s H E) (E := E) rfl rfl rfl rfl; have po := passes_of (X := cxOf (L2.CX P w) P w K mg base N_Telling_tell "Telling.tell" (defScope (mt 3)) f cdv A outer s H E) rfl; exact (pss_cons (ps_expr (pe_fxX GX_check_event rfl rfl (hr.mono (by decide)) (by rfl) tk (pa_cons (PE.nox (pe_fld (pv 0) (by rfl))) (pa_cons (PE.nox pe_str) (pa_cons (PE.nox (pv 1)) pa_nil)))))
  (pss_cons (ps_if (PT.nox (pt_not (pt_truth (pe_fx G_is_news_time (hr.mono (by decide)) (by rfl) (pa_cons (pv 2) pa_nil)) (by intro _; rfl))))
  (pss_one (ps_raise1 (c := 0) X_0 rfl tk (hr.mono (by decide)) (by rfl) pe_str))
  pss_nil)
  (pss_cons (ps_if (PT.nox (pt_cmpR op_in_seq (pv 1) (pe_lc (own := [("other", 5), ("_", 6)]) (g := (gSq K 2 (gCons (gName 5) (gCons (gName 6) gNil)))) rfl sc_Telling_tell.nd (pi_seq (pe_fld (pv 0) (by rfl))) (blkOk_by (own := [("other", 5), ("_", 6)]) (N := N_Telling_tell) (sc := defScope (mt 3)) (by decide +kernel)) (fun _ _ _ _ _ => (pg_sq rfl (pgs_cons (pg_name (i := 5) sc_Telling_tell.nd rfl (by first | exact .inl rfl | exact .inr rfl)) (pgs_cons (pg_name (i := 6) sc_Telling_tell.nd rfl (by first | exact .inl rfl | exact .inr rfl)) pgs_nil)))) (fun _ _ _ _ _ => pts_nil) (fun _ _ _ _ _ => (pv 5))) (by rfl)))
  (pss_one (ps_raise1 (c := 1) X_1 rfl tk (hr.mono (by decide)) (by rfl) pe_str))
  pss_nil)
  (pss_cons (ps_nox (ps_asg (pe_m G_Telling__window TO.cls (hr.mono (by decide)) (pv 0) (pa_cons (pv 1) pa_nil)) (pg_sq rfl (pgs_cons (pg_name (i := 3) sc_Telling_tell.nd rfl (by first | exact .inl rfl | exact .inr rfl)) (pgs_cons (pg_name (i := 4) sc_Telling_tell.nd rfl (by first | exact .inl rfl | exact .inr rfl)) pgs_nil)))))
  (pss_cons (ps_if (PT.nox (pt_cmpR (op_neD hr.units) (pe_fx G_clamped (hr.mono (by decide)) (by rfl) (pa_cons (pv 2) (pa_cons (pv 3) (pa_cons (pv 4) pa_nil)))) (pv 2) (nomark _)))
  (pss_one (ps_raise1 (c := 1) X_1 rfl tk (hr.mono (by decide)) (by rfl) pe_str))
  pss_nil)
  (pss_cons (ps_nox (ps_expr (pe_bm PySem.F.plainAttrs_list PySem.F.slot_list_append PySem.F.type_list_append mt_append (pe_fld (pv 0) (by rfl)) (pa_cons (pe_tup (pa_cons (pv 1) (pa_cons (pv 2) pa_nil))) pa_nil))))
  (pss_one (ps_nox (ps_ret (pe_m0 G_Telling_windows TO.cls (hr.mono (by decide)) (pv 0))))))))))),
  fun x => (ssg_seqC (fun _ _ _ _ _ _ _ h => h) (ssg_drop (seg_callX (sag_cons cx1_kept (seg_of (se_fld TO 0 2 (.tail _ (.tail _ (.head _))))) (sag_cons cx1_kept (seg_of se_str) (sag_cons cx1_kept (seg_of (se_var 1)) sag_nil)))))
  (ssg_seqC (fun _ _ _ _ _ _ _ h => h) (ssg_if cx1_kept (stg_of (st_not (st_truth (se_call (sa_cons (se_var 2) sa_nil)))))
  (ssg_raise (c := 0) X_0 se_str)
  (ssg_of ss_next))
  (ssg_seqC (fun _ _ _ _ _ _ _ h => h) (ssg_if cx1_kept (stg_of (st_fz 0 (st_test (se_op s2_in (se_var 1) (se_own (so_lc (vs := [5, 6]) (si_seq (se_fld TO 0 3 (.tail _ (.tail _ (.tail _ (.head _)))))) (sg_tup (sgs_cons (sg_name 5) (sgs_cons (sg_name 6) sgs_nil))) st_yes (se_var 5)))))))
  (ssg_raise (c := 1) X_1 se_str)
  (ssg_of ss_next))
  (ssg_seqC (fun _ _ _ _ _ _ _ h => h) (ssg_of (ss_asg (vs := [3, 4]) (se_fz 0 (se_callF 0 (sa_cons (se_var 1) sa_nil))) (sg_tup (sgs_cons (sg_name 3) (sgs_cons (sg_name 4) sgs_nil)))))
  (ssg_seqC (fun _ _ _ _ _ _ _ h => h) (ssg_if cx1_kept (stg_of (st_test (se_op s2_ne (se_call (sa_cons (se_var 2) (sa_cons (se_var 3) (sa_cons (se_var 4) sa_nil)))) (se_var 2))))
  (ssg_raise (c := 1) X_1 se_str)
  (ssg_of ss_next))
  (ssg_seqC (fun _ _ _ _ _ _ _ h => h) (ssg_of (ss_appF TO 0 0 (se_tup (sa_cons (se_var 1) (sa_cons (se_var 2) sa_nil))) (.tail _ (.tail _ (.tail _ (.head _))))))
  (ssg_of (ss_retE (se_fz 0 (se_callF 0 sa_nil))))))))))⟩
theorem fx_Telling_told (T : Txt mg) {C : Addr} (TO : OC K C ["_walks", "_bounds", "_net", "_pieces"])  (d : Dm K C "told" "Telling.told" (mt 6)) : FxM P w K mg base 1 C "told" ["self"] (spTP K C "_pieces") :=
  fx_ofTP TO (g := "_pieces") (by decide) d sc_Telling_told bb_Telling_told rfl (by decide) fun f cdv A outer s H Q E hr => (pss_one (ps_ret (pe_callTy cr_tupF (by rfl) T.b_tuple bt_tuple (pa_cons (pe_fld (pv 0) (by rfl)) pa_nil))))
theorem fx_L_excess (d : Df K mg "_law_excess" (top 44)) (T : Txt mg)  : Fx P w K mg base 1 "_law_excess" ["rule", "times"] (spD K 2 f_L_excess) :=
  fx_of d sc_L_excess bb_L_excess rfl fun f cdv A outer s H Q E hr => ⟨_,
  (pss_cons (ps_asg (pv 0) (pg_sq rfl (pgs_cons (pg_name (i := 3) sc_L_excess.nd rfl (by first | exact .inl rfl | exact .inr rfl)) (pgs_cons (pg_name (i := 4) sc_L_excess.nd rfl (by first | exact .inl rfl | exact .inr rfl)) (pgs_cons (pg_name (i := 5) sc_L_excess.nd rfl (by first | exact .inl rfl | exact .inr rfl)) (pgs_cons (pg_name (i := 6) sc_L_excess.nd rfl (by first | exact .inl rfl | exact .inr rfl)) pgs_nil))))))
  (pss_cons (ps_set (i := 2) sc_L_excess.nd rfl (by first | exact .inl rfl | exact .inr rfl) (pe_op op_sub (pe_ix ix_seq (pv 1) (pv 4) (fun _ _ => rfl)) (pe_ix ix_seq (pv 1) (pv 3) (fun _ _ => rfl))))
  (pss_cons (ps_if (PW.pt (pw_and (pt_cmpR op_notN (pv 5) pe_non (nomark _)) (pw_and1 (pt_cmpR op_gt (pv 5) (pv 2) (nomark _)))))
  (pss_one (ps_ret (pe_op op_sub (pv 2) (pv 5))))
  pss_nil)
  (pss_one (ps_ret (pe_ifExp (PW.pt (pw_and (pt_cmpR op_notN (pv 6) pe_non (nomark _)) (pw_and1 (pt_cmpR op_gt (pv 2) (pv 6) (nomark _))))) (pe_op op_sub (pv 2) (pv 6)) pe_int)))))),
  (ss_seq (ss_asg (vs := [3, 4, 5, 6]) (se_var 0) (sg_tup (sgs_cons (sg_name 3) (sgs_cons (sg_name 4) (sgs_cons (sg_name 5) (sgs_cons (sg_name 6) sgs_nil))))))
  (ss_seq (ss_set (i := 2) (se_op s2_sub (se_op s2_ix (se_var 1) (se_var 4)) (se_op s2_ix (se_var 1) (se_var 3))))
  (ss_seq (ss_if (st_and (st_test (se_op s2_notN (se_var 5) se_non)) (st_test (se_op s2_gt (se_var 5) (se_var 2))))
  (ss_ret (se_op s2_sub (se_var 2) (se_var 5)))
  ss_next)
  (ss_ret (se_if (st_and (st_test (se_op s2_notN (se_var 6) se_non)) (st_test (se_op s2_gt (se_var 2) (se_var 6)))) (se_op s2_sub (se_var 2) (se_var 6)) se_int)))))⟩
theorem fx_L_holds (d : Df K mg "_law_holds" (top 45)) (T : Txt mg) (G_L_excess : Fx P w K mg base 1 "_law_excess" ["rule", "times"] (spD K 2 f_L_excess)) : Fx P w K mg base 2 "_law_holds" ["net", "times"] (spD K 2 f_L_holds) :=
  fx_of d sc_L_holds bb_L_holds rfl fun f cdv A outer s H Q E hr => ⟨_,
  (pss_one (ps_ret (pe_callB (cr_all rfl) (by rfl) T.b_all bt_all (pa_cons (pe_lc (own := [("rule", 2)]) (g := (gName 2)) rfl sc_L_holds.nd (pi_seq (pe_ix ix_seq (pv 0) pe_int (fun _ _ => rfl))) (blkOk_by (own := [("rule", 2)]) (N := N_L_holds) (sc := defScope (top 45)) (by decide +kernel)) (fun _ _ _ _ _ => (pg_name (i := 2) sc_L_holds.nd rfl (by first | exact .inl rfl | exact .inr rfl))) (fun _ _ _ _ _ => pts_nil) (fun _ _ _ _ _ => (pe_cmpR (op_eqD hr.units) (pe_fx G_L_excess (hr.mono (by decide)) (by rfl) (pa_cons (pv 2) (pa_cons (pv 1) pa_nil))) pe_int (nomark _)))) pa_nil)))),
  (ss_ret (se_cb sc_all (sa_cons (se_own (so_lc (vs := [2]) (si_seq (se_op s2_ix (se_var 0) se_int)) (sg_name 2) st_yes (se_op s2_eq (se_call (sa_cons (se_var 2) (sa_cons (se_var 1) sa_nil))) se_int))) sa_nil)))⟩
theorem fx_told_witness (d : Df K mg "told_witness" (top 34)) (T : Txt mg) (G_room_beside : Fx P w K mg base 2 "room_beside" ["bounds", "event", "row"] (spD K 3 f_room_beside)) : Fx P w K mg base 3 "told_witness" ["bounds", "row"] (spD K 2 f_told_witness) :=
  fx_of d sc_told_witness bb_told_witness rfl fun f cdv A outer s H Q E hr => ⟨_,
  (pss_cons (ps_set (i := 2) sc_told_witness.nd rfl (by first | exact .inl rfl | exact .inr rfl) (pe_dc (own := [("event", 3), ("time", 4)]) (g := (gSq K 2 (gCons (gName 3) (gCons (gName 4) gNil)))) rfl sc_told_witness.nd (pi_seq (pv 1)) (blkOk_by (own := [("event", 3), ("time", 4)]) (N := N_told_witness) (sc := defScope (top 34)) (by decide +kernel)) (fun _ _ _ _ _ => (pg_sq rfl (pgs_cons (pg_name (i := 3) sc_told_witness.nd rfl (by first | exact .inl rfl | exact .inr rfl)) (pgs_cons (pg_name (i := 4) sc_told_witness.nd rfl (by first | exact .inl rfl | exact .inr rfl)) pgs_nil)))) (fun _ _ _ _ _ => pts_nil) (fun _ _ _ _ _ => (pv 3)) (fun _ _ _ _ _ => (pv 4))))
  (pss_cons (ps_for PassesOwn.never rfl (pi_range1 (by rfl) T.b_range (pa_cons (pe_callB call_len_seq (by rfl) T.b_len PySem.boot_len (pa_cons (pv 0) pa_nil)) pa_nil)) (pg_name (i := 3) sc_told_witness.nd rfl (by first | exact .inl rfl | exact .inr rfl))
  (pss_one (ps_if (pt_cmpR (op_kNotIn (hr.units1)) (pv 3) (pv 2) (by rfl))
  (pss_cons (ps_asg (pe_fx G_room_beside (hr.mono (by decide)) (by rfl) (pa_cons (pv 0) (pa_cons (pv 3) (pa_cons (LiI.pe_listItems rfl (pv 2) (by rfl) T.b_list bt_list) pa_nil)))) (pg_sq rfl (pgs_cons (pg_name (i := 5) sc_told_witness.nd rfl (by first | exact .inl rfl | exact .inr rfl)) (pgs_cons (pg_name (i := 6) sc_told_witness.nd rfl (by first | exact .inl rfl | exact .inr rfl)) pgs_nil))))
  (pss_one (ps_if (pt_cmpR op_notN (pv 5) pe_non (nomark _))
  (pss_one (ps_dput (hr.units1) (pv 2) (pv 3) (pv 5) (by rfl)))
  (pss_one (ps_dput (hr.units1) (pv 2) (pv 3) (pe_ifExp (pt_cmpR op_isN (pv 6) pe_non (nomark _)) pe_int (pv 6)) (by rfl))))))
  pss_nil)))
  (pss_one (ps_ret (pe_callTy call_tuple_of (by rfl) T.b_tuple bt_tuple (pa_cons (pe_lc (own := [("event", 3)]) (g := (gName 3)) rfl sc_told_witness.nd (pi_range1 (by rfl) T.b_range (pa_cons (pe_callB call_len_seq (by rfl) T.b_len PySem.boot_len (pa_cons (pv 0) pa_nil)) pa_nil)) (blkOk_by (own := [("event", 3)]) (N := N_told_witness) (sc := defScope (top 34)) (by decide +kernel)) (fun _ _ _ _ _ => (pg_name (i := 3) sc_told_witness.nd rfl (by first | exact .inl rfl | exact .inr rfl))) (fun _ _ _ _ _ => pts_nil) (fun _ _ _ _ _ => (pe_dget (hr.units1) (pv 2) (pv 3) (fun _ _ => rfl)))) pa_nil)))))),
  (ss_seq (ss_dcI (vs := [3, 4]) 2 (si_seq (se_var 1)) (sg_tup (sgs_cons (sg_name 3) (sgs_cons (sg_name 4) sgs_nil))) st_yes (se_var 3) (se_var 4))
  (ss_seq (ss_for (vs := [3]) (si_range1 (sa_cons (se_cb sc_len (sa_cons (se_var 0) sa_nil)) sa_nil)) (sg_name 3)
  (ss_if (st_test (se_inK true 2 (se_var 3)))
  (ss_seq (ss_asg (vs := [5, 6]) (se_call (sa_cons (se_var 0) (sa_cons (se_var 3) (sa_cons (se_itemsK 2) sa_nil)))) (sg_tup (sgs_cons (sg_name 5) (sgs_cons (sg_name 6) sgs_nil))))
  (ss_if (st_test (se_op s2_notN (se_var 5) se_non))
  (ss_putK 2 (se_var 3) (se_var 5))
  (ss_putK 2 (se_var 3) (se_if (st_test (se_op s2_isN (se_var 6) se_non)) se_int (se_var 6)))))
  ss_next))
  (ss_ret (se_cb sc_tuple (sa_cons (se_own (so_lc (vs := [3]) (si_range1 (sa_cons (se_cb sc_len (sa_cons (se_var 0) sa_nil)) sa_nil)) (sg_name 3) st_yes (se_getK 2 (se_var 3)))) sa_nil)))))⟩
theorem fx_Telling_heights (T : Txt mg) {C : Addr} (TO : OC K C ["_walks", "_bounds", "_net", "_pieces"]) (G_told_witness : Fx P w K mg base 3 "told_witness" ["bounds", "row"] (spD K 2 f_told_witness)) (d : Dm K C "heights" "Telling.heights" (mt 7)) : FxM P w K mg base 4 C "heights" ["self"] (spF K C 0 (f_Telling_heights C)) :=
  fx_ofF d sc_Telling_heights bb_Telling_heights rfl (by decide) fun f cdv A outer s H Q E hr => ⟨_,
  (pss_one (ps_ret (pe_fx G_told_witness (hr.mono (by decide)) (by rfl) (pa_cons (pe_fld (pv 0) (by rfl)) (pa_cons (pe_fld (pv 0) (by rfl)) pa_nil))))),
  (ss_ret (se_call (sa_cons (se_fld TO 0 1 (.tail _ (.head _))) (sa_cons (se_fld TO 0 3 (.tail _ (.tail _ (.tail _ (.head _))))) sa_nil))))⟩
theorem fx_L_can_be_told (d : Df K mg "_law_can_be_told" (top 49)) (T : Txt mg) {C : Addr} (TO : OC K C ["_walks", "_bounds", "_net", "_pieces"]) (G_Telling___init__ : FxN P w K mg base 7 "Telling" C ["self", "net"] (spN K C 1 (f_Telling___init__ C))) (G_Telling_heights : FxM P w K mg base 4 C "heights" ["self"] (spF K C 0 (f_Telling_heights C))) (G_Telling_tell : FxM P w K mg base 5 C "tell" ["self", "event", "time"] (spM K C 2 (f_Telling_tell C))) (GX_Telling_tell : FxMX P w K mg base 5 C "tell" ["self", "event", "time"] (spMX K mg C 2 (fX_Telling_tell C))) {C0 : Addr} (X_0 : XC P w K mg base 0 C0) {C1 : Addr} (X_1 : XC P w K mg base 1 C1) {B_NotPossible : Addr} (N_NotPossible : mg "NotPossible" = some (.ref B_NotPossible)) (E_NotPossible : ExF K mg B_NotPossible [some false, some true, none]) : Fx P w K mg base 9 "_law_can_be_told" ["net", "order", "times"] (spD K 3 (f_L_can_be_told C)) :=
  fx_of d sc_L_can_be_told bb_L_can_be_told rfl fun f cdv A outer s H Q E hr => ⟨_,
  (pss_cons (ps_set (i := 3) sc_L_can_be_told.nd rfl (by first | exact .inl rfl | exact .inr rfl) (pe_mk G_Telling___init__ (hr.mono (by decide)) (by rfl) (pa_cons (pv 0) pa_nil)))
  (pss_cons (ps_try_only rfl rfl ⟨by rfl, by decide, .inl N_NotPossible⟩ takes0 (fun W pn xe tk po => (pss_one (ps_for po rfl (pi_seq (PE.nox (pv 1))) (pg_name (i := 4) sc_L_can_be_told.nd rfl (by first | exact .inl rfl | exact .inr rfl))
  (pss_one (ps_expr (pe_mX GX_Telling_tell rfl rfl TO.cls (hr.mono (by decide)) tk (pv 3) (pa_cons (PE.nox (pv 4)) (pa_cons (PE.nox (pe_ix ix_seq (pv 2) (pv 4) (fun _ _ => rfl))) pa_nil))))))))
  (fun a oe cls d pn hz hf => show PSs _ _ _ from (pss_one (ps_ret pe_bl))))
  (pss_one (ps_ret (pe_cmpR (op_eqD hr.units) (pe_m0 G_Telling_heights TO.cls (hr.mono (by decide)) (pv 3)) (pv 2) (nomark _)))))),
  (ss_seq (ss_asgN 3 (sa_cons (se_var 0) sa_nil))
  (ss_seq (ss_tryO E_NotPossible (fun W x => (ssg_for (vs := [4]) cx1_base (si_seq (se_var 1)) (sg_name 4)
  (ssgm_drop (semg_methX 3 (sag_cons cx1_kept (seg_of (se_var 4)) (sag_cons cx1_kept (seg_of (se_op s2_ix (se_var 2) (se_var 4))) sag_nil))))))
  (ss_ret se_bl))
  (ss_ret (se_op s2_eq (se_fz 3 (se_callF 3 sa_nil)) (se_var 2)))))⟩
theorem fx_law {f : Addr} {fd : FuncData} (F : Fun K "law" "law" (top 50) f fd) (T : Txt mg) {C : Addr} (TO : OC K C ["_walks", "_bounds", "_net", "_pieces"]) (G_L_stream : Fx P w K mg base 1 "_law_stream" ["script"] (spStream K)) (G_L_net : Fx P w K mg base 4 "_law_net" ["stream", "most", "many", "far"] (spS K 3 f_L_net)) (G_Telling___init__ : FxN P w K mg base 7 "Telling" C ["self", "net"] (spN K C 1 (f_Telling___init__ C))) (G_L_order : Fx P w K mg base 2 "_law_order" ["stream", "many"] (spS K 1 f_L_order)) (G_L_bounds : Fx P w K mg base 2 "_law_bounds" ["net"] (spD K 1 (f_L_bounds w))) (G_L_all_times : Fx P w K mg base 1 "_law_all_times" ["size", "far"] (spD K 2 f_L_all_times)) (G_Telling_tell : FxM P w K mg base 5 C "tell" ["self", "event", "time"] (spM K C 2 (f_Telling_tell C))) (G_Telling_told : FxM P w K mg base 1 C "told" ["self"] (spTP K C "_pieces")) (G_L_holds : Fx P w K mg base 2 "_law_holds" ["net", "times"] (spD K 2 f_L_holds)) (G_L_pick : Fx P w K mg base 2 "_law_pick" ["stream", "rows"] (spS K 1 f_L_pick)) (G_Telling_windows : FxM P w K mg base 4 C "windows" ["self"] (spF K C 0 (f_Telling_windows C))) (G_Telling_heights : FxM P w K mg base 4 C "heights" ["self"] (spF K C 0 (f_Telling_heights C))) (G_L_can_be_told : Fx P w K mg base 9 "_law_can_be_told" ["net", "order", "times"] (spD K 3 (f_L_can_be_told C))) (G_L_next : Fx P w K mg base 1 "_law_next" ["stream", "many"] (spS K 1 f_next)) (pure : t_law w C { nx := fun _ => False, rt := fun d => d = .bool true } (none :: some .strm :: List.replicate (N_law.length - 2) none)) : FnOk P w K mg base CX0 10 f fd ["script"] (spLaw K) :=
  law_of F sc_law (by decide) pure fun cdv A outer s H Q E hr => ⟨_,
  (pss_cons (ps_set (i := 1) sc_law.nd rfl (by first | exact .inl rfl | exact .inr rfl) (pe_fx G_L_stream (hr.mono (by decide)) (by rfl) (pa_cons (pv 0) pa_nil)))
  (pss_cons (ps_set (i := 2) sc_law.nd rfl (by first | exact .inl rfl | exact .inr rfl) (pe_fx G_L_net (hr.mono (by decide)) (by rfl) (pa_cons (pv 1) (pa_cons pe_int (pa_cons pe_int (pa_cons pe_int pa_nil))))))
  (pss_cons (ps_if (pt_cmpR op_notN (pe_fx G_L_bounds (hr.mono (by decide)) (by rfl) (pa_cons (pv 2) pa_nil)) pe_non (nomark _))
  (pss_cons (ps_set (i := 7) sc_law.nd rfl (by first | exact .inl rfl | exact .inr rfl) (pe_fx G_L_order (hr.mono (by decide)) (by rfl) (pa_cons (pv 1) (pa_cons (pe_ix ix_seq (pv 2) pe_int (fun _ _ => rfl)) pa_nil))))
  (pss_cons (ps_set (i := 8) sc_law.nd rfl (by first | exact .inl rfl | exact .inr rfl) (pe_fx G_L_all_times (hr.mono (by decide)) (by rfl) (pa_cons (pe_ix ix_seq (pv 2) pe_int (fun _ _ => rfl)) (pa_cons pe_int pa_nil))))
  (pss_cons (ps_setLc (i := 9) (own := [("row", 6)]) (g := (gName 6)) rfl sc_law.nd rfl rfl (sw_true rfl rfl rfl (by decide +kernel)) (pi_seq (pv 8)) (blkOk_by (own := [("row", 6)]) (N := N_law) (sc := defScope (top 50)) (by decide +kernel)) (fun _ _ _ _ _ => (pg_name (i := 6) sc_law.nd rfl (by first | exact .inl rfl | exact .inr rfl))) (fun _ _ _ _ _ => (pts_one (pt_truth (pe_fx G_L_holds (hr.mono (by decide)) (by rfl) (pa_cons (pv 2) (pa_cons (pv 6) pa_nil))) (by intro _; rfl)))) (fun _ _ _ _ _ => (pv 6)))
  (pss_one (ps_for PassesOwn.never rfl (pi_range1 (by rfl) T.b_range (pa_cons pe_int pa_nil)) (pg_name (i := 10) sc_law.nd rfl (by first | exact .inl rfl | exact .inr rfl))
  (pss_cons (ps_set (i := 6) sc_law.nd rfl (by first | exact .inl rfl | exact .inr rfl) (pe_fx G_L_pick (hr.mono (by decide)) (by rfl) (pa_cons (pv 1) (pa_cons (pe_ifExp (PW.pt (pw_and (pt_truth (pv 9) (by intro _; rfl)) (pw_and1 (pt_cmpR op_lt (pv 10) pe_int (nomark _))))) (pv 9) (pv 8)) pa_nil))))
  (pss_one (ps_if (pt_cmpR (op_neD hr.units) (pe_fx G_L_can_be_told (hr.mono (by decide)) (by rfl) (pa_cons (pv 2) (pa_cons (pv 7) (pa_cons (pv 6) pa_nil)))) (pe_fx G_L_holds (hr.mono (by decide)) (by rfl) (pa_cons (pv 2) (pa_cons (pv 6) pa_nil))) (nomark _))
  (pss_one (ps_ret pe_bl))
  pss_nil))))))))
  pss_nil)
  (pss_cons (ps_set (i := 2) sc_law.nd rfl (by first | exact .inl rfl | exact .inr rfl) (pe_fx G_L_net (hr.mono (by decide)) (by rfl) (pa_cons (pv 1) (pa_cons pe_int (pa_cons pe_int (pa_cons pe_int pa_nil))))))
  (pss_cons (ps_if (pt_cmpR op_isN (pe_fx G_L_bounds (hr.mono (by decide)) (by rfl) (pa_cons (pv 2) pa_nil)) pe_non (nomark _))
  (pss_one (ps_ret pe_bl))
  pss_nil)
  (pss_cons (ps_set (i := 3) sc_law.nd rfl (by first | exact .inl rfl | exact .inr rfl) (pe_mk G_Telling___init__ (hr.mono (by decide)) (by rfl) (pa_cons (pv 2) pa_nil)))
  (pss_cons (ps_for PassesOwn.never rfl (pi_seq (pe_fx G_L_order (hr.mono (by decide)) (by rfl) (pa_cons (pv 1) (pa_cons (pe_ix ix_seq (pv 2) pe_int (fun _ _ => rfl)) pa_nil)))) (pg_name (i := 4) sc_law.nd rfl (by first | exact .inl rfl | exact .inr rfl))
  (pss_cons (ps_asg (pe_ix ix_seq (pe_m0 G_Telling_windows TO.cls (hr.mono (by decide)) (pv 3)) (pv 4) (fun _ _ => rfl)) (pg_sq rfl (pgs_cons (pg_name (i := 11) sc_law.nd rfl (by first | exact .inl rfl | exact .inr rfl)) (pgs_cons (pg_name (i := 12) sc_law.nd rfl (by first | exact .inl rfl | exact .inr rfl)) pgs_nil))))
  (pss_cons (ps_if (PW.pt (pw_and (pt_cmpR op_notN (pv 11) pe_non (nomark _)) (pw_and (pt_cmpR op_notN (pv 12) pe_non (nomark _)) (pw_and1 (pt_cmpR op_gt (pv 11) (pv 12) (nomark _))))))
  (pss_one (ps_ret pe_bl))
  pss_nil)
  (pss_cons (ps_set (i := 11) sc_law.nd rfl (by first | exact .inl rfl | exact .inr rfl) (pe_ifExp (pt_cmpR op_notN (pv 11) pe_non (nomark _)) (pv 11) (pe_op op_sub (pe_ifExp (pt_cmpR op_notN (pv 12) pe_non (nomark _)) (pv 12) pe_int) (pe_fx G_L_next (hr.mono (by decide)) (by rfl) (pa_cons (pv 1) (pa_cons pe_int pa_nil))))))
  (pss_cons (ps_set (i := 12) sc_law.nd rfl (by first | exact .inl rfl | exact .inr rfl) (pe_ifExp (pt_cmpR op_notN (pv 12) pe_non (nomark _)) (pv 12) (pe_op op_addA (pv 11) (pe_fx G_L_next (hr.mono (by decide)) (by rfl) (pa_cons (pv 1) (pa_cons pe_int pa_nil))))))
  (pss_one (ps_expr (pe_m G_Telling_tell TO.cls (hr.mono (by decide)) (pv 3) (pa_cons (pv 4) (pa_cons (pe_op op_addA (pv 11) (pe_fx G_L_next (hr.mono (by decide)) (by rfl) (pa_cons (pv 1) (pa_cons (pe_op op_addA (pe_op op_sub (pv 12) (pv 11)) pe_int) pa_nil)))) pa_nil))))))))))
  (pss_cons (ps_set (i := 5) sc_law.nd rfl (by first | exact .inl rfl | exact .inr rfl) (pe_callTy (cr_dictPT rfl) (by rfl) T.b_dict PyProof.Rows.boot_dict (pa_cons (pe_m0 G_Telling_told TO.cls (hr.mono (by decide)) (pv 3)) pa_nil)))
  (pss_cons (ps_set (i := 6) sc_law.nd rfl (by first | exact .inl rfl | exact .inr rfl) (pe_callTy call_tuple_of (by rfl) T.b_tuple bt_tuple (pa_cons (pe_lc (own := [("event", 4)]) (g := (gName 4)) rfl sc_law.nd (pi_range1 (by rfl) T.b_range (pa_cons (pe_ix ix_seq (pv 2) pe_int (fun _ _ => rfl)) pa_nil)) (blkOk_by (own := [("event", 4)]) (N := N_law) (sc := defScope (top 50)) (by decide +kernel)) (fun _ _ _ _ _ => (pg_name (i := 4) sc_law.nd rfl (by first | exact .inl rfl | exact .inr rfl))) (fun _ _ _ _ _ => pts_nil) (fun _ _ _ _ _ => (pe_dget (hr.units1) (pv 5) (pv 4) (fun _ _ => rfl)))) pa_nil)))
  (pss_one (ps_ret (pe_and (pe_cmpR (op_eqD hr.units) (pe_m0 G_Telling_heights TO.cls (hr.mono (by decide)) (pv 3)) (pv 6) (nomark _)) (pe_one (pe_fx G_L_holds (hr.mono (by decide)) (by rfl) (pa_cons (pv 2) (pa_cons (pv 6) pa_nil)))))))))))))))),
  (ss_seq (ss_set (i := 2) (se_callS 1 (sa_cons se_int (sa_cons se_int (sa_cons se_int sa_nil)))))
  (ss_seq (ss_if (st_test (se_op s2_notN (se_call (sa_cons (se_var 2) sa_nil)) se_non))
  (ss_seq (ss_set (i := 7) (se_callS 1 (sa_cons (se_op s2_ix (se_var 2) se_int) sa_nil)))
  (ss_seq (ss_set (i := 8) (se_call (sa_cons (se_op s2_ix (se_var 2) se_int) (sa_cons se_int sa_nil))))
  (ss_seq (ss_set (i := 9) (se_own (so_lc (vs := [6]) (si_seq (se_var 8)) (sg_name 6) (st_truth (se_call (sa_cons (se_var 2) (sa_cons (se_var 6) sa_nil)))) (se_var 6))))
  (ss_for (vs := [10]) (si_range1 (sa_cons se_int sa_nil)) (sg_name 10)
  (ss_seq (ss_set (i := 6) (se_callS 1 (sa_cons (se_if (st_and (st_truth (se_var 9)) (st_test (se_op s2_lt (se_var 10) se_int))) (se_var 9) (se_var 8)) sa_nil)))
  (ss_if (st_test (se_op s2_ne (se_call (sa_cons (se_var 2) (sa_cons (se_var 7) (sa_cons (se_var 6) sa_nil)))) (se_call (sa_cons (se_var 2) (sa_cons (se_var 6) sa_nil)))))
  (ss_ret se_bl)
  ss_next))))))
  ss_next)
  (ss_seq (ss_set (i := 2) (se_callS 1 (sa_cons se_int (sa_cons se_int (sa_cons se_int sa_nil)))))
  (ss_seq (ss_if (st_test (se_op s2_isN (se_call (sa_cons (se_var 2) sa_nil)) se_non))
  (ss_ret se_bl)
  ss_next)
  (ss_seq (ss_asgN 3 (sa_cons (se_var 2) sa_nil))
  (ss_seq (ss_for (vs := [4]) (si_seq (se_callS 1 (sa_cons (se_op s2_ix (se_var 2) se_int) sa_nil))) (sg_name 4)
  (ss_seq (ss_asg (vs := [11, 12]) (se_op s2_ix (se_fz 3 (se_callF 3 sa_nil)) (se_var 4)) (sg_tup (sgs_cons (sg_name 11) (sgs_cons (sg_name 12) sgs_nil))))
  (ss_seq (ss_if (st_and (st_test (se_op s2_notN (se_var 11) se_non)) (st_and (st_test (se_op s2_notN (se_var 12) se_non)) (st_test (se_op s2_gt (se_var 11) (se_var 12)))))
  (ss_ret se_bl)
  ss_next)
  (ss_seq (ss_set (i := 11) (se_if (st_test (se_op s2_notN (se_var 11) se_non)) (se_var 11) (se_op s2_sub (se_if (st_test (se_op s2_notN (se_var 12) se_non)) (se_var 12) se_int) (se_callS 1 (sa_cons se_int sa_nil)))))
  (ss_seq (ss_set (i := 12) (se_if (st_test (se_op s2_notN (se_var 12) se_non)) (se_var 12) (se_op s2_add (se_var 11) (se_callS 1 (sa_cons se_int sa_nil)))))
  (ssm_drop (sem_meth 3 (sa_cons (se_var 4) (sa_cons (se_op s2_add (se_var 11) (se_callS 1 (sa_cons (se_op s2_add (se_op s2_sub (se_var 12) (se_var 11)) se_int) sa_nil))) sa_nil)))))))))
  (ss_seq (ss_dictT 3 5)
  (ss_seq (ss_set (i := 6) (se_cb sc_tuple (sa_cons (se_own (so_lc (vs := [4]) (si_range1 (sa_cons (se_op s2_ix (se_var 2) se_int) sa_nil)) (sg_name 4) st_yes (se_getK 5 (se_var 4)))) sa_nil)))
  (ss_ret (se_and (se_op s2_eq (se_fz 3 (se_callF 3 sa_nil)) (se_var 6)) (se_call (sa_cons (se_var 2) (sa_cons (se_var 6) sa_nil)))))))))))))⟩
end
theorem all_mk {l : PySem.W.OpenLaw} {w : World} {K : PySem.W.Frag} {h : Heap} {mg : Str → Option Value} {fa : Addr} (X : K.In h) (G : h.Ns mainGlobals mg) (hfa : mg "law" = some (.ref fa))
  {od0 an0 : Option Addr} {sl0 : Array (Option Value)} {oc0 kV0 dc0 pm0 cd0 ct0 : Value} {f0 : Addr}
  {od1 an1 : Option Addr} {sl1 : Array (Option Value)} {oc1 kV1 dc1 pm1 cd1 ct1 : Value} {f1 : Addr}
  {od2 an2 : Option Addr} {sl2 : Array (Option Value)} {oc2 kV2 dc2 pm2 cd2 ct2 : Value} {f2 : Addr}
  {od3 an3 : Option Addr} {sl3 : Array (Option Value)} {oc3 kV3 dc3 pm3 cd3 ct3 : Value} {f3 : Addr}
  {od4 an4 : Option Addr} {sl4 : Array (Option Value)} {oc4 kV4 dc4 pm4 cd4 ct4 : Value} {f4 : Addr}
  {od5 an5 : Option Addr} {sl5 : Array (Option Value)} {oc5 kV5 dc5 pm5 cd5 ct5 : Value} {f5 : Addr}
  {od6 an6 : Option Addr} {sl6 : Array (Option Value)} {oc6 kV6 dc6 pm6 cd6 ct6 : Value} {f6 : Addr}
  {od7 an7 : Option Addr} {sl7 : Array (Option Value)} {oc7 kV7 dc7 pm7 cd7 ct7 : Value} {f7 : Addr}
  {od8 an8 : Option Addr} {sl8 : Array (Option Value)} {oc8 kV8 dc8 pm8 cd8 ct8 : Value} {f8 : Addr}
  {od9 an9 : Option Addr} {sl9 : Array (Option Value)} {oc9 kV9 dc9 pm9 cd9 ct9 : Value} {f9 : Addr}
  {od10 an10 : Option Addr} {sl10 : Array (Option Value)} {oc10 kV10 dc10 pm10 cd10 ct10 : Value} {f10 : Addr}
  {od11 an11 : Option Addr} {sl11 : Array (Option Value)} {oc11 kV11 dc11 pm11 cd11 ct11 : Value} {f11 : Addr}
  {od12 an12 : Option Addr} {sl12 : Array (Option Value)} {oc12 kV12 dc12 pm12 cd12 ct12 : Value} {f12 : Addr}
  {od13 an13 : Option Addr} {sl13 : Array (Option Value)} {oc13 kV13 dc13 pm13 cd13 ct13 : Value} {f13 : Addr}
  {od14 an14 : Option Addr} {sl14 : Array (Option Value)} {oc14 kV14 dc14 pm14 cd14 ct14 : Value} {f14 : Addr}
  {od15 an15 : Option Addr} {sl15 : Array (Option Value)} {oc15 kV15 dc15 pm15 cd15 ct15 : Value} {f15 : Addr}
  {od16 an16 : Option Addr} {sl16 : Array (Option Value)} {oc16 kV16 dc16 pm16 cd16 ct16 : Value} {f16 : Addr}
  {od17 an17 : Option Addr} {sl17 : Array (Option Value)} {oc17 kV17 dc17 pm17 cd17 ct17 : Value} {f17 : Addr}
  {od18 an18 : Option Addr} {sl18 : Array (Option Value)} {oc18 kV18 dc18 pm18 cd18 ct18 : Value} {f18 : Addr}
  {od19 an19 : Option Addr} {sl19 : Array (Option Value)} {oc19 kV19 dc19 pm19 cd19 ct19 : Value} {f19 : Addr}
  {od20 an20 : Option Addr} {sl20 : Array (Option Value)} {oc20 kV20 dc20 pm20 cd20 ct20 : Value} {f20 : Addr}
  {od21 an21 : Option Addr} {sl21 : Array (Option Value)} {oc21 kV21 dc21 pm21 cd21 ct21 : Value} {f21 : Addr}
  {od22 an22 : Option Addr} {sl22 : Array (Option Value)} {oc22 kV22 dc22 pm22 cd22 ct22 : Value} {f22 : Addr}
  {od23 an23 : Option Addr} {sl23 : Array (Option Value)} {oc23 kV23 dc23 pm23 cd23 ct23 : Value} {f23 : Addr}
  {od24 an24 : Option Addr} {sl24 : Array (Option Value)} {oc24 kV24 dc24 pm24 cd24 ct24 : Value} {f24 : Addr}
  {od25 an25 : Option Addr} {sl25 : Array (Option Value)} {oc25 kV25 dc25 pm25 cd25 ct25 : Value} {f25 : Addr}
  {od26 an26 : Option Addr} {sl26 : Array (Option Value)} {oc26 kV26 dc26 pm26 cd26 ct26 : Value} {f26 : Addr}
  {od27 an27 : Option Addr} {sl27 : Array (Option Value)} {oc27 kV27 dc27 pm27 cd27 ct27 : Value} {f27 : Addr}
  {od28 an28 : Option Addr} {sl28 : Array (Option Value)} {oc28 kV28 dc28 pm28 cd28 ct28 : Value} {f28 : Addr}
  {od29 an29 : Option Addr} {sl29 : Array (Option Value)} {oc29 kV29 dc29 pm29 cd29 ct29 : Value} {f29 : Addr}
  {od30 an30 : Option Addr} {sl30 : Array (Option Value)} {oc30 kV30 dc30 pm30 cd30 ct30 : Value} {f30 : Addr}
  {od31 an31 : Option Addr} {sl31 : Array (Option Value)} {oc31 kV31 dc31 pm31 cd31 ct31 : Value} {f31 : Addr}
  {od32 an32 : Option Addr} {sl32 : Array (Option Value)} {oc32 kV32 dc32 pm32 cd32 ct32 : Value} {f32 : Addr}
  {od33 an33 : Option Addr} {sl33 : Array (Option Value)} {oc33 kV33 dc33 pm33 cd33 ct33 : Value} {f33 : Addr}
  {od34 an34 : Option Addr} {sl34 : Array (Option Value)} {oc34 kV34 dc34 pm34 cd34 ct34 : Value} {f34 : Addr}
  {od35 an35 : Option Addr} {sl35 : Array (Option Value)} {oc35 kV35 dc35 pm35 cd35 ct35 : Value} {f35 : Addr}
  {od36 an36 : Option Addr} {sl36 : Array (Option Value)} {oc36 kV36 dc36 pm36 cd36 ct36 : Value} {f36 : Addr}
  {od37 an37 : Option Addr} {sl37 : Array (Option Value)} {oc37 kV37 dc37 pm37 cd37 ct37 : Value} {f37 : Addr}
  {od38 an38 : Option Addr} {sl38 : Array (Option Value)} {oc38 kV38 dc38 pm38 cd38 ct38 : Value} {f38 : Addr}
  {od39 an39 : Option Addr} {sl39 : Array (Option Value)} {oc39 kV39 dc39 pm39 cd39 ct39 : Value} {f39 : Addr}
  {C : Addr} {BB : Addr} {C0 fI0 : Addr} {xq0 xr0 : Str} {xN0 : Addr} {xb0 : List Value} {xn0 : List Str} {xs0 : List Value} {xv0 : Bool} {xw0 : Option Bool} {xx0 : Option Addr} {m00 m10 m20 m30 m50 : Option Value} {xod0 xan0 : Option Addr} {xsl0 : Array (Option Value)} {xoc0 xkV0 xdc0 xpm0 xcd0 xct0 : Value} {C1 fI1 : Addr} {xq1 xr1 : Str} {xN1 : Addr} {xb1 : List Value} {xn1 : List Str} {xs1 : List Value} {xv1 : Bool} {xw1 : Option Bool} {xx1 : Option Addr} {m01 m11 m21 m31 m51 : Option Value} {xod1 xan1 : Option Addr} {xsl1 : Array (Option Value)} {xoc1 xkV1 xdc1 xpm1 xcd1 xct1 : Value} {B_NotPossible : Addr} {tk0 : Tok} {tk1 : Tok} {tk2 : Tok} {tk3 : Tok}
  (oA : PySem.W.nsIn K mainGlobals "Telling" = some (some (.ref C)))
  (oB : PySem.W.plainGet K C Str.empty = true)
  (oC : PySem.W.hasDictIn K C = true)
  (oD : PySem.W.plainOver K C = true)
  (oE : PySem.W.findIn K (.ref C) "__setattr__" = some (some (.builtin "object.__setattr__")))
  (oF : PySem.W.makesIn K C = true)
  (oG : PySem.W.keepIn K (.ref C) = true)
  (oN0 : PySem.W.findIn K (.ref C) "_walks" = some none)
  (oN1 : PySem.W.findIn K (.ref C) "_bounds" = some none)
  (oN2 : PySem.W.findIn K (.ref C) "_net" = some none)
  (oN3 : PySem.W.findIn K (.ref C) "_pieces" = some none)
  (xa0 : PySem.W.nsIn K mainGlobals "BadValue" = some (some (.ref C0)))
  (xl0 : K.lookup C0 = some (excClassObj xq0 xr0 C0 xN0 xb0 [.ref BB, .type "ValueError", .type "Exception", .type "BaseException", .type "object"] true xn0 xs0 xv0 xw0 xx0 m00 m10 m20 m30 m50 "ValueError.__new__"))
  (xg0 : PySem.W.findIn K (.ref C0) "__setattr__" = some (some (.builtin "object.__setattr__")))
  (xh0 : PySem.W.findIn K (.ref C0) "__getattribute__" = some (some (.builtin "BaseException.__getattribute__")))
  (xi0 : PySem.W.findIn K (.ref C0) "__getattr__" = some none)
  (xj0 : PySem.W.findIn K (.ref C0) "name" = some none)
  (xk0 : PySem.W.findIn K (.ref C0) "__init__" = some (some (.ref fI0)))
  (xo0 : PySem.W.typeIn K (.ref fI0) = some (.type "function"))
  (xp0 : K.lookup fI0 = some ⟨xoc0, xod0, .func (PySem.W.fnOf "__init__" "BadValue.__init__" (defArgs (clsInit (top 3))) (defBody (clsInit (top 3))) (defScope (clsInit (top 3))) .none xkV0 xdc0 xpm0 xan0 xcd0 xct0), xsl0⟩)
  (xt0 : PySem.W.codeIn K xcd0 "BadValue.__init__" = true)
  (xu0 : PySem.W.keepIn K (.ref C0) = true)
  (xy0 : PySem.W.keepIn K (.ref fI0) = true)
  (xz0 : PySem.W.subIn K (.ref C0) (.type "BaseException") = some true)
  (ya0 : PySem.W.typeIn K (.ref C0) = some (.type "type"))
  (yb0 : PySem.W.hasDictIn K C0 = true)
  (xa1 : PySem.W.nsIn K mainGlobals "NotPossible" = some (some (.ref C1)))
  (xl1 : K.lookup C1 = some (excClassObj xq1 xr1 C1 xN1 xb1 [.ref BB, .type "ValueError", .type "Exception", .type "BaseException", .type "object"] true xn1 xs1 xv1 xw1 xx1 m01 m11 m21 m31 m51 "ValueError.__new__"))
  (xg1 : PySem.W.findIn K (.ref C1) "__setattr__" = some (some (.builtin "object.__setattr__")))
  (xh1 : PySem.W.findIn K (.ref C1) "__getattribute__" = some (some (.builtin "BaseException.__getattribute__")))
  (xi1 : PySem.W.findIn K (.ref C1) "__getattr__" = some none)
  (xj1 : PySem.W.findIn K (.ref C1) "why" = some none)
  (xk1 : PySem.W.findIn K (.ref C1) "__init__" = some (some (.ref fI1)))
  (xo1 : PySem.W.typeIn K (.ref fI1) = some (.type "function"))
  (xp1 : K.lookup fI1 = some ⟨xoc1, xod1, .func (PySem.W.fnOf "__init__" "NotPossible.__init__" (defArgs (clsInit (top 4))) (defBody (clsInit (top 4))) (defScope (clsInit (top 4))) .none xkV1 xdc1 xpm1 xan1 xcd1 xct1), xsl1⟩)
  (xt1 : PySem.W.codeIn K xcd1 "NotPossible.__init__" = true)
  (xu1 : PySem.W.keepIn K (.ref C1) = true)
  (xy1 : PySem.W.keepIn K (.ref fI1) = true)
  (xz1 : PySem.W.subIn K (.ref C1) (.type "BaseException") = some true)
  (ya1 : PySem.W.typeIn K (.ref C1) = some (.type "type"))
  (yb1 : PySem.W.hasDictIn K C1 = true)
  (ha_NotPossible : PySem.W.nsIn K mainGlobals "NotPossible" = some (some (.ref B_NotPossible)))
  (hb_NotPossible : PySem.W.subIn K (.ref B_NotPossible) (.type "BaseException") = some true)
  (hc_NotPossible : PySem.W.hasDictIn K B_NotPossible = true)
  (hd_NotPossible : PySem.W.typeIn K (.ref B_NotPossible) = some (.type "type"))
  (he_NotPossible_0 : PySem.W.subIn K (.ref C0) (.ref B_NotPossible) = some false)
  (he_NotPossible_1 : PySem.W.subIn K (.ref C1) (.ref B_NotPossible) = some true)
  (a0 : PySem.W.nsIn K mainGlobals "_law_stream" = some (some (.ref f0))) (l0 : K.lookup f0 = some ⟨oc0, od0, .func (PySem.W.fnOf "_law_stream" "_law_stream" (defArgs (top 38)) (defBody (top 38)) (defScope (top 38)) .none kV0 dc0 pm0 an0 cd0 ct0), sl0⟩) (e0 : PySem.W.codeIn K cd0 "_law_stream" = true) (k0 : PySem.W.keepIn K (.ref f0) = true)
  (a1 : PySem.W.nsIn K mainGlobals "_law_next" = some (some (.ref f1))) (l1 : K.lookup f1 = some ⟨oc1, od1, .func (PySem.W.fnOf "_law_next" "_law_next" (defArgs (top 39)) (defBody (top 39)) (defScope (top 39)) .none kV1 dc1 pm1 an1 cd1 ct1), sl1⟩) (e1 : PySem.W.codeIn K cd1 "_law_next" = true) (k1 : PySem.W.keepIn K (.ref f1) = true)
  (a2 : PySem.W.nsIn K mainGlobals "_law_pick" = some (some (.ref f2))) (l2 : K.lookup f2 = some ⟨oc2, od2, .func (PySem.W.fnOf "_law_pick" "_law_pick" (defArgs (top 40)) (defBody (top 40)) (defScope (top 40)) .none kV2 dc2 pm2 an2 cd2 ct2), sl2⟩) (e2 : PySem.W.codeIn K cd2 "_law_pick" = true) (k2 : PySem.W.keepIn K (.ref f2) = true)
  (a3 : PySem.W.nsIn K mainGlobals "_law_rule" = some (some (.ref f3))) (l3 : K.lookup f3 = some ⟨oc3, od3, .func (PySem.W.fnOf "_law_rule" "_law_rule" (defArgs (top 42)) (defBody (top 42)) (defScope (top 42)) .none kV3 dc3 pm3 an3 cd3 ct3), sl3⟩) (e3 : PySem.W.codeIn K cd3 "_law_rule" = true) (k3 : PySem.W.keepIn K (.ref f3) = true)
  (a4 : PySem.W.nsIn K mainGlobals "_law_net" = some (some (.ref f4))) (l4 : K.lookup f4 = some ⟨oc4, od4, .func (PySem.W.fnOf "_law_net" "_law_net" (defArgs (top 43)) (defBody (top 43)) (defScope (top 43)) .none kV4 dc4 pm4 an4 cd4 ct4), sl4⟩) (e4 : PySem.W.codeIn K cd4 "_law_net" = true) (k4 : PySem.W.keepIn K (.ref f4) = true)
  (a5 : PySem.W.nsIn K mainGlobals "is_whole" = some (some (.ref f5))) (l5 : K.lookup f5 = some ⟨oc5, od5, .func (PySem.W.fnOf "is_whole" "is_whole" (defArgs (top 9)) (defBody (top 9)) (defScope (top 9)) .none kV5 dc5 pm5 an5 cd5 ct5), sl5⟩) (e5 : PySem.W.codeIn K cd5 "is_whole" = true) (k5 : PySem.W.keepIn K (.ref f5) = true)
  (a6 : PySem.W.nsIn K mainGlobals "is_integer" = some (some (.ref f6))) (l6 : K.lookup f6 = some ⟨oc6, od6, .func (PySem.W.fnOf "is_integer" "is_integer" (defArgs (top 10)) (defBody (top 10)) (defScope (top 10)) .none kV6 dc6 pm6 an6 cd6 ct6), sl6⟩) (e6 : PySem.W.codeIn K cd6 "is_integer" = true) (k6 : PySem.W.keepIn K (.ref f6) = true)
  (a7 : PySem.W.nsIn K mainGlobals "is_side" = some (some (.ref f7))) (l7 : K.lookup f7 = some ⟨oc7, od7, .func (PySem.W.fnOf "is_side" "is_side" (defArgs (top 12)) (defBody (top 12)) (defScope (top 12)) .none kV7 dc7 pm7 an7 cd7 ct7), sl7⟩) (e7 : PySem.W.codeIn K cd7 "is_side" = true) (k7 : PySem.W.keepIn K (.ref f7) = true)
  (a8 : PySem.W.nsIn K mainGlobals "is_event" = some (some (.ref f8))) (l8 : K.lookup f8 = some ⟨oc8, od8, .func (PySem.W.fnOf "is_event" "is_event" (defArgs (top 11)) (defBody (top 11)) (defScope (top 11)) .none kV8 dc8 pm8 an8 cd8 ct8), sl8⟩) (e8 : PySem.W.codeIn K cd8 "is_event" = true) (k8 : PySem.W.keepIn K (.ref f8) = true)
  (a9 : PySem.W.nsIn K mainGlobals "is_rule" = some (some (.ref f9))) (l9 : K.lookup f9 = some ⟨oc9, od9, .func (PySem.W.fnOf "is_rule" "is_rule" (defArgs (top 13)) (defBody (top 13)) (defScope (top 13)) .none kV9 dc9 pm9 an9 cd9 ct9), sl9⟩) (e9 : PySem.W.codeIn K cd9 "is_rule" = true) (k9 : PySem.W.keepIn K (.ref f9) = true)
  (a10 : PySem.W.nsIn K mainGlobals "is_net" = some (some (.ref f10))) (l10 : K.lookup f10 = some ⟨oc10, od10, .func (PySem.W.fnOf "is_net" "is_net" (defArgs (top 14)) (defBody (top 14)) (defScope (top 14)) .none kV10 dc10 pm10 an10 cd10 ct10), sl10⟩) (e10 : PySem.W.codeIn K cd10 "is_net" = true) (k10 : PySem.W.keepIn K (.ref f10) = true)
  (a11 : PySem.W.nsIn K mainGlobals "check_net" = some (some (.ref f11))) (l11 : K.lookup f11 = some ⟨oc11, od11, .func (PySem.W.fnOf "check_net" "check_net" (defArgs (top 15)) (defBody (top 15)) (defScope (top 15)) .none kV11 dc11 pm11 an11 cd11 ct11), sl11⟩) (e11 : PySem.W.codeIn K cd11 "check_net" = true) (k11 : PySem.W.keepIn K (.ref f11) = true)
  (a12 : PySem.W.nsIn K mainGlobals "edge_course" = some (some (.ref f12))) (l12 : K.lookup f12 = some ⟨oc12, od12, .func (PySem.W.fnOf "edge_course" "edge_course" (defArgs (top 17)) (defBody (top 17)) (defScope (top 17)) .none kV12 dc12 pm12 an12 cd12 ct12), sl12⟩) (e12 : PySem.W.codeIn K cd12 "edge_course" = true) (k12 : PySem.W.keepIn K (.ref f12) = true)
  (a13 : PySem.W.nsIn K mainGlobals "all_edges" = some (some (.ref f13))) (l13 : K.lookup f13 = some ⟨oc13, od13, .func (PySem.W.fnOf "all_edges" "all_edges" (defArgs (top 18)) (defBody (top 18)) (defScope (top 18)) .none kV13 dc13 pm13 an13 cd13 ct13), sl13⟩) (e13 : PySem.W.codeIn K cd13 "all_edges" = true) (k13 : PySem.W.keepIn K (.ref f13) = true)
  (a14 : PySem.W.nsIn K mainGlobals "walks_without_edges" = some (some (.ref f14))) (l14 : K.lookup f14 = some ⟨oc14, od14, .func (PySem.W.fnOf "walks_without_edges" "walks_without_edges" (defArgs (top 27)) (defBody (top 27)) (defScope (top 27)) .none kV14 dc14 pm14 an14 cd14 ct14), sl14⟩) (e14 : PySem.W.codeIn K cd14 "walks_without_edges" = true) (k14 : PySem.W.keepIn K (.ref f14) = true)
  (a15 : PySem.W.nsIn K mainGlobals "longer_row" = some (some (.ref f15))) (l15 : K.lookup f15 = some ⟨oc15, od15, .func (PySem.W.fnOf "longer_row" "longer_row" (defArgs (top 28)) (defBody (top 28)) (defScope (top 28)) .none kV15 dc15 pm15 an15 cd15 ct15), sl15⟩) (e15 : PySem.W.codeIn K cd15 "longer_row" = true) (k15 : PySem.W.keepIn K (.ref f15) = true)
  (a16 : PySem.W.nsIn K mainGlobals "round_below" = some (some (.ref f16))) (l16 : K.lookup f16 = some ⟨oc16, od16, .func (PySem.W.fnOf "round_below" "round_below" (defArgs (top 29)) (defBody (top 29)) (defScope (top 29)) .none kV16 dc16 pm16 an16 cd16 ct16), sl16⟩) (e16 : PySem.W.codeIn K cd16 "round_below" = true) (k16 : PySem.W.keepIn K (.ref f16) = true)
  (a17 : PySem.W.nsIn K mainGlobals "least_walks" = some (some (.ref f17))) (l17 : K.lookup f17 = some ⟨oc17, od17, .func (PySem.W.fnOf "least_walks" "least_walks" (defArgs (top 30)) (defBody (top 30)) (defScope (top 30)) .none kV17 dc17 pm17 an17 cd17 ct17), sl17⟩) (e17 : PySem.W.codeIn K cd17 "least_walks" = true) (k17 : PySem.W.keepIn K (.ref f17) = true)
  (a18 : PySem.W.nsIn K mainGlobals "possible_walks" = some (some (.ref f18))) (l18 : K.lookup f18 = some ⟨oc18, od18, .func (PySem.W.fnOf "possible_walks" "possible_walks" (defArgs (top 31)) (defBody (top 31)) (defScope (top 31)) .none kV18 dc18 pm18 an18 cd18 ct18), sl18⟩) (e18 : PySem.W.codeIn K cd18 "possible_walks" = true) (k18 : PySem.W.keepIn K (.ref f18) = true)
  (a19 : PySem.W.nsIn K mainGlobals "lengths_of" = some (some (.ref f19))) (l19 : K.lookup f19 = some ⟨oc19, od19, .func (PySem.W.fnOf "lengths_of" "lengths_of" (defArgs (top 32)) (defBody (top 32)) (defScope (top 32)) .none kV19 dc19 pm19 an19 cd19 ct19), sl19⟩) (e19 : PySem.W.codeIn K cd19 "lengths_of" = true) (k19 : PySem.W.keepIn K (.ref f19) = true)
  (a20 : PySem.W.findIn K (.ref C) "__init__" = some (some (.ref f20))) (i20 : PySem.W.isFn K (.ref f20) = true) (l20 : K.lookup f20 = some ⟨oc20, od20, .func (PySem.W.fnOf "__init__" "Telling.__init__" (defArgs (mt 0)) (defBody (mt 0)) (defScope (mt 0)) .none kV20 dc20 pm20 an20 cd20 ct20), sl20⟩) (e20 : PySem.W.codeIn K cd20 "Telling.__init__" = true) (k20 : PySem.W.keepIn K (.ref f20) = true)
  (a21 : PySem.W.nsIn K mainGlobals "_law_order" = some (some (.ref f21))) (l21 : K.lookup f21 = some ⟨oc21, od21, .func (PySem.W.fnOf "_law_order" "_law_order" (defArgs (top 41)) (defBody (top 41)) (defScope (top 41)) .none kV21 dc21 pm21 an21 cd21 ct21), sl21⟩) (e21 : PySem.W.codeIn K cd21 "_law_order" = true) (k21 : PySem.W.keepIn K (.ref f21) = true)
  (a22 : PySem.W.nsIn K mainGlobals "_law_edges" = some (some (.ref f22))) (l22 : K.lookup f22 = some ⟨oc22, od22, .func (PySem.W.fnOf "_law_edges" "_law_edges" (defArgs (top 46)) (defBody (top 46)) (defScope (top 46)) .none kV22 dc22 pm22 an22 cd22 ct22), sl22⟩) (e22 : PySem.W.codeIn K cd22 "_law_edges" = true) (k22 : PySem.W.keepIn K (.ref f22) = true)
  (a23 : PySem.W.nsIn K mainGlobals "_law_bounds" = some (some (.ref f23))) (l23 : K.lookup f23 = some ⟨oc23, od23, .func (PySem.W.fnOf "_law_bounds" "_law_bounds" (defArgs (top 47)) (defBody (top 47)) (defScope (top 47)) .none kV23 dc23 pm23 an23 cd23 ct23), sl23⟩) (e23 : PySem.W.codeIn K cd23 "_law_bounds" = true) (k23 : PySem.W.keepIn K (.ref f23) = true)
  (a24 : PySem.W.nsIn K mainGlobals "_law_all_times" = some (some (.ref f24))) (l24 : K.lookup f24 = some ⟨oc24, od24, .func (PySem.W.fnOf "_law_all_times" "_law_all_times" (defArgs (top 48)) (defBody (top 48)) (defScope (top 48)) .none kV24 dc24 pm24 an24 cd24 ct24), sl24⟩) (e24 : PySem.W.codeIn K cd24 "_law_all_times" = true) (k24 : PySem.W.keepIn K (.ref f24) = true)
  (a25 : PySem.W.nsIn K mainGlobals "check_event" = some (some (.ref f25))) (l25 : K.lookup f25 = some ⟨oc25, od25, .func (PySem.W.fnOf "check_event" "check_event" (defArgs (top 16)) (defBody (top 16)) (defScope (top 16)) .none kV25 dc25 pm25 an25 cd25 ct25), sl25⟩) (e25 : PySem.W.codeIn K cd25 "check_event" = true) (k25 : PySem.W.keepIn K (.ref f25) = true)
  (a26 : PySem.W.nsIn K mainGlobals "marks" = some (some (.ref f26))) (l26 : K.lookup f26 = some ⟨oc26, od26, .func (PySem.W.fnOf "marks" "marks" (defArgs (top 20)) (defBody (top 20)) (defScope (top 20)) .none kV26 dc26 pm26 an26 cd26 ct26), sl26⟩) (e26 : PySem.W.codeIn K cd26 "marks" = true) (k26 : PySem.W.keepIn K (.ref f26) = true)
  (a27 : PySem.W.nsIn K mainGlobals "room_beside" = some (some (.ref f27))) (l27 : K.lookup f27 = some ⟨oc27, od27, .func (PySem.W.fnOf "room_beside" "room_beside" (defArgs (top 22)) (defBody (top 22)) (defScope (top 22)) .none kV27 dc27 pm27 an27 cd27 ct27), sl27⟩) (e27 : PySem.W.codeIn K cd27 "room_beside" = true) (k27 : PySem.W.keepIn K (.ref f27) = true)
  (a28 : PySem.W.findIn K (.ref C) "_window" = some (some (.ref f28))) (i28 : PySem.W.isFn K (.ref f28) = true) (l28 : K.lookup f28 = some ⟨oc28, od28, .func (PySem.W.fnOf "_window" "Telling._window" (defArgs (mt 1)) (defBody (mt 1)) (defScope (mt 1)) .none kV28 dc28 pm28 an28 cd28 ct28), sl28⟩) (e28 : PySem.W.codeIn K cd28 "Telling._window" = true) (k28 : PySem.W.keepIn K (.ref f28) = true)
  (a29 : PySem.W.findIn K (.ref C) "windows" = some (some (.ref f29))) (i29 : PySem.W.isFn K (.ref f29) = true) (l29 : K.lookup f29 = some ⟨oc29, od29, .func (PySem.W.fnOf "windows" "Telling.windows" (defArgs (mt 5)) (defBody (mt 5)) (defScope (mt 5)) .none kV29 dc29 pm29 an29 cd29 ct29), sl29⟩) (e29 : PySem.W.codeIn K cd29 "Telling.windows" = true) (k29 : PySem.W.keepIn K (.ref f29) = true)
  (a30 : PySem.W.nsIn K mainGlobals "is_news_time" = some (some (.ref f30))) (l30 : K.lookup f30 = some ⟨oc30, od30, .func (PySem.W.fnOf "is_news_time" "is_news_time" (defArgs (top 25)) (defBody (top 25)) (defScope (top 25)) .none kV30 dc30 pm30 an30 cd30 ct30), sl30⟩) (e30 : PySem.W.codeIn K cd30 "is_news_time" = true) (k30 : PySem.W.keepIn K (.ref f30) = true)
  (a31 : PySem.W.nsIn K mainGlobals "clamped" = some (some (.ref f31))) (l31 : K.lookup f31 = some ⟨oc31, od31, .func (PySem.W.fnOf "clamped" "clamped" (defArgs (top 21)) (defBody (top 21)) (defScope (top 21)) .none kV31 dc31 pm31 an31 cd31 ct31), sl31⟩) (e31 : PySem.W.codeIn K cd31 "clamped" = true) (k31 : PySem.W.keepIn K (.ref f31) = true)
  (a32 : PySem.W.findIn K (.ref C) "tell" = some (some (.ref f32))) (i32 : PySem.W.isFn K (.ref f32) = true) (l32 : K.lookup f32 = some ⟨oc32, od32, .func (PySem.W.fnOf "tell" "Telling.tell" (defArgs (mt 3)) (defBody (mt 3)) (defScope (mt 3)) .none kV32 dc32 pm32 an32 cd32 ct32), sl32⟩) (e32 : PySem.W.codeIn K cd32 "Telling.tell" = true) (k32 : PySem.W.keepIn K (.ref f32) = true)
  (a33 : PySem.W.findIn K (.ref C) "told" = some (some (.ref f33))) (i33 : PySem.W.isFn K (.ref f33) = true) (l33 : K.lookup f33 = some ⟨oc33, od33, .func (PySem.W.fnOf "told" "Telling.told" (defArgs (mt 6)) (defBody (mt 6)) (defScope (mt 6)) .none kV33 dc33 pm33 an33 cd33 ct33), sl33⟩) (e33 : PySem.W.codeIn K cd33 "Telling.told" = true) (k33 : PySem.W.keepIn K (.ref f33) = true)
  (a34 : PySem.W.nsIn K mainGlobals "_law_excess" = some (some (.ref f34))) (l34 : K.lookup f34 = some ⟨oc34, od34, .func (PySem.W.fnOf "_law_excess" "_law_excess" (defArgs (top 44)) (defBody (top 44)) (defScope (top 44)) .none kV34 dc34 pm34 an34 cd34 ct34), sl34⟩) (e34 : PySem.W.codeIn K cd34 "_law_excess" = true) (k34 : PySem.W.keepIn K (.ref f34) = true)
  (a35 : PySem.W.nsIn K mainGlobals "_law_holds" = some (some (.ref f35))) (l35 : K.lookup f35 = some ⟨oc35, od35, .func (PySem.W.fnOf "_law_holds" "_law_holds" (defArgs (top 45)) (defBody (top 45)) (defScope (top 45)) .none kV35 dc35 pm35 an35 cd35 ct35), sl35⟩) (e35 : PySem.W.codeIn K cd35 "_law_holds" = true) (k35 : PySem.W.keepIn K (.ref f35) = true)
  (a36 : PySem.W.nsIn K mainGlobals "told_witness" = some (some (.ref f36))) (l36 : K.lookup f36 = some ⟨oc36, od36, .func (PySem.W.fnOf "told_witness" "told_witness" (defArgs (top 34)) (defBody (top 34)) (defScope (top 34)) .none kV36 dc36 pm36 an36 cd36 ct36), sl36⟩) (e36 : PySem.W.codeIn K cd36 "told_witness" = true) (k36 : PySem.W.keepIn K (.ref f36) = true)
  (a37 : PySem.W.findIn K (.ref C) "heights" = some (some (.ref f37))) (i37 : PySem.W.isFn K (.ref f37) = true) (l37 : K.lookup f37 = some ⟨oc37, od37, .func (PySem.W.fnOf "heights" "Telling.heights" (defArgs (mt 7)) (defBody (mt 7)) (defScope (mt 7)) .none kV37 dc37 pm37 an37 cd37 ct37), sl37⟩) (e37 : PySem.W.codeIn K cd37 "Telling.heights" = true) (k37 : PySem.W.keepIn K (.ref f37) = true)
  (a38 : PySem.W.nsIn K mainGlobals "_law_can_be_told" = some (some (.ref f38))) (l38 : K.lookup f38 = some ⟨oc38, od38, .func (PySem.W.fnOf "_law_can_be_told" "_law_can_be_told" (defArgs (top 49)) (defBody (top 49)) (defScope (top 49)) .none kV38 dc38 pm38 an38 cd38 ct38), sl38⟩) (e38 : PySem.W.codeIn K cd38 "_law_can_be_told" = true) (k38 : PySem.W.keepIn K (.ref f38) = true)
  (a39 : PySem.W.nsIn K mainGlobals "law" = some (some (.ref f39))) (l39 : K.lookup f39 = some ⟨oc39, od39, .func (PySem.W.fnOf "law" "law" (defArgs (top 50)) (defBody (top 50)) (defScope (top 50)) .none kV39 dc39 pm39 an39 cd39 ct39), sl39⟩) (e39 : PySem.W.codeIn K cd39 "law" = true) (k39 : PySem.W.keepIn K (.ref f39) = true)
  (z0 : PySem.W.nsIn K mainGlobals "abs" = some none) (z1 : PySem.W.nsIn K mainGlobals "all" = some none) (z2 : PySem.W.nsIn K mainGlobals "any" = some none) (z3 : PySem.W.nsIn K mainGlobals "bool" = some none) (z4 : PySem.W.nsIn K mainGlobals "dict" = some none) (z5 : PySem.W.nsIn K mainGlobals "enumerate" = some none) (z6 : PySem.W.nsIn K mainGlobals "int" = some none) (z7 : PySem.W.nsIn K mainGlobals "isinstance" = some none) (z8 : PySem.W.nsIn K mainGlobals "len" = some none) (z9 : PySem.W.nsIn K mainGlobals "list" = some none) (z10 : PySem.W.nsIn K mainGlobals "max" = some none) (z11 : PySem.W.nsIn K mainGlobals "min" = some none) (z12 : PySem.W.nsIn K mainGlobals "range" = some none) (z13 : PySem.W.nsIn K mainGlobals "sorted" = some none) (z14 : PySem.W.nsIn K mainGlobals "str" = some none) (z15 : PySem.W.nsIn K mainGlobals "tuple" = some none) (y0 : PySem.W.nsIn K mainGlobals "GREATEST_NEWS_TIME" = some (some (.int 500 tk0))) (y1 : PySem.W.nsIn K mainGlobals "GREATEST_SIDE" = some (some (.int 100 tk1))) (y2 : PySem.W.nsIn K mainGlobals "MOST_EVENTS" = some (some (.int 6 tk2))) (y3 : PySem.W.nsIn K mainGlobals "MOST_RULES" = some (some (.int 12 tk3)))
  (pure : t_law w C { nx := fun _ => False, rt := fun d => d = .bool true } (none :: some .strm :: List.replicate (N_law.length - 2) none)) :
    ∃ fd : FuncData, (∀ (s : Shared) (v : Value), BindsTo s fd ⟨[v], []⟩ [("script", v)]) ∧ ∀ base : Heap, K.In base → base.Ns mainGlobals mg → FnOk l.prog w K mg base CX0 10 fa fd ["script"] (spLaw K) := by
  have T : Txt mg := ⟨PySem.W.mg_none_of X G z0, PySem.W.mg_none_of X G z1, PySem.W.mg_none_of X G z2, PySem.W.mg_none_of X G z3, PySem.W.mg_none_of X G z4, PySem.W.mg_none_of X G z5, PySem.W.mg_none_of X G z6, PySem.W.mg_none_of X G z7, PySem.W.mg_none_of X G z8, PySem.W.mg_none_of X G z9, PySem.W.mg_none_of X G z10, PySem.W.mg_none_of X G z11, PySem.W.mg_none_of X G z12, PySem.W.mg_none_of X G z13, PySem.W.mg_none_of X G z14, PySem.W.mg_none_of X G z15, ⟨_, PySem.W.mg_of X G y0⟩, ⟨_, PySem.W.mg_of X G y1⟩, ⟨_, PySem.W.mg_of X G y2⟩, ⟨_, PySem.W.mg_of X G y3⟩⟩
  have gl : mg "Telling" = some (.ref C) := PySem.W.mg_of X G oA
  have TO : OC K C ["_walks", "_bounds", "_net", "_pieces"] := ⟨⟨oB, oC, oD, oE⟩, fun f hf => by
    simp only [List.mem_cons, List.not_mem_nil, or_false] at hf
    rcases hf with rfl | rfl | rfl | rfl
    · exact oN0
    · exact oN1
    · exact oN2
    · exact oN3⟩
  have d0 : Df K mg "_law_stream" (top 38) := ⟨_, _, fun_mk (st := (top 38)) l0 e0 k0, PySem.W.mg_of X G a0⟩
  have d1 : Df K mg "_law_next" (top 39) := ⟨_, _, fun_mk (st := (top 39)) l1 e1 k1, PySem.W.mg_of X G a1⟩
  have d2 : Df K mg "_law_pick" (top 40) := ⟨_, _, fun_mk (st := (top 40)) l2 e2 k2, PySem.W.mg_of X G a2⟩
  have d3 : Df K mg "_law_rule" (top 42) := ⟨_, _, fun_mk (st := (top 42)) l3 e3 k3, PySem.W.mg_of X G a3⟩
  have d4 : Df K mg "_law_net" (top 43) := ⟨_, _, fun_mk (st := (top 43)) l4 e4 k4, PySem.W.mg_of X G a4⟩
  have d5 : Df K mg "is_whole" (top 9) := ⟨_, _, fun_mk (st := (top 9)) l5 e5 k5, PySem.W.mg_of X G a5⟩
  have d6 : Df K mg "is_integer" (top 10) := ⟨_, _, fun_mk (st := (top 10)) l6 e6 k6, PySem.W.mg_of X G a6⟩
  have d7 : Df K mg "is_side" (top 12) := ⟨_, _, fun_mk (st := (top 12)) l7 e7 k7, PySem.W.mg_of X G a7⟩
  have d8 : Df K mg "is_event" (top 11) := ⟨_, _, fun_mk (st := (top 11)) l8 e8 k8, PySem.W.mg_of X G a8⟩
  have d9 : Df K mg "is_rule" (top 13) := ⟨_, _, fun_mk (st := (top 13)) l9 e9 k9, PySem.W.mg_of X G a9⟩
  have d10 : Df K mg "is_net" (top 14) := ⟨_, _, fun_mk (st := (top 14)) l10 e10 k10, PySem.W.mg_of X G a10⟩
  have d11 : Df K mg "check_net" (top 15) := ⟨_, _, fun_mk (st := (top 15)) l11 e11 k11, PySem.W.mg_of X G a11⟩
  have d12 : Df K mg "edge_course" (top 17) := ⟨_, _, fun_mk (st := (top 17)) l12 e12 k12, PySem.W.mg_of X G a12⟩
  have d13 : Df K mg "all_edges" (top 18) := ⟨_, _, fun_mk (st := (top 18)) l13 e13 k13, PySem.W.mg_of X G a13⟩
  have d14 : Df K mg "walks_without_edges" (top 27) := ⟨_, _, fun_mk (st := (top 27)) l14 e14 k14, PySem.W.mg_of X G a14⟩
  have d15 : Df K mg "longer_row" (top 28) := ⟨_, _, fun_mk (st := (top 28)) l15 e15 k15, PySem.W.mg_of X G a15⟩
  have d16 : Df K mg "round_below" (top 29) := ⟨_, _, fun_mk (st := (top 29)) l16 e16 k16, PySem.W.mg_of X G a16⟩
  have d17 : Df K mg "least_walks" (top 30) := ⟨_, _, fun_mk (st := (top 30)) l17 e17 k17, PySem.W.mg_of X G a17⟩
  have d18 : Df K mg "possible_walks" (top 31) := ⟨_, _, fun_mk (st := (top 31)) l18 e18 k18, PySem.W.mg_of X G a18⟩
  have d19 : Df K mg "lengths_of" (top 32) := ⟨_, _, fun_mk (st := (top 32)) l19 e19 k19, PySem.W.mg_of X G a19⟩
  have d20 : Dn K C "Telling.__init__" (mt 0) := ⟨_, _, fun_mk (st := (mt 0)) l20 e20 k20, ⟨oF, a20, i20, oG⟩⟩
  have d21 : Df K mg "_law_order" (top 41) := ⟨_, _, fun_mk (st := (top 41)) l21 e21 k21, PySem.W.mg_of X G a21⟩
  have d22 : Df K mg "_law_edges" (top 46) := ⟨_, _, fun_mk (st := (top 46)) l22 e22 k22, PySem.W.mg_of X G a22⟩
  have d23 : Df K mg "_law_bounds" (top 47) := ⟨_, _, fun_mk (st := (top 47)) l23 e23 k23, PySem.W.mg_of X G a23⟩
  have d24 : Df K mg "_law_all_times" (top 48) := ⟨_, _, fun_mk (st := (top 48)) l24 e24 k24, PySem.W.mg_of X G a24⟩
  have d25 : Df K mg "check_event" (top 16) := ⟨_, _, fun_mk (st := (top 16)) l25 e25 k25, PySem.W.mg_of X G a25⟩
  have d26 : Df K mg "marks" (top 20) := ⟨_, _, fun_mk (st := (top 20)) l26 e26 k26, PySem.W.mg_of X G a26⟩
  have d27 : Df K mg "room_beside" (top 22) := ⟨_, _, fun_mk (st := (top 22)) l27 e27 k27, PySem.W.mg_of X G a27⟩
  have d28 : Dm K C "_window" "Telling._window" (mt 1) := ⟨_, _, fun_mk (st := (mt 1)) l28 e28 k28, ⟨a28, i28, k28⟩⟩
  have d29 : Dm K C "windows" "Telling.windows" (mt 5) := ⟨_, _, fun_mk (st := (mt 5)) l29 e29 k29, ⟨a29, i29, k29⟩⟩
  have d30 : Df K mg "is_news_time" (top 25) := ⟨_, _, fun_mk (st := (top 25)) l30 e30 k30, PySem.W.mg_of X G a30⟩
  have d31 : Df K mg "clamped" (top 21) := ⟨_, _, fun_mk (st := (top 21)) l31 e31 k31, PySem.W.mg_of X G a31⟩
  have d32 : Dm K C "tell" "Telling.tell" (mt 3) := ⟨_, _, fun_mk (st := (mt 3)) l32 e32 k32, ⟨a32, i32, k32⟩⟩
  have d33 : Dm K C "told" "Telling.told" (mt 6) := ⟨_, _, fun_mk (st := (mt 6)) l33 e33 k33, ⟨a33, i33, k33⟩⟩
  have d34 : Df K mg "_law_excess" (top 44) := ⟨_, _, fun_mk (st := (top 44)) l34 e34 k34, PySem.W.mg_of X G a34⟩
  have d35 : Df K mg "_law_holds" (top 45) := ⟨_, _, fun_mk (st := (top 45)) l35 e35 k35, PySem.W.mg_of X G a35⟩
  have d36 : Df K mg "told_witness" (top 34) := ⟨_, _, fun_mk (st := (top 34)) l36 e36 k36, PySem.W.mg_of X G a36⟩
  have d37 : Dm K C "heights" "Telling.heights" (mt 7) := ⟨_, _, fun_mk (st := (mt 7)) l37 e37 k37, ⟨a37, i37, k37⟩⟩
  have d38 : Df K mg "_law_can_be_told" (top 49) := ⟨_, _, fun_mk (st := (top 49)) l38 e38 k38, PySem.W.mg_of X G a38⟩
  have e := hfa.symm.trans (PySem.W.mg_of X G a39)
  cases e
  refine ⟨PySem.W.fnOf "law" "law" (defArgs (top 50)) (defBody (top 50)) (defScope (top 50)) .none kV39 dc39 pm39 an39 cd39 ct39, fun s v => .of_eq rfl, fun base _ _ => ?_⟩
  have X_0 : XC l.prog w K mg base 0 C0 := ⟨PySem.W.mg_of X G xa0, ⟨⟨_, _, _, _, _, _, _, _, _, _, _, _, _, _, _, xl0, by rfl⟩, xg0, xz0, ya0, xu0⟩, xj0, ⟨xh0, xi0, xz0, yb0⟩,
    ⟨fI0, _, xk0, xo0, ini_ok (fun_mk (st := (clsInit (top 3))) xp0 xt0 xy0) ⟨rfl, rfl, rfl, by decide +kernel, rfl, by decide +kernel, by decide +kernel⟩ rfl (by decide) (fun cdv A outer s H Q E => ⟨pv 0, pv 1, rfl⟩), (fun_mk (st := (clsInit (top 3))) xp0 xt0 xy0).binds (ps := ["self", "name"]) fun _ _ _ _ _ _ us hl => match us, hl with | [_, _], _ => rfl⟩⟩
  have X_1 : XC l.prog w K mg base 1 C1 := ⟨PySem.W.mg_of X G xa1, ⟨⟨_, _, _, _, _, _, _, _, _, _, _, _, _, _, _, xl1, by rfl⟩, xg1, xz1, ya1, xu1⟩, xj1, ⟨xh1, xi1, xz1, yb1⟩,
    ⟨fI1, _, xk1, xo1, ini_ok (fun_mk (st := (clsInit (top 4))) xp1 xt1 xy1) ⟨rfl, rfl, rfl, by decide +kernel, rfl, by decide +kernel, by decide +kernel⟩ rfl (by decide) (fun cdv A outer s H Q E => ⟨pv 0, pv 1, rfl⟩), (fun_mk (st := (clsInit (top 4))) xp1 xt1 xy1).binds (ps := ["self", "why"]) fun _ _ _ _ _ _ us hl => match us, hl with | [_, _], _ => rfl⟩⟩
  have N_NotPossible : mg "NotPossible" = some (.ref B_NotPossible) := PySem.W.mg_of X G ha_NotPossible
  have E_NotPossible : ExF K mg B_NotPossible [some false, some true, none] := by
    intro c b C hc hm
    match c, hc with
    | 0, hc => cases (X_0.gC.symm.trans hm); cases hc; exact PySem.W.exm_ref hb_NotPossible hc_NotPossible hd_NotPossible he_NotPossible_0
    | 1, hc => cases (X_1.gC.symm.trans hm); cases hc; exact PySem.W.exm_ref hb_NotPossible hc_NotPossible hd_NotPossible he_NotPossible_1
    | 2, hc => simp at hc
    | n + 3, hc => simp at hc
  have G_L_stream : Fx l.prog w K mg base 1 "_law_stream" ["script"] (spStream K) := fx_L_stream d0 T 
  have G_L_next : Fx l.prog w K mg base 1 "_law_next" ["stream", "many"] (spS K 1 f_next) := fx_L_next d1 T 
  have G_L_pick : Fx l.prog w K mg base 2 "_law_pick" ["stream", "rows"] (spS K 1 f_L_pick) := fx_L_pick d2 T G_L_next
  have G_L_rule : Fx l.prog w K mg base 3 "_law_rule" ["stream", "size", "far"] (spS K 2 f_L_rule) := fx_L_rule d3 T G_L_next G_L_pick
  have G_L_net : Fx l.prog w K mg base 4 "_law_net" ["stream", "most", "many", "far"] (spS K 3 f_L_net) := fx_L_net d4 T G_L_next G_L_rule
  have G_is_whole : Fx l.prog w K mg base 1 "is_whole" ["value"] (spD K 1 f_is_whole) := fx_is_whole d5 T 
  have G_is_integer : Fx l.prog w K mg base 2 "is_integer" ["value", "least", "greatest"] (spD K 3 f_is_integer) := fx_is_integer d6 T G_is_whole
  have G_is_side : Fx l.prog w K mg base 3 "is_side" ["value"] (spD K 1 f_is_side) := fx_is_side d7 T G_is_integer
  have G_is_event : Fx l.prog w K mg base 3 "is_event" ["value", "size"] (spD K 2 f_is_event) := fx_is_event d8 T G_is_integer
  have G_is_rule : Fx l.prog w K mg base 4 "is_rule" ["value", "size"] (spD K 2 f_is_rule) := fx_is_rule d9 T G_is_side G_is_event
  have G_is_net : Fx l.prog w K mg base 5 "is_net" ["value"] (spD K 1 f_is_net) := fx_is_net d10 T G_is_integer G_is_rule
  have G_check_net : Fx l.prog w K mg base 6 "check_net" ["net"] (spD K 1 f_check_net) := fx_check_net d11 T G_is_net
  have G_edge_course : Fx l.prog w K mg base 3 "edge_course" ["net", "value"] (spD K 2 f_edge_course) := fx_edge_course d12 T G_is_integer
  have G_all_edges : Fx l.prog w K mg base 4 "all_edges" ["net"] (spD K 1 f_all_edges) := fx_all_edges d13 T G_edge_course
  have G_walks_without_edges : Fx l.prog w K mg base 1 "walks_without_edges" ["size"] (spD K 1 f_walks_without_edges) := fx_walks_without_edges d14 T 
  have G_longer_row : Fx l.prog w K mg base 1 "longer_row" ["row", "courses"] (spD K 2 f_longer_row) := fx_longer_row d15 T 
  have G_round_below : Fx l.prog w K mg base 1 "round_below" ["walks"] (spD K 1 f_round_below) := fx_round_below d16 T 
  have G_least_walks : Fx l.prog w K mg base 5 "least_walks" ["net"] (spD K 1 f_least_walks) := fx_least_walks d17 T G_all_edges G_walks_without_edges G_longer_row G_round_below
  have G_possible_walks : Fx l.prog w K mg base 6 "possible_walks" ["net"] (spD K 1 f_possible_walks) := fx_possible_walks d18 T G_least_walks G_round_below
  have G_lengths_of : Fx l.prog w K mg base 1 "lengths_of" ["walks"] (spD K 1 f_lengths_of) := fx_lengths_of d19 T 
  have G_Telling___init__ : FxN l.prog w K mg base 7 "Telling" C ["self", "net"] (spN K C 1 (f_Telling___init__ C)) := fx_Telling___init__ T TO G_check_net G_possible_walks G_lengths_of d20 gl
  have G_L_order : Fx l.prog w K mg base 2 "_law_order" ["stream", "many"] (spS K 1 f_L_order) := fx_L_order d21 T G_L_next
  have G_L_edges : Fx l.prog w K mg base 1 "_law_edges" ["net"] (spD K 1 f_L_edges) := fx_L_edges d22 T 
  have G_L_bounds : Fx l.prog w K mg base 2 "_law_bounds" ["net"] (spD K 1 (f_L_bounds w)) := fx_L_bounds d23 T G_L_edges
  have G_L_all_times : Fx l.prog w K mg base 1 "_law_all_times" ["size", "far"] (spD K 2 f_L_all_times) := fx_L_all_times d24 T 
  have G_check_event : Fx l.prog w K mg base 4 "check_event" ["net", "name", "event"] (spD K 3 f_check_event) := fx_check_event d25 T G_is_event
  have GX_check_event : FxX l.prog w K mg base 4 "check_event" ["net", "name", "event"] 3 f_check_event fX_check_event := fxX_check_event G_check_event d25 T G_is_event  X_0 X_1
  have G_marks : Fx l.prog w K mg base 1 "marks" ["time", "there", "back"] (spD K 3 f_marks) := fx_marks d26 T 
  have G_room_beside : Fx l.prog w K mg base 2 "room_beside" ["bounds", "event", "row"] (spD K 3 f_room_beside) := fx_room_beside d27 T G_marks
  have G_Telling__window : FxM l.prog w K mg base 3 C "_window" ["self", "event"] (spF K C 1 (f_Telling__window C)) := fx_Telling__window T TO G_room_beside d28
  have G_Telling_windows : FxM l.prog w K mg base 4 C "windows" ["self"] (spF K C 0 (f_Telling_windows C)) := fx_Telling_windows T TO G_Telling__window d29
  have G_is_news_time : Fx l.prog w K mg base 3 "is_news_time" ["value"] (spD K 1 f_is_news_time) := fx_is_news_time d30 T G_is_integer
  have G_clamped : Fx l.prog w K mg base 1 "clamped" ["height", "low", "high"] (spD K 3 f_clamped) := fx_clamped d31 T 
  have G_Telling_tell : FxM l.prog w K mg base 5 C "tell" ["self", "event", "time"] (spM K C 2 (f_Telling_tell C)) := fx_Telling_tell T TO G_check_event G_Telling__window G_Telling_windows G_is_news_time G_clamped d32
  have GX_Telling_tell : FxMX l.prog w K mg base 5 C "tell" ["self", "event", "time"] (spMX K mg C 2 (fX_Telling_tell C)) := fxX_Telling_tell T TO G_check_event G_Telling__window G_Telling_windows G_is_news_time G_clamped d32 GX_check_event X_0 X_1
  have G_Telling_told : FxM l.prog w K mg base 1 C "told" ["self"] (spTP K C "_pieces") := fx_Telling_told T TO  d33
  have G_L_excess : Fx l.prog w K mg base 1 "_law_excess" ["rule", "times"] (spD K 2 f_L_excess) := fx_L_excess d34 T 
  have G_L_holds : Fx l.prog w K mg base 2 "_law_holds" ["net", "times"] (spD K 2 f_L_holds) := fx_L_holds d35 T G_L_excess
  have G_told_witness : Fx l.prog w K mg base 3 "told_witness" ["bounds", "row"] (spD K 2 f_told_witness) := fx_told_witness d36 T G_room_beside
  have G_Telling_heights : FxM l.prog w K mg base 4 C "heights" ["self"] (spF K C 0 (f_Telling_heights C)) := fx_Telling_heights T TO G_told_witness d37
  have G_L_can_be_told : Fx l.prog w K mg base 9 "_law_can_be_told" ["net", "order", "times"] (spD K 3 (f_L_can_be_told C)) := fx_L_can_be_told d38 T TO G_Telling___init__ G_Telling_heights G_Telling_tell GX_Telling_tell X_0 X_1 N_NotPossible E_NotPossible
  exact fx_law (fun_mk (st := (top 50)) l39 e39 k39) T TO G_L_stream G_L_net G_Telling___init__ G_L_order G_L_bounds G_L_all_times G_Telling_tell G_Telling_told G_L_holds G_L_pick G_Telling_windows G_Telling_heights G_L_can_be_told G_L_next pure
theorem walk {l : PySem.W.OpenLaw} {q : Program} {loose : List Str} {XP : (Str → Option Value) → Heap → Prop} {YP : World → Heap → Prop} {d : DefRec} {K : Params → PySem.W.Frag} (hn : l.most = some 63) (hdf : d.params.defaults = [])
    (hY : ∀ (w : World) (h : Heap), YP w h → (K w.params).In h)
    (F : ∀ (w : World) (mg : Str → Option Value) (fa : Addr) (h : Heap), (K w.params).In h → h.Ns mainGlobals mg → mg d.name = some (.ref fa) →
      ∃ fd : FuncData, (∀ (s : Shared) (u : Value), BindsTo s fd ⟨[u], []⟩ [("script", u)]) ∧ ∀ base : Heap, (K w.params).In base → base.Ns mainGlobals mg → FnOk l.prog w (K w.params) mg base CX0 10 fa fd ["script"] (spLaw (K w.params))) :
    PySem.W.WalkO q loose XP YP l.row.toRowW d [] (fun f vs => PySem.call f vs) :=
  L2.walk_of (n := 63) (k := 10) (x := "script") (CX := fun _ => CX0) (sp := fun w => spLaw (K w.params)) hn (by decide) hdf ⟨rfl, by decide, by decide⟩ hY F (fun _ _ a ns hl _ hS => ⟨a, ns, rfl, hS, hl, fun _ => rfl⟩) fun _ _ _ _ _ z => z
end Law
open PySem PySem.W PyProof.Rows in
set_option maxRecDepth 100000 in
set_option maxHeartbeats 0 in
theorem PySem.Challenge.cw_allbide_k66_whole_every_row_of_times_can_holds : PySem.Challenge.rw_allbide_k66_whole_every_row_of_times_can.Holds := by
  w_on; o_law; k_head; (case hw => w_witness2)
  k_fill
  refine Law.walk (l := PySem.Challenge.rw_allbide_k66_whole_every_row_of_times_can) rfl rfl (fun w h Y => PySem.W.kIn_of Y) ?F
  case F =>
    intro w mg fa h KX G hmg
    refine' Law.all_mk KX G hmg ?a0 ?l0 ?e0 ?k0 ?a1 ?l1 ?e1 ?k1 ?a2 ?l2 ?e2 ?k2 ?a3 ?l3 ?e3 ?k3 ?a4 ?l4 ?e4 ?k4 ?a5 ?l5 ?e5 ?k5 ?a6 ?l6 ?e6 ?k6 ?a7 ?l7 ?e7 ?k7 ?a8 ?l8 ?e8 ?k8 ?a9 ?l9 ?e9 ?k9 ?a10 ?l10 ?e10 ?k10 ?a11 ?l11 ?e11 ?k11 ?a12 ?l12 ?e12 ?k12 ?a13 ?l13 ?e13 ?k13 ?a14 ?l14 ?e14 ?k14 ?a15 ?l15 ?e15 ?k15 ?a16 ?l16 ?e16 ?k16 ?a17 ?l17 ?e17 ?k17 ?a18 ?l18 ?e18 ?k18 ?a19 ?l19 ?e19 ?k19 ?a20 ?i20 ?l20 ?e20 ?k20 ?a21 ?l21 ?e21 ?k21 ?a22 ?l22 ?e22 ?k22 ?a23 ?l23 ?e23 ?k23 ?a24 ?l24 ?e24 ?k24 ?a25 ?l25 ?e25 ?k25 ?a26 ?l26 ?e26 ?k26 ?a27 ?l27 ?e27 ?k27 ?a28 ?i28 ?l28 ?e28 ?k28 ?a29 ?i29 ?l29 ?e29 ?k29 ?a30 ?l30 ?e30 ?k30 ?a31 ?l31 ?e31 ?k31 ?a32 ?i32 ?l32 ?e32 ?k32 ?a33 ?i33 ?l33 ?e33 ?k33 ?a34 ?l34 ?e34 ?k34 ?a35 ?l35 ?e35 ?k35 ?a36 ?l36 ?e36 ?k36 ?a37 ?i37 ?l37 ?e37 ?k37 ?a38 ?l38 ?e38 ?k38 ?a39 ?l39 ?e39 ?k39 ?oA ?oB ?oC ?oD ?oE ?oF ?oG ?oN0 ?oN1 ?oN2 ?oN3 ?xa0 ?xl0 ?xg0 ?xh0 ?xi0 ?xj0 ?xk0 ?xo0 ?xp0 ?xt0 ?xu0 ?xy0 ?xz0 ?ya0 ?yb0 ?xa1 ?xl1 ?xg1 ?xh1 ?xi1 ?xj1 ?xk1 ?xo1 ?xp1 ?xt1 ?xu1 ?xy1 ?xz1 ?ya1 ?yb1 ?ha_NotPossible ?hb_NotPossible ?hc_NotPossible ?hd_NotPossible ?he_NotPossible_0 ?he_NotPossible_1 ?z0 ?z1 ?z2 ?z3 ?z4 ?z5 ?z6 ?z7 ?z8 ?z9 ?z10 ?z11 ?z12 ?z13 ?z14 ?z15 ?y0 ?y1 ?y2 ?y3 (Law.pure_law w)
    (case a0 => k_is)
    (case l0 => k_is)
    (case e0 => k_is)
    (case k0 => k_is)
    (case a1 => k_is)
    (case l1 => k_is)
    (case e1 => k_is)
    (case k1 => k_is)
    (case a2 => k_is)
    (case l2 => k_is)
    (case e2 => k_is)
    (case k2 => k_is)
    (case a3 => k_is)
    (case l3 => k_is)
    (case e3 => k_is)
    (case k3 => k_is)
    (case a4 => k_is)
    (case l4 => k_is)
    (case e4 => k_is)
    (case k4 => k_is)
    (case a5 => k_is)
    (case l5 => k_is)
    (case e5 => k_is)
    (case k5 => k_is)
    (case a6 => k_is)
    (case l6 => k_is)
    (case e6 => k_is)
    (case k6 => k_is)
    (case a7 => k_is)
    (case l7 => k_is)
    (case e7 => k_is)
    (case k7 => k_is)
    (case a8 => k_is)
    (case l8 => k_is)
    (case e8 => k_is)
    (case k8 => k_is)
    (case a9 => k_is)
    (case l9 => k_is)
    (case e9 => k_is)
    (case k9 => k_is)
    (case a10 => k_is)
    (case l10 => k_is)
    (case e10 => k_is)
    (case k10 => k_is)
    (case a11 => k_is)
    (case l11 => k_is)
    (case e11 => k_is)
    (case k11 => k_is)
    (case a12 => k_is)
    (case l12 => k_is)
    (case e12 => k_is)
    (case k12 => k_is)
    (case a13 => k_is)
    (case l13 => k_is)
    (case e13 => k_is)
    (case k13 => k_is)
    (case a14 => k_is)
    (case l14 => k_is)
    (case e14 => k_is)
    (case k14 => k_is)
    (case a15 => k_is)
    (case l15 => k_is)
    (case e15 => k_is)
    (case k15 => k_is)
    (case a16 => k_is)
    (case l16 => k_is)
    (case e16 => k_is)
    (case k16 => k_is)
    (case a17 => k_is)
    (case l17 => k_is)
    (case e17 => k_is)
    (case k17 => k_is)
    (case a18 => k_is)
    (case l18 => k_is)
    (case e18 => k_is)
    (case k18 => k_is)
    (case a19 => k_is)
    (case l19 => k_is)
    (case e19 => k_is)
    (case k19 => k_is)
    (case a20 => k_is)
    (case i20 => k_is)
    (case l20 => k_is)
    (case e20 => k_is)
    (case k20 => k_is)
    (case a21 => k_is)
    (case l21 => k_is)
    (case e21 => k_is)
    (case k21 => k_is)
    (case a22 => k_is)
    (case l22 => k_is)
    (case e22 => k_is)
    (case k22 => k_is)
    (case a23 => k_is)
    (case l23 => k_is)
    (case e23 => k_is)
    (case k23 => k_is)
    (case a24 => k_is)
    (case l24 => k_is)
    (case e24 => k_is)
    (case k24 => k_is)
    (case a25 => k_is)
    (case l25 => k_is)
    (case e25 => k_is)
    (case k25 => k_is)
    (case a26 => k_is)
    (case l26 => k_is)
    (case e26 => k_is)
    (case k26 => k_is)
    (case a27 => k_is)
    (case l27 => k_is)
    (case e27 => k_is)
    (case k27 => k_is)
    (case a28 => k_is)
    (case i28 => k_is)
    (case l28 => k_is)
    (case e28 => k_is)
    (case k28 => k_is)
    (case a29 => k_is)
    (case i29 => k_is)
    (case l29 => k_is)
    (case e29 => k_is)
    (case k29 => k_is)
    (case a30 => k_is)
    (case l30 => k_is)
    (case e30 => k_is)
    (case k30 => k_is)
    (case a31 => k_is)
    (case l31 => k_is)
    (case e31 => k_is)
    (case k31 => k_is)
    (case a32 => k_is)
    (case i32 => k_is)
    (case l32 => k_is)
    (case e32 => k_is)
    (case k32 => k_is)
    (case a33 => k_is)
    (case i33 => k_is)
    (case l33 => k_is)
    (case e33 => k_is)
    (case k33 => k_is)
    (case a34 => k_is)
    (case l34 => k_is)
    (case e34 => k_is)
    (case k34 => k_is)
    (case a35 => k_is)
    (case l35 => k_is)
    (case e35 => k_is)
    (case k35 => k_is)
    (case a36 => k_is)
    (case l36 => k_is)
    (case e36 => k_is)
    (case k36 => k_is)
    (case a37 => k_is)
    (case i37 => k_is)
    (case l37 => k_is)
    (case e37 => k_is)
    (case k37 => k_is)
    (case a38 => k_is)
    (case l38 => k_is)
    (case e38 => k_is)
    (case k38 => k_is)
    (case a39 => k_is)
    (case l39 => k_is)
    (case e39 => k_is)
    (case k39 => k_is)
    (case oA => k_is)
    (case oB => k_is)
    (case oC => k_is)
    (case oD => k_is)
    (case oE => k_is)
    (case oF => k_is)
    (case oG => k_is)
    (case oN0 => k_is)
    (case oN1 => k_is)
    (case oN2 => k_is)
    (case oN3 => k_is)
    (case xa0 => k_is)
    (case xl0 => k_is)
    (case xg0 => k_is)
    (case xh0 => k_is)
    (case xi0 => k_is)
    (case xj0 => k_is)
    (case xk0 => k_is)
    (case xo0 => k_is)
    (case xp0 => k_is)
    (case xt0 => k_is)
    (case xu0 => k_is)
    (case xy0 => k_is)
    (case xz0 => k_is)
    (case ya0 => k_is)
    (case yb0 => k_is)
    (case xa1 => k_is)
    (case xl1 => k_is)
    (case xg1 => k_is)
    (case xh1 => k_is)
    (case xi1 => k_is)
    (case xj1 => k_is)
    (case xk1 => k_is)
    (case xo1 => k_is)
    (case xp1 => k_is)
    (case xt1 => k_is)
    (case xu1 => k_is)
    (case xy1 => k_is)
    (case xz1 => k_is)
    (case ya1 => k_is)
    (case yb1 => k_is)
    (case ha_NotPossible => k_is)
    (case hb_NotPossible => k_is)
    (case hc_NotPossible => k_is)
    (case hd_NotPossible => k_is)
    (case he_NotPossible_0 => k_is)
    (case he_NotPossible_1 => k_is)
    (case z0 => k_is)
    (case z1 => k_is)
    (case z2 => k_is)
    (case z3 => k_is)
    (case z4 => k_is)
    (case z5 => k_is)
    (case z6 => k_is)
    (case z7 => k_is)
    (case z8 => k_is)
    (case z9 => k_is)
    (case z10 => k_is)
    (case z11 => k_is)
    (case z12 => k_is)
    (case z13 => k_is)
    (case z14 => k_is)
    (case z15 => k_is)
    (case y0 => k_is)
    (case y1 => k_is)
    (case y2 => k_is)
    (case y3 => k_is)
